/- CrcPut of the specification and of the program: bytes with the lower and the higher byte of their sum behind them, in new memory. -/
import Derived.Test.YteennkfgnbhhhabAppend
import Derived.Test.YteennkfgnbhhhabCrcOf
namespace Go.Proofs.Yteennkfgnbhhhab
open Go.RowKit

/-- Bytes with their sum. -/
def putL (zs : List Nat) : List Nat := zs ++ [CrcM.crc zs % 256, CrcM.crc zs / 256]
theorem putL_length (zs : List Nat) : (putL zs).length = zs.length + 2 := by simp [putL]
theorem putL_byt {zs : List Nat} (h : Byt zs) : Byt (putL zs) := by
  intro z hz
  have := CrcM.crc_lt zs h
  simp only [putL, List.mem_append, List.mem_cons, List.not_mem_nil, or_false] at hz
  rcases hz with hz | hz | hz
  · exact h z hz
  · omega
  · omega

set_option maxHeartbeats 1000000 in
theorem impl_put (v : Value) (zs : List Nat) (w : World) (hv : Rd w v zs) (hl : zs.length ≤ 1900000) :
    Calls Try.prog 11 #[v] w fun e w' => ∃ v', e = .returned v' ∧ Own w' w.heap.size v' (putL zs) ∧ Below w.heap.size w w' := by
  have hc := CrcM.crc_lt zs hv.1
  have hw1 : IntKind.u8.wrap (CrcM.crc zs : Int) = (CrcM.crc zs : Int) % 256 := by rw [IntKind.wrap_u8']
  have hw2 : IntKind.u8.wrap ((CrcM.crc zs : Int) / 256) = (CrcM.crc zs : Int) / 256 := by rw [IntKind.wrap_u8']; omega
  obtain ⟨a, cap, rfl⟩ : ∃ a cap, v = .slice a zs.length cap := by
    rcases hv.2.2 with ⟨rfl, a, c, rfl, _⟩ | ⟨b, off, cap, rfl, _⟩
    · exact ⟨_, _, rfl⟩
    · exact ⟨_, _, rfl⟩
  go_enter Try.func11, Try.ntmps11
  go_wp2_with fail
  refine (impl_of _ zs _ hv).mono ?_
  rintro e w0 ⟨rfl, b0⟩
  have hv0 := hv.kept b0
  have hmk : ∀ w : World, (Instr.makeSlice 22 (.int .i64 0) (.int .i64 ((zs.length : Int) + 2))).run Try.prog w = .ok (.slice (some ⟨w.heap.size, 0, none⟩) 0 (zs.length + 2)) (w.alloc (.cells (madeCells #[.int .u8 0] (zs.length + 2)) 5)) := run_cap (zs.length + 2) (by omega)
  have hv1 := hv0.alloc (.cells (madeCells #[.int .u8 0] (zs.length + 2)) 5)
  have o0 := own_cap w0 w.heap.size (zs.length + 2) b0.size (by omega)
  have hsz0 := b0.size
  have b1 := b0.alloc b0.size (.cells (madeCells #[.int .u8 0] (zs.length + 2)) 5)
  go_wp2_with (at_builtin; refine wpList_app _ rfl (.tmp 11) (.tmp 12) rfl w.heap.size _ [] rfl o0 _ zs rfl hv1 (by simp; omega) (by simp; omega) ?_)
  intro v1 w1 o1 g1
  have bl1 : Below w.heap.size w w1 := b1.grown g1 (by simp; omega) (by simp [Value.ownBlock]; omega)
  clear g1 hv1 o0 hmk b0 b1 hsz0
  have r2 : Rd (w1.alloc (.cells #[.int .u8 ((CrcM.crc zs : Int) % 256), .int .u8 ((CrcM.crc zs : Int) / 256)] 5)) (.slice (some ⟨w1.heap.size, 0, none⟩) 2 2) [CrcM.crc zs % 256, CrcM.crc zs / 256] := rd_two w1 (CrcM.crc zs % 256) (CrcM.crc zs / 256) (by omega) (by omega)
  have o2 := o1.alloc (.cells #[.int .u8 ((CrcM.crc zs : Int) % 256), .int .u8 ((CrcM.crc zs : Int) / 256)] 5)
  have bl2 := bl1.alloc bl1.size (.cells #[.int .u8 ((CrcM.crc zs : Int) % 256), .int .u8 ((CrcM.crc zs : Int) / 256)] 5)
  have hsz := bl1.size
  have hrow := fun k h => (World.ownsRow.lt o1 k h).1
  go_wp2_with (at_builtin; refine wpList_app _ rfl (.tmp 14) (.tmp 20) rfl w.heap.size _ zs rfl o2 _ _ rfl r2 (by simp; omega) (by simp; omega) ?_)
  intro v2 w2 o3 g2
  have bl3 := bl2.grown g2 (by simp; omega) hrow
  clear bl1 bl2 o1 o2 r2 g2 hrow
  go_wp2
  go_ret
  exact ⟨_, rfl, o3, bl3⟩
end Go.Proofs.Yteennkfgnbhhhab
