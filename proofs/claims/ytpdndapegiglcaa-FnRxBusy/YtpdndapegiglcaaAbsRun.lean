/- Between what values read as and the memory itself: rows of bytes; contracts over memory as contracts over data; a law at a code. -/
import Derived.Test.YtpdndapegiglcaaAbsRx
import Derived.Test.YtpdndapegiglcaaRxLaw
import Derived.Test.YtpdndapegiglcaaLiOk
namespace Go.Proofs.Ytpdndapegiglcaa
open Go Go.RowKit
theorem rd_den {w : World} {F : Nat → Prop} {v : Value} {zs : List Nat} (h : Rd w v zs) (hF : ∀ b, b < w.heap.size → F b) : FDen w F (bytesD zs) v := by
  obtain ⟨_, _, ⟨rfl, a, c, rfl, hac⟩ | ⟨b, off, cap, rfl, hl, hm, hb, hc⟩⟩ := h
  · exact .emp a c hac
  · have key : ∀ i j e d, (zs.map fun z : Nat => [D.v (.int .u8 (z : Int))])[i]? = some e → e[j]? = some d → i < zs.length ∧ j = 0 ∧ d = .v (.int .u8 ((zs.getD i 0 : Nat) : Int)) := fun i j e d he hd => by
      simp only [List.getElem?_map, Option.map_eq_some_iff] at he
      obtain ⟨z, hz, rfl⟩ := he
      have hi := (List.getElem?_eq_some_iff.1 hz).1
      cases j with
      | succ j => simp at hd
      | zero =>
        simp only [List.getElem?_cons_zero, Option.some.injEq] at hd
        exact ⟨hi, rfl, by rw [← hd, List.getD_eq_getElem?_getD, hz]; rfl⟩
    refine .row 1 b off cap zs.length _ (fun i _ => .int .u8 ((zs.getD i 0 : Nat) : Int)) (hF b hb) (by simp) hl hm (one_bytes zs) (fun i j e d he hd => ?_) (fun i j e d he hd => rfl) (fun i j e d he hd => ?_)
    · obtain ⟨hi, rfl, _⟩ := key i j e d he hd
      have := hc i hi
      rw [← this]
      simp
    · obtain ⟨_, _, rfl⟩ := key i j e d he hd
      exact .v _
theorem den_rd {w : World} {F : Nat → Prop} {v : Value} {zs : List Nat} (h : FDen w F (bytesD zs) v) (hF : ∀ b, F b → b < w.heap.size) (hz : Byt zs) (hl : zs.length ≤ 2000000) : Rd w v zs := by
  refine ⟨hz, hl, ?_⟩
  unfold bytesD at h
  generalize hes : (zs.map fun z : Nat => [D.v (.int .u8 (z : Int))]) = es at h
  cases h with
  | emp a c h0 =>
    have : zs = [] := by cases zs with | nil => rfl | cons z zs => simp at hes
    exact .inl ⟨this, a, c, rfl, h0⟩
  | row sz b o cap n _ vs hb hn hcap hmax hsz hc h1 hd =>
    subst hes
    have hn' : zs.length = n := by simpa using hn
    subst hn'
    refine .inr ⟨b, o, cap, rfl, hcap, hmax, hF b hb, fun j hj => ?_⟩
    have e := bytes_get zs j hj
    have hs : sz = 1 := (hsz _ (List.mem_of_getElem? e)).symm
    subst hs
    have h2 := hc j 0 _ _ e rfl
    have h3 := hd j 0 _ _ e rfl
    generalize vs j 0 = u at h2 h3
    cases h3
    simpa using h2

theorem DataOk.lift {P : Program} {f : FuncId} {ls : List A} {v : Value} (h : ∀ (w : World) (F : Nat → Prop) (E : Nat → Option Nat) (H : Nat → Nat → Option Value) (args : Array Value), (∀ b, F b → b < w.heap.size) → args.size = ls.length → (∀ (i : Nat) (a : A), ls[i]? = some a → Den w F E H a (args.getD i undef)) →
    Calls P f args w fun e w' => e = .returned v ∧ Below w.heap.size w w') : DataOk P f ls (.d (.v v)) := by
  intro w F E H args hpo hs hd
  refine (h w F E H args hpo.Flt hs hd).mono ?_
  rintro e w' ⟨rfl, hb⟩
  exact ⟨v, .d (.v v), [], F, E, H, rfl, ⟨rfl, rfl⟩, ⟨hb.os, hb.tape, hb.output, hb.size, fun b hlt _ => hb.block b hlt, fun b h => h, fun b h => Nat.lt_of_lt_of_le (hpo.Flt b h) hb.size, fun b h => .inl h, fun _ _ h => h, fun _ _ _ h => h,
    (fun i x hx => by cases hx), (fun i x b hx => by cases hx), (fun i j x y b _ hx => by cases hx), (fun i x b hx => by cases hx)⟩, .d _ _ (.v v)⟩

theorem DataOk.run {P : Program} {f : FuncId} {s v : Value} {w : World} {zs : List Nat} (h : DataOk P f [.d (bytesD zs)] (.d (.v v))) (hR : Rd w s zs) : Calls P f #[s] w fun e w' => e = .returned v ∧ Below w.heap.size w w' := by
  have hpo : PreOk w (· < w.heap.size) (fun _ => none) (fun _ _ => none) [] :=
    ⟨fun b hb => hb, (fun i x hx => by cases hx), (fun i x b hx => by cases hx), (fun i j x y b _ hx => by cases hx), fun i _ => ⟨rfl, fun _ => rfl⟩⟩
  refine (h w (· < w.heap.size) (fun _ => none) (fun _ _ => none) #[s] hpo rfl (fun i a ha => ?_)).mono ?_
  · cases i with
    | succ i => simp at ha
    | zero =>
      simp only [List.getElem?_cons_zero, Option.some.injEq] at ha
      subst ha
      exact .d _ _ (rd_den hR fun b hb => hb)
  · rintro e w' ⟨v', r, bs', F', E', H', rfl, ⟨rfl, rfl⟩, po, hden⟩
    rw [den_v hden]
    exact ⟨rfl, po.os, po.tape, po.output, po.size, fun b hb => po.old b hb (fun i x hx => by cases hx)⟩
theorem byt_fin {zs : List Nat} (h : Byt zs) : ∃ bs : List (Fin 256), bs.map (·.val) = zs := ⟨zs.attach.map fun z => ⟨z.1, h z.1 z.2⟩, by simp⟩
theorem fin_byt (bs : List (Fin 256)) : Byt (bs.map (·.val)) := fun z hz => by
  obtain ⟨x, _, rfl⟩ := List.mem_map.1 hz
  exact x.isLt
/-- One argument alone. -/
theorem arg1 {w : World} {F : Nat → Prop} {E : Nat → Option Nat} {H : Nat → Nat → Option Value} {a : A} {args : Array Value} (hs : args.size = [a].length) (hd : ∀ (i : Nat) (x : A), [a][i]? = some x → Den w F E H x (args.getD i undef)) : ∃ v, args = #[v] ∧ Den w F E H a v := by
  have hs' : args.toList.length = 1 := by simpa using hs
  match hl : args.toList, hs' with
  | [v], _ =>
    obtain rfl : args = #[v] := by rw [← Array.toArray_toList (xs := args), hl]
    exact ⟨v, rfl, hd 0 a rfl⟩

theorem rx_args {w : World} {F : Nat → Prop} {E : Nat → Option Nat} {H : Nat → Nat → Option Value} {e c m : Int} {bs : List (Fin 256)} {a u d : Bool} {v : Value} (h : Den w F E H (rxA e c m bs a u d) v) :
    ∃ (g : Option Addr) (cap : Nat), v = .agg #[.int .i64 e, .int .i64 c, .int .i64 m, .slice g bs.length cap, .bool a, .bool u, .bool d] := by
  obtain ⟨cs, rfl, hs, _, h⟩ := den_agg h
  have hs' : cs.toList.length = 7 := by simpa using hs
  match hl : cs.toList, hs' with
  | [x0, x1, x2, x3, x4, x5, x6], _ =>
    obtain rfl : cs = #[x0, x1, x2, x3, x4, x5, x6] := by rw [← Array.toArray_toList (xs := cs), hl]
    obtain rfl := den_v (h 0 _ rfl)
    obtain rfl := den_v (h 1 _ rfl)
    obtain rfl := den_v (h 2 _ rfl)
    obtain rfl := den_v (h 4 _ rfl)
    obtain rfl := den_v (h 5 _ rfl)
    obtain rfl := den_v (h 6 _ rfl)
    have h3 := den_d (h 3 _ rfl)
    obtain ⟨g, n, cap, rfl, hn⟩ := den_row h3
    simp only [List.length_map] at hn
    subst hn
    exact ⟨g, cap, rfl⟩
theorem irx_ok (e c m : Int) (bs : List (Fin 256)) (a u d : Bool) : DataOk Try.prog 11 [rxA e c m bs a u d] (.d (.v (.bool (rxB e c m bs.length)))) := by
  refine DataOk.lift fun w F E H args _ hs hd => ?_
  obtain ⟨v, rfl, hv⟩ := arg1 hs hd
  obtain ⟨g, cap, rfl⟩ := rx_args hv
  exact impl_rx _ _ _ _ _ _ _ _ _ _
theorem srx_ok (e c m : Int) (bs : List (Fin 256)) (a u d : Bool) : DataOk Try.prog 9 [rxA e c m bs a u d] (.d (.v (.bool (rxB e c m bs.length)))) := by
  refine DataOk.lift fun w F E H args _ hs hd => ?_
  obtain ⟨v, rfl, hv⟩ := arg1 hs hd
  obtain ⟨g, cap, rfl⟩ := rx_args hv
  exact spec_rx _ _ _ _ _ _ _ _ _ _
def frmA (k s c : Int) (p f : Bool) (y g l : Int) (bs : List (Fin 256)) : A := .agg [.d (.v (.int .i64 k)), .d (.v (.int .i64 s)), .d (.v (.int .i64 c)), .d (.v (.bool p)), .d (.v (.bool f)), .d (.v (.int .i64 y)), .d (.v (.int .i64 g)), .d (.v (.int .i64 l)), .d (fbytes bs)]
theorem liok_ok : DataOk Try.prog 10 [] (.d (.v (.bool true))) := by
  refine DataOk.lift fun w F E H args _ hs _ => ?_
  obtain rfl : args = #[] := by simpa using hs
  exact li_ok w
end Go.Proofs.Ytpdndapegiglcaa
