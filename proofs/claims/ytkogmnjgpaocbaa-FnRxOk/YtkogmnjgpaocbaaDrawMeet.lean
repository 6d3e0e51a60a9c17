/- What two want, drawn. -/
import Derived.Test.YtkogmnjgpaocbaaDrawCfg
import Derived.Test.YtkogmnjgpaocbaaOpenRow
import Derived.Test.YtkogmnjgpaocbaaNegLaw
namespace Go.Proofs.Ytkogmnjgpaocbaa
open Go.RowKit
theorem Rdr.kept {w w' : World} {B g p : Nat} {zs : List Nat} (h : Rdr w B g p zs) (hb : Below w.heap.size w w') : Rdr w' B g p zs := h.other (below_grown hb) (fun q e => by cases e)
theorem Rdr.at {w w' : World} {B g p b : Nat} {zs : List Nat} (h : Rdr w B g p zs) (k : w.grownBy w' (some b)) (hB : B ≤ b) (hn : b ≠ g) : Rdr w' B g p zs := h.other k (fun q e => by cases e; exact ⟨hB, hn⟩)
end Go.Proofs.Ytkogmnjgpaocbaa
