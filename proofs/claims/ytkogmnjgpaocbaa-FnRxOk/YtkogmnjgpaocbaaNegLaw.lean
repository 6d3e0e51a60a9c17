/- One that agrees with another one: NegNew and NegSay of the program and of the specification. -/
import Derived.Test.YtkogmnjgpaocbaaNeg
import Derived.Test.YtkogmnjgpaocbaaBoxLaw
namespace Go.Proofs.Ytkogmnjgpaocbaa
open Go.RowKit
theorem zero_cfg (w : World) : (zeroValue 53).run Try.prog w = .ok (.agg #[.int .i64 0, .int .i64 0, .int .i64 0, .int .i64 0, .int .i64 0]) w := by kernel_rfl

end Go.Proofs.Ytkogmnjgpaocbaa
