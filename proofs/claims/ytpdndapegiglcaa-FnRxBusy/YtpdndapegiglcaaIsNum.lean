/- The program's own test whether something is a number. -/
import Derived.Test.YtpdndapegiglcaaIn
import Derived.Deep.Light
namespace Go.Proofs.Ytpdndapegiglcaa
open Go.RowKit
end Go.Proofs.Ytpdndapegiglcaa
