/- What two agree on: of the program and of the specification. -/
import Derived.Test.YtkogmnjgpaocbaaCfg
import Derived.Test.YtkogmnjgpaocbaaOpenRead
namespace Go.Proofs.Ytkogmnjgpaocbaa
open Go.RowKit

end Go.Proofs.Ytkogmnjgpaocbaa
