/- The program's types: sizes, fields, zeros. -/
import Derived.Test.YteaamhjacjgacaaAbsApp
import Derived.Test.YteaamhjacjgacaaRows
namespace Go.Proofs.Yteaamhjacjgacaa
open Go
theorem hmix : Try.prog.follows .mixedOrders = true := by kernel_rfl
theorem ty3 : tyOf Try.prog 3 = some (1, false) := by kernel_rfl
theorem ze3 : zeroOf Try.prog 3 = some [.int .i64 0] := by kernel_rfl
theorem ap3 : appOf Try.prog 3 1 = true := by kernel_rfl
theorem ui3 : Try.prog.underlying 3 = some (.int .i64) := by kernel_rfl
theorem ty4 : tyOf Try.prog 4 = some (1, false) := by kernel_rfl
theorem ze4 : zeroOf Try.prog 4 = some [.bool false] := by kernel_rfl
theorem ap4 : appOf Try.prog 4 1 = true := by kernel_rfl
theorem ty5 : tyOf Try.prog 5 = some (1, false) := by kernel_rfl
theorem ze5 : zeroOf Try.prog 5 = some [.int .u8 0] := by kernel_rfl
theorem ap5 : appOf Try.prog 5 1 = true := by kernel_rfl
theorem ui5 : Try.prog.underlying 5 = some (.int .u8) := by kernel_rfl
theorem ty22 : tyOf Try.prog 22 = some (1, false) := by kernel_rfl
theorem ze22 : zeroOf Try.prog 22 = some [.slice none 0 0] := by kernel_rfl
theorem ap22 : appOf Try.prog 22 1 = true := by kernel_rfl
theorem un22 : Try.prog.underlying 22 = some (.slice 5) := by kernel_rfl
theorem ty24 : tyOf Try.prog 24 = some (2, true) := by kernel_rfl
theorem fd24_0 : fieldOf Try.prog 24 0 = some (0, 1, false) := by kernel_rfl
theorem fd24_1 : fieldOf Try.prog 24 1 = some (1, 1, false) := by kernel_rfl
theorem ze24 : zeroOf Try.prog 24 = some [.int .i64 0, .slice none 0 0] := by kernel_rfl
theorem bl24 : builtOf Try.prog 24 = some ([.int .i64 0, .slice none 0 0], [(0, 1), (1, 1)]) := by kernel_rfl
theorem ap24 : appOf Try.prog 24 2 = true := by kernel_rfl
theorem ty26 : tyOf Try.prog 26 = some (7, true) := by kernel_rfl
theorem fd26_0 : fieldOf Try.prog 26 0 = some (0, 1, false) := by kernel_rfl
theorem fd26_1 : fieldOf Try.prog 26 1 = some (1, 1, false) := by kernel_rfl
theorem fd26_2 : fieldOf Try.prog 26 2 = some (2, 2, true) := by kernel_rfl
theorem fd26_3 : fieldOf Try.prog 26 3 = some (4, 1, false) := by kernel_rfl
theorem fd26_4 : fieldOf Try.prog 26 4 = some (5, 1, false) := by kernel_rfl
theorem fd26_5 : fieldOf Try.prog 26 5 = some (6, 1, false) := by kernel_rfl
theorem ze26 : zeroOf Try.prog 26 = some [.int .i64 0, .int .i64 0, .int .i64 0, .slice none 0 0, .bool false, .bool false, .bool false] := by kernel_rfl
theorem bl26 : builtOf Try.prog 26 = some ([.int .i64 0, .int .i64 0, .int .i64 0, .slice none 0 0, .bool false, .bool false, .bool false], [(0, 1), (1, 1), (2, 2), (4, 1), (5, 1), (6, 1)]) := by kernel_rfl
theorem ap26 : appOf Try.prog 26 7 = true := by kernel_rfl
theorem ty29 : tyOf Try.prog 29 = some (9, true) := by kernel_rfl
theorem fd29_0 : fieldOf Try.prog 29 0 = some (0, 1, false) := by kernel_rfl
theorem fd29_1 : fieldOf Try.prog 29 1 = some (1, 1, false) := by kernel_rfl
theorem fd29_2 : fieldOf Try.prog 29 2 = some (2, 1, false) := by kernel_rfl
theorem fd29_3 : fieldOf Try.prog 29 3 = some (3, 1, false) := by kernel_rfl
theorem fd29_4 : fieldOf Try.prog 29 4 = some (4, 1, false) := by kernel_rfl
theorem fd29_5 : fieldOf Try.prog 29 5 = some (5, 1, false) := by kernel_rfl
theorem fd29_6 : fieldOf Try.prog 29 6 = some (6, 1, false) := by kernel_rfl
theorem fd29_7 : fieldOf Try.prog 29 7 = some (7, 1, false) := by kernel_rfl
theorem fd29_8 : fieldOf Try.prog 29 8 = some (8, 1, false) := by kernel_rfl
theorem ze29 : zeroOf Try.prog 29 = some [.int .i64 0, .int .i64 0, .int .i64 0, .bool false, .bool false, .int .i64 0, .int .i64 0, .int .i64 0, .slice none 0 0] := by kernel_rfl
theorem bl29 : builtOf Try.prog 29 = some ([.int .i64 0, .int .i64 0, .int .i64 0, .bool false, .bool false, .int .i64 0, .int .i64 0, .int .i64 0, .slice none 0 0], [(0, 1), (1, 1), (2, 1), (3, 1), (4, 1), (5, 1), (6, 1), (7, 1), (8, 1)]) := by kernel_rfl
theorem ap29 : appOf Try.prog 29 9 = true := by kernel_rfl
theorem ty46 : tyOf Try.prog 46 = some (5, true) := by kernel_rfl
theorem fd46_0 : fieldOf Try.prog 46 0 = some (0, 1, false) := by kernel_rfl
theorem fd46_1 : fieldOf Try.prog 46 1 = some (1, 1, false) := by kernel_rfl
theorem fd46_2 : fieldOf Try.prog 46 2 = some (2, 1, false) := by kernel_rfl
theorem fd46_3 : fieldOf Try.prog 46 3 = some (3, 1, false) := by kernel_rfl
theorem fd46_4 : fieldOf Try.prog 46 4 = some (4, 1, false) := by kernel_rfl
theorem ze46 : zeroOf Try.prog 46 = some [.int .i64 0, .int .i64 0, .int .i64 0, .int .i64 0, .int .i64 0] := by kernel_rfl
theorem bl46 : builtOf Try.prog 46 = some ([.int .i64 0, .int .i64 0, .int .i64 0, .int .i64 0, .int .i64 0], [(0, 1), (1, 1), (2, 1), (3, 1), (4, 1)]) := by kernel_rfl
theorem ap46 : appOf Try.prog 46 5 = true := by kernel_rfl
theorem ty54 : tyOf Try.prog 54 = some (1, false) := by kernel_rfl
theorem ze54 : zeroOf Try.prog 54 = some [.slice none 0 0] := by kernel_rfl
theorem ap54 : appOf Try.prog 54 1 = true := by kernel_rfl
theorem un54 : Try.prog.underlying 54 = some (.slice 3) := by kernel_rfl
theorem ty56 : tyOf Try.prog 56 = some (2, true) := by kernel_rfl
theorem fd56_0 : fieldOf Try.prog 56 0 = some (0, 1, false) := by kernel_rfl
theorem fd56_1 : fieldOf Try.prog 56 1 = some (1, 1, false) := by kernel_rfl
theorem ze56 : zeroOf Try.prog 56 = some [.slice none 0 0, .int .i64 0] := by kernel_rfl
theorem bl56 : builtOf Try.prog 56 = some ([.slice none 0 0, .int .i64 0], [(0, 1), (1, 1)]) := by kernel_rfl
theorem ap56 : appOf Try.prog 56 2 = true := by kernel_rfl
theorem ty60 : tyOf Try.prog 60 = some (3, true) := by kernel_rfl
theorem fd60_0 : fieldOf Try.prog 60 0 = some (0, 1, false) := by kernel_rfl
theorem fd60_1 : fieldOf Try.prog 60 1 = some (1, 1, false) := by kernel_rfl
theorem fd60_2 : fieldOf Try.prog 60 2 = some (2, 1, false) := by kernel_rfl
theorem ze60 : zeroOf Try.prog 60 = some [.int .i64 0, .int .i64 0, .slice none 0 0] := by kernel_rfl
theorem bl60 : builtOf Try.prog 60 = some ([.int .i64 0, .int .i64 0, .slice none 0 0], [(0, 1), (1, 1), (2, 1)]) := by kernel_rfl
theorem ap60 : appOf Try.prog 60 3 = true := by kernel_rfl
theorem ty62 : tyOf Try.prog 62 = some (6, true) := by kernel_rfl
theorem fd62_0 : fieldOf Try.prog 62 0 = some (0, 1, false) := by kernel_rfl
theorem fd62_1 : fieldOf Try.prog 62 1 = some (1, 1, false) := by kernel_rfl
theorem fd62_2 : fieldOf Try.prog 62 2 = some (2, 1, false) := by kernel_rfl
theorem fd62_3 : fieldOf Try.prog 62 3 = some (3, 3, true) := by kernel_rfl
theorem ze62 : zeroOf Try.prog 62 = some [.int .i64 0, .int .i64 0, .bool false, .int .i64 0, .int .i64 0, .slice none 0 0] := by kernel_rfl
theorem bl62 : builtOf Try.prog 62 = some ([.int .i64 0, .int .i64 0, .bool false, .int .i64 0, .int .i64 0, .slice none 0 0], [(0, 1), (1, 1), (2, 1), (3, 3)]) := by kernel_rfl
theorem ap62 : appOf Try.prog 62 6 = true := by kernel_rfl
theorem ty64 : tyOf Try.prog 64 = some (4, true) := by kernel_rfl
theorem fd64_0 : fieldOf Try.prog 64 0 = some (0, 1, false) := by kernel_rfl
theorem fd64_1 : fieldOf Try.prog 64 1 = some (1, 1, false) := by kernel_rfl
theorem fd64_2 : fieldOf Try.prog 64 2 = some (2, 1, false) := by kernel_rfl
theorem fd64_3 : fieldOf Try.prog 64 3 = some (3, 1, false) := by kernel_rfl
theorem ze64 : zeroOf Try.prog 64 = some [.int .i64 0, .bool false, .bool false, .int .i64 0] := by kernel_rfl
theorem bl64 : builtOf Try.prog 64 = some ([.int .i64 0, .bool false, .bool false, .int .i64 0], [(0, 1), (1, 1), (2, 1), (3, 1)]) := by kernel_rfl
theorem ap64 : appOf Try.prog 64 4 = true := by kernel_rfl
theorem ty66 : tyOf Try.prog 66 = some (3, true) := by kernel_rfl
theorem fd66_0 : fieldOf Try.prog 66 0 = some (0, 3, true) := by kernel_rfl
theorem ze66 : zeroOf Try.prog 66 = some [.int .i64 0, .int .i64 0, .slice none 0 0] := by kernel_rfl
theorem bl66 : builtOf Try.prog 66 = some ([.int .i64 0, .int .i64 0, .slice none 0 0], [(0, 3)]) := by kernel_rfl
theorem ap66 : appOf Try.prog 66 3 = true := by kernel_rfl
theorem ty68 : tyOf Try.prog 68 = some (1, true) := by kernel_rfl
theorem fd68_0 : fieldOf Try.prog 68 0 = some (0, 1, false) := by kernel_rfl
theorem ze68 : zeroOf Try.prog 68 = some [.int .i64 0] := by kernel_rfl
theorem bl68 : builtOf Try.prog 68 = some ([.int .i64 0], [(0, 1)]) := by kernel_rfl
theorem ap68 : appOf Try.prog 68 1 = true := by kernel_rfl
theorem ty70 : tyOf Try.prog 70 = some (1, false) := by kernel_rfl
theorem ze70 : zeroOf Try.prog 70 = some [.int .i64 0] := by kernel_rfl
theorem ap70 : appOf Try.prog 70 1 = true := by kernel_rfl
theorem ui70 : Try.prog.underlying 70 = some (.int .i64) := by kernel_rfl
end Go.Proofs.Yteaamhjacjgacaa
