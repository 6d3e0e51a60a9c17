/- The program's types: sizes, fields, zeros. -/
import Derived.Test.YtpdndapegiglcaaAbsApp
import Derived.Test.YtpdndapegiglcaaRows
namespace Go.Proofs.Ytpdndapegiglcaa
open Go
theorem hmix : Try.prog.follows .mixedOrders = true := by kernel_rfl
theorem ty3 : tyOf Try.prog 3 = some (1, false) := by kernel_rfl
theorem ze3 : zeroOf Try.prog 3 = some [.int .i64 0] := by kernel_rfl
theorem ap3 : appOf Try.prog 3 1 = true := by kernel_rfl
theorem ui3 : Try.prog.underlying 3 = some (.int .i64) := by kernel_rfl
theorem ty4 : tyOf Try.prog 4 = some (1, false) := by kernel_rfl
theorem ze4 : zeroOf Try.prog 4 = some [.bool false] := by kernel_rfl
theorem ap4 : appOf Try.prog 4 1 = true := by kernel_rfl
theorem ty5 : tyOf Try.prog 5 = some (1, false) := by kernel_rfl
theorem ze5 : zeroOf Try.prog 5 = some [.int .u8 0] := by kernel_rfl
theorem ap5 : appOf Try.prog 5 1 = true := by kernel_rfl
theorem ui5 : Try.prog.underlying 5 = some (.int .u8) := by kernel_rfl
theorem ty22 : tyOf Try.prog 22 = some (1, false) := by kernel_rfl
theorem ze22 : zeroOf Try.prog 22 = some [.slice none 0 0] := by kernel_rfl
theorem ap22 : appOf Try.prog 22 1 = true := by kernel_rfl
theorem un22 : Try.prog.underlying 22 = some (.slice 5) := by kernel_rfl
theorem ty24 : tyOf Try.prog 24 = some (2, true) := by kernel_rfl
theorem fd24_0 : fieldOf Try.prog 24 0 = some (0, 1, false) := by kernel_rfl
theorem fd24_1 : fieldOf Try.prog 24 1 = some (1, 1, false) := by kernel_rfl
theorem ze24 : zeroOf Try.prog 24 = some [.int .i64 0, .slice none 0 0] := by kernel_rfl
theorem bl24 : builtOf Try.prog 24 = some ([.int .i64 0, .slice none 0 0], [(0, 1), (1, 1)]) := by kernel_rfl
theorem ap24 : appOf Try.prog 24 2 = true := by kernel_rfl
theorem ty26 : tyOf Try.prog 26 = some (7, true) := by kernel_rfl
theorem fd26_0 : fieldOf Try.prog 26 0 = some (0, 1, false) := by kernel_rfl
theorem fd26_1 : fieldOf Try.prog 26 1 = some (1, 1, false) := by kernel_rfl
theorem fd26_2 : fieldOf Try.prog 26 2 = some (2, 2, true) := by kernel_rfl
theorem fd26_3 : fieldOf Try.prog 26 3 = some (4, 1, false) := by kernel_rfl
theorem fd26_4 : fieldOf Try.prog 26 4 = some (5, 1, false) := by kernel_rfl
theorem fd26_5 : fieldOf Try.prog 26 5 = some (6, 1, false) := by kernel_rfl
theorem ze26 : zeroOf Try.prog 26 = some [.int .i64 0, .int .i64 0, .int .i64 0, .slice none 0 0, .bool false, .bool false, .bool false] := by kernel_rfl
theorem bl26 : builtOf Try.prog 26 = some ([.int .i64 0, .int .i64 0, .int .i64 0, .slice none 0 0, .bool false, .bool false, .bool false], [(0, 1), (1, 1), (2, 2), (4, 1), (5, 1), (6, 1)]) := by kernel_rfl
theorem ap26 : appOf Try.prog 26 7 = true := by kernel_rfl
theorem ty29 : tyOf Try.prog 29 = some (1, false) := by kernel_rfl
theorem ze29 : zeroOf Try.prog 29 = some [.slice none 0 0] := by kernel_rfl
theorem ap29 : appOf Try.prog 29 1 = true := by kernel_rfl
theorem un29 : Try.prog.underlying 29 = some (.slice 38) := by kernel_rfl
theorem ty38 : tyOf Try.prog 38 = some (9, true) := by kernel_rfl
theorem fd38_0 : fieldOf Try.prog 38 0 = some (0, 1, false) := by kernel_rfl
theorem fd38_1 : fieldOf Try.prog 38 1 = some (1, 1, false) := by kernel_rfl
theorem fd38_2 : fieldOf Try.prog 38 2 = some (2, 1, false) := by kernel_rfl
theorem fd38_3 : fieldOf Try.prog 38 3 = some (3, 1, false) := by kernel_rfl
theorem fd38_4 : fieldOf Try.prog 38 4 = some (4, 1, false) := by kernel_rfl
theorem fd38_5 : fieldOf Try.prog 38 5 = some (5, 1, false) := by kernel_rfl
theorem fd38_6 : fieldOf Try.prog 38 6 = some (6, 1, false) := by kernel_rfl
theorem fd38_7 : fieldOf Try.prog 38 7 = some (7, 1, false) := by kernel_rfl
theorem fd38_8 : fieldOf Try.prog 38 8 = some (8, 1, false) := by kernel_rfl
theorem ze38 : zeroOf Try.prog 38 = some [.int .i64 0, .int .i64 0, .int .i64 0, .bool false, .bool false, .int .i64 0, .int .i64 0, .int .i64 0, .slice none 0 0] := by kernel_rfl
theorem bl38 : builtOf Try.prog 38 = some ([.int .i64 0, .int .i64 0, .int .i64 0, .bool false, .bool false, .int .i64 0, .int .i64 0, .int .i64 0, .slice none 0 0], [(0, 1), (1, 1), (2, 1), (3, 1), (4, 1), (5, 1), (6, 1), (7, 1), (8, 1)]) := by kernel_rfl
theorem ap38 : appOf Try.prog 38 9 = true := by kernel_rfl
theorem ty49 : tyOf Try.prog 49 = some (8, true) := by kernel_rfl
theorem fd49_0 : fieldOf Try.prog 49 0 = some (0, 7, true) := by kernel_rfl
theorem fd49_1 : fieldOf Try.prog 49 1 = some (7, 1, false) := by kernel_rfl
theorem ze49 : zeroOf Try.prog 49 = some [.int .i64 0, .int .i64 0, .int .i64 0, .slice none 0 0, .bool false, .bool false, .bool false, .nilFunc] := by kernel_rfl
theorem bl49 : builtOf Try.prog 49 = some ([.int .i64 0, .int .i64 0, .int .i64 0, .slice none 0 0, .bool false, .bool false, .bool false, .nilFunc], [(0, 7), (7, 1)]) := by kernel_rfl
theorem ap49 : appOf Try.prog 49 8 = true := by kernel_rfl
theorem ty57 : tyOf Try.prog 57 = some (5, true) := by kernel_rfl
theorem fd57_0 : fieldOf Try.prog 57 0 = some (0, 1, false) := by kernel_rfl
theorem fd57_1 : fieldOf Try.prog 57 1 = some (1, 1, false) := by kernel_rfl
theorem fd57_2 : fieldOf Try.prog 57 2 = some (2, 1, false) := by kernel_rfl
theorem fd57_3 : fieldOf Try.prog 57 3 = some (3, 1, false) := by kernel_rfl
theorem fd57_4 : fieldOf Try.prog 57 4 = some (4, 1, false) := by kernel_rfl
theorem ze57 : zeroOf Try.prog 57 = some [.int .i64 0, .int .i64 0, .int .i64 0, .int .i64 0, .int .i64 0] := by kernel_rfl
theorem bl57 : builtOf Try.prog 57 = some ([.int .i64 0, .int .i64 0, .int .i64 0, .int .i64 0, .int .i64 0], [(0, 1), (1, 1), (2, 1), (3, 1), (4, 1)]) := by kernel_rfl
theorem ap57 : appOf Try.prog 57 5 = true := by kernel_rfl
theorem ty61 : tyOf Try.prog 61 = some (2, true) := by kernel_rfl
theorem fd61_0 : fieldOf Try.prog 61 0 = some (0, 1, false) := by kernel_rfl
theorem fd61_1 : fieldOf Try.prog 61 1 = some (1, 1, false) := by kernel_rfl
theorem ze61 : zeroOf Try.prog 61 = some [.slice none 0 0, .int .i64 0] := by kernel_rfl
theorem bl61 : builtOf Try.prog 61 = some ([.slice none 0 0, .int .i64 0], [(0, 1), (1, 1)]) := by kernel_rfl
theorem ap61 : appOf Try.prog 61 2 = true := by kernel_rfl
theorem ty64 : tyOf Try.prog 64 = some (1, false) := by kernel_rfl
theorem ze64 : zeroOf Try.prog 64 = some [.slice none 0 0] := by kernel_rfl
theorem ap64 : appOf Try.prog 64 1 = true := by kernel_rfl
theorem un64 : Try.prog.underlying 64 = some (.slice 3) := by kernel_rfl
theorem ty67 : tyOf Try.prog 67 = some (1, false) := by kernel_rfl
theorem ze67 : zeroOf Try.prog 67 = some [.int .i64 0] := by kernel_rfl
theorem ap67 : appOf Try.prog 67 1 = true := by kernel_rfl
theorem ui67 : Try.prog.underlying 67 = some (.int .i64) := by kernel_rfl
end Go.Proofs.Ytpdndapegiglcaa
