/-
  The types that the functions use, as a table.
-/
import Derived.Test.YtllnmdmmmkoiaaaWh
import Derived.Test.YtllnmdmmmkoiaaaProg
namespace Go.Proofs.Ytllnmdmmmkoiaaa
open Go Go.RowKit Wx
set_option linter.unusedVariables false
def ti2 : TI := ⟨false, 1, [.int .i64 0], [], some .i64, none, none, none, false, none, 2⟩
theorem ti2_ok : tiOf Try.prog 2 = some ti2 := by kernel_rfl
def ti3 : TI := ⟨false, 1, [.int .i64 0], [], some .i64, none, none, none, false, none, 2⟩
theorem ti3_ok : tiOf Try.prog 3 = some ti3 := by kernel_rfl
def ti4 : TI := ⟨false, 1, [.bool false], [], none, none, none, none, true, none, 1⟩
theorem ti4_ok : tiOf Try.prog 4 = some ti4 := by kernel_rfl
def ti5 : TI := ⟨false, 1, [.int .u8 0], [], some .u8, none, none, none, false, none, 2⟩
theorem ti5_ok : tiOf Try.prog 5 = some ti5 := by kernel_rfl
def ti6 : TI := ⟨false, 1, [.int .u8 0], [], some .u8, none, none, none, false, none, 2⟩
theorem ti6_ok : tiOf Try.prog 6 = some ti6 := by kernel_rfl
def ti7 : TI := ⟨true, 4, [.int .i64 0, .int .i64 0, .bool false, .int .u8 0], [(0, 1, false), (1, 1, false), (2, 1, false), (3, 1, false)], none, none, none, some [some .i64, some .i64, none, some .u8], false, none, 7⟩
theorem ti7_ok : tiOf Try.prog 7 = some ti7 := by kernel_rfl
def ti8 : TI := ⟨true, 4, [.int .i64 0, .int .i64 0, .bool false, .int .u8 0], [(0, 1, false), (1, 1, false), (2, 1, false), (3, 1, false)], none, none, none, some [some .i64, some .i64, none, some .u8], false, none, 7⟩
theorem ti8_ok : tiOf Try.prog 8 = some ti8 := by kernel_rfl
def ti9 : TI := ⟨false, 1, [.string ⟨#[]⟩], [], none, none, none, none, false, none, 3⟩
theorem ti9_ok : tiOf Try.prog 9 = some ti9 := by kernel_rfl
def ti10 : TI := ⟨false, 1, [.string ⟨#[]⟩], [], none, none, none, none, false, none, 3⟩
theorem ti10_ok : tiOf Try.prog 10 = some ti10 := by kernel_rfl
def ti11 : TI := ⟨false, 1, [.string ⟨#[]⟩], [], none, none, none, none, false, none, 3⟩
theorem ti11_ok : tiOf Try.prog 11 = some ti11 := by kernel_rfl
def ti12 : TI := ⟨false, 1, [.int .u64 0], [], some .u64, none, none, none, false, none, 2⟩
theorem ti12_ok : tiOf Try.prog 12 = some ti12 := by kernel_rfl
def ti13 : TI := ⟨true, 2, [.string ⟨#[]⟩, .int .u64 0], [(0, 1, false), (1, 1, false)], none, none, none, none, false, none, 7⟩
theorem ti13_ok : tiOf Try.prog 13 = some ti13 := by kernel_rfl
def ti14 : TI := ⟨true, 2, [.string ⟨#[]⟩, .int .u64 0], [(0, 1, false), (1, 1, false)], none, none, none, none, false, none, 7⟩
theorem ti14_ok : tiOf Try.prog 14 = some ti14 := by kernel_rfl
def ti15 : TI := ⟨false, 1, [.pointer none], [], none, none, none, none, false, none, 4⟩
theorem ti15_ok : tiOf Try.prog 15 = some ti15 := by kernel_rfl
def ti16 : TI := ⟨false, 1, [.pointer none], [], none, none, none, none, false, none, 4⟩
theorem ti16_ok : tiOf Try.prog 16 = some ti16 := by kernel_rfl
def ti17 : TI := ⟨false, 1, [.pointer none], [], none, none, none, none, false, none, 4⟩
theorem ti17_ok : tiOf Try.prog 17 = some ti17 := by kernel_rfl
def ti18 : TI := ⟨true, 1, [.pointer none], [(0, 1, false)], none, none, none, none, false, none, 7⟩
theorem ti18_ok : tiOf Try.prog 18 = some ti18 := by kernel_rfl
def ti19 : TI := ⟨true, 1, [.pointer none], [(0, 1, false)], none, none, none, none, false, none, 7⟩
theorem ti19_ok : tiOf Try.prog 19 = some ti19 := by kernel_rfl
def ti21 : TI := ⟨false, 1, [.int .i32 0], [], some .i32, none, none, none, false, none, 2⟩
theorem ti21_ok : tiOf Try.prog 21 = some ti21 := by kernel_rfl
def ti22 : TI := ⟨false, 1, [.slice none 0 0], [], none, some (27, 2, 16), none, none, false, none, 5⟩
theorem ti22_ok : tiOf Try.prog 22 = some ti22 := by kernel_rfl
def ti23 : TI := ⟨false, 1, [.slice none 0 0], [], none, some (66, 2, 16), none, none, false, none, 5⟩
theorem ti23_ok : tiOf Try.prog 23 = some ti23 := by kernel_rfl
def ti24 : TI := ⟨true, 2, [.slice none 0 0, .slice none 0 0], [(0, 1, false), (1, 1, false)], none, none, none, none, false, none, 7⟩
theorem ti24_ok : tiOf Try.prog 24 = some ti24 := by kernel_rfl
def ti25 : TI := ⟨true, 2, [.slice none 0 0, .slice none 0 0], [(0, 1, false), (1, 1, false)], none, none, none, none, false, none, 7⟩
theorem ti25_ok : tiOf Try.prog 25 = some ti25 := by kernel_rfl
def ti26 : TI := ⟨true, 2, [.int .i64 0, .int .i64 0], [(0, 1, false), (1, 1, false)], none, none, none, some [some .i64, some .i64], false, none, 7⟩
theorem ti26_ok : tiOf Try.prog 26 = some ti26 := by kernel_rfl
def ti27 : TI := ⟨true, 2, [.int .i64 0, .int .i64 0], [(0, 1, false), (1, 1, false)], none, none, none, some [some .i64, some .i64], false, none, 7⟩
theorem ti27_ok : tiOf Try.prog 27 = some ti27 := by kernel_rfl
def ti28 : TI := ⟨false, 1, [.nilFunc], [], none, none, none, none, false, none, 0⟩
theorem ti28_ok : tiOf Try.prog 28 = some ti28 := by kernel_rfl
def ti29 : TI := ⟨false, 1, [.nilFunc], [], none, none, none, none, false, none, 0⟩
theorem ti29_ok : tiOf Try.prog 29 = some ti29 := by kernel_rfl
def ti30 : TI := ⟨false, 1, [.nilFunc], [], none, none, none, none, false, none, 0⟩
theorem ti30_ok : tiOf Try.prog 30 = some ti30 := by kernel_rfl
def ti31 : TI := ⟨false, 1, [.int .i64 0], [], some .i64, none, none, none, false, none, 2⟩
theorem ti31_ok : tiOf Try.prog 31 = some ti31 := by kernel_rfl
def ti33 : TI := ⟨false, 1, [.nilFunc], [], none, none, none, none, false, none, 0⟩
theorem ti33_ok : tiOf Try.prog 33 = some ti33 := by kernel_rfl
def ti34 : TI := ⟨false, 1, [.slice none 0 0], [], none, some (3, 1, 8), none, none, false, none, 5⟩
theorem ti34_ok : tiOf Try.prog 34 = some ti34 := by kernel_rfl
def ti36 : TI := ⟨false, 1, [.nilFunc], [], none, none, none, none, false, none, 0⟩
theorem ti36_ok : tiOf Try.prog 36 = some ti36 := by kernel_rfl
def ti37 : TI := ⟨false, 1, [.nilFunc], [], none, none, none, none, false, none, 0⟩
theorem ti37_ok : tiOf Try.prog 37 = some ti37 := by kernel_rfl
def ti38 : TI := ⟨false, 1, [.nilFunc], [], none, none, none, none, false, none, 0⟩
theorem ti38_ok : tiOf Try.prog 38 = some ti38 := by kernel_rfl
def ti39 : TI := ⟨false, 1, [.nilFunc], [], none, none, none, none, false, none, 0⟩
theorem ti39_ok : tiOf Try.prog 39 = some ti39 := by kernel_rfl
def ti40 : TI := ⟨false, 1, [.nilFunc], [], none, none, none, none, false, none, 0⟩
theorem ti40_ok : tiOf Try.prog 40 = some ti40 := by kernel_rfl
def ti41 : TI := ⟨false, 1, [.nilFunc], [], none, none, none, none, false, none, 0⟩
theorem ti41_ok : tiOf Try.prog 41 = some ti41 := by kernel_rfl
def ti42 : TI := ⟨true, 2, [.int .i64 0, .int .i64 0], [], none, none, some (2, 1, false), some (List.replicate 2 (some .i64)), false, none, 8⟩
theorem ti42_ok : tiOf Try.prog 42 = some ti42 := by kernel_rfl
def ti43 : TI := ⟨false, 1, [.nilFunc], [], none, none, none, none, false, none, 0⟩
theorem ti43_ok : tiOf Try.prog 43 = some ti43 := by kernel_rfl
def ti45 : TI := ⟨false, 1, [.nilFunc], [], none, none, none, none, false, none, 0⟩
theorem ti45_ok : tiOf Try.prog 45 = some ti45 := by kernel_rfl
def ti46 : TI := ⟨false, 1, [.nilFunc], [], none, none, none, none, false, none, 0⟩
theorem ti46_ok : tiOf Try.prog 46 = some ti46 := by kernel_rfl
def ti47 : TI := ⟨false, 1, [.nilFunc], [], none, none, none, none, false, none, 0⟩
theorem ti47_ok : tiOf Try.prog 47 = some ti47 := by kernel_rfl
def ti48 : TI := ⟨false, 1, [.nilFunc], [], none, none, none, none, false, none, 0⟩
theorem ti48_ok : tiOf Try.prog 48 = some ti48 := by kernel_rfl
def ti49 : TI := ⟨false, 1, [.nilFunc], [], none, none, none, none, false, none, 0⟩
theorem ti49_ok : tiOf Try.prog 49 = some ti49 := by kernel_rfl
def ti50 : TI := ⟨false, 1, [.slice none 0 0], [], none, some (52, 4, 48), none, none, false, none, 5⟩
theorem ti50_ok : tiOf Try.prog 50 = some ti50 := by kernel_rfl
def ti51 : TI := ⟨true, 4, [.int .i64 0, .int .i64 0, .int .i64 0, .slice none 0 0], [(0, 1, false), (1, 2, true), (3, 1, false)], none, none, none, none, false, none, 7⟩
theorem ti51_ok : tiOf Try.prog 51 = some ti51 := by kernel_rfl
def ti52 : TI := ⟨true, 4, [.int .i64 0, .int .i64 0, .int .i64 0, .slice none 0 0], [(0, 1, false), (1, 2, true), (3, 1, false)], none, none, none, none, false, none, 7⟩
theorem ti52_ok : tiOf Try.prog 52 = some ti52 := by kernel_rfl
def ti53 : TI := ⟨false, 1, [.map none], [], none, none, none, none, false, some (3, 4, .i64, .bool false), 6⟩
theorem ti53_ok : tiOf Try.prog 53 = some ti53 := by kernel_rfl
def ti54 : TI := ⟨false, 1, [.nilFunc], [], none, none, none, none, false, none, 0⟩
theorem ti54_ok : tiOf Try.prog 54 = some ti54 := by kernel_rfl
def ti55 : TI := ⟨false, 1, [.nilFunc], [], none, none, none, none, false, none, 0⟩
theorem ti55_ok : tiOf Try.prog 55 = some ti55 := by kernel_rfl
def ti56 : TI := ⟨false, 1, [.nilFunc], [], none, none, none, none, false, none, 0⟩
theorem ti56_ok : tiOf Try.prog 56 = some ti56 := by kernel_rfl
def ti57 : TI := ⟨false, 1, [.nilFunc], [], none, none, none, none, false, none, 0⟩
theorem ti57_ok : tiOf Try.prog 57 = some ti57 := by kernel_rfl
def ti58 : TI := ⟨false, 1, [.pointer none], [], none, none, none, none, false, none, 4⟩
theorem ti58_ok : tiOf Try.prog 58 = some ti58 := by kernel_rfl
def ti59 : TI := ⟨false, 1, [.nilFunc], [], none, none, none, none, false, none, 0⟩
theorem ti59_ok : tiOf Try.prog 59 = some ti59 := by kernel_rfl
def ti60 : TI := ⟨false, 1, [.nilFunc], [], none, none, none, none, false, none, 0⟩
theorem ti60_ok : tiOf Try.prog 60 = some ti60 := by kernel_rfl
def ti61 : TI := ⟨false, 1, [.nilFunc], [], none, none, none, none, false, none, 0⟩
theorem ti61_ok : tiOf Try.prog 61 = some ti61 := by kernel_rfl
def ti62 : TI := ⟨false, 1, [.nilFunc], [], none, none, none, none, false, none, 0⟩
theorem ti62_ok : tiOf Try.prog 62 = some ti62 := by kernel_rfl
def ti63 : TI := ⟨false, 1, [.nilFunc], [], none, none, none, none, false, none, 0⟩
theorem ti63_ok : tiOf Try.prog 63 = some ti63 := by kernel_rfl
def ti64 : TI := ⟨false, 1, [.nilFunc], [], none, none, none, none, false, none, 0⟩
theorem ti64_ok : tiOf Try.prog 64 = some ti64 := by kernel_rfl
def ti65 : TI := ⟨true, 2, [.int .i64 0, .int .i64 0], [(0, 1, false), (1, 1, false)], none, none, none, some [some .i64, some .i64], false, none, 7⟩
theorem ti65_ok : tiOf Try.prog 65 = some ti65 := by kernel_rfl
def ti66 : TI := ⟨true, 2, [.int .i64 0, .int .i64 0], [(0, 1, false), (1, 1, false)], none, none, none, some [some .i64, some .i64], false, none, 7⟩
theorem ti66_ok : tiOf Try.prog 66 = some ti66 := by kernel_rfl
def ti67 : TI := ⟨false, 1, [.nilFunc], [], none, none, none, none, false, none, 0⟩
theorem ti67_ok : tiOf Try.prog 67 = some ti67 := by kernel_rfl
def ti68 : TI := ⟨false, 1, [.nilFunc], [], none, none, none, none, false, none, 0⟩
theorem ti68_ok : tiOf Try.prog 68 = some ti68 := by kernel_rfl
def ti69 : TI := ⟨false, 1, [.map none], [], none, none, none, none, false, some (3, 3, .i64, .int .i64 0), 6⟩
theorem ti69_ok : tiOf Try.prog 69 = some ti69 := by kernel_rfl
def ti70 : TI := ⟨false, 1, [.nilFunc], [], none, none, none, none, false, none, 0⟩
theorem ti70_ok : tiOf Try.prog 70 = some ti70 := by kernel_rfl
def ti71 : TI := ⟨false, 1, [.nilFunc], [], none, none, none, none, false, none, 0⟩
theorem ti71_ok : tiOf Try.prog 71 = some ti71 := by kernel_rfl
def ti72 : TI := ⟨false, 1, [.nilFunc], [], none, none, none, none, false, none, 0⟩
theorem ti72_ok : tiOf Try.prog 72 = some ti72 := by kernel_rfl
def ti73 : TI := ⟨false, 1, [.nilFunc], [], none, none, none, none, false, none, 0⟩
theorem ti73_ok : tiOf Try.prog 73 = some ti73 := by kernel_rfl
def ti74 : TI := ⟨false, 1, [.nilFunc], [], none, none, none, none, false, none, 0⟩
theorem ti74_ok : tiOf Try.prog 74 = some ti74 := by kernel_rfl
def ti75 : TI := ⟨false, 1, [.nilFunc], [], none, none, none, none, false, none, 0⟩
theorem ti75_ok : tiOf Try.prog 75 = some ti75 := by kernel_rfl
def ti76 : TI := ⟨false, 1, [.nilFunc], [], none, none, none, none, false, none, 0⟩
theorem ti76_ok : tiOf Try.prog 76 = some ti76 := by kernel_rfl
def ti77 : TI := ⟨false, 1, [.nilFunc], [], none, none, none, none, false, none, 0⟩
theorem ti77_ok : tiOf Try.prog 77 = some ti77 := by kernel_rfl
def ti78 : TI := ⟨false, 1, [.nilFunc], [], none, none, none, none, false, none, 0⟩
theorem ti78_ok : tiOf Try.prog 78 = some ti78 := by kernel_rfl
def ti79 : TI := ⟨false, 1, [.nilFunc], [], none, none, none, none, false, none, 0⟩
theorem ti79_ok : tiOf Try.prog 79 = some ti79 := by kernel_rfl
def ti80 : TI := ⟨false, 1, [.nilFunc], [], none, none, none, none, false, none, 0⟩
theorem ti80_ok : tiOf Try.prog 80 = some ti80 := by kernel_rfl
def ti81 : TI := ⟨false, 1, [.nilFunc], [], none, none, none, none, false, none, 0⟩
theorem ti81_ok : tiOf Try.prog 81 = some ti81 := by kernel_rfl
def ti82 : TI := ⟨true, 16, [.bool false, .bool false, .bool false, .bool false, .bool false, .bool false, .bool false, .bool false, .bool false, .bool false, .bool false, .bool false, .bool false, .bool false, .bool false, .bool false], [], none, none, some (16, 1, false), some (List.replicate 16 (none)), false, none, 8⟩
theorem ti82_ok : tiOf Try.prog 82 = some ti82 := by kernel_rfl
def ti83 : TI := ⟨false, 1, [.nilFunc], [], none, none, none, none, false, none, 0⟩
theorem ti83_ok : tiOf Try.prog 83 = some ti83 := by kernel_rfl
def ti84 : TI := ⟨false, 1, [.nilFunc], [], none, none, none, none, false, none, 0⟩
theorem ti84_ok : tiOf Try.prog 84 = some ti84 := by kernel_rfl
def ti85 : TI := ⟨false, 1, [.nilFunc], [], none, none, none, none, false, none, 0⟩
theorem ti85_ok : tiOf Try.prog 85 = some ti85 := by kernel_rfl
def ti86 : TI := ⟨false, 1, [.nilFunc], [], none, none, none, none, false, none, 0⟩
theorem ti86_ok : tiOf Try.prog 86 = some ti86 := by kernel_rfl
def ti87 : TI := ⟨true, 4, [.pointer none, .pointer none, .pointer none, .string ⟨#[]⟩], [(0, 1, false), (1, 1, false), (2, 1, false), (3, 1, false)], none, none, none, none, false, none, 7⟩
theorem ti87_ok : tiOf Try.prog 87 = some ti87 := by kernel_rfl
def ti88 : TI := ⟨true, 4, [.pointer none, .pointer none, .pointer none, .string ⟨#[]⟩], [(0, 1, false), (1, 1, false), (2, 1, false), (3, 1, false)], none, none, none, none, false, none, 7⟩
theorem ti88_ok : tiOf Try.prog 88 = some ti88 := by kernel_rfl
def ti89 : TI := ⟨true, 0, [], [], none, none, some (0, 1, false), none, false, none, 8⟩
theorem ti89_ok : tiOf Try.prog 89 = some ti89 := by kernel_rfl
def ti90 : TI := ⟨true, 0, [], [(0, 0, true)], none, none, none, none, false, none, 7⟩
theorem ti90_ok : tiOf Try.prog 90 = some ti90 := by kernel_rfl
def ti91 : TI := ⟨true, 0, [], [(0, 0, true)], none, none, none, none, false, none, 7⟩
theorem ti91_ok : tiOf Try.prog 91 = some ti91 := by kernel_rfl
def ti92 : TI := ⟨false, 1, [.nilFunc], [], none, none, none, none, false, none, 0⟩
theorem ti92_ok : tiOf Try.prog 92 = some ti92 := by kernel_rfl
def ti93 : TI := ⟨false, 1, [.int .u32 0], [], some .u32, none, none, none, false, none, 2⟩
theorem ti93_ok : tiOf Try.prog 93 = some ti93 := by kernel_rfl
def ti94 : TI := ⟨false, 1, [.int .u8 0], [], some .u8, none, none, none, false, none, 2⟩
theorem ti94_ok : tiOf Try.prog 94 = some ti94 := by kernel_rfl
def ti95 : TI := ⟨false, 1, [.int .u8 0], [], some .u8, none, none, none, false, none, 2⟩
theorem ti95_ok : tiOf Try.prog 95 = some ti95 := by kernel_rfl
def ti96 : TI := ⟨false, 1, [.nilFunc], [], none, none, none, none, false, none, 0⟩
theorem ti96_ok : tiOf Try.prog 96 = some ti96 := by kernel_rfl
def ti97 : TI := ⟨false, 1, [.pointer none], [], none, none, none, none, false, none, 4⟩
theorem ti97_ok : tiOf Try.prog 97 = some ti97 := by kernel_rfl
def ti98 : TI := ⟨false, 1, [.int .i32 0], [], some .i32, none, none, none, false, none, 2⟩
theorem ti98_ok : tiOf Try.prog 98 = some ti98 := by kernel_rfl
def ti99 : TI := ⟨false, 1, [.int .i32 0], [], some .i32, none, none, none, false, none, 2⟩
theorem ti99_ok : tiOf Try.prog 99 = some ti99 := by kernel_rfl
def ti100 : TI := ⟨true, 11, [.int .u64 0, .int .u64 0, .int .u32 0, .int .u8 0, .int .u8 0, .int .u8 0, .int .u8 0, .nilFunc, .pointer none, .int .i32 0, .int .i32 0], [(0, 1, false), (1, 1, false), (2, 1, false), (3, 1, false), (4, 1, false), (5, 1, false), (6, 1, false), (7, 1, false), (8, 1, false), (9, 1, false), (10, 1, false)], none, none, none, none, false, none, 7⟩
theorem ti100_ok : tiOf Try.prog 100 = some ti100 := by kernel_rfl
def ti101 : TI := ⟨true, 11, [.int .u64 0, .int .u64 0, .int .u32 0, .int .u8 0, .int .u8 0, .int .u8 0, .int .u8 0, .nilFunc, .pointer none, .int .i32 0, .int .i32 0], [(0, 1, false), (1, 1, false), (2, 1, false), (3, 1, false), (4, 1, false), (5, 1, false), (6, 1, false), (7, 1, false), (8, 1, false), (9, 1, false), (10, 1, false)], none, none, none, none, false, none, 7⟩
theorem ti101_ok : tiOf Try.prog 101 = some ti101 := by kernel_rfl
def tab : Tab := [(2, ti2), (3, ti3), (4, ti4), (5, ti5), (6, ti6), (7, ti7), (8, ti8), (9, ti9), (10, ti10), (11, ti11), (12, ti12), (13, ti13), (14, ti14), (15, ti15), (16, ti16), (17, ti17), (18, ti18), (19, ti19), (21, ti21), (22, ti22), (23, ti23), (24, ti24), (25, ti25), (26, ti26), (27, ti27), (28, ti28), (29, ti29), (30, ti30), (31, ti31), (33, ti33), (34, ti34), (36, ti36), (37, ti37), (38, ti38), (39, ti39), (40, ti40), (41, ti41), (42, ti42), (43, ti43), (45, ti45), (46, ti46), (47, ti47), (48, ti48), (49, ti49), (50, ti50), (51, ti51), (52, ti52), (53, ti53), (54, ti54), (55, ti55), (56, ti56), (57, ti57), (58, ti58), (59, ti59), (60, ti60), (61, ti61), (62, ti62), (63, ti63), (64, ti64), (65, ti65), (66, ti66), (67, ti67), (68, ti68), (69, ti69), (70, ti70), (71, ti71), (72, ti72), (73, ti73), (74, ti74), (75, ti75), (76, ti76), (77, ti77), (78, ti78), (79, ti79), (80, ti80), (81, ti81), (82, ti82), (83, ti83), (84, ti84), (85, ti85), (86, ti86), (87, ti87), (88, ti88), (89, ti89), (90, ti90), (91, ti91), (92, ti92), (93, ti93), (94, ti94), (95, ti95), (96, ti96), (97, ti97), (98, ti98), (99, ti99), (100, ti100), (101, ti101)]
theorem tabOk : TabOk Try.prog tab := .cons ti2_ok (.cons ti3_ok (.cons ti4_ok (.cons ti5_ok (.cons ti6_ok (.cons ti7_ok (.cons ti8_ok (.cons ti9_ok (.cons ti10_ok (.cons ti11_ok (.cons ti12_ok (.cons ti13_ok (.cons ti14_ok (.cons ti15_ok (.cons ti16_ok (.cons ti17_ok (.cons ti18_ok (.cons ti19_ok (.cons ti21_ok (.cons ti22_ok (.cons ti23_ok (.cons ti24_ok (.cons ti25_ok (.cons ti26_ok (.cons ti27_ok (.cons ti28_ok (.cons ti29_ok (.cons ti30_ok (.cons ti31_ok (.cons ti33_ok (.cons ti34_ok (.cons ti36_ok (.cons ti37_ok (.cons ti38_ok (.cons ti39_ok (.cons ti40_ok (.cons ti41_ok (.cons ti42_ok (.cons ti43_ok (.cons ti45_ok (.cons ti46_ok (.cons ti47_ok (.cons ti48_ok (.cons ti49_ok (.cons ti50_ok (.cons ti51_ok (.cons ti52_ok (.cons ti53_ok (.cons ti54_ok (.cons ti55_ok (.cons ti56_ok (.cons ti57_ok (.cons ti58_ok (.cons ti59_ok (.cons ti60_ok (.cons ti61_ok (.cons ti62_ok (.cons ti63_ok (.cons ti64_ok (.cons ti65_ok (.cons ti66_ok (.cons ti67_ok (.cons ti68_ok (.cons ti69_ok (.cons ti70_ok (.cons ti71_ok (.cons ti72_ok (.cons ti73_ok (.cons ti74_ok (.cons ti75_ok (.cons ti76_ok (.cons ti77_ok (.cons ti78_ok (.cons ti79_ok (.cons ti80_ok (.cons ti81_ok (.cons ti82_ok (.cons ti83_ok (.cons ti84_ok (.cons ti85_ok (.cons ti86_ok (.cons ti87_ok (.cons ti88_ok (.cons ti89_ok (.cons ti90_ok (.cons ti91_ok (.cons ti92_ok (.cons ti93_ok (.cons ti94_ok (.cons ti95_ok (.cons ti96_ok (.cons ti97_ok (.cons ti98_ok (.cons ti99_ok (.cons ti100_ok (.cons ti101_ok (.nil))))))))))))))))))))))))))))))))))))))))))))))))))))))))))))))))))))))))))))))))))))))))))))))))
theorem mixOk : Try.prog.follows .mixedOrders = true := by kernel_rfl
end Go.Proofs.Ytllnmdmmmkoiaaa
