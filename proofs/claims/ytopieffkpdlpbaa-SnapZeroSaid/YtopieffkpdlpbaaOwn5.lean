import Derived.Test.YtopieffkpdlpbaaLib3
import Derived.Test.YtopieffkpdlpbaaLib4
import Derived.Shelf.SlGeneric
import Derived.Shelf.SlSortCmp.WholeK
import Derived.Ground.SlsfProg
import Derived.Test.YtopieffkpdlpbaaProg
import Derived.Test.YtopieffkpdlpbaaRows
namespace Go.Proofs.Ytopieffkpdlpbaa
open Go Go.RowKit Wx
set_option linter.unusedVariables false
set_option linter.unusedSimpArgs false
set_option maxHeartbeats 4000000
def okZ (o i w : Int) : Prop := (0 ≤ o ∧ o < 8) ∧ (1 ≤ w ∧ w ≤ 3) ∧ 0 ≤ i ∧ i < w
instance (o i w : Int) : Decidable (okZ o i w) := by unfold okZ; infer_instance
structure Sha where
  op : Int
  ix : Int
  w : Int
abbrev eSh (x : Sha) : List RT := [RT.v (.int .i64 x.op), RT.v (.int .i64 x.ix), RT.v (.int .i64 x.w)]
theorem zero_0_0_1 : Con Try.prog 10 [.one (.v (.int .i64 0)), .one (.v (.int .i64 0)), .one (.v (.int .i64 1))] (fun rx rK rt => rx = .tup [.agg [.v (.int .i64 0), .v (.int .i64 0), .v (.int .i64 1), .v (.bool false), .v (.slice none 0 0), .v (.int .i64 0), .v (.int .i64 0), .v (.int .i64 0), .v (.int .i64 0), .v (.int .i64 0), .v (.int .i64 0), .v (.int .i64 0), .v (.int .i64 0), .v (.slice none 0 0)], .one (.v (.int .i64 0))] ∧ rK = [] ∧ rt = 0) := Y.con_eval ftabOk tabOk mixOk 40 12 (by kernel_rfl) (by rfl) (by kernel_rfl)
theorem zero_0_0_2 : Con Try.prog 10 [.one (.v (.int .i64 0)), .one (.v (.int .i64 0)), .one (.v (.int .i64 2))] (fun rx rK rt => rx = .tup [.agg [.v (.int .i64 0), .v (.int .i64 0), .v (.int .i64 2), .v (.bool false), .v (.slice none 0 0), .v (.int .i64 0), .v (.int .i64 0), .v (.int .i64 0), .v (.int .i64 0), .v (.int .i64 0), .v (.int .i64 0), .v (.int .i64 0), .v (.int .i64 0), .v (.slice none 0 0)], .one (.v (.int .i64 0))] ∧ rK = [] ∧ rt = 0) := Y.con_eval ftabOk tabOk mixOk 40 12 (by kernel_rfl) (by rfl) (by kernel_rfl)
theorem zero_0_1_2 : Con Try.prog 10 [.one (.v (.int .i64 0)), .one (.v (.int .i64 1)), .one (.v (.int .i64 2))] (fun rx rK rt => rx = .tup [.agg [.v (.int .i64 0), .v (.int .i64 1), .v (.int .i64 2), .v (.bool false), .v (.slice none 0 0), .v (.int .i64 0), .v (.int .i64 0), .v (.int .i64 0), .v (.int .i64 0), .v (.int .i64 0), .v (.int .i64 0), .v (.int .i64 0), .v (.int .i64 0), .v (.slice none 0 0)], .one (.v (.int .i64 0))] ∧ rK = [] ∧ rt = 0) := Y.con_eval ftabOk tabOk mixOk 40 12 (by kernel_rfl) (by rfl) (by kernel_rfl)
theorem zero_0_0_3 : Con Try.prog 10 [.one (.v (.int .i64 0)), .one (.v (.int .i64 0)), .one (.v (.int .i64 3))] (fun rx rK rt => rx = .tup [.agg [.v (.int .i64 0), .v (.int .i64 0), .v (.int .i64 3), .v (.bool false), .v (.slice none 0 0), .v (.int .i64 0), .v (.int .i64 0), .v (.int .i64 0), .v (.int .i64 0), .v (.int .i64 0), .v (.int .i64 0), .v (.int .i64 0), .v (.int .i64 0), .v (.slice none 0 0)], .one (.v (.int .i64 0))] ∧ rK = [] ∧ rt = 0) := Y.con_eval ftabOk tabOk mixOk 40 12 (by kernel_rfl) (by rfl) (by kernel_rfl)
theorem zero_0_1_3 : Con Try.prog 10 [.one (.v (.int .i64 0)), .one (.v (.int .i64 1)), .one (.v (.int .i64 3))] (fun rx rK rt => rx = .tup [.agg [.v (.int .i64 0), .v (.int .i64 1), .v (.int .i64 3), .v (.bool false), .v (.slice none 0 0), .v (.int .i64 0), .v (.int .i64 0), .v (.int .i64 0), .v (.int .i64 0), .v (.int .i64 0), .v (.int .i64 0), .v (.int .i64 0), .v (.int .i64 0), .v (.slice none 0 0)], .one (.v (.int .i64 0))] ∧ rK = [] ∧ rt = 0) := Y.con_eval ftabOk tabOk mixOk 40 12 (by kernel_rfl) (by rfl) (by kernel_rfl)
theorem zero_0_2_3 : Con Try.prog 10 [.one (.v (.int .i64 0)), .one (.v (.int .i64 2)), .one (.v (.int .i64 3))] (fun rx rK rt => rx = .tup [.agg [.v (.int .i64 0), .v (.int .i64 2), .v (.int .i64 3), .v (.bool false), .v (.slice none 0 0), .v (.int .i64 0), .v (.int .i64 0), .v (.int .i64 0), .v (.int .i64 0), .v (.int .i64 0), .v (.int .i64 0), .v (.int .i64 0), .v (.int .i64 0), .v (.slice none 0 0)], .one (.v (.int .i64 0))] ∧ rK = [] ∧ rt = 0) := Y.con_eval ftabOk tabOk mixOk 40 12 (by kernel_rfl) (by rfl) (by kernel_rfl)
theorem zero_1_0_1 : Con Try.prog 10 [.one (.v (.int .i64 1)), .one (.v (.int .i64 0)), .one (.v (.int .i64 1))] (fun rx rK rt => rx = .tup [.agg [.v (.int .i64 1), .v (.int .i64 0), .v (.int .i64 1), .v (.bool false), .v (.slice none 0 0), .v (.int .i64 0), .v (.int .i64 0), .v (.int .i64 0), .v (.int .i64 0), .v (.int .i64 0), .v (.int .i64 0), .v (.int .i64 0), .v (.int .i64 0), .v (.slice none 0 0)], .one (.v (.int .i64 0))] ∧ rK = [] ∧ rt = 0) := Y.con_eval ftabOk tabOk mixOk 40 12 (by kernel_rfl) (by rfl) (by kernel_rfl)
theorem zero_1_0_2 : Con Try.prog 10 [.one (.v (.int .i64 1)), .one (.v (.int .i64 0)), .one (.v (.int .i64 2))] (fun rx rK rt => rx = .tup [.agg [.v (.int .i64 1), .v (.int .i64 0), .v (.int .i64 2), .v (.bool false), .v (.slice none 0 0), .v (.int .i64 0), .v (.int .i64 0), .v (.int .i64 0), .v (.int .i64 0), .v (.int .i64 0), .v (.int .i64 0), .v (.int .i64 0), .v (.int .i64 0), .v (.slice none 0 0)], .one (.v (.int .i64 0))] ∧ rK = [] ∧ rt = 0) := Y.con_eval ftabOk tabOk mixOk 40 12 (by kernel_rfl) (by rfl) (by kernel_rfl)
theorem zero_1_1_2 : Con Try.prog 10 [.one (.v (.int .i64 1)), .one (.v (.int .i64 1)), .one (.v (.int .i64 2))] (fun rx rK rt => rx = .tup [.agg [.v (.int .i64 1), .v (.int .i64 1), .v (.int .i64 2), .v (.bool false), .v (.slice none 0 0), .v (.int .i64 0), .v (.int .i64 0), .v (.int .i64 0), .v (.int .i64 0), .v (.int .i64 0), .v (.int .i64 0), .v (.int .i64 0), .v (.int .i64 0), .v (.slice none 0 0)], .one (.v (.int .i64 0))] ∧ rK = [] ∧ rt = 0) := Y.con_eval ftabOk tabOk mixOk 40 12 (by kernel_rfl) (by rfl) (by kernel_rfl)
theorem zero_1_0_3 : Con Try.prog 10 [.one (.v (.int .i64 1)), .one (.v (.int .i64 0)), .one (.v (.int .i64 3))] (fun rx rK rt => rx = .tup [.agg [.v (.int .i64 1), .v (.int .i64 0), .v (.int .i64 3), .v (.bool false), .v (.slice none 0 0), .v (.int .i64 0), .v (.int .i64 0), .v (.int .i64 0), .v (.int .i64 0), .v (.int .i64 0), .v (.int .i64 0), .v (.int .i64 0), .v (.int .i64 0), .v (.slice none 0 0)], .one (.v (.int .i64 0))] ∧ rK = [] ∧ rt = 0) := Y.con_eval ftabOk tabOk mixOk 40 12 (by kernel_rfl) (by rfl) (by kernel_rfl)
theorem zero_1_1_3 : Con Try.prog 10 [.one (.v (.int .i64 1)), .one (.v (.int .i64 1)), .one (.v (.int .i64 3))] (fun rx rK rt => rx = .tup [.agg [.v (.int .i64 1), .v (.int .i64 1), .v (.int .i64 3), .v (.bool false), .v (.slice none 0 0), .v (.int .i64 0), .v (.int .i64 0), .v (.int .i64 0), .v (.int .i64 0), .v (.int .i64 0), .v (.int .i64 0), .v (.int .i64 0), .v (.int .i64 0), .v (.slice none 0 0)], .one (.v (.int .i64 0))] ∧ rK = [] ∧ rt = 0) := Y.con_eval ftabOk tabOk mixOk 40 12 (by kernel_rfl) (by rfl) (by kernel_rfl)
theorem zero_1_2_3 : Con Try.prog 10 [.one (.v (.int .i64 1)), .one (.v (.int .i64 2)), .one (.v (.int .i64 3))] (fun rx rK rt => rx = .tup [.agg [.v (.int .i64 1), .v (.int .i64 2), .v (.int .i64 3), .v (.bool false), .v (.slice none 0 0), .v (.int .i64 0), .v (.int .i64 0), .v (.int .i64 0), .v (.int .i64 0), .v (.int .i64 0), .v (.int .i64 0), .v (.int .i64 0), .v (.int .i64 0), .v (.slice none 0 0)], .one (.v (.int .i64 0))] ∧ rK = [] ∧ rt = 0) := Y.con_eval ftabOk tabOk mixOk 40 12 (by kernel_rfl) (by rfl) (by kernel_rfl)
theorem zero_2_0_1 : Con Try.prog 10 [.one (.v (.int .i64 2)), .one (.v (.int .i64 0)), .one (.v (.int .i64 1))] (fun rx rK rt => rx = .tup [.agg [.v (.int .i64 2), .v (.int .i64 0), .v (.int .i64 1), .v (.bool false), .v (.slice none 0 0), .v (.int .i64 0), .v (.int .i64 0), .v (.int .i64 0), .v (.int .i64 0), .v (.int .i64 0), .v (.int .i64 0), .v (.int .i64 0), .v (.int .i64 0), .v (.slice none 0 0)], .one (.v (.int .i64 0))] ∧ rK = [] ∧ rt = 0) := Y.con_eval ftabOk tabOk mixOk 40 12 (by kernel_rfl) (by rfl) (by kernel_rfl)
theorem zero_2_0_2 : Con Try.prog 10 [.one (.v (.int .i64 2)), .one (.v (.int .i64 0)), .one (.v (.int .i64 2))] (fun rx rK rt => rx = .tup [.agg [.v (.int .i64 2), .v (.int .i64 0), .v (.int .i64 2), .v (.bool false), .v (.slice none 0 0), .v (.int .i64 0), .v (.int .i64 0), .v (.int .i64 0), .v (.int .i64 0), .v (.int .i64 0), .v (.int .i64 0), .v (.int .i64 0), .v (.int .i64 0), .v (.slice none 0 0)], .one (.v (.int .i64 0))] ∧ rK = [] ∧ rt = 0) := Y.con_eval ftabOk tabOk mixOk 40 12 (by kernel_rfl) (by rfl) (by kernel_rfl)
theorem zero_2_1_2 : Con Try.prog 10 [.one (.v (.int .i64 2)), .one (.v (.int .i64 1)), .one (.v (.int .i64 2))] (fun rx rK rt => rx = .tup [.agg [.v (.int .i64 2), .v (.int .i64 1), .v (.int .i64 2), .v (.bool false), .v (.slice none 0 0), .v (.int .i64 0), .v (.int .i64 0), .v (.int .i64 0), .v (.int .i64 0), .v (.int .i64 0), .v (.int .i64 0), .v (.int .i64 0), .v (.int .i64 0), .v (.slice none 0 0)], .one (.v (.int .i64 0))] ∧ rK = [] ∧ rt = 0) := Y.con_eval ftabOk tabOk mixOk 40 12 (by kernel_rfl) (by rfl) (by kernel_rfl)
theorem zero_2_0_3 : Con Try.prog 10 [.one (.v (.int .i64 2)), .one (.v (.int .i64 0)), .one (.v (.int .i64 3))] (fun rx rK rt => rx = .tup [.agg [.v (.int .i64 2), .v (.int .i64 0), .v (.int .i64 3), .v (.bool false), .v (.slice none 0 0), .v (.int .i64 0), .v (.int .i64 0), .v (.int .i64 0), .v (.int .i64 0), .v (.int .i64 0), .v (.int .i64 0), .v (.int .i64 0), .v (.int .i64 0), .v (.slice none 0 0)], .one (.v (.int .i64 0))] ∧ rK = [] ∧ rt = 0) := Y.con_eval ftabOk tabOk mixOk 40 12 (by kernel_rfl) (by rfl) (by kernel_rfl)
theorem zero_2_1_3 : Con Try.prog 10 [.one (.v (.int .i64 2)), .one (.v (.int .i64 1)), .one (.v (.int .i64 3))] (fun rx rK rt => rx = .tup [.agg [.v (.int .i64 2), .v (.int .i64 1), .v (.int .i64 3), .v (.bool false), .v (.slice none 0 0), .v (.int .i64 0), .v (.int .i64 0), .v (.int .i64 0), .v (.int .i64 0), .v (.int .i64 0), .v (.int .i64 0), .v (.int .i64 0), .v (.int .i64 0), .v (.slice none 0 0)], .one (.v (.int .i64 0))] ∧ rK = [] ∧ rt = 0) := Y.con_eval ftabOk tabOk mixOk 40 12 (by kernel_rfl) (by rfl) (by kernel_rfl)
theorem zero_2_2_3 : Con Try.prog 10 [.one (.v (.int .i64 2)), .one (.v (.int .i64 2)), .one (.v (.int .i64 3))] (fun rx rK rt => rx = .tup [.agg [.v (.int .i64 2), .v (.int .i64 2), .v (.int .i64 3), .v (.bool false), .v (.slice none 0 0), .v (.int .i64 0), .v (.int .i64 0), .v (.int .i64 0), .v (.int .i64 0), .v (.int .i64 0), .v (.int .i64 0), .v (.int .i64 0), .v (.int .i64 0), .v (.slice none 0 0)], .one (.v (.int .i64 0))] ∧ rK = [] ∧ rt = 0) := Y.con_eval ftabOk tabOk mixOk 40 12 (by kernel_rfl) (by rfl) (by kernel_rfl)
theorem zero_3_0_1 : Con Try.prog 10 [.one (.v (.int .i64 3)), .one (.v (.int .i64 0)), .one (.v (.int .i64 1))] (fun rx rK rt => rx = .tup [.agg [.v (.int .i64 3), .v (.int .i64 0), .v (.int .i64 1), .v (.bool false), .v (.slice none 0 0), .v (.int .i64 0), .v (.int .i64 0), .v (.int .i64 0), .v (.int .i64 0), .v (.int .i64 0), .v (.int .i64 0), .v (.int .i64 0), .v (.int .i64 0), .v (.slice none 0 0)], .one (.v (.int .i64 0))] ∧ rK = [] ∧ rt = 0) := Y.con_eval ftabOk tabOk mixOk 40 12 (by kernel_rfl) (by rfl) (by kernel_rfl)
theorem zero_3_0_2 : Con Try.prog 10 [.one (.v (.int .i64 3)), .one (.v (.int .i64 0)), .one (.v (.int .i64 2))] (fun rx rK rt => rx = .tup [.agg [.v (.int .i64 3), .v (.int .i64 0), .v (.int .i64 2), .v (.bool false), .v (.slice none 0 0), .v (.int .i64 0), .v (.int .i64 0), .v (.int .i64 0), .v (.int .i64 0), .v (.int .i64 0), .v (.int .i64 0), .v (.int .i64 0), .v (.int .i64 0), .v (.slice none 0 0)], .one (.v (.int .i64 0))] ∧ rK = [] ∧ rt = 0) := Y.con_eval ftabOk tabOk mixOk 40 12 (by kernel_rfl) (by rfl) (by kernel_rfl)
theorem zero_3_1_2 : Con Try.prog 10 [.one (.v (.int .i64 3)), .one (.v (.int .i64 1)), .one (.v (.int .i64 2))] (fun rx rK rt => rx = .tup [.agg [.v (.int .i64 3), .v (.int .i64 1), .v (.int .i64 2), .v (.bool false), .v (.slice none 0 0), .v (.int .i64 0), .v (.int .i64 0), .v (.int .i64 0), .v (.int .i64 0), .v (.int .i64 0), .v (.int .i64 0), .v (.int .i64 0), .v (.int .i64 0), .v (.slice none 0 0)], .one (.v (.int .i64 0))] ∧ rK = [] ∧ rt = 0) := Y.con_eval ftabOk tabOk mixOk 40 12 (by kernel_rfl) (by rfl) (by kernel_rfl)
theorem zero_3_0_3 : Con Try.prog 10 [.one (.v (.int .i64 3)), .one (.v (.int .i64 0)), .one (.v (.int .i64 3))] (fun rx rK rt => rx = .tup [.agg [.v (.int .i64 3), .v (.int .i64 0), .v (.int .i64 3), .v (.bool false), .v (.slice none 0 0), .v (.int .i64 0), .v (.int .i64 0), .v (.int .i64 0), .v (.int .i64 0), .v (.int .i64 0), .v (.int .i64 0), .v (.int .i64 0), .v (.int .i64 0), .v (.slice none 0 0)], .one (.v (.int .i64 0))] ∧ rK = [] ∧ rt = 0) := Y.con_eval ftabOk tabOk mixOk 40 12 (by kernel_rfl) (by rfl) (by kernel_rfl)
theorem zero_3_1_3 : Con Try.prog 10 [.one (.v (.int .i64 3)), .one (.v (.int .i64 1)), .one (.v (.int .i64 3))] (fun rx rK rt => rx = .tup [.agg [.v (.int .i64 3), .v (.int .i64 1), .v (.int .i64 3), .v (.bool false), .v (.slice none 0 0), .v (.int .i64 0), .v (.int .i64 0), .v (.int .i64 0), .v (.int .i64 0), .v (.int .i64 0), .v (.int .i64 0), .v (.int .i64 0), .v (.int .i64 0), .v (.slice none 0 0)], .one (.v (.int .i64 0))] ∧ rK = [] ∧ rt = 0) := Y.con_eval ftabOk tabOk mixOk 40 12 (by kernel_rfl) (by rfl) (by kernel_rfl)
theorem zero_3_2_3 : Con Try.prog 10 [.one (.v (.int .i64 3)), .one (.v (.int .i64 2)), .one (.v (.int .i64 3))] (fun rx rK rt => rx = .tup [.agg [.v (.int .i64 3), .v (.int .i64 2), .v (.int .i64 3), .v (.bool false), .v (.slice none 0 0), .v (.int .i64 0), .v (.int .i64 0), .v (.int .i64 0), .v (.int .i64 0), .v (.int .i64 0), .v (.int .i64 0), .v (.int .i64 0), .v (.int .i64 0), .v (.slice none 0 0)], .one (.v (.int .i64 0))] ∧ rK = [] ∧ rt = 0) := Y.con_eval ftabOk tabOk mixOk 40 12 (by kernel_rfl) (by rfl) (by kernel_rfl)
theorem zero_4_0_1 : Con Try.prog 10 [.one (.v (.int .i64 4)), .one (.v (.int .i64 0)), .one (.v (.int .i64 1))] (fun rx rK rt => rx = .tup [.agg [.v (.int .i64 4), .v (.int .i64 0), .v (.int .i64 1), .v (.bool false), .v (.slice none 0 0), .v (.int .i64 0), .v (.int .i64 0), .v (.int .i64 0), .v (.int .i64 0), .v (.int .i64 0), .v (.int .i64 0), .v (.int .i64 0), .v (.int .i64 0), .v (.slice none 0 0)], .one (.v (.int .i64 0))] ∧ rK = [] ∧ rt = 0) := Y.con_eval ftabOk tabOk mixOk 40 12 (by kernel_rfl) (by rfl) (by kernel_rfl)
theorem zero_4_0_2 : Con Try.prog 10 [.one (.v (.int .i64 4)), .one (.v (.int .i64 0)), .one (.v (.int .i64 2))] (fun rx rK rt => rx = .tup [.agg [.v (.int .i64 4), .v (.int .i64 0), .v (.int .i64 2), .v (.bool false), .v (.slice none 0 0), .v (.int .i64 0), .v (.int .i64 0), .v (.int .i64 0), .v (.int .i64 0), .v (.int .i64 0), .v (.int .i64 0), .v (.int .i64 0), .v (.int .i64 0), .v (.slice none 0 0)], .one (.v (.int .i64 0))] ∧ rK = [] ∧ rt = 0) := Y.con_eval ftabOk tabOk mixOk 40 12 (by kernel_rfl) (by rfl) (by kernel_rfl)
theorem zero_4_1_2 : Con Try.prog 10 [.one (.v (.int .i64 4)), .one (.v (.int .i64 1)), .one (.v (.int .i64 2))] (fun rx rK rt => rx = .tup [.agg [.v (.int .i64 4), .v (.int .i64 1), .v (.int .i64 2), .v (.bool false), .v (.slice none 0 0), .v (.int .i64 0), .v (.int .i64 0), .v (.int .i64 0), .v (.int .i64 0), .v (.int .i64 0), .v (.int .i64 0), .v (.int .i64 0), .v (.int .i64 0), .v (.slice none 0 0)], .one (.v (.int .i64 0))] ∧ rK = [] ∧ rt = 0) := Y.con_eval ftabOk tabOk mixOk 40 12 (by kernel_rfl) (by rfl) (by kernel_rfl)
theorem zero_4_0_3 : Con Try.prog 10 [.one (.v (.int .i64 4)), .one (.v (.int .i64 0)), .one (.v (.int .i64 3))] (fun rx rK rt => rx = .tup [.agg [.v (.int .i64 4), .v (.int .i64 0), .v (.int .i64 3), .v (.bool false), .v (.slice none 0 0), .v (.int .i64 0), .v (.int .i64 0), .v (.int .i64 0), .v (.int .i64 0), .v (.int .i64 0), .v (.int .i64 0), .v (.int .i64 0), .v (.int .i64 0), .v (.slice none 0 0)], .one (.v (.int .i64 0))] ∧ rK = [] ∧ rt = 0) := Y.con_eval ftabOk tabOk mixOk 40 12 (by kernel_rfl) (by rfl) (by kernel_rfl)
theorem zero_4_1_3 : Con Try.prog 10 [.one (.v (.int .i64 4)), .one (.v (.int .i64 1)), .one (.v (.int .i64 3))] (fun rx rK rt => rx = .tup [.agg [.v (.int .i64 4), .v (.int .i64 1), .v (.int .i64 3), .v (.bool false), .v (.slice none 0 0), .v (.int .i64 0), .v (.int .i64 0), .v (.int .i64 0), .v (.int .i64 0), .v (.int .i64 0), .v (.int .i64 0), .v (.int .i64 0), .v (.int .i64 0), .v (.slice none 0 0)], .one (.v (.int .i64 0))] ∧ rK = [] ∧ rt = 0) := Y.con_eval ftabOk tabOk mixOk 40 12 (by kernel_rfl) (by rfl) (by kernel_rfl)
theorem zero_4_2_3 : Con Try.prog 10 [.one (.v (.int .i64 4)), .one (.v (.int .i64 2)), .one (.v (.int .i64 3))] (fun rx rK rt => rx = .tup [.agg [.v (.int .i64 4), .v (.int .i64 2), .v (.int .i64 3), .v (.bool false), .v (.slice none 0 0), .v (.int .i64 0), .v (.int .i64 0), .v (.int .i64 0), .v (.int .i64 0), .v (.int .i64 0), .v (.int .i64 0), .v (.int .i64 0), .v (.int .i64 0), .v (.slice none 0 0)], .one (.v (.int .i64 0))] ∧ rK = [] ∧ rt = 0) := Y.con_eval ftabOk tabOk mixOk 40 12 (by kernel_rfl) (by rfl) (by kernel_rfl)
theorem zero_5_0_1 : Con Try.prog 10 [.one (.v (.int .i64 5)), .one (.v (.int .i64 0)), .one (.v (.int .i64 1))] (fun rx rK rt => rx = .tup [.agg [.v (.int .i64 5), .v (.int .i64 0), .v (.int .i64 1), .v (.bool false), .v (.slice none 0 0), .v (.int .i64 0), .v (.int .i64 0), .v (.int .i64 0), .v (.int .i64 0), .v (.int .i64 0), .v (.int .i64 0), .v (.int .i64 0), .v (.int .i64 0), .v (.slice none 0 0)], .one (.v (.int .i64 0))] ∧ rK = [] ∧ rt = 0) := Y.con_eval ftabOk tabOk mixOk 40 12 (by kernel_rfl) (by rfl) (by kernel_rfl)
theorem zero_5_0_2 : Con Try.prog 10 [.one (.v (.int .i64 5)), .one (.v (.int .i64 0)), .one (.v (.int .i64 2))] (fun rx rK rt => rx = .tup [.agg [.v (.int .i64 5), .v (.int .i64 0), .v (.int .i64 2), .v (.bool false), .v (.slice none 0 0), .v (.int .i64 0), .v (.int .i64 0), .v (.int .i64 0), .v (.int .i64 0), .v (.int .i64 0), .v (.int .i64 0), .v (.int .i64 0), .v (.int .i64 0), .v (.slice none 0 0)], .one (.v (.int .i64 0))] ∧ rK = [] ∧ rt = 0) := Y.con_eval ftabOk tabOk mixOk 40 12 (by kernel_rfl) (by rfl) (by kernel_rfl)
theorem zero_5_1_2 : Con Try.prog 10 [.one (.v (.int .i64 5)), .one (.v (.int .i64 1)), .one (.v (.int .i64 2))] (fun rx rK rt => rx = .tup [.agg [.v (.int .i64 5), .v (.int .i64 1), .v (.int .i64 2), .v (.bool false), .v (.slice none 0 0), .v (.int .i64 0), .v (.int .i64 0), .v (.int .i64 0), .v (.int .i64 0), .v (.int .i64 0), .v (.int .i64 0), .v (.int .i64 0), .v (.int .i64 0), .v (.slice none 0 0)], .one (.v (.int .i64 0))] ∧ rK = [] ∧ rt = 0) := Y.con_eval ftabOk tabOk mixOk 40 12 (by kernel_rfl) (by rfl) (by kernel_rfl)
theorem zero_5_0_3 : Con Try.prog 10 [.one (.v (.int .i64 5)), .one (.v (.int .i64 0)), .one (.v (.int .i64 3))] (fun rx rK rt => rx = .tup [.agg [.v (.int .i64 5), .v (.int .i64 0), .v (.int .i64 3), .v (.bool false), .v (.slice none 0 0), .v (.int .i64 0), .v (.int .i64 0), .v (.int .i64 0), .v (.int .i64 0), .v (.int .i64 0), .v (.int .i64 0), .v (.int .i64 0), .v (.int .i64 0), .v (.slice none 0 0)], .one (.v (.int .i64 0))] ∧ rK = [] ∧ rt = 0) := Y.con_eval ftabOk tabOk mixOk 40 12 (by kernel_rfl) (by rfl) (by kernel_rfl)
theorem zero_5_1_3 : Con Try.prog 10 [.one (.v (.int .i64 5)), .one (.v (.int .i64 1)), .one (.v (.int .i64 3))] (fun rx rK rt => rx = .tup [.agg [.v (.int .i64 5), .v (.int .i64 1), .v (.int .i64 3), .v (.bool false), .v (.slice none 0 0), .v (.int .i64 0), .v (.int .i64 0), .v (.int .i64 0), .v (.int .i64 0), .v (.int .i64 0), .v (.int .i64 0), .v (.int .i64 0), .v (.int .i64 0), .v (.slice none 0 0)], .one (.v (.int .i64 0))] ∧ rK = [] ∧ rt = 0) := Y.con_eval ftabOk tabOk mixOk 40 12 (by kernel_rfl) (by rfl) (by kernel_rfl)
theorem zero_5_2_3 : Con Try.prog 10 [.one (.v (.int .i64 5)), .one (.v (.int .i64 2)), .one (.v (.int .i64 3))] (fun rx rK rt => rx = .tup [.agg [.v (.int .i64 5), .v (.int .i64 2), .v (.int .i64 3), .v (.bool false), .v (.slice none 0 0), .v (.int .i64 0), .v (.int .i64 0), .v (.int .i64 0), .v (.int .i64 0), .v (.int .i64 0), .v (.int .i64 0), .v (.int .i64 0), .v (.int .i64 0), .v (.slice none 0 0)], .one (.v (.int .i64 0))] ∧ rK = [] ∧ rt = 0) := Y.con_eval ftabOk tabOk mixOk 40 12 (by kernel_rfl) (by rfl) (by kernel_rfl)
theorem zero_6_0_1 : Con Try.prog 10 [.one (.v (.int .i64 6)), .one (.v (.int .i64 0)), .one (.v (.int .i64 1))] (fun rx rK rt => rx = .tup [.agg [.v (.int .i64 6), .v (.int .i64 0), .v (.int .i64 1), .v (.bool false), .v (.slice none 0 0), .v (.int .i64 0), .v (.int .i64 0), .v (.int .i64 0), .v (.int .i64 0), .v (.int .i64 0), .v (.int .i64 0), .v (.int .i64 0), .v (.int .i64 0), .v (.slice none 0 0)], .one (.v (.int .i64 0))] ∧ rK = [] ∧ rt = 0) := Y.con_eval ftabOk tabOk mixOk 40 12 (by kernel_rfl) (by rfl) (by kernel_rfl)
theorem zero_6_0_2 : Con Try.prog 10 [.one (.v (.int .i64 6)), .one (.v (.int .i64 0)), .one (.v (.int .i64 2))] (fun rx rK rt => rx = .tup [.agg [.v (.int .i64 6), .v (.int .i64 0), .v (.int .i64 2), .v (.bool false), .v (.slice none 0 0), .v (.int .i64 0), .v (.int .i64 0), .v (.int .i64 0), .v (.int .i64 0), .v (.int .i64 0), .v (.int .i64 0), .v (.int .i64 0), .v (.int .i64 0), .v (.slice none 0 0)], .one (.v (.int .i64 0))] ∧ rK = [] ∧ rt = 0) := Y.con_eval ftabOk tabOk mixOk 40 12 (by kernel_rfl) (by rfl) (by kernel_rfl)
theorem zero_6_1_2 : Con Try.prog 10 [.one (.v (.int .i64 6)), .one (.v (.int .i64 1)), .one (.v (.int .i64 2))] (fun rx rK rt => rx = .tup [.agg [.v (.int .i64 6), .v (.int .i64 1), .v (.int .i64 2), .v (.bool false), .v (.slice none 0 0), .v (.int .i64 0), .v (.int .i64 0), .v (.int .i64 0), .v (.int .i64 0), .v (.int .i64 0), .v (.int .i64 0), .v (.int .i64 0), .v (.int .i64 0), .v (.slice none 0 0)], .one (.v (.int .i64 0))] ∧ rK = [] ∧ rt = 0) := Y.con_eval ftabOk tabOk mixOk 40 12 (by kernel_rfl) (by rfl) (by kernel_rfl)
theorem zero_6_0_3 : Con Try.prog 10 [.one (.v (.int .i64 6)), .one (.v (.int .i64 0)), .one (.v (.int .i64 3))] (fun rx rK rt => rx = .tup [.agg [.v (.int .i64 6), .v (.int .i64 0), .v (.int .i64 3), .v (.bool false), .v (.slice none 0 0), .v (.int .i64 0), .v (.int .i64 0), .v (.int .i64 0), .v (.int .i64 0), .v (.int .i64 0), .v (.int .i64 0), .v (.int .i64 0), .v (.int .i64 0), .v (.slice none 0 0)], .one (.v (.int .i64 0))] ∧ rK = [] ∧ rt = 0) := Y.con_eval ftabOk tabOk mixOk 40 12 (by kernel_rfl) (by rfl) (by kernel_rfl)
theorem zero_6_1_3 : Con Try.prog 10 [.one (.v (.int .i64 6)), .one (.v (.int .i64 1)), .one (.v (.int .i64 3))] (fun rx rK rt => rx = .tup [.agg [.v (.int .i64 6), .v (.int .i64 1), .v (.int .i64 3), .v (.bool false), .v (.slice none 0 0), .v (.int .i64 0), .v (.int .i64 0), .v (.int .i64 0), .v (.int .i64 0), .v (.int .i64 0), .v (.int .i64 0), .v (.int .i64 0), .v (.int .i64 0), .v (.slice none 0 0)], .one (.v (.int .i64 0))] ∧ rK = [] ∧ rt = 0) := Y.con_eval ftabOk tabOk mixOk 40 12 (by kernel_rfl) (by rfl) (by kernel_rfl)
theorem zero_6_2_3 : Con Try.prog 10 [.one (.v (.int .i64 6)), .one (.v (.int .i64 2)), .one (.v (.int .i64 3))] (fun rx rK rt => rx = .tup [.agg [.v (.int .i64 6), .v (.int .i64 2), .v (.int .i64 3), .v (.bool false), .v (.slice none 0 0), .v (.int .i64 0), .v (.int .i64 0), .v (.int .i64 0), .v (.int .i64 0), .v (.int .i64 0), .v (.int .i64 0), .v (.int .i64 0), .v (.int .i64 0), .v (.slice none 0 0)], .one (.v (.int .i64 0))] ∧ rK = [] ∧ rt = 0) := Y.con_eval ftabOk tabOk mixOk 40 12 (by kernel_rfl) (by rfl) (by kernel_rfl)
theorem zero_7_0_1 : Con Try.prog 10 [.one (.v (.int .i64 7)), .one (.v (.int .i64 0)), .one (.v (.int .i64 1))] (fun rx rK rt => rx = .tup [.agg [.v (.int .i64 7), .v (.int .i64 0), .v (.int .i64 1), .v (.bool false), .v (.slice none 0 0), .v (.int .i64 0), .v (.int .i64 0), .v (.int .i64 0), .v (.int .i64 0), .v (.int .i64 0), .v (.int .i64 0), .v (.int .i64 0), .v (.int .i64 0), .v (.slice none 0 0)], .one (.v (.int .i64 0))] ∧ rK = [] ∧ rt = 0) := Y.con_eval ftabOk tabOk mixOk 40 12 (by kernel_rfl) (by rfl) (by kernel_rfl)
theorem zero_7_0_2 : Con Try.prog 10 [.one (.v (.int .i64 7)), .one (.v (.int .i64 0)), .one (.v (.int .i64 2))] (fun rx rK rt => rx = .tup [.agg [.v (.int .i64 7), .v (.int .i64 0), .v (.int .i64 2), .v (.bool false), .v (.slice none 0 0), .v (.int .i64 0), .v (.int .i64 0), .v (.int .i64 0), .v (.int .i64 0), .v (.int .i64 0), .v (.int .i64 0), .v (.int .i64 0), .v (.int .i64 0), .v (.slice none 0 0)], .one (.v (.int .i64 0))] ∧ rK = [] ∧ rt = 0) := Y.con_eval ftabOk tabOk mixOk 40 12 (by kernel_rfl) (by rfl) (by kernel_rfl)
theorem zero_7_1_2 : Con Try.prog 10 [.one (.v (.int .i64 7)), .one (.v (.int .i64 1)), .one (.v (.int .i64 2))] (fun rx rK rt => rx = .tup [.agg [.v (.int .i64 7), .v (.int .i64 1), .v (.int .i64 2), .v (.bool false), .v (.slice none 0 0), .v (.int .i64 0), .v (.int .i64 0), .v (.int .i64 0), .v (.int .i64 0), .v (.int .i64 0), .v (.int .i64 0), .v (.int .i64 0), .v (.int .i64 0), .v (.slice none 0 0)], .one (.v (.int .i64 0))] ∧ rK = [] ∧ rt = 0) := Y.con_eval ftabOk tabOk mixOk 40 12 (by kernel_rfl) (by rfl) (by kernel_rfl)
theorem zero_7_0_3 : Con Try.prog 10 [.one (.v (.int .i64 7)), .one (.v (.int .i64 0)), .one (.v (.int .i64 3))] (fun rx rK rt => rx = .tup [.agg [.v (.int .i64 7), .v (.int .i64 0), .v (.int .i64 3), .v (.bool false), .v (.slice none 0 0), .v (.int .i64 0), .v (.int .i64 0), .v (.int .i64 0), .v (.int .i64 0), .v (.int .i64 0), .v (.int .i64 0), .v (.int .i64 0), .v (.int .i64 0), .v (.slice none 0 0)], .one (.v (.int .i64 0))] ∧ rK = [] ∧ rt = 0) := Y.con_eval ftabOk tabOk mixOk 40 12 (by kernel_rfl) (by rfl) (by kernel_rfl)
theorem zero_7_1_3 : Con Try.prog 10 [.one (.v (.int .i64 7)), .one (.v (.int .i64 1)), .one (.v (.int .i64 3))] (fun rx rK rt => rx = .tup [.agg [.v (.int .i64 7), .v (.int .i64 1), .v (.int .i64 3), .v (.bool false), .v (.slice none 0 0), .v (.int .i64 0), .v (.int .i64 0), .v (.int .i64 0), .v (.int .i64 0), .v (.int .i64 0), .v (.int .i64 0), .v (.int .i64 0), .v (.int .i64 0), .v (.slice none 0 0)], .one (.v (.int .i64 0))] ∧ rK = [] ∧ rt = 0) := Y.con_eval ftabOk tabOk mixOk 40 12 (by kernel_rfl) (by rfl) (by kernel_rfl)
theorem zero_7_2_3 : Con Try.prog 10 [.one (.v (.int .i64 7)), .one (.v (.int .i64 2)), .one (.v (.int .i64 3))] (fun rx rK rt => rx = .tup [.agg [.v (.int .i64 7), .v (.int .i64 2), .v (.int .i64 3), .v (.bool false), .v (.slice none 0 0), .v (.int .i64 0), .v (.int .i64 0), .v (.int .i64 0), .v (.int .i64 0), .v (.int .i64 0), .v (.int .i64 0), .v (.int .i64 0), .v (.int .i64 0), .v (.slice none 0 0)], .one (.v (.int .i64 0))] ∧ rK = [] ∧ rt = 0) := Y.con_eval ftabOk tabOk mixOk 40 12 (by kernel_rfl) (by rfl) (by kernel_rfl)
theorem zero_ok (o i w : Int) (h : okZ o i w) : Con Try.prog 10 [.one (.v (.int .i64 o)), .one (.v (.int .i64 i)), .one (.v (.int .i64 w))] (fun rx rK rt => rx = .tup [.agg [.v (.int .i64 o), .v (.int .i64 i), .v (.int .i64 w), .v (.bool false), .v (.slice none 0 0), .v (.int .i64 0), .v (.int .i64 0), .v (.int .i64 0), .v (.int .i64 0), .v (.int .i64 0), .v (.int .i64 0), .v (.int .i64 0), .v (.int .i64 0), .v (.slice none 0 0)], .one (.v (.int .i64 0))] ∧ rK = [] ∧ rt = 0) := by
  have h1 : o = 0 ∨ o = 1 ∨ o = 2 ∨ o = 3 ∨ o = 4 ∨ o = 5 ∨ o = 6 ∨ o = 7 := by unfold okZ at h; omega
  have h2 : (i = 0 ∧ w = 1) ∨ (i = 0 ∧ w = 2) ∨ (i = 1 ∧ w = 2) ∨ (i = 0 ∧ w = 3) ∨ (i = 1 ∧ w = 3) ∨ (i = 2 ∧ w = 3) := by unfold okZ at h; omega
  rcases h1 with rfl | rfl | rfl | rfl | rfl | rfl | rfl | rfl <;> rcases h2 with ⟨rfl, rfl⟩ | ⟨rfl, rfl⟩ | ⟨rfl, rfl⟩ | ⟨rfl, rfl⟩ | ⟨rfl, rfl⟩ | ⟨rfl, rfl⟩
  · exact zero_0_0_1
  · exact zero_0_0_2
  · exact zero_0_1_2
  · exact zero_0_0_3
  · exact zero_0_1_3
  · exact zero_0_2_3
  · exact zero_1_0_1
  · exact zero_1_0_2
  · exact zero_1_1_2
  · exact zero_1_0_3
  · exact zero_1_1_3
  · exact zero_1_2_3
  · exact zero_2_0_1
  · exact zero_2_0_2
  · exact zero_2_1_2
  · exact zero_2_0_3
  · exact zero_2_1_3
  · exact zero_2_2_3
  · exact zero_3_0_1
  · exact zero_3_0_2
  · exact zero_3_1_2
  · exact zero_3_0_3
  · exact zero_3_1_3
  · exact zero_3_2_3
  · exact zero_4_0_1
  · exact zero_4_0_2
  · exact zero_4_1_2
  · exact zero_4_0_3
  · exact zero_4_1_3
  · exact zero_4_2_3
  · exact zero_5_0_1
  · exact zero_5_0_2
  · exact zero_5_1_2
  · exact zero_5_0_3
  · exact zero_5_1_3
  · exact zero_5_2_3
  · exact zero_6_0_1
  · exact zero_6_0_2
  · exact zero_6_1_2
  · exact zero_6_0_3
  · exact zero_6_1_3
  · exact zero_6_2_3
  · exact zero_7_0_1
  · exact zero_7_0_2
  · exact zero_7_1_2
  · exact zero_7_0_3
  · exact zero_7_1_3
  · exact zero_7_2_3
theorem right_0_0_1 : Con Try.prog 11 [.agg [.v (.int .i64 0), .v (.int .i64 0), .v (.int .i64 1), .v (.bool false), .v (.slice none 0 0), .v (.int .i64 0), .v (.int .i64 0), .v (.int .i64 0), .v (.int .i64 0), .v (.int .i64 0), .v (.int .i64 0), .v (.int .i64 0), .v (.int .i64 0), .v (.slice none 0 0)]] (fun rx rK rt => rx = .val (.bool true) ∧ rK = [] ∧ rt = 0) := Y.con_eval ftabOk tabOk mixOk 40 12 (by kernel_rfl) (by rfl) (by kernel_rfl)
theorem right_0_0_2 : Con Try.prog 11 [.agg [.v (.int .i64 0), .v (.int .i64 0), .v (.int .i64 2), .v (.bool false), .v (.slice none 0 0), .v (.int .i64 0), .v (.int .i64 0), .v (.int .i64 0), .v (.int .i64 0), .v (.int .i64 0), .v (.int .i64 0), .v (.int .i64 0), .v (.int .i64 0), .v (.slice none 0 0)]] (fun rx rK rt => rx = .val (.bool true) ∧ rK = [] ∧ rt = 0) := Y.con_eval ftabOk tabOk mixOk 40 12 (by kernel_rfl) (by rfl) (by kernel_rfl)
theorem right_0_1_2 : Con Try.prog 11 [.agg [.v (.int .i64 0), .v (.int .i64 1), .v (.int .i64 2), .v (.bool false), .v (.slice none 0 0), .v (.int .i64 0), .v (.int .i64 0), .v (.int .i64 0), .v (.int .i64 0), .v (.int .i64 0), .v (.int .i64 0), .v (.int .i64 0), .v (.int .i64 0), .v (.slice none 0 0)]] (fun rx rK rt => rx = .val (.bool true) ∧ rK = [] ∧ rt = 0) := Y.con_eval ftabOk tabOk mixOk 40 12 (by kernel_rfl) (by rfl) (by kernel_rfl)
theorem right_0_0_3 : Con Try.prog 11 [.agg [.v (.int .i64 0), .v (.int .i64 0), .v (.int .i64 3), .v (.bool false), .v (.slice none 0 0), .v (.int .i64 0), .v (.int .i64 0), .v (.int .i64 0), .v (.int .i64 0), .v (.int .i64 0), .v (.int .i64 0), .v (.int .i64 0), .v (.int .i64 0), .v (.slice none 0 0)]] (fun rx rK rt => rx = .val (.bool true) ∧ rK = [] ∧ rt = 0) := Y.con_eval ftabOk tabOk mixOk 40 12 (by kernel_rfl) (by rfl) (by kernel_rfl)
theorem right_0_1_3 : Con Try.prog 11 [.agg [.v (.int .i64 0), .v (.int .i64 1), .v (.int .i64 3), .v (.bool false), .v (.slice none 0 0), .v (.int .i64 0), .v (.int .i64 0), .v (.int .i64 0), .v (.int .i64 0), .v (.int .i64 0), .v (.int .i64 0), .v (.int .i64 0), .v (.int .i64 0), .v (.slice none 0 0)]] (fun rx rK rt => rx = .val (.bool true) ∧ rK = [] ∧ rt = 0) := Y.con_eval ftabOk tabOk mixOk 40 12 (by kernel_rfl) (by rfl) (by kernel_rfl)
theorem right_0_2_3 : Con Try.prog 11 [.agg [.v (.int .i64 0), .v (.int .i64 2), .v (.int .i64 3), .v (.bool false), .v (.slice none 0 0), .v (.int .i64 0), .v (.int .i64 0), .v (.int .i64 0), .v (.int .i64 0), .v (.int .i64 0), .v (.int .i64 0), .v (.int .i64 0), .v (.int .i64 0), .v (.slice none 0 0)]] (fun rx rK rt => rx = .val (.bool true) ∧ rK = [] ∧ rt = 0) := Y.con_eval ftabOk tabOk mixOk 40 12 (by kernel_rfl) (by rfl) (by kernel_rfl)
theorem right_1_0_1 : Con Try.prog 11 [.agg [.v (.int .i64 1), .v (.int .i64 0), .v (.int .i64 1), .v (.bool false), .v (.slice none 0 0), .v (.int .i64 0), .v (.int .i64 0), .v (.int .i64 0), .v (.int .i64 0), .v (.int .i64 0), .v (.int .i64 0), .v (.int .i64 0), .v (.int .i64 0), .v (.slice none 0 0)]] (fun rx rK rt => rx = .val (.bool true) ∧ rK = [] ∧ rt = 0) := Y.con_eval ftabOk tabOk mixOk 40 12 (by kernel_rfl) (by rfl) (by kernel_rfl)
theorem right_1_0_2 : Con Try.prog 11 [.agg [.v (.int .i64 1), .v (.int .i64 0), .v (.int .i64 2), .v (.bool false), .v (.slice none 0 0), .v (.int .i64 0), .v (.int .i64 0), .v (.int .i64 0), .v (.int .i64 0), .v (.int .i64 0), .v (.int .i64 0), .v (.int .i64 0), .v (.int .i64 0), .v (.slice none 0 0)]] (fun rx rK rt => rx = .val (.bool true) ∧ rK = [] ∧ rt = 0) := Y.con_eval ftabOk tabOk mixOk 40 12 (by kernel_rfl) (by rfl) (by kernel_rfl)
theorem right_1_1_2 : Con Try.prog 11 [.agg [.v (.int .i64 1), .v (.int .i64 1), .v (.int .i64 2), .v (.bool false), .v (.slice none 0 0), .v (.int .i64 0), .v (.int .i64 0), .v (.int .i64 0), .v (.int .i64 0), .v (.int .i64 0), .v (.int .i64 0), .v (.int .i64 0), .v (.int .i64 0), .v (.slice none 0 0)]] (fun rx rK rt => rx = .val (.bool true) ∧ rK = [] ∧ rt = 0) := Y.con_eval ftabOk tabOk mixOk 40 12 (by kernel_rfl) (by rfl) (by kernel_rfl)
theorem right_1_0_3 : Con Try.prog 11 [.agg [.v (.int .i64 1), .v (.int .i64 0), .v (.int .i64 3), .v (.bool false), .v (.slice none 0 0), .v (.int .i64 0), .v (.int .i64 0), .v (.int .i64 0), .v (.int .i64 0), .v (.int .i64 0), .v (.int .i64 0), .v (.int .i64 0), .v (.int .i64 0), .v (.slice none 0 0)]] (fun rx rK rt => rx = .val (.bool true) ∧ rK = [] ∧ rt = 0) := Y.con_eval ftabOk tabOk mixOk 40 12 (by kernel_rfl) (by rfl) (by kernel_rfl)
theorem right_1_1_3 : Con Try.prog 11 [.agg [.v (.int .i64 1), .v (.int .i64 1), .v (.int .i64 3), .v (.bool false), .v (.slice none 0 0), .v (.int .i64 0), .v (.int .i64 0), .v (.int .i64 0), .v (.int .i64 0), .v (.int .i64 0), .v (.int .i64 0), .v (.int .i64 0), .v (.int .i64 0), .v (.slice none 0 0)]] (fun rx rK rt => rx = .val (.bool true) ∧ rK = [] ∧ rt = 0) := Y.con_eval ftabOk tabOk mixOk 40 12 (by kernel_rfl) (by rfl) (by kernel_rfl)
theorem right_1_2_3 : Con Try.prog 11 [.agg [.v (.int .i64 1), .v (.int .i64 2), .v (.int .i64 3), .v (.bool false), .v (.slice none 0 0), .v (.int .i64 0), .v (.int .i64 0), .v (.int .i64 0), .v (.int .i64 0), .v (.int .i64 0), .v (.int .i64 0), .v (.int .i64 0), .v (.int .i64 0), .v (.slice none 0 0)]] (fun rx rK rt => rx = .val (.bool true) ∧ rK = [] ∧ rt = 0) := Y.con_eval ftabOk tabOk mixOk 40 12 (by kernel_rfl) (by rfl) (by kernel_rfl)
theorem right_2_0_1 : Con Try.prog 11 [.agg [.v (.int .i64 2), .v (.int .i64 0), .v (.int .i64 1), .v (.bool false), .v (.slice none 0 0), .v (.int .i64 0), .v (.int .i64 0), .v (.int .i64 0), .v (.int .i64 0), .v (.int .i64 0), .v (.int .i64 0), .v (.int .i64 0), .v (.int .i64 0), .v (.slice none 0 0)]] (fun rx rK rt => rx = .val (.bool true) ∧ rK = [] ∧ rt = 0) := Y.con_eval ftabOk tabOk mixOk 40 12 (by kernel_rfl) (by rfl) (by kernel_rfl)
theorem right_2_0_2 : Con Try.prog 11 [.agg [.v (.int .i64 2), .v (.int .i64 0), .v (.int .i64 2), .v (.bool false), .v (.slice none 0 0), .v (.int .i64 0), .v (.int .i64 0), .v (.int .i64 0), .v (.int .i64 0), .v (.int .i64 0), .v (.int .i64 0), .v (.int .i64 0), .v (.int .i64 0), .v (.slice none 0 0)]] (fun rx rK rt => rx = .val (.bool true) ∧ rK = [] ∧ rt = 0) := Y.con_eval ftabOk tabOk mixOk 40 12 (by kernel_rfl) (by rfl) (by kernel_rfl)
theorem right_2_1_2 : Con Try.prog 11 [.agg [.v (.int .i64 2), .v (.int .i64 1), .v (.int .i64 2), .v (.bool false), .v (.slice none 0 0), .v (.int .i64 0), .v (.int .i64 0), .v (.int .i64 0), .v (.int .i64 0), .v (.int .i64 0), .v (.int .i64 0), .v (.int .i64 0), .v (.int .i64 0), .v (.slice none 0 0)]] (fun rx rK rt => rx = .val (.bool true) ∧ rK = [] ∧ rt = 0) := Y.con_eval ftabOk tabOk mixOk 40 12 (by kernel_rfl) (by rfl) (by kernel_rfl)
theorem right_2_0_3 : Con Try.prog 11 [.agg [.v (.int .i64 2), .v (.int .i64 0), .v (.int .i64 3), .v (.bool false), .v (.slice none 0 0), .v (.int .i64 0), .v (.int .i64 0), .v (.int .i64 0), .v (.int .i64 0), .v (.int .i64 0), .v (.int .i64 0), .v (.int .i64 0), .v (.int .i64 0), .v (.slice none 0 0)]] (fun rx rK rt => rx = .val (.bool true) ∧ rK = [] ∧ rt = 0) := Y.con_eval ftabOk tabOk mixOk 40 12 (by kernel_rfl) (by rfl) (by kernel_rfl)
theorem right_2_1_3 : Con Try.prog 11 [.agg [.v (.int .i64 2), .v (.int .i64 1), .v (.int .i64 3), .v (.bool false), .v (.slice none 0 0), .v (.int .i64 0), .v (.int .i64 0), .v (.int .i64 0), .v (.int .i64 0), .v (.int .i64 0), .v (.int .i64 0), .v (.int .i64 0), .v (.int .i64 0), .v (.slice none 0 0)]] (fun rx rK rt => rx = .val (.bool true) ∧ rK = [] ∧ rt = 0) := Y.con_eval ftabOk tabOk mixOk 40 12 (by kernel_rfl) (by rfl) (by kernel_rfl)
theorem right_2_2_3 : Con Try.prog 11 [.agg [.v (.int .i64 2), .v (.int .i64 2), .v (.int .i64 3), .v (.bool false), .v (.slice none 0 0), .v (.int .i64 0), .v (.int .i64 0), .v (.int .i64 0), .v (.int .i64 0), .v (.int .i64 0), .v (.int .i64 0), .v (.int .i64 0), .v (.int .i64 0), .v (.slice none 0 0)]] (fun rx rK rt => rx = .val (.bool true) ∧ rK = [] ∧ rt = 0) := Y.con_eval ftabOk tabOk mixOk 40 12 (by kernel_rfl) (by rfl) (by kernel_rfl)
theorem right_3_0_1 : Con Try.prog 11 [.agg [.v (.int .i64 3), .v (.int .i64 0), .v (.int .i64 1), .v (.bool false), .v (.slice none 0 0), .v (.int .i64 0), .v (.int .i64 0), .v (.int .i64 0), .v (.int .i64 0), .v (.int .i64 0), .v (.int .i64 0), .v (.int .i64 0), .v (.int .i64 0), .v (.slice none 0 0)]] (fun rx rK rt => rx = .val (.bool true) ∧ rK = [] ∧ rt = 0) := Y.con_eval ftabOk tabOk mixOk 40 12 (by kernel_rfl) (by rfl) (by kernel_rfl)
theorem right_3_0_2 : Con Try.prog 11 [.agg [.v (.int .i64 3), .v (.int .i64 0), .v (.int .i64 2), .v (.bool false), .v (.slice none 0 0), .v (.int .i64 0), .v (.int .i64 0), .v (.int .i64 0), .v (.int .i64 0), .v (.int .i64 0), .v (.int .i64 0), .v (.int .i64 0), .v (.int .i64 0), .v (.slice none 0 0)]] (fun rx rK rt => rx = .val (.bool true) ∧ rK = [] ∧ rt = 0) := Y.con_eval ftabOk tabOk mixOk 40 12 (by kernel_rfl) (by rfl) (by kernel_rfl)
theorem right_3_1_2 : Con Try.prog 11 [.agg [.v (.int .i64 3), .v (.int .i64 1), .v (.int .i64 2), .v (.bool false), .v (.slice none 0 0), .v (.int .i64 0), .v (.int .i64 0), .v (.int .i64 0), .v (.int .i64 0), .v (.int .i64 0), .v (.int .i64 0), .v (.int .i64 0), .v (.int .i64 0), .v (.slice none 0 0)]] (fun rx rK rt => rx = .val (.bool true) ∧ rK = [] ∧ rt = 0) := Y.con_eval ftabOk tabOk mixOk 40 12 (by kernel_rfl) (by rfl) (by kernel_rfl)
theorem right_3_0_3 : Con Try.prog 11 [.agg [.v (.int .i64 3), .v (.int .i64 0), .v (.int .i64 3), .v (.bool false), .v (.slice none 0 0), .v (.int .i64 0), .v (.int .i64 0), .v (.int .i64 0), .v (.int .i64 0), .v (.int .i64 0), .v (.int .i64 0), .v (.int .i64 0), .v (.int .i64 0), .v (.slice none 0 0)]] (fun rx rK rt => rx = .val (.bool true) ∧ rK = [] ∧ rt = 0) := Y.con_eval ftabOk tabOk mixOk 40 12 (by kernel_rfl) (by rfl) (by kernel_rfl)
theorem right_3_1_3 : Con Try.prog 11 [.agg [.v (.int .i64 3), .v (.int .i64 1), .v (.int .i64 3), .v (.bool false), .v (.slice none 0 0), .v (.int .i64 0), .v (.int .i64 0), .v (.int .i64 0), .v (.int .i64 0), .v (.int .i64 0), .v (.int .i64 0), .v (.int .i64 0), .v (.int .i64 0), .v (.slice none 0 0)]] (fun rx rK rt => rx = .val (.bool true) ∧ rK = [] ∧ rt = 0) := Y.con_eval ftabOk tabOk mixOk 40 12 (by kernel_rfl) (by rfl) (by kernel_rfl)
theorem right_3_2_3 : Con Try.prog 11 [.agg [.v (.int .i64 3), .v (.int .i64 2), .v (.int .i64 3), .v (.bool false), .v (.slice none 0 0), .v (.int .i64 0), .v (.int .i64 0), .v (.int .i64 0), .v (.int .i64 0), .v (.int .i64 0), .v (.int .i64 0), .v (.int .i64 0), .v (.int .i64 0), .v (.slice none 0 0)]] (fun rx rK rt => rx = .val (.bool true) ∧ rK = [] ∧ rt = 0) := Y.con_eval ftabOk tabOk mixOk 40 12 (by kernel_rfl) (by rfl) (by kernel_rfl)
theorem right_4_0_1 : Con Try.prog 11 [.agg [.v (.int .i64 4), .v (.int .i64 0), .v (.int .i64 1), .v (.bool false), .v (.slice none 0 0), .v (.int .i64 0), .v (.int .i64 0), .v (.int .i64 0), .v (.int .i64 0), .v (.int .i64 0), .v (.int .i64 0), .v (.int .i64 0), .v (.int .i64 0), .v (.slice none 0 0)]] (fun rx rK rt => rx = .val (.bool true) ∧ rK = [] ∧ rt = 0) := Y.con_eval ftabOk tabOk mixOk 40 12 (by kernel_rfl) (by rfl) (by kernel_rfl)
theorem right_4_0_2 : Con Try.prog 11 [.agg [.v (.int .i64 4), .v (.int .i64 0), .v (.int .i64 2), .v (.bool false), .v (.slice none 0 0), .v (.int .i64 0), .v (.int .i64 0), .v (.int .i64 0), .v (.int .i64 0), .v (.int .i64 0), .v (.int .i64 0), .v (.int .i64 0), .v (.int .i64 0), .v (.slice none 0 0)]] (fun rx rK rt => rx = .val (.bool true) ∧ rK = [] ∧ rt = 0) := Y.con_eval ftabOk tabOk mixOk 40 12 (by kernel_rfl) (by rfl) (by kernel_rfl)
theorem right_4_1_2 : Con Try.prog 11 [.agg [.v (.int .i64 4), .v (.int .i64 1), .v (.int .i64 2), .v (.bool false), .v (.slice none 0 0), .v (.int .i64 0), .v (.int .i64 0), .v (.int .i64 0), .v (.int .i64 0), .v (.int .i64 0), .v (.int .i64 0), .v (.int .i64 0), .v (.int .i64 0), .v (.slice none 0 0)]] (fun rx rK rt => rx = .val (.bool true) ∧ rK = [] ∧ rt = 0) := Y.con_eval ftabOk tabOk mixOk 40 12 (by kernel_rfl) (by rfl) (by kernel_rfl)
theorem right_4_0_3 : Con Try.prog 11 [.agg [.v (.int .i64 4), .v (.int .i64 0), .v (.int .i64 3), .v (.bool false), .v (.slice none 0 0), .v (.int .i64 0), .v (.int .i64 0), .v (.int .i64 0), .v (.int .i64 0), .v (.int .i64 0), .v (.int .i64 0), .v (.int .i64 0), .v (.int .i64 0), .v (.slice none 0 0)]] (fun rx rK rt => rx = .val (.bool true) ∧ rK = [] ∧ rt = 0) := Y.con_eval ftabOk tabOk mixOk 40 12 (by kernel_rfl) (by rfl) (by kernel_rfl)
theorem right_4_1_3 : Con Try.prog 11 [.agg [.v (.int .i64 4), .v (.int .i64 1), .v (.int .i64 3), .v (.bool false), .v (.slice none 0 0), .v (.int .i64 0), .v (.int .i64 0), .v (.int .i64 0), .v (.int .i64 0), .v (.int .i64 0), .v (.int .i64 0), .v (.int .i64 0), .v (.int .i64 0), .v (.slice none 0 0)]] (fun rx rK rt => rx = .val (.bool true) ∧ rK = [] ∧ rt = 0) := Y.con_eval ftabOk tabOk mixOk 40 12 (by kernel_rfl) (by rfl) (by kernel_rfl)
theorem right_4_2_3 : Con Try.prog 11 [.agg [.v (.int .i64 4), .v (.int .i64 2), .v (.int .i64 3), .v (.bool false), .v (.slice none 0 0), .v (.int .i64 0), .v (.int .i64 0), .v (.int .i64 0), .v (.int .i64 0), .v (.int .i64 0), .v (.int .i64 0), .v (.int .i64 0), .v (.int .i64 0), .v (.slice none 0 0)]] (fun rx rK rt => rx = .val (.bool true) ∧ rK = [] ∧ rt = 0) := Y.con_eval ftabOk tabOk mixOk 40 12 (by kernel_rfl) (by rfl) (by kernel_rfl)
theorem right_5_0_1 : Con Try.prog 11 [.agg [.v (.int .i64 5), .v (.int .i64 0), .v (.int .i64 1), .v (.bool false), .v (.slice none 0 0), .v (.int .i64 0), .v (.int .i64 0), .v (.int .i64 0), .v (.int .i64 0), .v (.int .i64 0), .v (.int .i64 0), .v (.int .i64 0), .v (.int .i64 0), .v (.slice none 0 0)]] (fun rx rK rt => rx = .val (.bool true) ∧ rK = [] ∧ rt = 0) := Y.con_eval ftabOk tabOk mixOk 40 12 (by kernel_rfl) (by rfl) (by kernel_rfl)
theorem right_5_0_2 : Con Try.prog 11 [.agg [.v (.int .i64 5), .v (.int .i64 0), .v (.int .i64 2), .v (.bool false), .v (.slice none 0 0), .v (.int .i64 0), .v (.int .i64 0), .v (.int .i64 0), .v (.int .i64 0), .v (.int .i64 0), .v (.int .i64 0), .v (.int .i64 0), .v (.int .i64 0), .v (.slice none 0 0)]] (fun rx rK rt => rx = .val (.bool true) ∧ rK = [] ∧ rt = 0) := Y.con_eval ftabOk tabOk mixOk 40 12 (by kernel_rfl) (by rfl) (by kernel_rfl)
theorem right_5_1_2 : Con Try.prog 11 [.agg [.v (.int .i64 5), .v (.int .i64 1), .v (.int .i64 2), .v (.bool false), .v (.slice none 0 0), .v (.int .i64 0), .v (.int .i64 0), .v (.int .i64 0), .v (.int .i64 0), .v (.int .i64 0), .v (.int .i64 0), .v (.int .i64 0), .v (.int .i64 0), .v (.slice none 0 0)]] (fun rx rK rt => rx = .val (.bool true) ∧ rK = [] ∧ rt = 0) := Y.con_eval ftabOk tabOk mixOk 40 12 (by kernel_rfl) (by rfl) (by kernel_rfl)
theorem right_5_0_3 : Con Try.prog 11 [.agg [.v (.int .i64 5), .v (.int .i64 0), .v (.int .i64 3), .v (.bool false), .v (.slice none 0 0), .v (.int .i64 0), .v (.int .i64 0), .v (.int .i64 0), .v (.int .i64 0), .v (.int .i64 0), .v (.int .i64 0), .v (.int .i64 0), .v (.int .i64 0), .v (.slice none 0 0)]] (fun rx rK rt => rx = .val (.bool true) ∧ rK = [] ∧ rt = 0) := Y.con_eval ftabOk tabOk mixOk 40 12 (by kernel_rfl) (by rfl) (by kernel_rfl)
theorem right_5_1_3 : Con Try.prog 11 [.agg [.v (.int .i64 5), .v (.int .i64 1), .v (.int .i64 3), .v (.bool false), .v (.slice none 0 0), .v (.int .i64 0), .v (.int .i64 0), .v (.int .i64 0), .v (.int .i64 0), .v (.int .i64 0), .v (.int .i64 0), .v (.int .i64 0), .v (.int .i64 0), .v (.slice none 0 0)]] (fun rx rK rt => rx = .val (.bool true) ∧ rK = [] ∧ rt = 0) := Y.con_eval ftabOk tabOk mixOk 40 12 (by kernel_rfl) (by rfl) (by kernel_rfl)
theorem right_5_2_3 : Con Try.prog 11 [.agg [.v (.int .i64 5), .v (.int .i64 2), .v (.int .i64 3), .v (.bool false), .v (.slice none 0 0), .v (.int .i64 0), .v (.int .i64 0), .v (.int .i64 0), .v (.int .i64 0), .v (.int .i64 0), .v (.int .i64 0), .v (.int .i64 0), .v (.int .i64 0), .v (.slice none 0 0)]] (fun rx rK rt => rx = .val (.bool true) ∧ rK = [] ∧ rt = 0) := Y.con_eval ftabOk tabOk mixOk 40 12 (by kernel_rfl) (by rfl) (by kernel_rfl)
theorem right_6_0_1 : Con Try.prog 11 [.agg [.v (.int .i64 6), .v (.int .i64 0), .v (.int .i64 1), .v (.bool false), .v (.slice none 0 0), .v (.int .i64 0), .v (.int .i64 0), .v (.int .i64 0), .v (.int .i64 0), .v (.int .i64 0), .v (.int .i64 0), .v (.int .i64 0), .v (.int .i64 0), .v (.slice none 0 0)]] (fun rx rK rt => rx = .val (.bool true) ∧ rK = [] ∧ rt = 0) := Y.con_eval ftabOk tabOk mixOk 40 12 (by kernel_rfl) (by rfl) (by kernel_rfl)
theorem right_6_0_2 : Con Try.prog 11 [.agg [.v (.int .i64 6), .v (.int .i64 0), .v (.int .i64 2), .v (.bool false), .v (.slice none 0 0), .v (.int .i64 0), .v (.int .i64 0), .v (.int .i64 0), .v (.int .i64 0), .v (.int .i64 0), .v (.int .i64 0), .v (.int .i64 0), .v (.int .i64 0), .v (.slice none 0 0)]] (fun rx rK rt => rx = .val (.bool true) ∧ rK = [] ∧ rt = 0) := Y.con_eval ftabOk tabOk mixOk 40 12 (by kernel_rfl) (by rfl) (by kernel_rfl)
theorem right_6_1_2 : Con Try.prog 11 [.agg [.v (.int .i64 6), .v (.int .i64 1), .v (.int .i64 2), .v (.bool false), .v (.slice none 0 0), .v (.int .i64 0), .v (.int .i64 0), .v (.int .i64 0), .v (.int .i64 0), .v (.int .i64 0), .v (.int .i64 0), .v (.int .i64 0), .v (.int .i64 0), .v (.slice none 0 0)]] (fun rx rK rt => rx = .val (.bool true) ∧ rK = [] ∧ rt = 0) := Y.con_eval ftabOk tabOk mixOk 40 12 (by kernel_rfl) (by rfl) (by kernel_rfl)
theorem right_6_0_3 : Con Try.prog 11 [.agg [.v (.int .i64 6), .v (.int .i64 0), .v (.int .i64 3), .v (.bool false), .v (.slice none 0 0), .v (.int .i64 0), .v (.int .i64 0), .v (.int .i64 0), .v (.int .i64 0), .v (.int .i64 0), .v (.int .i64 0), .v (.int .i64 0), .v (.int .i64 0), .v (.slice none 0 0)]] (fun rx rK rt => rx = .val (.bool true) ∧ rK = [] ∧ rt = 0) := Y.con_eval ftabOk tabOk mixOk 40 12 (by kernel_rfl) (by rfl) (by kernel_rfl)
theorem right_6_1_3 : Con Try.prog 11 [.agg [.v (.int .i64 6), .v (.int .i64 1), .v (.int .i64 3), .v (.bool false), .v (.slice none 0 0), .v (.int .i64 0), .v (.int .i64 0), .v (.int .i64 0), .v (.int .i64 0), .v (.int .i64 0), .v (.int .i64 0), .v (.int .i64 0), .v (.int .i64 0), .v (.slice none 0 0)]] (fun rx rK rt => rx = .val (.bool true) ∧ rK = [] ∧ rt = 0) := Y.con_eval ftabOk tabOk mixOk 40 12 (by kernel_rfl) (by rfl) (by kernel_rfl)
theorem right_6_2_3 : Con Try.prog 11 [.agg [.v (.int .i64 6), .v (.int .i64 2), .v (.int .i64 3), .v (.bool false), .v (.slice none 0 0), .v (.int .i64 0), .v (.int .i64 0), .v (.int .i64 0), .v (.int .i64 0), .v (.int .i64 0), .v (.int .i64 0), .v (.int .i64 0), .v (.int .i64 0), .v (.slice none 0 0)]] (fun rx rK rt => rx = .val (.bool true) ∧ rK = [] ∧ rt = 0) := Y.con_eval ftabOk tabOk mixOk 40 12 (by kernel_rfl) (by rfl) (by kernel_rfl)
theorem right_7_0_1 : Con Try.prog 11 [.agg [.v (.int .i64 7), .v (.int .i64 0), .v (.int .i64 1), .v (.bool false), .v (.slice none 0 0), .v (.int .i64 0), .v (.int .i64 0), .v (.int .i64 0), .v (.int .i64 0), .v (.int .i64 0), .v (.int .i64 0), .v (.int .i64 0), .v (.int .i64 0), .v (.slice none 0 0)]] (fun rx rK rt => rx = .val (.bool true) ∧ rK = [] ∧ rt = 0) := Y.con_eval ftabOk tabOk mixOk 40 12 (by kernel_rfl) (by rfl) (by kernel_rfl)
theorem right_7_0_2 : Con Try.prog 11 [.agg [.v (.int .i64 7), .v (.int .i64 0), .v (.int .i64 2), .v (.bool false), .v (.slice none 0 0), .v (.int .i64 0), .v (.int .i64 0), .v (.int .i64 0), .v (.int .i64 0), .v (.int .i64 0), .v (.int .i64 0), .v (.int .i64 0), .v (.int .i64 0), .v (.slice none 0 0)]] (fun rx rK rt => rx = .val (.bool true) ∧ rK = [] ∧ rt = 0) := Y.con_eval ftabOk tabOk mixOk 40 12 (by kernel_rfl) (by rfl) (by kernel_rfl)
theorem right_7_1_2 : Con Try.prog 11 [.agg [.v (.int .i64 7), .v (.int .i64 1), .v (.int .i64 2), .v (.bool false), .v (.slice none 0 0), .v (.int .i64 0), .v (.int .i64 0), .v (.int .i64 0), .v (.int .i64 0), .v (.int .i64 0), .v (.int .i64 0), .v (.int .i64 0), .v (.int .i64 0), .v (.slice none 0 0)]] (fun rx rK rt => rx = .val (.bool true) ∧ rK = [] ∧ rt = 0) := Y.con_eval ftabOk tabOk mixOk 40 12 (by kernel_rfl) (by rfl) (by kernel_rfl)
theorem right_7_0_3 : Con Try.prog 11 [.agg [.v (.int .i64 7), .v (.int .i64 0), .v (.int .i64 3), .v (.bool false), .v (.slice none 0 0), .v (.int .i64 0), .v (.int .i64 0), .v (.int .i64 0), .v (.int .i64 0), .v (.int .i64 0), .v (.int .i64 0), .v (.int .i64 0), .v (.int .i64 0), .v (.slice none 0 0)]] (fun rx rK rt => rx = .val (.bool true) ∧ rK = [] ∧ rt = 0) := Y.con_eval ftabOk tabOk mixOk 40 12 (by kernel_rfl) (by rfl) (by kernel_rfl)
theorem right_7_1_3 : Con Try.prog 11 [.agg [.v (.int .i64 7), .v (.int .i64 1), .v (.int .i64 3), .v (.bool false), .v (.slice none 0 0), .v (.int .i64 0), .v (.int .i64 0), .v (.int .i64 0), .v (.int .i64 0), .v (.int .i64 0), .v (.int .i64 0), .v (.int .i64 0), .v (.int .i64 0), .v (.slice none 0 0)]] (fun rx rK rt => rx = .val (.bool true) ∧ rK = [] ∧ rt = 0) := Y.con_eval ftabOk tabOk mixOk 40 12 (by kernel_rfl) (by rfl) (by kernel_rfl)
theorem right_7_2_3 : Con Try.prog 11 [.agg [.v (.int .i64 7), .v (.int .i64 2), .v (.int .i64 3), .v (.bool false), .v (.slice none 0 0), .v (.int .i64 0), .v (.int .i64 0), .v (.int .i64 0), .v (.int .i64 0), .v (.int .i64 0), .v (.int .i64 0), .v (.int .i64 0), .v (.int .i64 0), .v (.slice none 0 0)]] (fun rx rK rt => rx = .val (.bool true) ∧ rK = [] ∧ rt = 0) := Y.con_eval ftabOk tabOk mixOk 40 12 (by kernel_rfl) (by rfl) (by kernel_rfl)
theorem right_ok (o i w : Int) (h : okZ o i w) : Con Try.prog 11 [.agg [.v (.int .i64 o), .v (.int .i64 i), .v (.int .i64 w), .v (.bool false), .v (.slice none 0 0), .v (.int .i64 0), .v (.int .i64 0), .v (.int .i64 0), .v (.int .i64 0), .v (.int .i64 0), .v (.int .i64 0), .v (.int .i64 0), .v (.int .i64 0), .v (.slice none 0 0)]] (fun rx rK rt => rx = .val (.bool true) ∧ rK = [] ∧ rt = 0) := by
  have h1 : o = 0 ∨ o = 1 ∨ o = 2 ∨ o = 3 ∨ o = 4 ∨ o = 5 ∨ o = 6 ∨ o = 7 := by unfold okZ at h; omega
  have h2 : (i = 0 ∧ w = 1) ∨ (i = 0 ∧ w = 2) ∨ (i = 1 ∧ w = 2) ∨ (i = 0 ∧ w = 3) ∨ (i = 1 ∧ w = 3) ∨ (i = 2 ∧ w = 3) := by unfold okZ at h; omega
  rcases h1 with rfl | rfl | rfl | rfl | rfl | rfl | rfl | rfl <;> rcases h2 with ⟨rfl, rfl⟩ | ⟨rfl, rfl⟩ | ⟨rfl, rfl⟩ | ⟨rfl, rfl⟩ | ⟨rfl, rfl⟩ | ⟨rfl, rfl⟩
  · exact right_0_0_1
  · exact right_0_0_2
  · exact right_0_1_2
  · exact right_0_0_3
  · exact right_0_1_3
  · exact right_0_2_3
  · exact right_1_0_1
  · exact right_1_0_2
  · exact right_1_1_2
  · exact right_1_0_3
  · exact right_1_1_3
  · exact right_1_2_3
  · exact right_2_0_1
  · exact right_2_0_2
  · exact right_2_1_2
  · exact right_2_0_3
  · exact right_2_1_3
  · exact right_2_2_3
  · exact right_3_0_1
  · exact right_3_0_2
  · exact right_3_1_2
  · exact right_3_0_3
  · exact right_3_1_3
  · exact right_3_2_3
  · exact right_4_0_1
  · exact right_4_0_2
  · exact right_4_1_2
  · exact right_4_0_3
  · exact right_4_1_3
  · exact right_4_2_3
  · exact right_5_0_1
  · exact right_5_0_2
  · exact right_5_1_2
  · exact right_5_0_3
  · exact right_5_1_3
  · exact right_5_2_3
  · exact right_6_0_1
  · exact right_6_0_2
  · exact right_6_1_2
  · exact right_6_0_3
  · exact right_6_1_3
  · exact right_6_2_3
  · exact right_7_0_1
  · exact right_7_0_2
  · exact right_7_1_2
  · exact right_7_0_3
  · exact right_7_1_3
  · exact right_7_2_3
theorem same_0_0_1 : Con Try.prog 12 [.agg [.v (.int .i64 0), .v (.int .i64 0), .v (.int .i64 1), .v (.bool false), .v (.slice none 0 0), .v (.int .i64 0), .v (.int .i64 0), .v (.int .i64 0), .v (.int .i64 0), .v (.int .i64 0), .v (.int .i64 0), .v (.int .i64 0), .v (.int .i64 0), .v (.slice none 0 0)], .agg [.v (.int .i64 0), .v (.int .i64 0), .v (.int .i64 1), .v (.bool false), .v (.slice none 0 0), .v (.int .i64 0), .v (.int .i64 0), .v (.int .i64 0), .v (.int .i64 0), .v (.int .i64 0), .v (.int .i64 0), .v (.int .i64 0), .v (.int .i64 0), .v (.slice none 0 0)]] (fun rx rK rt => rx = .val (.bool true) ∧ rK = [] ∧ rt = 0) := Y.con_eval ftabOk tabOk mixOk 40 12 (by kernel_rfl) (by rfl) (by kernel_rfl)
theorem same_0_0_2 : Con Try.prog 12 [.agg [.v (.int .i64 0), .v (.int .i64 0), .v (.int .i64 2), .v (.bool false), .v (.slice none 0 0), .v (.int .i64 0), .v (.int .i64 0), .v (.int .i64 0), .v (.int .i64 0), .v (.int .i64 0), .v (.int .i64 0), .v (.int .i64 0), .v (.int .i64 0), .v (.slice none 0 0)], .agg [.v (.int .i64 0), .v (.int .i64 0), .v (.int .i64 2), .v (.bool false), .v (.slice none 0 0), .v (.int .i64 0), .v (.int .i64 0), .v (.int .i64 0), .v (.int .i64 0), .v (.int .i64 0), .v (.int .i64 0), .v (.int .i64 0), .v (.int .i64 0), .v (.slice none 0 0)]] (fun rx rK rt => rx = .val (.bool true) ∧ rK = [] ∧ rt = 0) := Y.con_eval ftabOk tabOk mixOk 40 12 (by kernel_rfl) (by rfl) (by kernel_rfl)
theorem same_0_1_2 : Con Try.prog 12 [.agg [.v (.int .i64 0), .v (.int .i64 1), .v (.int .i64 2), .v (.bool false), .v (.slice none 0 0), .v (.int .i64 0), .v (.int .i64 0), .v (.int .i64 0), .v (.int .i64 0), .v (.int .i64 0), .v (.int .i64 0), .v (.int .i64 0), .v (.int .i64 0), .v (.slice none 0 0)], .agg [.v (.int .i64 0), .v (.int .i64 1), .v (.int .i64 2), .v (.bool false), .v (.slice none 0 0), .v (.int .i64 0), .v (.int .i64 0), .v (.int .i64 0), .v (.int .i64 0), .v (.int .i64 0), .v (.int .i64 0), .v (.int .i64 0), .v (.int .i64 0), .v (.slice none 0 0)]] (fun rx rK rt => rx = .val (.bool true) ∧ rK = [] ∧ rt = 0) := Y.con_eval ftabOk tabOk mixOk 40 12 (by kernel_rfl) (by rfl) (by kernel_rfl)
theorem same_0_0_3 : Con Try.prog 12 [.agg [.v (.int .i64 0), .v (.int .i64 0), .v (.int .i64 3), .v (.bool false), .v (.slice none 0 0), .v (.int .i64 0), .v (.int .i64 0), .v (.int .i64 0), .v (.int .i64 0), .v (.int .i64 0), .v (.int .i64 0), .v (.int .i64 0), .v (.int .i64 0), .v (.slice none 0 0)], .agg [.v (.int .i64 0), .v (.int .i64 0), .v (.int .i64 3), .v (.bool false), .v (.slice none 0 0), .v (.int .i64 0), .v (.int .i64 0), .v (.int .i64 0), .v (.int .i64 0), .v (.int .i64 0), .v (.int .i64 0), .v (.int .i64 0), .v (.int .i64 0), .v (.slice none 0 0)]] (fun rx rK rt => rx = .val (.bool true) ∧ rK = [] ∧ rt = 0) := Y.con_eval ftabOk tabOk mixOk 40 12 (by kernel_rfl) (by rfl) (by kernel_rfl)
theorem same_0_1_3 : Con Try.prog 12 [.agg [.v (.int .i64 0), .v (.int .i64 1), .v (.int .i64 3), .v (.bool false), .v (.slice none 0 0), .v (.int .i64 0), .v (.int .i64 0), .v (.int .i64 0), .v (.int .i64 0), .v (.int .i64 0), .v (.int .i64 0), .v (.int .i64 0), .v (.int .i64 0), .v (.slice none 0 0)], .agg [.v (.int .i64 0), .v (.int .i64 1), .v (.int .i64 3), .v (.bool false), .v (.slice none 0 0), .v (.int .i64 0), .v (.int .i64 0), .v (.int .i64 0), .v (.int .i64 0), .v (.int .i64 0), .v (.int .i64 0), .v (.int .i64 0), .v (.int .i64 0), .v (.slice none 0 0)]] (fun rx rK rt => rx = .val (.bool true) ∧ rK = [] ∧ rt = 0) := Y.con_eval ftabOk tabOk mixOk 40 12 (by kernel_rfl) (by rfl) (by kernel_rfl)
theorem same_0_2_3 : Con Try.prog 12 [.agg [.v (.int .i64 0), .v (.int .i64 2), .v (.int .i64 3), .v (.bool false), .v (.slice none 0 0), .v (.int .i64 0), .v (.int .i64 0), .v (.int .i64 0), .v (.int .i64 0), .v (.int .i64 0), .v (.int .i64 0), .v (.int .i64 0), .v (.int .i64 0), .v (.slice none 0 0)], .agg [.v (.int .i64 0), .v (.int .i64 2), .v (.int .i64 3), .v (.bool false), .v (.slice none 0 0), .v (.int .i64 0), .v (.int .i64 0), .v (.int .i64 0), .v (.int .i64 0), .v (.int .i64 0), .v (.int .i64 0), .v (.int .i64 0), .v (.int .i64 0), .v (.slice none 0 0)]] (fun rx rK rt => rx = .val (.bool true) ∧ rK = [] ∧ rt = 0) := Y.con_eval ftabOk tabOk mixOk 40 12 (by kernel_rfl) (by rfl) (by kernel_rfl)
theorem same_1_0_1 : Con Try.prog 12 [.agg [.v (.int .i64 1), .v (.int .i64 0), .v (.int .i64 1), .v (.bool false), .v (.slice none 0 0), .v (.int .i64 0), .v (.int .i64 0), .v (.int .i64 0), .v (.int .i64 0), .v (.int .i64 0), .v (.int .i64 0), .v (.int .i64 0), .v (.int .i64 0), .v (.slice none 0 0)], .agg [.v (.int .i64 1), .v (.int .i64 0), .v (.int .i64 1), .v (.bool false), .v (.slice none 0 0), .v (.int .i64 0), .v (.int .i64 0), .v (.int .i64 0), .v (.int .i64 0), .v (.int .i64 0), .v (.int .i64 0), .v (.int .i64 0), .v (.int .i64 0), .v (.slice none 0 0)]] (fun rx rK rt => rx = .val (.bool true) ∧ rK = [] ∧ rt = 0) := Y.con_eval ftabOk tabOk mixOk 40 12 (by kernel_rfl) (by rfl) (by kernel_rfl)
theorem same_1_0_2 : Con Try.prog 12 [.agg [.v (.int .i64 1), .v (.int .i64 0), .v (.int .i64 2), .v (.bool false), .v (.slice none 0 0), .v (.int .i64 0), .v (.int .i64 0), .v (.int .i64 0), .v (.int .i64 0), .v (.int .i64 0), .v (.int .i64 0), .v (.int .i64 0), .v (.int .i64 0), .v (.slice none 0 0)], .agg [.v (.int .i64 1), .v (.int .i64 0), .v (.int .i64 2), .v (.bool false), .v (.slice none 0 0), .v (.int .i64 0), .v (.int .i64 0), .v (.int .i64 0), .v (.int .i64 0), .v (.int .i64 0), .v (.int .i64 0), .v (.int .i64 0), .v (.int .i64 0), .v (.slice none 0 0)]] (fun rx rK rt => rx = .val (.bool true) ∧ rK = [] ∧ rt = 0) := Y.con_eval ftabOk tabOk mixOk 40 12 (by kernel_rfl) (by rfl) (by kernel_rfl)
theorem same_1_1_2 : Con Try.prog 12 [.agg [.v (.int .i64 1), .v (.int .i64 1), .v (.int .i64 2), .v (.bool false), .v (.slice none 0 0), .v (.int .i64 0), .v (.int .i64 0), .v (.int .i64 0), .v (.int .i64 0), .v (.int .i64 0), .v (.int .i64 0), .v (.int .i64 0), .v (.int .i64 0), .v (.slice none 0 0)], .agg [.v (.int .i64 1), .v (.int .i64 1), .v (.int .i64 2), .v (.bool false), .v (.slice none 0 0), .v (.int .i64 0), .v (.int .i64 0), .v (.int .i64 0), .v (.int .i64 0), .v (.int .i64 0), .v (.int .i64 0), .v (.int .i64 0), .v (.int .i64 0), .v (.slice none 0 0)]] (fun rx rK rt => rx = .val (.bool true) ∧ rK = [] ∧ rt = 0) := Y.con_eval ftabOk tabOk mixOk 40 12 (by kernel_rfl) (by rfl) (by kernel_rfl)
theorem same_1_0_3 : Con Try.prog 12 [.agg [.v (.int .i64 1), .v (.int .i64 0), .v (.int .i64 3), .v (.bool false), .v (.slice none 0 0), .v (.int .i64 0), .v (.int .i64 0), .v (.int .i64 0), .v (.int .i64 0), .v (.int .i64 0), .v (.int .i64 0), .v (.int .i64 0), .v (.int .i64 0), .v (.slice none 0 0)], .agg [.v (.int .i64 1), .v (.int .i64 0), .v (.int .i64 3), .v (.bool false), .v (.slice none 0 0), .v (.int .i64 0), .v (.int .i64 0), .v (.int .i64 0), .v (.int .i64 0), .v (.int .i64 0), .v (.int .i64 0), .v (.int .i64 0), .v (.int .i64 0), .v (.slice none 0 0)]] (fun rx rK rt => rx = .val (.bool true) ∧ rK = [] ∧ rt = 0) := Y.con_eval ftabOk tabOk mixOk 40 12 (by kernel_rfl) (by rfl) (by kernel_rfl)
theorem same_1_1_3 : Con Try.prog 12 [.agg [.v (.int .i64 1), .v (.int .i64 1), .v (.int .i64 3), .v (.bool false), .v (.slice none 0 0), .v (.int .i64 0), .v (.int .i64 0), .v (.int .i64 0), .v (.int .i64 0), .v (.int .i64 0), .v (.int .i64 0), .v (.int .i64 0), .v (.int .i64 0), .v (.slice none 0 0)], .agg [.v (.int .i64 1), .v (.int .i64 1), .v (.int .i64 3), .v (.bool false), .v (.slice none 0 0), .v (.int .i64 0), .v (.int .i64 0), .v (.int .i64 0), .v (.int .i64 0), .v (.int .i64 0), .v (.int .i64 0), .v (.int .i64 0), .v (.int .i64 0), .v (.slice none 0 0)]] (fun rx rK rt => rx = .val (.bool true) ∧ rK = [] ∧ rt = 0) := Y.con_eval ftabOk tabOk mixOk 40 12 (by kernel_rfl) (by rfl) (by kernel_rfl)
theorem same_1_2_3 : Con Try.prog 12 [.agg [.v (.int .i64 1), .v (.int .i64 2), .v (.int .i64 3), .v (.bool false), .v (.slice none 0 0), .v (.int .i64 0), .v (.int .i64 0), .v (.int .i64 0), .v (.int .i64 0), .v (.int .i64 0), .v (.int .i64 0), .v (.int .i64 0), .v (.int .i64 0), .v (.slice none 0 0)], .agg [.v (.int .i64 1), .v (.int .i64 2), .v (.int .i64 3), .v (.bool false), .v (.slice none 0 0), .v (.int .i64 0), .v (.int .i64 0), .v (.int .i64 0), .v (.int .i64 0), .v (.int .i64 0), .v (.int .i64 0), .v (.int .i64 0), .v (.int .i64 0), .v (.slice none 0 0)]] (fun rx rK rt => rx = .val (.bool true) ∧ rK = [] ∧ rt = 0) := Y.con_eval ftabOk tabOk mixOk 40 12 (by kernel_rfl) (by rfl) (by kernel_rfl)
theorem same_2_0_1 : Con Try.prog 12 [.agg [.v (.int .i64 2), .v (.int .i64 0), .v (.int .i64 1), .v (.bool false), .v (.slice none 0 0), .v (.int .i64 0), .v (.int .i64 0), .v (.int .i64 0), .v (.int .i64 0), .v (.int .i64 0), .v (.int .i64 0), .v (.int .i64 0), .v (.int .i64 0), .v (.slice none 0 0)], .agg [.v (.int .i64 2), .v (.int .i64 0), .v (.int .i64 1), .v (.bool false), .v (.slice none 0 0), .v (.int .i64 0), .v (.int .i64 0), .v (.int .i64 0), .v (.int .i64 0), .v (.int .i64 0), .v (.int .i64 0), .v (.int .i64 0), .v (.int .i64 0), .v (.slice none 0 0)]] (fun rx rK rt => rx = .val (.bool true) ∧ rK = [] ∧ rt = 0) := Y.con_eval ftabOk tabOk mixOk 40 12 (by kernel_rfl) (by rfl) (by kernel_rfl)
theorem same_2_0_2 : Con Try.prog 12 [.agg [.v (.int .i64 2), .v (.int .i64 0), .v (.int .i64 2), .v (.bool false), .v (.slice none 0 0), .v (.int .i64 0), .v (.int .i64 0), .v (.int .i64 0), .v (.int .i64 0), .v (.int .i64 0), .v (.int .i64 0), .v (.int .i64 0), .v (.int .i64 0), .v (.slice none 0 0)], .agg [.v (.int .i64 2), .v (.int .i64 0), .v (.int .i64 2), .v (.bool false), .v (.slice none 0 0), .v (.int .i64 0), .v (.int .i64 0), .v (.int .i64 0), .v (.int .i64 0), .v (.int .i64 0), .v (.int .i64 0), .v (.int .i64 0), .v (.int .i64 0), .v (.slice none 0 0)]] (fun rx rK rt => rx = .val (.bool true) ∧ rK = [] ∧ rt = 0) := Y.con_eval ftabOk tabOk mixOk 40 12 (by kernel_rfl) (by rfl) (by kernel_rfl)
theorem same_2_1_2 : Con Try.prog 12 [.agg [.v (.int .i64 2), .v (.int .i64 1), .v (.int .i64 2), .v (.bool false), .v (.slice none 0 0), .v (.int .i64 0), .v (.int .i64 0), .v (.int .i64 0), .v (.int .i64 0), .v (.int .i64 0), .v (.int .i64 0), .v (.int .i64 0), .v (.int .i64 0), .v (.slice none 0 0)], .agg [.v (.int .i64 2), .v (.int .i64 1), .v (.int .i64 2), .v (.bool false), .v (.slice none 0 0), .v (.int .i64 0), .v (.int .i64 0), .v (.int .i64 0), .v (.int .i64 0), .v (.int .i64 0), .v (.int .i64 0), .v (.int .i64 0), .v (.int .i64 0), .v (.slice none 0 0)]] (fun rx rK rt => rx = .val (.bool true) ∧ rK = [] ∧ rt = 0) := Y.con_eval ftabOk tabOk mixOk 40 12 (by kernel_rfl) (by rfl) (by kernel_rfl)
theorem same_2_0_3 : Con Try.prog 12 [.agg [.v (.int .i64 2), .v (.int .i64 0), .v (.int .i64 3), .v (.bool false), .v (.slice none 0 0), .v (.int .i64 0), .v (.int .i64 0), .v (.int .i64 0), .v (.int .i64 0), .v (.int .i64 0), .v (.int .i64 0), .v (.int .i64 0), .v (.int .i64 0), .v (.slice none 0 0)], .agg [.v (.int .i64 2), .v (.int .i64 0), .v (.int .i64 3), .v (.bool false), .v (.slice none 0 0), .v (.int .i64 0), .v (.int .i64 0), .v (.int .i64 0), .v (.int .i64 0), .v (.int .i64 0), .v (.int .i64 0), .v (.int .i64 0), .v (.int .i64 0), .v (.slice none 0 0)]] (fun rx rK rt => rx = .val (.bool true) ∧ rK = [] ∧ rt = 0) := Y.con_eval ftabOk tabOk mixOk 40 12 (by kernel_rfl) (by rfl) (by kernel_rfl)
theorem same_2_1_3 : Con Try.prog 12 [.agg [.v (.int .i64 2), .v (.int .i64 1), .v (.int .i64 3), .v (.bool false), .v (.slice none 0 0), .v (.int .i64 0), .v (.int .i64 0), .v (.int .i64 0), .v (.int .i64 0), .v (.int .i64 0), .v (.int .i64 0), .v (.int .i64 0), .v (.int .i64 0), .v (.slice none 0 0)], .agg [.v (.int .i64 2), .v (.int .i64 1), .v (.int .i64 3), .v (.bool false), .v (.slice none 0 0), .v (.int .i64 0), .v (.int .i64 0), .v (.int .i64 0), .v (.int .i64 0), .v (.int .i64 0), .v (.int .i64 0), .v (.int .i64 0), .v (.int .i64 0), .v (.slice none 0 0)]] (fun rx rK rt => rx = .val (.bool true) ∧ rK = [] ∧ rt = 0) := Y.con_eval ftabOk tabOk mixOk 40 12 (by kernel_rfl) (by rfl) (by kernel_rfl)
theorem same_2_2_3 : Con Try.prog 12 [.agg [.v (.int .i64 2), .v (.int .i64 2), .v (.int .i64 3), .v (.bool false), .v (.slice none 0 0), .v (.int .i64 0), .v (.int .i64 0), .v (.int .i64 0), .v (.int .i64 0), .v (.int .i64 0), .v (.int .i64 0), .v (.int .i64 0), .v (.int .i64 0), .v (.slice none 0 0)], .agg [.v (.int .i64 2), .v (.int .i64 2), .v (.int .i64 3), .v (.bool false), .v (.slice none 0 0), .v (.int .i64 0), .v (.int .i64 0), .v (.int .i64 0), .v (.int .i64 0), .v (.int .i64 0), .v (.int .i64 0), .v (.int .i64 0), .v (.int .i64 0), .v (.slice none 0 0)]] (fun rx rK rt => rx = .val (.bool true) ∧ rK = [] ∧ rt = 0) := Y.con_eval ftabOk tabOk mixOk 40 12 (by kernel_rfl) (by rfl) (by kernel_rfl)
theorem same_3_0_1 : Con Try.prog 12 [.agg [.v (.int .i64 3), .v (.int .i64 0), .v (.int .i64 1), .v (.bool false), .v (.slice none 0 0), .v (.int .i64 0), .v (.int .i64 0), .v (.int .i64 0), .v (.int .i64 0), .v (.int .i64 0), .v (.int .i64 0), .v (.int .i64 0), .v (.int .i64 0), .v (.slice none 0 0)], .agg [.v (.int .i64 3), .v (.int .i64 0), .v (.int .i64 1), .v (.bool false), .v (.slice none 0 0), .v (.int .i64 0), .v (.int .i64 0), .v (.int .i64 0), .v (.int .i64 0), .v (.int .i64 0), .v (.int .i64 0), .v (.int .i64 0), .v (.int .i64 0), .v (.slice none 0 0)]] (fun rx rK rt => rx = .val (.bool true) ∧ rK = [] ∧ rt = 0) := Y.con_eval ftabOk tabOk mixOk 40 12 (by kernel_rfl) (by rfl) (by kernel_rfl)
theorem same_3_0_2 : Con Try.prog 12 [.agg [.v (.int .i64 3), .v (.int .i64 0), .v (.int .i64 2), .v (.bool false), .v (.slice none 0 0), .v (.int .i64 0), .v (.int .i64 0), .v (.int .i64 0), .v (.int .i64 0), .v (.int .i64 0), .v (.int .i64 0), .v (.int .i64 0), .v (.int .i64 0), .v (.slice none 0 0)], .agg [.v (.int .i64 3), .v (.int .i64 0), .v (.int .i64 2), .v (.bool false), .v (.slice none 0 0), .v (.int .i64 0), .v (.int .i64 0), .v (.int .i64 0), .v (.int .i64 0), .v (.int .i64 0), .v (.int .i64 0), .v (.int .i64 0), .v (.int .i64 0), .v (.slice none 0 0)]] (fun rx rK rt => rx = .val (.bool true) ∧ rK = [] ∧ rt = 0) := Y.con_eval ftabOk tabOk mixOk 40 12 (by kernel_rfl) (by rfl) (by kernel_rfl)
theorem same_3_1_2 : Con Try.prog 12 [.agg [.v (.int .i64 3), .v (.int .i64 1), .v (.int .i64 2), .v (.bool false), .v (.slice none 0 0), .v (.int .i64 0), .v (.int .i64 0), .v (.int .i64 0), .v (.int .i64 0), .v (.int .i64 0), .v (.int .i64 0), .v (.int .i64 0), .v (.int .i64 0), .v (.slice none 0 0)], .agg [.v (.int .i64 3), .v (.int .i64 1), .v (.int .i64 2), .v (.bool false), .v (.slice none 0 0), .v (.int .i64 0), .v (.int .i64 0), .v (.int .i64 0), .v (.int .i64 0), .v (.int .i64 0), .v (.int .i64 0), .v (.int .i64 0), .v (.int .i64 0), .v (.slice none 0 0)]] (fun rx rK rt => rx = .val (.bool true) ∧ rK = [] ∧ rt = 0) := Y.con_eval ftabOk tabOk mixOk 40 12 (by kernel_rfl) (by rfl) (by kernel_rfl)
theorem same_3_0_3 : Con Try.prog 12 [.agg [.v (.int .i64 3), .v (.int .i64 0), .v (.int .i64 3), .v (.bool false), .v (.slice none 0 0), .v (.int .i64 0), .v (.int .i64 0), .v (.int .i64 0), .v (.int .i64 0), .v (.int .i64 0), .v (.int .i64 0), .v (.int .i64 0), .v (.int .i64 0), .v (.slice none 0 0)], .agg [.v (.int .i64 3), .v (.int .i64 0), .v (.int .i64 3), .v (.bool false), .v (.slice none 0 0), .v (.int .i64 0), .v (.int .i64 0), .v (.int .i64 0), .v (.int .i64 0), .v (.int .i64 0), .v (.int .i64 0), .v (.int .i64 0), .v (.int .i64 0), .v (.slice none 0 0)]] (fun rx rK rt => rx = .val (.bool true) ∧ rK = [] ∧ rt = 0) := Y.con_eval ftabOk tabOk mixOk 40 12 (by kernel_rfl) (by rfl) (by kernel_rfl)
theorem same_3_1_3 : Con Try.prog 12 [.agg [.v (.int .i64 3), .v (.int .i64 1), .v (.int .i64 3), .v (.bool false), .v (.slice none 0 0), .v (.int .i64 0), .v (.int .i64 0), .v (.int .i64 0), .v (.int .i64 0), .v (.int .i64 0), .v (.int .i64 0), .v (.int .i64 0), .v (.int .i64 0), .v (.slice none 0 0)], .agg [.v (.int .i64 3), .v (.int .i64 1), .v (.int .i64 3), .v (.bool false), .v (.slice none 0 0), .v (.int .i64 0), .v (.int .i64 0), .v (.int .i64 0), .v (.int .i64 0), .v (.int .i64 0), .v (.int .i64 0), .v (.int .i64 0), .v (.int .i64 0), .v (.slice none 0 0)]] (fun rx rK rt => rx = .val (.bool true) ∧ rK = [] ∧ rt = 0) := Y.con_eval ftabOk tabOk mixOk 40 12 (by kernel_rfl) (by rfl) (by kernel_rfl)
theorem same_3_2_3 : Con Try.prog 12 [.agg [.v (.int .i64 3), .v (.int .i64 2), .v (.int .i64 3), .v (.bool false), .v (.slice none 0 0), .v (.int .i64 0), .v (.int .i64 0), .v (.int .i64 0), .v (.int .i64 0), .v (.int .i64 0), .v (.int .i64 0), .v (.int .i64 0), .v (.int .i64 0), .v (.slice none 0 0)], .agg [.v (.int .i64 3), .v (.int .i64 2), .v (.int .i64 3), .v (.bool false), .v (.slice none 0 0), .v (.int .i64 0), .v (.int .i64 0), .v (.int .i64 0), .v (.int .i64 0), .v (.int .i64 0), .v (.int .i64 0), .v (.int .i64 0), .v (.int .i64 0), .v (.slice none 0 0)]] (fun rx rK rt => rx = .val (.bool true) ∧ rK = [] ∧ rt = 0) := Y.con_eval ftabOk tabOk mixOk 40 12 (by kernel_rfl) (by rfl) (by kernel_rfl)
theorem same_4_0_1 : Con Try.prog 12 [.agg [.v (.int .i64 4), .v (.int .i64 0), .v (.int .i64 1), .v (.bool false), .v (.slice none 0 0), .v (.int .i64 0), .v (.int .i64 0), .v (.int .i64 0), .v (.int .i64 0), .v (.int .i64 0), .v (.int .i64 0), .v (.int .i64 0), .v (.int .i64 0), .v (.slice none 0 0)], .agg [.v (.int .i64 4), .v (.int .i64 0), .v (.int .i64 1), .v (.bool false), .v (.slice none 0 0), .v (.int .i64 0), .v (.int .i64 0), .v (.int .i64 0), .v (.int .i64 0), .v (.int .i64 0), .v (.int .i64 0), .v (.int .i64 0), .v (.int .i64 0), .v (.slice none 0 0)]] (fun rx rK rt => rx = .val (.bool true) ∧ rK = [] ∧ rt = 0) := Y.con_eval ftabOk tabOk mixOk 40 12 (by kernel_rfl) (by rfl) (by kernel_rfl)
theorem same_4_0_2 : Con Try.prog 12 [.agg [.v (.int .i64 4), .v (.int .i64 0), .v (.int .i64 2), .v (.bool false), .v (.slice none 0 0), .v (.int .i64 0), .v (.int .i64 0), .v (.int .i64 0), .v (.int .i64 0), .v (.int .i64 0), .v (.int .i64 0), .v (.int .i64 0), .v (.int .i64 0), .v (.slice none 0 0)], .agg [.v (.int .i64 4), .v (.int .i64 0), .v (.int .i64 2), .v (.bool false), .v (.slice none 0 0), .v (.int .i64 0), .v (.int .i64 0), .v (.int .i64 0), .v (.int .i64 0), .v (.int .i64 0), .v (.int .i64 0), .v (.int .i64 0), .v (.int .i64 0), .v (.slice none 0 0)]] (fun rx rK rt => rx = .val (.bool true) ∧ rK = [] ∧ rt = 0) := Y.con_eval ftabOk tabOk mixOk 40 12 (by kernel_rfl) (by rfl) (by kernel_rfl)
theorem same_4_1_2 : Con Try.prog 12 [.agg [.v (.int .i64 4), .v (.int .i64 1), .v (.int .i64 2), .v (.bool false), .v (.slice none 0 0), .v (.int .i64 0), .v (.int .i64 0), .v (.int .i64 0), .v (.int .i64 0), .v (.int .i64 0), .v (.int .i64 0), .v (.int .i64 0), .v (.int .i64 0), .v (.slice none 0 0)], .agg [.v (.int .i64 4), .v (.int .i64 1), .v (.int .i64 2), .v (.bool false), .v (.slice none 0 0), .v (.int .i64 0), .v (.int .i64 0), .v (.int .i64 0), .v (.int .i64 0), .v (.int .i64 0), .v (.int .i64 0), .v (.int .i64 0), .v (.int .i64 0), .v (.slice none 0 0)]] (fun rx rK rt => rx = .val (.bool true) ∧ rK = [] ∧ rt = 0) := Y.con_eval ftabOk tabOk mixOk 40 12 (by kernel_rfl) (by rfl) (by kernel_rfl)
theorem same_4_0_3 : Con Try.prog 12 [.agg [.v (.int .i64 4), .v (.int .i64 0), .v (.int .i64 3), .v (.bool false), .v (.slice none 0 0), .v (.int .i64 0), .v (.int .i64 0), .v (.int .i64 0), .v (.int .i64 0), .v (.int .i64 0), .v (.int .i64 0), .v (.int .i64 0), .v (.int .i64 0), .v (.slice none 0 0)], .agg [.v (.int .i64 4), .v (.int .i64 0), .v (.int .i64 3), .v (.bool false), .v (.slice none 0 0), .v (.int .i64 0), .v (.int .i64 0), .v (.int .i64 0), .v (.int .i64 0), .v (.int .i64 0), .v (.int .i64 0), .v (.int .i64 0), .v (.int .i64 0), .v (.slice none 0 0)]] (fun rx rK rt => rx = .val (.bool true) ∧ rK = [] ∧ rt = 0) := Y.con_eval ftabOk tabOk mixOk 40 12 (by kernel_rfl) (by rfl) (by kernel_rfl)
theorem same_4_1_3 : Con Try.prog 12 [.agg [.v (.int .i64 4), .v (.int .i64 1), .v (.int .i64 3), .v (.bool false), .v (.slice none 0 0), .v (.int .i64 0), .v (.int .i64 0), .v (.int .i64 0), .v (.int .i64 0), .v (.int .i64 0), .v (.int .i64 0), .v (.int .i64 0), .v (.int .i64 0), .v (.slice none 0 0)], .agg [.v (.int .i64 4), .v (.int .i64 1), .v (.int .i64 3), .v (.bool false), .v (.slice none 0 0), .v (.int .i64 0), .v (.int .i64 0), .v (.int .i64 0), .v (.int .i64 0), .v (.int .i64 0), .v (.int .i64 0), .v (.int .i64 0), .v (.int .i64 0), .v (.slice none 0 0)]] (fun rx rK rt => rx = .val (.bool true) ∧ rK = [] ∧ rt = 0) := Y.con_eval ftabOk tabOk mixOk 40 12 (by kernel_rfl) (by rfl) (by kernel_rfl)
theorem same_4_2_3 : Con Try.prog 12 [.agg [.v (.int .i64 4), .v (.int .i64 2), .v (.int .i64 3), .v (.bool false), .v (.slice none 0 0), .v (.int .i64 0), .v (.int .i64 0), .v (.int .i64 0), .v (.int .i64 0), .v (.int .i64 0), .v (.int .i64 0), .v (.int .i64 0), .v (.int .i64 0), .v (.slice none 0 0)], .agg [.v (.int .i64 4), .v (.int .i64 2), .v (.int .i64 3), .v (.bool false), .v (.slice none 0 0), .v (.int .i64 0), .v (.int .i64 0), .v (.int .i64 0), .v (.int .i64 0), .v (.int .i64 0), .v (.int .i64 0), .v (.int .i64 0), .v (.int .i64 0), .v (.slice none 0 0)]] (fun rx rK rt => rx = .val (.bool true) ∧ rK = [] ∧ rt = 0) := Y.con_eval ftabOk tabOk mixOk 40 12 (by kernel_rfl) (by rfl) (by kernel_rfl)
theorem same_5_0_1 : Con Try.prog 12 [.agg [.v (.int .i64 5), .v (.int .i64 0), .v (.int .i64 1), .v (.bool false), .v (.slice none 0 0), .v (.int .i64 0), .v (.int .i64 0), .v (.int .i64 0), .v (.int .i64 0), .v (.int .i64 0), .v (.int .i64 0), .v (.int .i64 0), .v (.int .i64 0), .v (.slice none 0 0)], .agg [.v (.int .i64 5), .v (.int .i64 0), .v (.int .i64 1), .v (.bool false), .v (.slice none 0 0), .v (.int .i64 0), .v (.int .i64 0), .v (.int .i64 0), .v (.int .i64 0), .v (.int .i64 0), .v (.int .i64 0), .v (.int .i64 0), .v (.int .i64 0), .v (.slice none 0 0)]] (fun rx rK rt => rx = .val (.bool true) ∧ rK = [] ∧ rt = 0) := Y.con_eval ftabOk tabOk mixOk 40 12 (by kernel_rfl) (by rfl) (by kernel_rfl)
theorem same_5_0_2 : Con Try.prog 12 [.agg [.v (.int .i64 5), .v (.int .i64 0), .v (.int .i64 2), .v (.bool false), .v (.slice none 0 0), .v (.int .i64 0), .v (.int .i64 0), .v (.int .i64 0), .v (.int .i64 0), .v (.int .i64 0), .v (.int .i64 0), .v (.int .i64 0), .v (.int .i64 0), .v (.slice none 0 0)], .agg [.v (.int .i64 5), .v (.int .i64 0), .v (.int .i64 2), .v (.bool false), .v (.slice none 0 0), .v (.int .i64 0), .v (.int .i64 0), .v (.int .i64 0), .v (.int .i64 0), .v (.int .i64 0), .v (.int .i64 0), .v (.int .i64 0), .v (.int .i64 0), .v (.slice none 0 0)]] (fun rx rK rt => rx = .val (.bool true) ∧ rK = [] ∧ rt = 0) := Y.con_eval ftabOk tabOk mixOk 40 12 (by kernel_rfl) (by rfl) (by kernel_rfl)
theorem same_5_1_2 : Con Try.prog 12 [.agg [.v (.int .i64 5), .v (.int .i64 1), .v (.int .i64 2), .v (.bool false), .v (.slice none 0 0), .v (.int .i64 0), .v (.int .i64 0), .v (.int .i64 0), .v (.int .i64 0), .v (.int .i64 0), .v (.int .i64 0), .v (.int .i64 0), .v (.int .i64 0), .v (.slice none 0 0)], .agg [.v (.int .i64 5), .v (.int .i64 1), .v (.int .i64 2), .v (.bool false), .v (.slice none 0 0), .v (.int .i64 0), .v (.int .i64 0), .v (.int .i64 0), .v (.int .i64 0), .v (.int .i64 0), .v (.int .i64 0), .v (.int .i64 0), .v (.int .i64 0), .v (.slice none 0 0)]] (fun rx rK rt => rx = .val (.bool true) ∧ rK = [] ∧ rt = 0) := Y.con_eval ftabOk tabOk mixOk 40 12 (by kernel_rfl) (by rfl) (by kernel_rfl)
theorem same_5_0_3 : Con Try.prog 12 [.agg [.v (.int .i64 5), .v (.int .i64 0), .v (.int .i64 3), .v (.bool false), .v (.slice none 0 0), .v (.int .i64 0), .v (.int .i64 0), .v (.int .i64 0), .v (.int .i64 0), .v (.int .i64 0), .v (.int .i64 0), .v (.int .i64 0), .v (.int .i64 0), .v (.slice none 0 0)], .agg [.v (.int .i64 5), .v (.int .i64 0), .v (.int .i64 3), .v (.bool false), .v (.slice none 0 0), .v (.int .i64 0), .v (.int .i64 0), .v (.int .i64 0), .v (.int .i64 0), .v (.int .i64 0), .v (.int .i64 0), .v (.int .i64 0), .v (.int .i64 0), .v (.slice none 0 0)]] (fun rx rK rt => rx = .val (.bool true) ∧ rK = [] ∧ rt = 0) := Y.con_eval ftabOk tabOk mixOk 40 12 (by kernel_rfl) (by rfl) (by kernel_rfl)
theorem same_5_1_3 : Con Try.prog 12 [.agg [.v (.int .i64 5), .v (.int .i64 1), .v (.int .i64 3), .v (.bool false), .v (.slice none 0 0), .v (.int .i64 0), .v (.int .i64 0), .v (.int .i64 0), .v (.int .i64 0), .v (.int .i64 0), .v (.int .i64 0), .v (.int .i64 0), .v (.int .i64 0), .v (.slice none 0 0)], .agg [.v (.int .i64 5), .v (.int .i64 1), .v (.int .i64 3), .v (.bool false), .v (.slice none 0 0), .v (.int .i64 0), .v (.int .i64 0), .v (.int .i64 0), .v (.int .i64 0), .v (.int .i64 0), .v (.int .i64 0), .v (.int .i64 0), .v (.int .i64 0), .v (.slice none 0 0)]] (fun rx rK rt => rx = .val (.bool true) ∧ rK = [] ∧ rt = 0) := Y.con_eval ftabOk tabOk mixOk 40 12 (by kernel_rfl) (by rfl) (by kernel_rfl)
theorem same_5_2_3 : Con Try.prog 12 [.agg [.v (.int .i64 5), .v (.int .i64 2), .v (.int .i64 3), .v (.bool false), .v (.slice none 0 0), .v (.int .i64 0), .v (.int .i64 0), .v (.int .i64 0), .v (.int .i64 0), .v (.int .i64 0), .v (.int .i64 0), .v (.int .i64 0), .v (.int .i64 0), .v (.slice none 0 0)], .agg [.v (.int .i64 5), .v (.int .i64 2), .v (.int .i64 3), .v (.bool false), .v (.slice none 0 0), .v (.int .i64 0), .v (.int .i64 0), .v (.int .i64 0), .v (.int .i64 0), .v (.int .i64 0), .v (.int .i64 0), .v (.int .i64 0), .v (.int .i64 0), .v (.slice none 0 0)]] (fun rx rK rt => rx = .val (.bool true) ∧ rK = [] ∧ rt = 0) := Y.con_eval ftabOk tabOk mixOk 40 12 (by kernel_rfl) (by rfl) (by kernel_rfl)
theorem same_6_0_1 : Con Try.prog 12 [.agg [.v (.int .i64 6), .v (.int .i64 0), .v (.int .i64 1), .v (.bool false), .v (.slice none 0 0), .v (.int .i64 0), .v (.int .i64 0), .v (.int .i64 0), .v (.int .i64 0), .v (.int .i64 0), .v (.int .i64 0), .v (.int .i64 0), .v (.int .i64 0), .v (.slice none 0 0)], .agg [.v (.int .i64 6), .v (.int .i64 0), .v (.int .i64 1), .v (.bool false), .v (.slice none 0 0), .v (.int .i64 0), .v (.int .i64 0), .v (.int .i64 0), .v (.int .i64 0), .v (.int .i64 0), .v (.int .i64 0), .v (.int .i64 0), .v (.int .i64 0), .v (.slice none 0 0)]] (fun rx rK rt => rx = .val (.bool true) ∧ rK = [] ∧ rt = 0) := Y.con_eval ftabOk tabOk mixOk 40 12 (by kernel_rfl) (by rfl) (by kernel_rfl)
theorem same_6_0_2 : Con Try.prog 12 [.agg [.v (.int .i64 6), .v (.int .i64 0), .v (.int .i64 2), .v (.bool false), .v (.slice none 0 0), .v (.int .i64 0), .v (.int .i64 0), .v (.int .i64 0), .v (.int .i64 0), .v (.int .i64 0), .v (.int .i64 0), .v (.int .i64 0), .v (.int .i64 0), .v (.slice none 0 0)], .agg [.v (.int .i64 6), .v (.int .i64 0), .v (.int .i64 2), .v (.bool false), .v (.slice none 0 0), .v (.int .i64 0), .v (.int .i64 0), .v (.int .i64 0), .v (.int .i64 0), .v (.int .i64 0), .v (.int .i64 0), .v (.int .i64 0), .v (.int .i64 0), .v (.slice none 0 0)]] (fun rx rK rt => rx = .val (.bool true) ∧ rK = [] ∧ rt = 0) := Y.con_eval ftabOk tabOk mixOk 40 12 (by kernel_rfl) (by rfl) (by kernel_rfl)
theorem same_6_1_2 : Con Try.prog 12 [.agg [.v (.int .i64 6), .v (.int .i64 1), .v (.int .i64 2), .v (.bool false), .v (.slice none 0 0), .v (.int .i64 0), .v (.int .i64 0), .v (.int .i64 0), .v (.int .i64 0), .v (.int .i64 0), .v (.int .i64 0), .v (.int .i64 0), .v (.int .i64 0), .v (.slice none 0 0)], .agg [.v (.int .i64 6), .v (.int .i64 1), .v (.int .i64 2), .v (.bool false), .v (.slice none 0 0), .v (.int .i64 0), .v (.int .i64 0), .v (.int .i64 0), .v (.int .i64 0), .v (.int .i64 0), .v (.int .i64 0), .v (.int .i64 0), .v (.int .i64 0), .v (.slice none 0 0)]] (fun rx rK rt => rx = .val (.bool true) ∧ rK = [] ∧ rt = 0) := Y.con_eval ftabOk tabOk mixOk 40 12 (by kernel_rfl) (by rfl) (by kernel_rfl)
theorem same_6_0_3 : Con Try.prog 12 [.agg [.v (.int .i64 6), .v (.int .i64 0), .v (.int .i64 3), .v (.bool false), .v (.slice none 0 0), .v (.int .i64 0), .v (.int .i64 0), .v (.int .i64 0), .v (.int .i64 0), .v (.int .i64 0), .v (.int .i64 0), .v (.int .i64 0), .v (.int .i64 0), .v (.slice none 0 0)], .agg [.v (.int .i64 6), .v (.int .i64 0), .v (.int .i64 3), .v (.bool false), .v (.slice none 0 0), .v (.int .i64 0), .v (.int .i64 0), .v (.int .i64 0), .v (.int .i64 0), .v (.int .i64 0), .v (.int .i64 0), .v (.int .i64 0), .v (.int .i64 0), .v (.slice none 0 0)]] (fun rx rK rt => rx = .val (.bool true) ∧ rK = [] ∧ rt = 0) := Y.con_eval ftabOk tabOk mixOk 40 12 (by kernel_rfl) (by rfl) (by kernel_rfl)
theorem same_6_1_3 : Con Try.prog 12 [.agg [.v (.int .i64 6), .v (.int .i64 1), .v (.int .i64 3), .v (.bool false), .v (.slice none 0 0), .v (.int .i64 0), .v (.int .i64 0), .v (.int .i64 0), .v (.int .i64 0), .v (.int .i64 0), .v (.int .i64 0), .v (.int .i64 0), .v (.int .i64 0), .v (.slice none 0 0)], .agg [.v (.int .i64 6), .v (.int .i64 1), .v (.int .i64 3), .v (.bool false), .v (.slice none 0 0), .v (.int .i64 0), .v (.int .i64 0), .v (.int .i64 0), .v (.int .i64 0), .v (.int .i64 0), .v (.int .i64 0), .v (.int .i64 0), .v (.int .i64 0), .v (.slice none 0 0)]] (fun rx rK rt => rx = .val (.bool true) ∧ rK = [] ∧ rt = 0) := Y.con_eval ftabOk tabOk mixOk 40 12 (by kernel_rfl) (by rfl) (by kernel_rfl)
theorem same_6_2_3 : Con Try.prog 12 [.agg [.v (.int .i64 6), .v (.int .i64 2), .v (.int .i64 3), .v (.bool false), .v (.slice none 0 0), .v (.int .i64 0), .v (.int .i64 0), .v (.int .i64 0), .v (.int .i64 0), .v (.int .i64 0), .v (.int .i64 0), .v (.int .i64 0), .v (.int .i64 0), .v (.slice none 0 0)], .agg [.v (.int .i64 6), .v (.int .i64 2), .v (.int .i64 3), .v (.bool false), .v (.slice none 0 0), .v (.int .i64 0), .v (.int .i64 0), .v (.int .i64 0), .v (.int .i64 0), .v (.int .i64 0), .v (.int .i64 0), .v (.int .i64 0), .v (.int .i64 0), .v (.slice none 0 0)]] (fun rx rK rt => rx = .val (.bool true) ∧ rK = [] ∧ rt = 0) := Y.con_eval ftabOk tabOk mixOk 40 12 (by kernel_rfl) (by rfl) (by kernel_rfl)
theorem same_7_0_1 : Con Try.prog 12 [.agg [.v (.int .i64 7), .v (.int .i64 0), .v (.int .i64 1), .v (.bool false), .v (.slice none 0 0), .v (.int .i64 0), .v (.int .i64 0), .v (.int .i64 0), .v (.int .i64 0), .v (.int .i64 0), .v (.int .i64 0), .v (.int .i64 0), .v (.int .i64 0), .v (.slice none 0 0)], .agg [.v (.int .i64 7), .v (.int .i64 0), .v (.int .i64 1), .v (.bool false), .v (.slice none 0 0), .v (.int .i64 0), .v (.int .i64 0), .v (.int .i64 0), .v (.int .i64 0), .v (.int .i64 0), .v (.int .i64 0), .v (.int .i64 0), .v (.int .i64 0), .v (.slice none 0 0)]] (fun rx rK rt => rx = .val (.bool true) ∧ rK = [] ∧ rt = 0) := Y.con_eval ftabOk tabOk mixOk 40 12 (by kernel_rfl) (by rfl) (by kernel_rfl)
theorem same_7_0_2 : Con Try.prog 12 [.agg [.v (.int .i64 7), .v (.int .i64 0), .v (.int .i64 2), .v (.bool false), .v (.slice none 0 0), .v (.int .i64 0), .v (.int .i64 0), .v (.int .i64 0), .v (.int .i64 0), .v (.int .i64 0), .v (.int .i64 0), .v (.int .i64 0), .v (.int .i64 0), .v (.slice none 0 0)], .agg [.v (.int .i64 7), .v (.int .i64 0), .v (.int .i64 2), .v (.bool false), .v (.slice none 0 0), .v (.int .i64 0), .v (.int .i64 0), .v (.int .i64 0), .v (.int .i64 0), .v (.int .i64 0), .v (.int .i64 0), .v (.int .i64 0), .v (.int .i64 0), .v (.slice none 0 0)]] (fun rx rK rt => rx = .val (.bool true) ∧ rK = [] ∧ rt = 0) := Y.con_eval ftabOk tabOk mixOk 40 12 (by kernel_rfl) (by rfl) (by kernel_rfl)
theorem same_7_1_2 : Con Try.prog 12 [.agg [.v (.int .i64 7), .v (.int .i64 1), .v (.int .i64 2), .v (.bool false), .v (.slice none 0 0), .v (.int .i64 0), .v (.int .i64 0), .v (.int .i64 0), .v (.int .i64 0), .v (.int .i64 0), .v (.int .i64 0), .v (.int .i64 0), .v (.int .i64 0), .v (.slice none 0 0)], .agg [.v (.int .i64 7), .v (.int .i64 1), .v (.int .i64 2), .v (.bool false), .v (.slice none 0 0), .v (.int .i64 0), .v (.int .i64 0), .v (.int .i64 0), .v (.int .i64 0), .v (.int .i64 0), .v (.int .i64 0), .v (.int .i64 0), .v (.int .i64 0), .v (.slice none 0 0)]] (fun rx rK rt => rx = .val (.bool true) ∧ rK = [] ∧ rt = 0) := Y.con_eval ftabOk tabOk mixOk 40 12 (by kernel_rfl) (by rfl) (by kernel_rfl)
theorem same_7_0_3 : Con Try.prog 12 [.agg [.v (.int .i64 7), .v (.int .i64 0), .v (.int .i64 3), .v (.bool false), .v (.slice none 0 0), .v (.int .i64 0), .v (.int .i64 0), .v (.int .i64 0), .v (.int .i64 0), .v (.int .i64 0), .v (.int .i64 0), .v (.int .i64 0), .v (.int .i64 0), .v (.slice none 0 0)], .agg [.v (.int .i64 7), .v (.int .i64 0), .v (.int .i64 3), .v (.bool false), .v (.slice none 0 0), .v (.int .i64 0), .v (.int .i64 0), .v (.int .i64 0), .v (.int .i64 0), .v (.int .i64 0), .v (.int .i64 0), .v (.int .i64 0), .v (.int .i64 0), .v (.slice none 0 0)]] (fun rx rK rt => rx = .val (.bool true) ∧ rK = [] ∧ rt = 0) := Y.con_eval ftabOk tabOk mixOk 40 12 (by kernel_rfl) (by rfl) (by kernel_rfl)
theorem same_7_1_3 : Con Try.prog 12 [.agg [.v (.int .i64 7), .v (.int .i64 1), .v (.int .i64 3), .v (.bool false), .v (.slice none 0 0), .v (.int .i64 0), .v (.int .i64 0), .v (.int .i64 0), .v (.int .i64 0), .v (.int .i64 0), .v (.int .i64 0), .v (.int .i64 0), .v (.int .i64 0), .v (.slice none 0 0)], .agg [.v (.int .i64 7), .v (.int .i64 1), .v (.int .i64 3), .v (.bool false), .v (.slice none 0 0), .v (.int .i64 0), .v (.int .i64 0), .v (.int .i64 0), .v (.int .i64 0), .v (.int .i64 0), .v (.int .i64 0), .v (.int .i64 0), .v (.int .i64 0), .v (.slice none 0 0)]] (fun rx rK rt => rx = .val (.bool true) ∧ rK = [] ∧ rt = 0) := Y.con_eval ftabOk tabOk mixOk 40 12 (by kernel_rfl) (by rfl) (by kernel_rfl)
theorem same_7_2_3 : Con Try.prog 12 [.agg [.v (.int .i64 7), .v (.int .i64 2), .v (.int .i64 3), .v (.bool false), .v (.slice none 0 0), .v (.int .i64 0), .v (.int .i64 0), .v (.int .i64 0), .v (.int .i64 0), .v (.int .i64 0), .v (.int .i64 0), .v (.int .i64 0), .v (.int .i64 0), .v (.slice none 0 0)], .agg [.v (.int .i64 7), .v (.int .i64 2), .v (.int .i64 3), .v (.bool false), .v (.slice none 0 0), .v (.int .i64 0), .v (.int .i64 0), .v (.int .i64 0), .v (.int .i64 0), .v (.int .i64 0), .v (.int .i64 0), .v (.int .i64 0), .v (.int .i64 0), .v (.slice none 0 0)]] (fun rx rK rt => rx = .val (.bool true) ∧ rK = [] ∧ rt = 0) := Y.con_eval ftabOk tabOk mixOk 40 12 (by kernel_rfl) (by rfl) (by kernel_rfl)
theorem same_ok (o i w : Int) (h : okZ o i w) : Con Try.prog 12 [.agg [.v (.int .i64 o), .v (.int .i64 i), .v (.int .i64 w), .v (.bool false), .v (.slice none 0 0), .v (.int .i64 0), .v (.int .i64 0), .v (.int .i64 0), .v (.int .i64 0), .v (.int .i64 0), .v (.int .i64 0), .v (.int .i64 0), .v (.int .i64 0), .v (.slice none 0 0)], .agg [.v (.int .i64 o), .v (.int .i64 i), .v (.int .i64 w), .v (.bool false), .v (.slice none 0 0), .v (.int .i64 0), .v (.int .i64 0), .v (.int .i64 0), .v (.int .i64 0), .v (.int .i64 0), .v (.int .i64 0), .v (.int .i64 0), .v (.int .i64 0), .v (.slice none 0 0)]] (fun rx rK rt => rx = .val (.bool true) ∧ rK = [] ∧ rt = 0) := by
  have h1 : o = 0 ∨ o = 1 ∨ o = 2 ∨ o = 3 ∨ o = 4 ∨ o = 5 ∨ o = 6 ∨ o = 7 := by unfold okZ at h; omega
  have h2 : (i = 0 ∧ w = 1) ∨ (i = 0 ∧ w = 2) ∨ (i = 1 ∧ w = 2) ∨ (i = 0 ∧ w = 3) ∨ (i = 1 ∧ w = 3) ∨ (i = 2 ∧ w = 3) := by unfold okZ at h; omega
  rcases h1 with rfl | rfl | rfl | rfl | rfl | rfl | rfl | rfl <;> rcases h2 with ⟨rfl, rfl⟩ | ⟨rfl, rfl⟩ | ⟨rfl, rfl⟩ | ⟨rfl, rfl⟩ | ⟨rfl, rfl⟩ | ⟨rfl, rfl⟩
  · exact same_0_0_1
  · exact same_0_0_2
  · exact same_0_1_2
  · exact same_0_0_3
  · exact same_0_1_3
  · exact same_0_2_3
  · exact same_1_0_1
  · exact same_1_0_2
  · exact same_1_1_2
  · exact same_1_0_3
  · exact same_1_1_3
  · exact same_1_2_3
  · exact same_2_0_1
  · exact same_2_0_2
  · exact same_2_1_2
  · exact same_2_0_3
  · exact same_2_1_3
  · exact same_2_2_3
  · exact same_3_0_1
  · exact same_3_0_2
  · exact same_3_1_2
  · exact same_3_0_3
  · exact same_3_1_3
  · exact same_3_2_3
  · exact same_4_0_1
  · exact same_4_0_2
  · exact same_4_1_2
  · exact same_4_0_3
  · exact same_4_1_3
  · exact same_4_2_3
  · exact same_5_0_1
  · exact same_5_0_2
  · exact same_5_1_2
  · exact same_5_0_3
  · exact same_5_1_3
  · exact same_5_2_3
  · exact same_6_0_1
  · exact same_6_0_2
  · exact same_6_1_2
  · exact same_6_0_3
  · exact same_6_1_3
  · exact same_6_2_3
  · exact same_7_0_1
  · exact same_7_0_2
  · exact same_7_1_2
  · exact same_7_0_3
  · exact same_7_1_3
  · exact same_7_2_3
theorem same_0 : Con Try.prog 12 [.agg [.v (.int .i64 0), .v (.int .i64 0), .v (.int .i64 0), .v (.bool false), .v (.slice none 0 0), .v (.int .i64 0), .v (.int .i64 0), .v (.int .i64 0), .v (.int .i64 0), .v (.int .i64 0), .v (.int .i64 0), .v (.int .i64 0), .v (.int .i64 0), .v (.slice none 0 0)], .agg [.v (.int .i64 0), .v (.int .i64 0), .v (.int .i64 0), .v (.bool false), .v (.slice none 0 0), .v (.int .i64 0), .v (.int .i64 0), .v (.int .i64 0), .v (.int .i64 0), .v (.int .i64 0), .v (.int .i64 0), .v (.int .i64 0), .v (.int .i64 0), .v (.slice none 0 0)]] (fun rx rK rt => rx = .val (.bool true) ∧ rK = [] ∧ rt = 0) := Y.con_eval ftabOk tabOk mixOk 40 12 (by kernel_rfl) (by rfl) (by kernel_rfl)
end Go.Proofs.Ytopieffkpdlpbaa
namespace Go.Proofs.Ytopieffkpdlpbaa
open Go Go.RowKit Wx
set_option linter.unusedVariables false
set_option linter.unusedSimpArgs false
set_option maxHeartbeats 4000000
namespace Tab
def be : Nat → Int → List Int
  | 0, _ => []
  | n + 1, x => be n (x / 256) ++ [x % 256]
def numR (l : List Int) : Int := l.foldl (fun x b => x * 256 + b) 0
def isB (l : List Int) : Prop := ∀ b ∈ l, 0 ≤ b ∧ b ≤ 255
def cmpI (a b : Int) : Int := if a < b then -1 else if b < a then 1 else 0
def cmpR (s k s2 k2 : Int) : Int := if cmpI s s2 ≠ 0 then cmpI s s2 else cmpI k k2
structure Kc where
  src : Int
  key : Int
  cnt : Int
  sum : Int
deriving DecidableEq
def keyOk (s k : Int) : Bool := decide ((0 ≤ s ∧ s < 8) ∧ 0 ≤ k ∧ k < 32)
def kLt (s k s2 k2 : Int) : Prop := s < s2 ∨ (s = s2 ∧ k < k2)
instance (s k s2 k2 : Int) : Decidable (kLt s k s2 k2) := by unfold kLt; infer_instance
def okT : Option Kc → List Kc → Bool
  | _, [] => true
  | none, x :: r => keyOk x.src x.key && decide (0 < x.cnt) && okT (some x) r
  | some p, x :: r => keyOk x.src x.key && decide (0 < x.cnt) && decide (kLt p.src p.key x.src x.key) && okT (some x) r
def tabR (l : List Kc) : Bool := okT none l
theorem okT_all : ∀ {l : List Kc} {p : Option Kc}, okT p l = true → ∀ x ∈ l, keyOk x.src x.key = true ∧ 0 < x.cnt
  | [], _, _, x, hx => nomatch hx
  | y :: l, p, h, x, hx => by
    have h' : (keyOk y.src y.key = true ∧ 0 < y.cnt) ∧ okT (some y) l = true := by
      cases p with
      | none => simp only [okT, Bool.and_eq_true, decide_eq_true_eq] at h; exact ⟨h.1, h.2⟩
      | some p => simp only [okT, Bool.and_eq_true, decide_eq_true_eq] at h; exact ⟨h.1.1, h.2⟩
    rcases List.mem_cons.1 hx with rfl | hx
    · exact h'.1
    · exact okT_all h'.2 x hx
theorem keyOk_iff {s k : Int} : keyOk s k = true ↔ (0 ≤ s ∧ s < 8) ∧ 0 ≤ k ∧ k < 32 := by unfold keyOk; exact decide_eq_true_iff
theorem okT_len : ∀ {l : List Kc} {p : Kc}, keyOk p.src p.key = true → okT (some p) l = true → (l.length : Int) ≤ 255 - (p.src * 32 + p.key)
  | [], p, hp, _ => by rw [keyOk_iff] at hp; simp; omega
  | x :: l, p, hp, h => by
    simp only [okT, Bool.and_eq_true, decide_eq_true_eq] at h
    have ih := okT_len h.1.1.1 h.2
    have hx := keyOk_iff.1 h.1.1.1
    have hp' := keyOk_iff.1 hp
    have hk := h.1.2
    unfold kLt at hk
    simp only [List.length_cons]
    omega
theorem tab_len {l : List Kc} (h : tabR l = true) : l.length ≤ 256 := by
  cases l with
  | nil => simp
  | cons x l =>
    unfold tabR at h
    simp only [okT, Bool.and_eq_true, decide_eq_true_eq] at h
    have ih := okT_len h.1.1 h.2
    have hx := keyOk_iff.1 h.1.1
    simp only [List.length_cons]
    omega
def rowD (b : List Int) : Kc := ⟨(b.take 1).headD 0, ((b.drop 1).take 1).headD 0, IntKind.i64.wrap (numR ((b.drop 2).take 8)), IntKind.i64.wrap (numR ((b.drop 10).take 8))⟩
def decK : Nat → List Int → List Kc × Int × List Int
  | 0, b => ([], 0, b)
  | n + 1, b => if b.length < 18 then ([], 7, []) else if (decK n (b.drop 18)).2.1 = 0 then (rowD b :: (decK n (b.drop 18)).1, 0, (decK n (b.drop 18)).2.2) else ([], 7, [])
theorem kLt_trans {a b c d e f : Int} (h1 : kLt a b c d) (h2 : kLt c d e f) : kLt a b e f := by unfold kLt at *; omega
theorem kLt_irr {a b : Int} : ¬ kLt a b a b := by unfold kLt; omega
theorem kLt_asym {a b c d : Int} (h : kLt a b c d) : ¬ kLt c d a b := by unfold kLt at *; omega
theorem kLt_tri {a b c d : Int} : kLt a b c d ∨ (a = c ∧ b = d) ∨ kLt c d a b := by unfold kLt; omega
abbrev kLtK (x y : Kc) : Prop := kLt x.src x.key y.src y.key
theorem okT_pw : ∀ {l : List Kc} {p : Kc}, okT (some p) l = true → (∀ x ∈ l, kLtK p x) ∧ l.Pairwise kLtK
  | [], _, _ => ⟨(fun x hx => nomatch hx), List.Pairwise.nil⟩
  | y :: l, p, h => by
    simp only [okT, Bool.and_eq_true, decide_eq_true_eq] at h
    obtain ⟨h1, h2⟩ := okT_pw h.2
    refine ⟨fun x hx => ?_, List.Pairwise.cons h1 h2⟩
    rcases List.mem_cons.1 hx with rfl | hx
    · exact h.1.2
    · exact kLt_trans h.1.2 (h1 x hx)
theorem okT_of : ∀ {l : List Kc} {p : Kc}, (∀ x ∈ l, keyOk x.src x.key = true ∧ 0 < x.cnt) → (∀ x ∈ l, kLtK p x) → l.Pairwise kLtK → okT (some p) l = true
  | [], _, _, _, _ => rfl
  | y :: l, p, h, hp, hw => by
    rw [List.pairwise_cons] at hw
    simp only [okT, Bool.and_eq_true, decide_eq_true_eq]
    exact ⟨⟨h y (by simp), hp y (by simp)⟩, okT_of (fun x hx => h x (by simp [hx])) hw.1 hw.2⟩
theorem tab_iff {l : List Kc} : tabR l = true ↔ (∀ x ∈ l, keyOk x.src x.key = true ∧ 0 < x.cnt) ∧ l.Pairwise kLtK := by
  constructor
  · intro h
    refine ⟨okT_all h, ?_⟩
    cases l with
    | nil => exact List.Pairwise.nil
    | cons y l =>
      unfold tabR at h
      simp only [okT, Bool.and_eq_true] at h
      exact List.Pairwise.cons (okT_pw h.2).1 (okT_pw h.2).2
  · rintro ⟨h1, h2⟩
    cases l with
    | nil => rfl
    | cons y l =>
      rw [List.pairwise_cons] at h2
      unfold tabR
      simp only [okT, Bool.and_eq_true, decide_eq_true_eq]
      exact ⟨h1 y (by simp), okT_of (fun x hx => h1 x (by simp [hx])) h2.1 h2.2⟩
def ltK (s k : Int) (x : Kc) : Bool := decide (kLt x.src x.key s k)
def gtK (s k : Int) (x : Kc) : Bool := decide (kLt s k x.src x.key)
def eqK (s k : Int) (x : Kc) : Bool := decide (x.src = s ∧ x.key = k)
def ownK (s k : Int) (c : Int × Int) : List Kc := if c = (0, 0) then [] else [⟨s, k, c.1, c.2⟩]
def putR (l : List Kc) (s k : Int) (c : Int × Int) : List Kc := l.filter (ltK s k) ++ ownK s k c ++ l.filter (gtK s k)
def getR (l : List Kc) (s k : Int) : Int × Int := match l.find? (eqK s k) with
  | none => (0, 0)
  | some x => (x.cnt, x.sum)
theorem put_tab {l : List Kc} {s k : Int} {c : Int × Int} (h : tabR l = true) (hk : keyOk s k = true) (hc : c = (0, 0) ∨ 0 < c.1) : tabR (putR l s k c) = true := by
  rw [tab_iff] at h ⊢
  obtain ⟨h1, h2⟩ := h
  have hown : ∀ x ∈ ownK s k c, x.src = s ∧ x.key = k ∧ 0 < x.cnt := fun x hx => by
    unfold ownK at hx
    split at hx
    · cases hx
    · rename_i h0
      rw [List.mem_singleton.1 hx]
      exact ⟨rfl, rfl, hc.resolve_left h0⟩
  refine ⟨fun x hx => ?_, ?_⟩
  · unfold putR at hx
    simp only [List.mem_append, List.mem_filter] at hx
    rcases hx with (hx | hx) | hx
    · exact h1 x hx.1
    · obtain ⟨e1, e2, e3⟩ := hown x hx
      rw [e1, e2]; exact ⟨hk, e3⟩
    · exact h1 x hx.1
  · unfold putR
    rw [List.pairwise_append, List.pairwise_append]
    refine ⟨⟨h2.filter _, ?_, fun x hx y hy => ?_⟩, h2.filter _, fun x hx y hy => ?_⟩
    · unfold ownK; split
      · exact List.Pairwise.nil
      · exact List.pairwise_singleton _ _
    · obtain ⟨e1, e2, _⟩ := hown y hy
      have := of_decide_eq_true (List.mem_filter.1 hx).2
      unfold kLtK; rw [e1, e2]; exact this
    · have hy' := of_decide_eq_true (List.mem_filter.1 hy).2
      rcases List.mem_append.1 hx with hx | hx
      · exact kLt_trans (of_decide_eq_true (List.mem_filter.1 hx).2) hy'
      · obtain ⟨e1, e2, _⟩ := hown x hx
        unfold kLtK; rw [e1, e2]; exact hy'
def posR (l : List Kc) (s k : Int) : Nat := (l.filter (ltK s k)).length
theorem filter_none {α : Type} {p : α → Bool} {l : List α} (h : ∀ x ∈ l, p x = false) : l.filter p = [] := List.filter_eq_nil_iff.2 fun x hx => by simp [h x hx]
theorem filter_all {α : Type} {p : α → Bool} {l : List α} (h : ∀ x ∈ l, p x = true) : l.filter p = l := List.filter_eq_self.2 h
theorem cut_lt : ∀ {l : List Kc} {s k : Int}, l.Pairwise kLtK → l.filter (ltK s k) = l.take (posR l s k) ∧ l.filter (gtK s k) = l.drop (posR l s k + (l.filter (eqK s k)).length)
  | [], _, _, _ => ⟨rfl, rfl⟩
  | x :: l, s, k, h => by
    rw [List.pairwise_cons] at h
    obtain ⟨i1, i2⟩ := cut_lt (s := s) (k := k) h.2
    rcases @kLt_tri x.src x.key s k with h1 | ⟨h1, h2⟩ | h1
    · have e1 : ltK s k x = true := decide_eq_true h1
      have e2 : gtK s k x = false := decide_eq_false (kLt_asym h1)
      have e3 : eqK s k x = false := decide_eq_false fun e => by rw [e.1, e.2] at h1; exact kLt_irr h1
      have hp : posR (x :: l) s k = posR l s k + 1 := by unfold posR; rw [List.filter_cons_of_pos e1]; rfl
      rw [hp, List.filter_cons_of_pos e1, List.filter_cons_of_neg (by simp [e2]), List.filter_cons_of_neg (by simp [e3]), List.take_succ_cons, i1, show posR l s k + 1 + (l.filter (eqK s k)).length = (posR l s k + (l.filter (eqK s k)).length) + 1 by omega, List.drop_succ_cons, i2]
      exact ⟨rfl, rfl⟩
    · have hg : ∀ y ∈ l, kLt s k y.src y.key := fun y hy => by have := h.1 y hy; unfold kLtK at this; rw [h1, h2] at this; exact this
      have e1 : ltK s k x = false := decide_eq_false (by rw [h1, h2]; exact kLt_irr)
      have e2 : gtK s k x = false := decide_eq_false (by rw [h1, h2]; exact kLt_irr)
      have e3 : eqK s k x = true := decide_eq_true ⟨h1, h2⟩
      have f1 : l.filter (ltK s k) = [] := filter_none fun y hy => decide_eq_false (kLt_asym (hg y hy))
      have f2 : l.filter (gtK s k) = l := filter_all fun y hy => decide_eq_true (hg y hy)
      have f3 : l.filter (eqK s k) = [] := filter_none fun y hy => decide_eq_false fun e => by have := hg y hy; rw [e.1, e.2] at this; exact kLt_irr this
      have hp : posR (x :: l) s k = 0 := by unfold posR; rw [List.filter_cons_of_neg (by simp [e1]), f1]; rfl
      rw [hp, List.filter_cons_of_neg (by simp [e1]), List.filter_cons_of_neg (by simp [e2]), List.filter_cons_of_pos e3, f1, f2, f3]
      exact ⟨rfl, rfl⟩
    · have hg : ∀ y ∈ l, kLt s k y.src y.key := fun y hy => kLt_trans h1 (h.1 y hy)
      have e1 : ltK s k x = false := decide_eq_false (kLt_asym h1)
      have e2 : gtK s k x = true := decide_eq_true h1
      have e3 : eqK s k x = false := decide_eq_false fun e => by rw [e.1, e.2] at h1; exact kLt_irr h1
      have f1 : l.filter (ltK s k) = [] := filter_none fun y hy => decide_eq_false (kLt_asym (hg y hy))
      have f2 : l.filter (gtK s k) = l := filter_all fun y hy => decide_eq_true (hg y hy)
      have f3 : l.filter (eqK s k) = [] := filter_none fun y hy => decide_eq_false fun e => by have := hg y hy; rw [e.1, e.2] at this; exact kLt_irr this
      have hp : posR (x :: l) s k = 0 := by unfold posR; rw [List.filter_cons_of_neg (by simp [e1]), f1]; rfl
      rw [hp, List.filter_cons_of_neg (by simp [e1]), List.filter_cons_of_pos e2, List.filter_cons_of_neg (by simp [e3]), f1, f2, f3]
      exact ⟨rfl, rfl⟩
theorem eq_at : ∀ {l : List Kc} {s k : Int}, l.Pairwise kLtK → (l.filter (eqK s k)).length ≤ 1 ∧ ((l.filter (eqK s k)).length = 1 ↔ ∃ x, l[posR l s k]? = some x ∧ x.src = s ∧ x.key = k)
  | [], _, _, _ => by simp
  | x :: l, s, k, h => by
    rw [List.pairwise_cons] at h
    obtain ⟨i1, i2⟩ := eq_at (s := s) (k := k) h.2
    rcases @kLt_tri x.src x.key s k with h1 | ⟨h1, h2⟩ | h1
    · have e1 : ltK s k x = true := decide_eq_true h1
      have e3 : eqK s k x = false := decide_eq_false fun e => by rw [e.1, e.2] at h1; exact kLt_irr h1
      have hp : posR (x :: l) s k = posR l s k + 1 := by unfold posR; rw [List.filter_cons_of_pos e1]; rfl
      rw [hp, List.filter_cons_of_neg (by simp [e3]), List.getElem?_cons_succ]
      exact ⟨i1, i2⟩
    · have hg : ∀ y ∈ l, kLt s k y.src y.key := fun y hy => by have := h.1 y hy; unfold kLtK at this; rw [h1, h2] at this; exact this
      have e1 : ltK s k x = false := decide_eq_false (by rw [h1, h2]; exact kLt_irr)
      have e3 : eqK s k x = true := decide_eq_true ⟨h1, h2⟩
      have f1 : l.filter (ltK s k) = [] := filter_none fun y hy => decide_eq_false (kLt_asym (hg y hy))
      have f3 : l.filter (eqK s k) = [] := filter_none fun y hy => decide_eq_false fun e => by have := hg y hy; rw [e.1, e.2] at this; exact kLt_irr this
      have hp : posR (x :: l) s k = 0 := by unfold posR; rw [List.filter_cons_of_neg (by simp [e1]), f1]; rfl
      rw [hp, List.filter_cons_of_pos e3, f3]
      exact ⟨Nat.le_refl _, fun _ => ⟨x, rfl, h1, h2⟩, fun _ => rfl⟩
    · have hg : ∀ y ∈ l, kLt s k y.src y.key := fun y hy => kLt_trans h1 (h.1 y hy)
      have e1 : ltK s k x = false := decide_eq_false (kLt_asym h1)
      have e3 : eqK s k x = false := decide_eq_false fun e => by rw [e.1, e.2] at h1; exact kLt_irr h1
      have f1 : l.filter (ltK s k) = [] := filter_none fun y hy => decide_eq_false (kLt_asym (hg y hy))
      have f3 : l.filter (eqK s k) = [] := filter_none fun y hy => decide_eq_false fun e => by have := hg y hy; rw [e.1, e.2] at this; exact kLt_irr this
      have hp : posR (x :: l) s k = 0 := by unfold posR; rw [List.filter_cons_of_neg (by simp [e1]), f1]; rfl
      rw [hp, List.filter_cons_of_neg (by simp [e3]), f3]
      refine ⟨Nat.zero_le _, fun h => by simp at h, ?_⟩
      rintro ⟨y, hy, h2, h3⟩
      cases hy
      rw [h2, h3] at h1
      exact absurd h1 kLt_irr
theorem put_no {l : List Kc} {s k : Int} {c : Int × Int} (h : tabR l = true) (hn : ∀ x, l[posR l s k]? = some x → ¬ (x.src = s ∧ x.key = k)) : putR l s k c = l.take (posR l s k) ++ ownK s k c ++ l.drop (posR l s k) := by
  have hw := (tab_iff.1 h).2
  have h1 : (l.filter (eqK s k)).length = 0 := by
    have := (eq_at (s := s) (k := k) hw).1
    have h2 : ¬ (l.filter (eqK s k)).length = 1 := fun e => by
      obtain ⟨x, hx, he⟩ := ((eq_at hw).2).1 e
      exact hn x hx he
    omega
  unfold putR
  rw [(cut_lt hw).1, (cut_lt hw).2, h1, Nat.add_zero]
theorem cmp_lt {s k s2 k2 : Int} : decide (0 ≤ cmpR s k s2 k2) = !decide (kLt s k s2 k2) := by
  unfold cmpR cmpI kLt
  by_cases h1 : s < s2
  · simp [h1]
  · by_cases h2 : s2 < s
    · have h3 : ¬ s = s2 := by omega
      simp [h1, h2, h3]
    · have h3 : s = s2 := by omega
      by_cases h4 : k < k2
      · simp [h3, h4]
      · by_cases h5 : k2 < k
        · simp [h3, h4, h5]
        · simp [h3, h4, h5]
abbrev eK (x : Kc) : List RT := [RT.v (.int .i64 x.src), RT.v (.int .i64 x.key), RT.v (.int .i64 x.cnt), RT.v (.int .i64 x.sum)]
abbrev cK (x : Kc) : List Ce := [Ce.v (.int .i64 x.src), Ce.v (.int .i64 x.key), Ce.v (.int .i64 x.cnt), Ce.v (.int .i64 x.sum)]
def prevR (l : List Kc) : Nat → Option Kc
  | 0 => none
  | i + 1 => l[i]?
theorem okT_at {l : List Kc} {i : Nat} {x : Kc} (h : l[i]? = some x) : okT (prevR l i) (l.drop i) = (keyOk x.src x.key && decide (0 < x.cnt) && (match prevR l i with | none => true | some q => decide (kLt q.src q.key x.src x.key)) && okT (prevR l (i + 1)) (l.drop (i + 1))) := by
  rw [drop_cons h]
  have e : prevR l (i + 1) = some x := h
  rw [e]
  cases hp : prevR l i with
  | none => simp [okT]
  | some q => simp [okT]
end Tab
end Go.Proofs.Ytopieffkpdlpbaa
namespace Go.Proofs.Ytopieffkpdlpbaa
open Go Go.RowKit Wx
set_option linter.unusedVariables false
set_option linter.unusedSimpArgs false
set_option maxHeartbeats 4000000
namespace Tab
theorem nan_con (a : Int)  : Con Try.prog 117 [.one (.v (.int .i64 a))] (fun rx rK rt => rx = .val (.bool false) ∧ rK = [] ∧ rt = 0) := by
  refine Z.con_ofF tabOk 6 Try.f117 _ Try.func117 (by kernel_rfl) rfl rfl rfl rfl ?_
  repeat' ((conv => whnf); first
    | with_reducible first | refine spB_t ?_
    | fail)
  all_goals (try (conv => whnf))
  all_goals first
    | ((first | (with_reducible apply Z.retF1)); (focus (exact rfl)); (repeat' (first | exact trivial | (with_reducible apply Z.frz_one) | (with_reducible apply Z.fq_bool) | apply And.intro)); (all_goals (try exact (fun _ => none))); all_goals (simp))
    | fail
theorem cmp_con (a b : Int)  : Con Try.prog 108 [.one (.v (.int .i64 a)), .one (.v (.int .i64 b))] (fun rx rK rt => rx = .val (.int .i64 (cmpI a b)) ∧ rK = [] ∧ rt = 0) := by
  refine Z.con_ofF tabOk 20 Try.f108 _ Try.func108 (by kernel_rfl) rfl rfl rfl rfl ?_
  repeat' ((conv => whnf); first
    | with_reducible first | refine spB_no (by decide) ?_
    | (with_reducible refine spB_dec ?_ ?_ <;> intro _ <;> (try (exfalso; first | contradiction | omega | (rename_i hz; with_reducible exact absurd rfl hz))))
    | ((first | (with_reducible apply Z.callZ_mk ?_ (nan_con _) ?_)); (rotate_left 1); (focus ((repeat' (first | exact trivial | exact rfl | apply And.intro)); done)))
    | fail)
  all_goals (try (conv => whnf))
  all_goals first
    | ((first | (with_reducible apply Z.retF1)); (focus (exact rfl)); (repeat' (first | exact trivial | (with_reducible apply Z.frz_one) | (with_reducible apply Z.fq_int) | apply And.intro)); (all_goals (try exact (fun _ => none))); all_goals (first | (unfold cmpI; first | rw [if_pos (by omega)] | rw [if_neg (by omega), if_pos (by omega)] | rw [if_neg (by omega), if_neg (by omega)])))
    | fail
theorem or_con (a b : Int)  : Con Try.prog 107 [.one (.ro false 1 [[.v (.int .i64 a)], [.v (.int .i64 b)]])] (fun rx rK rt => rx = .val (.int .i64 (if a ≠ 0 then a else b)) ∧ rK = [] ∧ rt = 0) := by
  refine Z.con_ofF tabOk 18 Try.f107 _ Try.func107 (by kernel_rfl) rfl rfl rfl rfl ?_
  repeat' ((conv => whnf); first
    | (with_reducible refine spB_dec ?_ ?_ <;> intro _ <;> (try (exfalso; first | contradiction | omega | (rename_i hz; refine hz ?_; simp; done) | (rename_i hz; simp at hz; done) | (simp only [LN] at *; omega))))
    | (with_reducible refine spB_bne ?_ ?_ <;> intro _ <;> (try (exfalso; first | contradiction | omega | (rename_i hz; refine hz ?_; simp; done) | (rename_i hz; simp at hz; done) | (simp only [LN] at *; omega))))
    | with_reducible first | refine Z.loopZ_unroll tabOk 3 ?_
    | ((with_reducible apply rowN_mk); (focus rfl))
    | ((with_reducible apply ixN_lit); (focus (exact rfl)); (focus (exact rfl)))
    | with_reducible refine wr_i64 (by first | omega | (simp only [LN] at *; omega)) ?_
    | fail)
  all_goals (try (conv => whnf))
  all_goals try (show Nat.ble _ _ = true; rfl)
  all_goals try (exfalso; rename_i hz; cases hz; done)
  all_goals try (exfalso; (try simp only [LN] at *) <;> omega)
  all_goals first
    | ((first | (with_reducible apply Z.retF1)); (focus (exact rfl)); (repeat' (first | exact trivial | (with_reducible apply Z.frz_one) | (with_reducible apply Z.fq_int) | (apply Z.fq_int) | apply And.intro)); (all_goals (try exact (fun _ => none))); all_goals (first | (simp_all; done)))
    | fail
theorem compare_con (s k v s2 k2 v2 : Int)  : Con Try.prog 99 [.agg [.v (.int .i64 s), .v (.int .i64 k), .v (.int .i64 v)], .agg [.v (.int .i64 s2), .v (.int .i64 k2), .v (.int .i64 v2)]] (fun rx rK rt => rx = .val (.int .i64 (cmpR s k s2 k2)) ∧ rK = [] ∧ rt = 0) := by
  refine Z.con_ofF tabOk 17 Try.f99 _ Try.func99 (by kernel_rfl) rfl rfl rfl rfl ?_
  repeat' ((conv => whnf); first
    | ((first | (with_reducible apply Z.conZ_mz ?_ (or_con _ _) ?_) | (with_reducible apply Z.conZ_mz ?_ (cmp_con _ _) ?_)); (rotate_left 2); (focus ((repeat' (first | exact trivial | exact ⟨_, rfl, rfl, rfl⟩ | exact rfl | apply And.intro)); done)))
    | with_reducible first | refine Z.drawZ_rule tabOk mixOk ?_ | refine Z.apZ_mk (by kernel_rfl) ?_
    | fail)
  all_goals (try (conv => whnf))
  all_goals first
    | ((first | (with_reducible apply Z.retF1)); (focus (exact rfl)); (repeat' (first | exact trivial | exact rfl | apply And.intro)); (all_goals (try exact (fun _ => none))); all_goals (rfl))
    | fail
theorem rec_con (s k v : Int)  : Con Try.prog 64 [.agg [.v (.int .i64 s), .v (.int .i64 k), .v (.int .i64 v)]] (fun rx rK rt => rx = .val (.int .i64 (bif keyOk s k then 0 else 150)) ∧ rK = [] ∧ rt = 0) := by
  refine Z.con_ofF tabOk 21 Try.f64 _ Try.func64 (by kernel_rfl) rfl rfl rfl rfl ?_
  repeat' ((conv => whnf); first
    | with_reducible first | refine spB_t ?_
    | with_reducible first | refine spB_no (by decide) ?_
    | (with_reducible refine spB_dec ?_ ?_ <;> intro _ <;> (try (exfalso; first | contradiction | omega | (rename_i hz; refine hz ?_; simp; done) | (rename_i hz; simp at hz; done) | (simp only [LN] at *; omega))))
    | fail)
  all_goals (try (conv => whnf))
  all_goals try (show Nat.ble _ _ = true; rfl)
  all_goals try (exfalso; rename_i hz; cases hz; done)
  all_goals try (exfalso; (try simp only [LN] at *) <;> omega)
  all_goals first
    | ((first | (with_reducible apply Z.retF1)); (focus (exact rfl)); (repeat' (first | exact trivial | (with_reducible apply Z.frz_one) | (with_reducible apply Z.fq_int) | apply And.intro)); (all_goals (try exact (fun _ => none))); all_goals (first | (rw [show keyOk s k = true from keyOk_iff.2 (by omega)]; rfl) | (rw [show keyOk s k = false by (cases hz : keyOk s k with | false => rfl | true => exact absurd (keyOk_iff.1 hz) (by omega))]; rfl)))
    | fail
end Tab
end Go.Proofs.Ytopieffkpdlpbaa
namespace Go.Proofs.Ytopieffkpdlpbaa
open Go Go.RowKit Wx
set_option linter.unusedVariables false
set_option linter.unusedSimpArgs false
set_option maxHeartbeats 4000000
namespace Tab
def thereR (l : List Kc) (s k : Int) : Bool := match l[posR l s k]? with
  | none => false
  | some x => x.src == s && x.key == k
end Tab
end Go.Proofs.Ytopieffkpdlpbaa
namespace Go.Proofs.Ytopieffkpdlpbaa
open Go Go.RowKit Wx
set_option linter.unusedVariables false
set_option linter.unusedSimpArgs false
set_option maxHeartbeats 4000000
namespace Tab
end Tab
end Go.Proofs.Ytopieffkpdlpbaa
namespace Go.Proofs.Ytopieffkpdlpbaa
open Go Go.RowKit Wx
set_option linter.unusedVariables false
set_option linter.unusedSimpArgs false
set_option maxHeartbeats 4000000
namespace Tab
theorem check_con (l : List Kc) (hl : l.length ≤ 9223372036854775807) : Con Try.prog 66 [.agg [.ro false 4 (l.map eK)]] (fun rx rK rt => rx = .val (.int .i64 (bif tabR l then 0 else 220)) ∧ rK = [] ∧ rt = 0) := by
  refine Z.con_ofF tabOk 42 Try.f66 _ Try.func66 (by kernel_rfl) rfl rfl rfl rfl ?_
  repeat' ((conv => whnf); first
    | with_reducible first | refine spB_t ?_
    | fail)
  all_goals (try (conv => whnf))
  all_goals try (show Nat.ble _ _ = true; rfl)
  all_goals try (exfalso; rename_i hz; cases hz; done)
  all_goals try (exfalso; (try simp only [LN] at *) <;> omega)
  refine Z.loopK tabOk (fun zq : Nat => [(9, .val (.int .i64 (zq : Int)))]) (fun zq : Nat => ([(0, some (Z.Ob.b ⟨[[.ro false 4 (l.map eK)]], 1, 28, true⟩))] : Z.Kr)) (fun zq => zq ≤ l.length ∧ tabR l = okT (prevR l zq) (l.drop zq)) (fun zq => l.length - zq) 0 1 [(1, _), (7, _), (8, _)] ⟨rfl, rfl, rfl, trivial⟩ [] trivial ?_ ?_ rfl rfl ⟨Nat.zero_le _, rfl⟩ ?_
  · repeat' (first | exact trivial | apply And.intro | exact ⟨_, rfl, Z.Imp.refl _⟩)
  · repeat' (first | exact trivial | exact (fun b hb => ⟨b, hb, Z.ImpO.refl b⟩) | apply And.intro)
  rintro i HINV
  (try dsimp only at HINV); (try dsimp only)
  obtain ⟨HI, HT⟩ := HINV
  by_cases hi : i < l.length
  · obtain ⟨x, hx⟩ := getElem?_some' (xs := l) (i := i) hi
    rw [okT_at hx] at HT
    have ck := rec_con x.src x.key 0
    cases hk : keyOk x.src x.key
    · rw [hk] at ck HT
      simp only [Bool.false_and, cond_false] at ck HT
      rw [HT]
      try simp only [cond_false]
      repeat' ((conv => whnf); first
        | with_reducible first | refine spB_t ?_
        | ((with_reducible apply spB_cong); (focus (simp only [beq_self_eq_true, bne_self_eq_false, Bool.true_bne, Bool.false_bne, Bool.bne_true, Bool.bne_false, Bool.true_beq, Bool.false_beq, Bool.not_true, Bool.not_false, Bool.not_not, Int.reduceBEq, Int.reduceBNe, Int.reduceLE, Int.reduceLT, Int.reduceEq, decide_true, decide_false]; rfl)))
        | (with_reducible refine spB_dec ?_ ?_ <;> intro _ <;> (try (exfalso; first | contradiction | omega | (rename_i hz; refine hz ?_; simp; done) | (rename_i hz; simp at hz; done) | (simp only [LN] at *; omega))))
        | with_reducible first | refine Z.rowN_known hx ?_
        | ((with_reducible apply ixN_litp); (focus (exact rfl)); (focus ((try simp only [LN] at *) <;> omega)))
        | with_reducible first | refine Z.callZ_in tabOk 8 Try.f69 _ Try.func69 (by kernel_rfl) rfl rfl rfl ?_
        | ((first | (with_reducible refine Z.conZ_mz ?_ (ck) ?_)); (focus ((repeat' (first | exact trivial | exact rfl | apply And.intro)); done)))
        | ((with_reducible apply ex_and); exact rfl)
        | with_reducible first | refine Z.drawZ_rule tabOk mixOk ?_ | refine Z.apZ_mk (by kernel_rfl) ?_
        | fail)
      all_goals (try (conv => whnf))
      all_goals try (show Nat.ble _ _ = true; rfl)
      all_goals try (exfalso; rename_i hz; cases hz; done)
      all_goals try (exfalso; (try simp only [LN] at *) <;> omega)
      all_goals first
        | ((first | (with_reducible apply Z.retF1)); (focus (exact rfl)); (repeat' (first | exact trivial | (with_reducible apply Z.frz_one) | (with_reducible apply Z.fq_int) | exact rfl | apply And.intro)); (all_goals (try exact (fun _ => none))); all_goals (first | (simp; done)))
        | fail
    rw [hk] at ck HT
    simp only [Bool.true_and, cond_true] at ck HT
    by_cases hc : 0 < x.cnt
    rotate_left
    · rw [decide_eq_false hc, Bool.false_and, Bool.false_and] at HT
      rw [HT]
      try simp only [cond_false]
      repeat' ((conv => whnf); first
        | with_reducible first | refine spB_t ?_
        | ((with_reducible apply spB_cong); (focus (simp only [beq_self_eq_true, bne_self_eq_false, Bool.true_bne, Bool.false_bne, Bool.bne_true, Bool.bne_false, Bool.true_beq, Bool.false_beq, Bool.not_true, Bool.not_false, Bool.not_not, Int.reduceBEq, Int.reduceBNe, Int.reduceLE, Int.reduceLT, Int.reduceEq, decide_true, decide_false]; rfl)))
        | with_reducible first | refine spB_no (by decide) ?_
        | (with_reducible refine spB_dec ?_ ?_ <;> intro _ <;> (try (exfalso; first | contradiction | omega | (rename_i hz; refine hz ?_; simp; done) | (rename_i hz; simp at hz; done) | (simp only [LN] at *; omega))))
        | with_reducible first | refine Z.rowN_known hx ?_
        | ((with_reducible apply ixN_litp); (focus (exact rfl)); (focus ((try simp only [LN] at *) <;> omega)))
        | with_reducible first | refine Z.callZ_in tabOk 8 Try.f69 _ Try.func69 (by kernel_rfl) rfl rfl rfl ?_
        | ((first | (with_reducible refine Z.conZ_mz ?_ (ck) ?_)); (focus ((repeat' (first | exact trivial | exact rfl | apply And.intro)); done)))
        | ((with_reducible apply ex_and); exact rfl)
        | with_reducible first | refine Z.drawZ_rule tabOk mixOk ?_ | refine Z.apZ_mk (by kernel_rfl) ?_
        | fail)
      all_goals (try (conv => whnf))
      all_goals try (show Nat.ble _ _ = true; rfl)
      all_goals try (exfalso; rename_i hz; cases hz; done)
      all_goals try (exfalso; (try simp only [LN] at *) <;> omega)
      all_goals first
        | ((first | (with_reducible apply Z.retF1)); (focus (exact rfl)); (repeat' (first | exact trivial | (with_reducible apply Z.frz_one) | (with_reducible apply Z.fq_int) | exact rfl | apply And.intro)); (all_goals (try exact (fun _ => none))); all_goals (first | (simp; done)))
        | fail
    rw [decide_eq_true hc, Bool.true_and] at HT
    rcases i with _ | j
    · have HT2 : tabR l = okT (prevR l 1) (l.drop 1) := by rw [HT]; rfl
      repeat' ((conv => whnf); first
        | ((with_reducible apply spB_cong); (focus (simp only [beq_self_eq_true, bne_self_eq_false, Bool.true_bne, Bool.false_bne, Bool.bne_true, Bool.bne_false, Bool.true_beq, Bool.false_beq, Bool.not_true, Bool.not_false, Bool.not_not, Int.reduceBEq, Int.reduceBNe, Int.reduceLE, Int.reduceLT, Int.reduceEq, decide_true, decide_false]; rfl)))
        | with_reducible first | refine spB_no (by decide) ?_
        | (with_reducible refine spB_dec ?_ ?_ <;> intro _ <;> (try (exfalso; first | contradiction | omega | (rename_i hz; refine hz ?_; simp; done) | (rename_i hz; simp at hz; done) | (simp only [LN] at *; omega))))
        | with_reducible first | refine Z.rowN_known hx ?_
        | ((with_reducible apply ixN_litp); (focus (exact rfl)); (focus ((try simp only [LN] at *) <;> omega)))
        | with_reducible refine wr_i64 (by first | omega | (simp only [LN] at *; omega)) ?_
        | with_reducible first | refine Z.callZ_in tabOk 8 Try.f69 _ Try.func69 (by kernel_rfl) rfl rfl rfl ?_
        | ((first | (with_reducible refine Z.conZ_mz ?_ (ck) ?_)); (focus ((repeat' (first | exact trivial | exact rfl | apply And.intro)); done)))
        | ((with_reducible apply ex_and); exact rfl)
        | with_reducible first | refine Z.drawZ_rule tabOk mixOk ?_ | refine Z.apZ_mk (by kernel_rfl) ?_
        | fail)
      all_goals (try (conv => whnf))
      all_goals try (show Nat.ble _ _ = true; rfl)
      all_goals try (exfalso; rename_i hz; cases hz; done)
      all_goals try (exfalso; (try simp only [LN] at *) <;> omega)
      all_goals first
        | ((refine Z.rndK (1) (fun s => [0]) rfl rfl rfl rfl ?_ ?_ ?_ ?_); (focus (repeat' (first | exact trivial | exact rfl | apply And.intro))); (focus (repeat' (first | exact trivial | (intro b hb; cases hb; rfl) | apply And.intro))); (focus (exact ⟨by (try dsimp only); omega, HT2⟩)); ((try dsimp only); omega))
        | fail
    obtain ⟨q, hq⟩ := getElem?_some' (xs := l) (i := j) (by omega)
    have hpr : prevR l (j + 1) = some q := hq
    rw [hpr] at HT
    simp only at HT
    have cc := compare_con q.src q.key 0 x.src x.key 0
    have hcl := @cmp_lt q.src q.key x.src x.key
    generalize cmpR q.src q.key x.src x.key = C at *
    by_cases hlt : kLt q.src q.key x.src x.key
    · rw [decide_eq_true hlt] at HT hcl
      have hC : ¬ 0 ≤ C := of_decide_eq_false (by simpa using hcl)
      rw [Bool.true_and] at HT
      repeat' ((conv => whnf); first
        | with_reducible first | refine spB_t ?_
        | ((with_reducible apply spB_cong); (focus (simp only [beq_self_eq_true, bne_self_eq_false, Bool.true_bne, Bool.false_bne, Bool.bne_true, Bool.bne_false, Bool.true_beq, Bool.false_beq, Bool.not_true, Bool.not_false, Bool.not_not, Int.reduceBEq, Int.reduceBNe, Int.reduceLE, Int.reduceLT, Int.reduceEq, decide_true, decide_false]; rfl)))
        | with_reducible first | refine spB_no (by decide) ?_
        | (with_reducible refine spB_dec ?_ ?_ <;> intro _ <;> (try (exfalso; first | contradiction | omega | (rename_i hz; refine hz ?_; simp; done) | (rename_i hz; simp at hz; done) | (simp only [LN] at *; omega))))
        | with_reducible first | refine Z.rowN_known hx ?_ | refine Z.rowN_known hq ?_
        | ((with_reducible refine ixN_mk (j) ?_ ?_ ?_); (focus (first | ((try simp only [LN] at *) <;> omega))); (focus ((try simp only [LN] at *) <;> omega)))
        | ((with_reducible apply ixN_litp); (focus (exact rfl)); (focus ((try simp only [LN] at *) <;> omega)))
        | with_reducible refine wr_i64 (by first | omega | (simp only [LN] at *; omega)) ?_
        | with_reducible first | refine Z.callZ_in tabOk 8 Try.f69 _ Try.func69 (by kernel_rfl) rfl rfl rfl ?_
        | ((first | (with_reducible refine Z.conZ_mz ?_ (ck) ?_) | (with_reducible refine Z.conZ_mz ?_ (cc) ?_)); (focus ((repeat' (first | exact trivial | exact rfl | apply And.intro)); done)))
        | ((with_reducible apply ex_and); exact rfl)
        | with_reducible first | refine Z.drawZ_rule tabOk mixOk ?_ | refine Z.apZ_mk (by kernel_rfl) ?_
        | ((with_reducible refine Z.ConZ.red ?_); (try subst hlb); (apply Z.conZ_all); (focus (repeat (first | exact Z.FK.nil | (apply Z.FK.keep; exact rfl)))); (focus rfl); (focus rfl); (focus (repeat (first | exact trivial | (refine ⟨(fun o ho => (by first | (cases ho; rfl) | (cases ho; exact Z.inL_map fun _ => rfl) | (cases ho; exact Z.inL_mapr fun _ => rfl) | exact Z.inL_gB ho fun _ => rfl)), ?_⟩)))))
        | ((refine ⟨rfl, ?_, rfl⟩); (focus (repeat (first | exact Z.DK.nil | apply Z.DK.cons))))
        | fail)
      all_goals (try (conv => whnf))
      all_goals try (show Nat.ble _ _ = true; rfl)
      all_goals try (exfalso; rename_i hz; cases hz; done)
      all_goals try (exfalso; (try simp only [LN] at *) <;> omega)
      all_goals first
        | ((refine Z.rndK ((j + 1 + 1)) (fun s => [0]) rfl rfl rfl rfl ?_ ?_ ?_ ?_); (focus (repeat' (first | exact trivial | exact rfl | apply And.intro))); (focus (repeat' (first | exact trivial | (intro b hb; cases hb; rfl) | apply And.intro))); (focus (exact ⟨by (try dsimp only); omega, HT⟩)); ((try dsimp only); omega))
        | fail
    · rw [decide_eq_false hlt] at HT hcl
      have hC : 0 ≤ C := of_decide_eq_true (by simpa using hcl)
      rw [Bool.false_and] at HT
      rw [HT]
      try simp only [cond_false]
      repeat' ((conv => whnf); first
        | with_reducible first | refine spB_t ?_
        | ((with_reducible apply spB_cong); (focus (simp only [beq_self_eq_true, bne_self_eq_false, Bool.true_bne, Bool.false_bne, Bool.bne_true, Bool.bne_false, Bool.true_beq, Bool.false_beq, Bool.not_true, Bool.not_false, Bool.not_not, Int.reduceBEq, Int.reduceBNe, Int.reduceLE, Int.reduceLT, Int.reduceEq, decide_true, decide_false]; rfl)))
        | with_reducible first | refine spB_no (by decide) ?_
        | (with_reducible refine spB_dec ?_ ?_ <;> intro _ <;> (try (exfalso; first | contradiction | omega | (rename_i hz; refine hz ?_; simp; done) | (rename_i hz; simp at hz; done) | (simp only [LN] at *; omega))))
        | with_reducible first | refine Z.rowN_known hx ?_ | refine Z.rowN_known hq ?_
        | ((with_reducible refine ixN_mk (j) ?_ ?_ ?_); (focus (first | ((try simp only [LN] at *) <;> omega))); (focus ((try simp only [LN] at *) <;> omega)))
        | ((with_reducible apply ixN_litp); (focus (exact rfl)); (focus ((try simp only [LN] at *) <;> omega)))
        | with_reducible refine wr_i64 (by first | omega | (simp only [LN] at *; omega)) ?_
        | with_reducible first | refine Z.callZ_in tabOk 8 Try.f69 _ Try.func69 (by kernel_rfl) rfl rfl rfl ?_
        | ((first | (with_reducible refine Z.conZ_mz ?_ (ck) ?_) | (with_reducible refine Z.conZ_mz ?_ (cc) ?_)); (focus ((repeat' (first | exact trivial | exact rfl | apply And.intro)); done)))
        | ((with_reducible apply ex_and); exact rfl)
        | with_reducible first | refine Z.drawZ_rule tabOk mixOk ?_ | refine Z.apZ_mk (by kernel_rfl) ?_
        | ((with_reducible refine Z.ConZ.red ?_); (try subst hlb); (apply Z.conZ_all); (focus (repeat (first | exact Z.FK.nil | (apply Z.FK.keep; exact rfl)))); (focus rfl); (focus rfl); (focus (repeat (first | exact trivial | (refine ⟨(fun o ho => (by first | (cases ho; rfl) | (cases ho; exact Z.inL_map fun _ => rfl) | (cases ho; exact Z.inL_mapr fun _ => rfl) | exact Z.inL_gB ho fun _ => rfl)), ?_⟩)))))
        | ((refine ⟨rfl, ?_, rfl⟩); (focus (repeat (first | exact Z.DK.nil | apply Z.DK.cons))))
        | fail)
      all_goals (try (conv => whnf))
      all_goals try (show Nat.ble _ _ = true; rfl)
      all_goals try (exfalso; rename_i hz; cases hz; done)
      all_goals try (exfalso; (try simp only [LN] at *) <;> omega)
      all_goals first
        | ((first | (with_reducible apply Z.retF1)); (focus (exact rfl)); (repeat' (first | exact trivial | (with_reducible apply Z.frz_one) | (with_reducible apply Z.fq_int) | exact rfl | apply And.intro)); (all_goals (try exact (fun _ => none))); all_goals (first | (simp; done)))
        | fail
  have hil : i = l.length := by omega
  subst hil
  rw [List.drop_length] at HT
  have HT3 : tabR l = true := by rw [HT]; cases prevR l l.length <;> rfl
  rw [HT3]
  try simp only [cond_true]
  repeat' ((conv => whnf); first
    | (with_reducible refine spB_dec ?_ ?_ <;> intro _ <;> (try (exfalso; first | contradiction | omega | (rename_i hz; refine hz ?_; simp; done) | (rename_i hz; simp at hz; done) | (simp only [LN] at *; omega))))
    | fail)
  all_goals (try (conv => whnf))
  all_goals try (show Nat.ble _ _ = true; rfl)
  all_goals try (exfalso; rename_i hz; cases hz; done)
  all_goals try (exfalso; (try simp only [LN] at *) <;> omega)
  all_goals first
    | ((first | (with_reducible apply Z.retF1)); (focus (exact rfl)); (repeat' (first | exact trivial | (with_reducible apply Z.frz_one) | (with_reducible apply Z.fq_int) | exact rfl | apply And.intro)); (all_goals (try exact (fun _ => none))); all_goals (first | (simp; done)))
    | fail
end Tab
end Go.Proofs.Ytopieffkpdlpbaa
namespace Go.Proofs.Ytopieffkpdlpbaa
open Go Go.RowKit Wx
set_option linter.unusedVariables false
set_option linter.unusedSimpArgs false
set_option maxHeartbeats 4000000
namespace Tab
theorem there_no {l : List Kc} {s k : Int} (h : thereR l s k = false) : ∀ x, l[posR l s k]? = some x → ¬ (x.src = s ∧ x.key = k) := fun x hx he => by
  unfold thereR at h
  rw [hx] at h
  simp [he.1, he.2] at h
theorem there_at {l : List Kc} {s k : Int} (h : thereR l s k = true) : ∃ x, l[posR l s k]? = some x ∧ x.src = s ∧ x.key = k := by
  unfold thereR at h
  cases hx : l[posR l s k]? with
  | none => rw [hx] at h; cases h
  | some x => rw [hx] at h; exact ⟨x, rfl, by simpa using h⟩
theorem put_new {l : List Kc} {s k : Int} {c : Int × Int} (ht : tabR l = true) (hth : thereR l s k = false) (hc : 0 < c.1) : putR l s k c = l.take (posR l s k) ++ ⟨s, k, c.1, c.2⟩ :: l.drop (posR l s k) := by
  rw [put_no ht (there_no hth)]
  unfold ownK
  rw [if_neg (fun e => by rw [e] at hc; exact absurd hc (by decide))]; simp
end Tab
end Go.Proofs.Ytopieffkpdlpbaa
/-
  DERIVED: THE SHELF's CONTRACTS AT THIS DUMP, IN PLAIN WORDS (tools/lay-plain.mjs out of 'SortLay.lean', which tools/lay-shelf.mjs wrote): THE SAME DECLARATIONS UNDER THE SAME NAMES: 'import', 'namespace', 'open', 'def', 'theorem' AND NOTHING ELSE: no command of the shelf's: FOR A HAND-IN. Each laying: the table of numbers ('.._ren') and one theorem, a field a fact of the dump's own or the kernel's comparison; each contract: ONE APPLICATION.
-/
namespace Go.Proofs
open Go.Shelf
def Try.sortK_ren : Go.Shelf.Ren := ⟨fun | 6 => 104 | 15 => 115 | 14 => 114 | 28 => 127 | 29 => 128 | 20 => 119 | 21 => 120 | 22 => 121 | 23 => 122 | 24 => 123 | 25 => 124 | 26 => 125 | 27 => 126 | 46 => 130 | 47 => 131 | 48 => 132 | 49 => 133 | 50 => 134 | 57 => 135 | n => n, fun | 22 => 26 | 24 => 70 | 25 => 148 | 3 => 3 | 39 => 58 | 0 => 0 | 53 => 99 | 55 => 132 | 4 => 4 | 46 => 163 | 45 => 162 | 50 => 111 | 5 => 5 | 9 => 9 | 66 => 170 | 70 => 173 | 76 => 175 | 77 => 176 | n => n, fun | n => n⟩
theorem Try.sortK : Go.Proofs.SlLaysF0.n6 Try.prog Try.sortK_ren := {
  mixed := by kernel_rfl
  f6 := ⟨Try.f104.name, by decide, Try.func104.trans (congrArg some (by kernel_rfl))⟩
  f14 := ⟨Try.f114.name, by decide, Try.func114.trans (congrArg some (by kernel_rfl))⟩
  f15 := Try.func115.trans (congrArg some (by kernel_rfl))
  f20 := ⟨Try.f119.name, by decide, Try.func119.trans (congrArg some (by kernel_rfl))⟩
  f21 := ⟨Try.f120.name, by decide, Try.func120.trans (congrArg some (by kernel_rfl))⟩
  f22 := ⟨Try.f121.name, by decide, Try.func121.trans (congrArg some (by kernel_rfl))⟩
  f23 := ⟨Try.f122.name, by decide, Try.func122.trans (congrArg some (by kernel_rfl))⟩
  f24 := ⟨Try.f123.name, by decide, Try.func123.trans (congrArg some (by kernel_rfl))⟩
  f25 := ⟨Try.f124.name, by decide, Try.func124.trans (congrArg some (by kernel_rfl))⟩
  f26 := ⟨Try.f125.name, by decide, Try.func125.trans (congrArg some (by kernel_rfl))⟩
  f27 := ⟨Try.f126.name, by decide, Try.func126.trans (congrArg some (by kernel_rfl))⟩
  f28 := Try.func127.trans (congrArg some (by kernel_rfl))
  f29 := Try.func128.trans (congrArg some (by kernel_rfl))
  f46 := ⟨Try.f130.name, by decide, Try.func130.trans (congrArg some (by kernel_rfl))⟩
  f47 := Try.func131.trans (congrArg some (by kernel_rfl))
  f48 := Try.func132.trans (congrArg some (by kernel_rfl))
  f49 := ⟨Try.f133.name, by decide, Try.func133.trans (congrArg some (by kernel_rfl))⟩
  f50 := ⟨Try.f134.name, by decide, Try.func134.trans (congrArg some (by kernel_rfl))⟩
  f57 := ⟨Try.f135.name, by decide, Try.func135.trans (congrArg some (by kernel_rfl))⟩
  t0 := Try.underlying0
  a0 := Try.isAgg0
  z0 := Try.sizeOf0
  v0 := Try.zeroValue0
  t3 := Try.underlying3
  a3 := Try.isAgg3
  z3 := Try.sizeOf3
  v3 := Try.zeroValue3
  t4 := Try.underlying4
  a4 := Try.isAgg4
  z4 := Try.sizeOf4
  v4 := Try.zeroValue4
  t5 := Try.underlying5
  a5 := Try.isAgg5
  z5 := Try.sizeOf5
  v5 := Try.zeroValue5
  t9 := Try.underlying9
  a9 := Try.isAgg9
  z9 := Try.sizeOf9
  v9 := Try.zeroValue9
  t22 := Try.underlying26
  a22 := Try.isAgg26
  z22 := Try.sizeOf26
  v22 := Try.zeroValue26
  t25 := Try.underlying148
  a25 := Try.isAgg148
  z25 := Try.sizeOf148
  v25 := Try.zeroValue148
  t39 := Try.underlying58
  a39 := Try.isAgg58
  z39 := Try.sizeOf58
  v39 := Try.zeroValue58
  t45 := Try.underlying162
  a45 := Try.isAgg162
  z45 := Try.sizeOf162
  v45 := Try.zeroValue162
  t46 := Try.underlying163
  a46 := Try.isAgg163
  z46 := Try.sizeOf163
  v46 := Try.zeroValue163
  t50 := Try.underlying111
  a50 := Try.isAgg111
  z50 := Try.sizeOf111
  v50 := Try.zeroValue111
  t53 := Try.underlying99
  a53 := Try.isAgg99
  z53 := Try.sizeOf99
  v53 := Try.zeroValue99
  t55 := Try.underlying132
  a55 := Try.isAgg132
  z55 := Try.sizeOf132
  v55 := Try.zeroValue132
  t66 := Try.underlying170
  a66 := Try.isAgg170
  z66 := Try.sizeOf170
  v66 := Try.zeroValue170
  t70 := Try.underlying173
  a70 := Try.isAgg173
  z70 := Try.sizeOf173
  v70 := Try.zeroValue173
  t76 := Try.underlying175
  a76 := Try.isAgg175
  z76 := Try.sizeOf175
  v76 := Try.zeroValue175
  t77 := Try.underlying176
  a77 := Try.isAgg176
  z77 := Try.sizeOf176
  v77 := Try.zeroValue176 }
end Go.Proofs
namespace Go.Proofs.Ytopieffkpdlpbaa
open Go Go.RowKit Wx
set_option linter.unusedVariables false
set_option linter.unusedSimpArgs false
set_option maxHeartbeats 4000000
namespace Tab
abbrev ev (x : Kc) : List Value := [.int .i64 x.src, .int .i64 x.key, .int .i64 x.cnt, .int .i64 x.sum]
instance : Inhabited Kc := ⟨⟨0, 0, 0, 0⟩⟩
def cfK (x y : Kc) : Int := cmpR x.src x.key y.src y.key
theorem cfK_lt (x y : Kc) : ltOf cfK x y = decide (kLtK x y) := by
  have h := @cmp_lt x.src x.key y.src y.key
  unfold ltOf cfK
  by_cases h1 : cmpR x.src x.key y.src y.key < 0
  · rw [show decide (0 ≤ cmpR x.src x.key y.src y.key) = false by simpa using h1] at h
    have h2 : decide (kLtK x y) = true := by simpa using h.symm
    rw [h2]; simpa using h1
  · rw [show decide (0 ≤ cmpR x.src x.key y.src y.key) = true by simp; omega] at h
    have h2 : decide (kLtK x y) = false := by simpa using h.symm
    rw [h2]; simpa using h1
theorem cfK_swo : Go.Sort.SWO (ltOf cfK) := {
  irrefl := fun x => by rw [cfK_lt]; simpa using kLt_irr
  trans := fun x y z h1 h2 => by
    rw [cfK_lt] at *
    exact decide_eq_true (kLt_trans (of_decide_eq_true h1) (of_decide_eq_true h2))
  ntrans := fun x y z h1 h2 => by
    rw [cfK_lt] at *
    have h1 := of_decide_eq_false h1
    have h2 := of_decide_eq_false h2
    refine decide_eq_false ?_
    unfold kLtK kLt at *
    omega }
abbrev neK (x y : Kc) : Prop := ¬ (x.src = y.src ∧ x.key = y.key)
def mrg (a b : List Kc) : List Kc := b.foldl (fun o x => putR o x.src x.key (x.cnt, x.sum)) a
def comm (a b : List Kc) : Bool := b.any fun x => decide (getR a x.src x.key ≠ (0, 0))
def joinT (a b : List Kc) : List Kc × Int := if tabR a = false ∨ tabR b = false then ([], 220) else if comm a b = true then ([], 5) else (mrg a b, 0)
theorem get_in {l : List Kc} (h : ∀ x ∈ l, 0 < x.cnt) {s k : Int} : getR l s k ≠ (0, 0) ↔ ∃ y ∈ l, y.src = s ∧ y.key = k := by
  unfold getR
  cases hx : l.find? (eqK s k) with
  | some x =>
    have h2 := List.find?_some hx
    unfold eqK at h2
    have h3 := h x (List.mem_of_find?_eq_some hx)
    refine ⟨fun _ => ⟨x, List.mem_of_find?_eq_some hx, of_decide_eq_true h2⟩, fun _ h9 => ?_⟩
    simp only [Prod.mk.injEq] at h9
    omega
  | none =>
    refine ⟨fun h1 => absurd rfl h1, ?_⟩
    rintro ⟨y, hy, he⟩
    have := List.find?_eq_none.1 hx y hy
    unfold eqK at this
    exact absurd (decide_eq_true he) this
theorem comm_no {a b : List Kc} (ha : tabR a = true) : comm a b = false ↔ ∀ x ∈ a, ∀ y ∈ b, neK x y := by
  have hp : ∀ x ∈ a, 0 < x.cnt := fun x hx => ((tab_iff.1 ha).1 x hx).2
  unfold comm
  rw [List.any_eq_false]
  constructor
  · intro h x hx y hy he
    exact h y hy (decide_eq_true ((get_in hp).2 ⟨x, hx, he⟩))
  · intro h y hy h1
    obtain ⟨x, hx, he⟩ := (get_in hp).1 (of_decide_eq_true h1)
    exact h x hx y hy he
theorem same_pw : ∀ {l m : List Kc}, l.Pairwise kLtK → m.Pairwise kLtK → (∀ x, x ∈ l ↔ x ∈ m) → l = m
  | [], [], _, _, _ => rfl
  | [], y :: m, _, _, h => absurd ((h y).2 (by simp)) (by simp)
  | x :: l, [], _, _, h => absurd ((h x).1 (by simp)) (by simp)
  | x :: l, y :: m, h1, h2, h => by
    rw [List.pairwise_cons] at h1 h2
    have hxy : x = y := by
      rcases List.mem_cons.1 ((h x).1 (by simp)) with e | e
      · exact e
      · rcases List.mem_cons.1 ((h y).2 (by simp)) with e2 | e2
        · exact e2.symm
        · exact absurd (h2.1 x e) (kLt_asym (h1.1 y e2))
    subst hxy
    have hs : ∀ z, z ∈ l ↔ z ∈ m := fun z => by
      constructor
      · intro hz
        rcases List.mem_cons.1 ((h z).1 (by simp [hz])) with e | e
        · subst e; exact absurd (h1.1 z hz) kLt_irr
        · exact e
      · intro hz
        rcases List.mem_cons.1 ((h z).2 (by simp [hz])) with e | e
        · subst e; exact absurd (h2.1 z hz) kLt_irr
        · exact e
    rw [same_pw h1.2 h2.2 hs]
theorem put_perm {o : List Kc} {x : Kc} (ht : tabR o = true) (hx : 0 < x.cnt) (hn : ∀ y ∈ o, neK y x) : (putR o x.src x.key (x.cnt, x.sum)).Perm (x :: o) := by
  have hth : thereR o x.src x.key = false := by
    cases h : thereR o x.src x.key with
    | false => rfl
    | true => obtain ⟨y, h1, h2⟩ := there_at h; exact absurd h2 (hn y (List.mem_of_getElem? h1))
  rw [put_new ht hth hx]
  refine List.perm_middle.trans ?_
  rw [List.take_append_drop]
theorem mrg_tab : ∀ {b a : List Kc}, tabR a = true → (∀ x ∈ b, keyOk x.src x.key = true ∧ 0 < x.cnt) → tabR (mrg a b) = true
  | [], a, h, _ => h
  | x :: b, a, h, hb => mrg_tab (b := b) (put_tab (c := (x.cnt, x.sum)) h (hb x (by simp)).1 (.inr (hb x (by simp)).2)) fun y hy => hb y (by simp [hy])
theorem mrg_perm : ∀ {b a : List Kc}, tabR a = true → (∀ x ∈ b, keyOk x.src x.key = true ∧ 0 < x.cnt) → (∀ x ∈ a, ∀ y ∈ b, neK x y) → b.Pairwise neK → (mrg a b).Perm (a ++ b)
  | [], a, h, _, _, _ => by rw [List.append_nil]; exact .refl _
  | x :: b, a, h, hb, hn, hp => by
    rw [List.pairwise_cons] at hp
    have p1 := put_perm (x := x) h (hb x (by simp)).2 fun y hy => hn y hy x (by simp)
    have p2 := mrg_perm (b := b) (put_tab (c := (x.cnt, x.sum)) h (hb x (by simp)).1 (.inr (hb x (by simp)).2)) (fun y hy => hb y (by simp [hy])) (fun y hy z hz => by
      rcases List.mem_cons.1 ((p1.mem_iff (a := y)).1 hy) with e | e
      · subst e; exact hp.1 z hz
      · exact hn y e z (by simp [hz])) hp.2
    show (mrg (putR a x.src x.key (x.cnt, x.sum)) b).Perm _
    exact p2.trans (((p1.append_right b).trans (.refl _)).trans (List.perm_middle.symm))
theorem pw_ne {l : List Kc} (h : l.Pairwise kLtK) : l.Pairwise neK := h.imp fun hxy he => by unfold kLtK kLt at hxy; omega
theorem sort_join {a b z : List Kc} (ha : tabR a = true) (hb : tabR b = true) (hp : z.Perm (a ++ b)) (hs : z.Pairwise fun x y => ltOf cfK y x = false) : tabR z = !comm a b ∧ (comm a b = false → z = mrg a b) := by
  have a1 := tab_iff.1 ha
  have b1 := tab_iff.1 hb
  have hk : ∀ x ∈ z, keyOk x.src x.key = true ∧ 0 < x.cnt := fun x hx => by
    rcases List.mem_append.1 ((hp.mem_iff (a := x)).1 hx) with e | e
    · exact a1.1 x e
    · exact b1.1 x e
  have sy : ∀ {x y : Kc}, neK x y → neK y x := fun h he => h ⟨he.1.symm, he.2.symm⟩
  cases hc : comm a b with
  | false =>
    have hn := (comm_no ha).1 hc
    have h2 : (a ++ b).Pairwise neK := List.pairwise_append.2 ⟨pw_ne a1.2, pw_ne b1.2, hn⟩
    have h3 : z.Pairwise neK := (hp.pairwise_iff sy).2 h2
    have h4 : z.Pairwise kLtK := (List.Pairwise.and hs h3).imp fun {x y} h => by
      have h5 := h.1
      rw [cfK_lt] at h5
      rcases @kLt_tri x.src x.key y.src y.key with e | e | e
      · exact e
      · exact absurd e h.2
      · exact absurd e (of_decide_eq_false h5)
    refine ⟨tab_iff.2 ⟨hk, h4⟩, fun _ => ?_⟩
    refine same_pw h4 (tab_iff.1 (mrg_tab ha b1.1)).2 fun x => ?_
    exact (hp.mem_iff).trans (mrg_perm ha b1.1 hn (pw_ne b1.2)).mem_iff.symm
  | true =>
    refine ⟨?_, fun h => nomatch h⟩
    cases ht : tabR z with
    | false => rfl
    | true =>
      have h3 := pw_ne (tab_iff.1 ht).2
      have h2 := (hp.pairwise_iff sy).1 h3
      have := (comm_no (b := b) ha).2 (List.pairwise_append.1 h2).2.2
      rw [hc] at this
      cases this
theorem cmpk_con (x y : Kc)  : Con Try.prog 105 [.agg [.v (.int .i64 x.src), .v (.int .i64 x.key), .v (.int .i64 x.cnt), .v (.int .i64 x.sum)], .agg [.v (.int .i64 y.src), .v (.int .i64 y.key), .v (.int .i64 y.cnt), .v (.int .i64 y.sum)]] (fun rx rK rt => rx = .val (.int .i64 (cfK x y)) ∧ rK = [] ∧ rt = 0) := by
  refine Z.con_ofF tabOk 10 Try.f105 _ Try.func105 (by kernel_rfl) rfl rfl rfl rfl ?_
  have cc := compare_con x.src x.key 0 y.src y.key 0
  repeat' ((conv => whnf); first
    | with_reducible first | refine spB_t ?_
    | ((with_reducible apply spB_cong); (focus (simp only [beq_self_eq_true, bne_self_eq_false, Bool.true_bne, Bool.false_bne, Bool.bne_true, Bool.bne_false, Bool.true_beq, Bool.false_beq, Bool.not_true, Bool.not_false, Bool.not_not, Int.reduceBEq, Int.reduceBNe, Int.reduceLE, Int.reduceLT, Int.reduceEq, decide_true, decide_false]; rfl)))
    | with_reducible first | refine spB_yes (by decide) ?_ | refine spB_no (by decide) ?_ | refine spB_f ?_ | refine spB_not ?_ | refine spB_yes (by assumption) ?_ | refine spB_no (by assumption) ?_
    | (with_reducible refine spB_dec ?_ ?_ <;> intro _ <;> (try (exfalso; first | contradiction | omega | (rename_i hz; refine hz ?_; simp; done) | (rename_i hz; simp at hz; done) | (simp only [LN] at *; omega))))
    | (with_reducible refine spB_beq ?_ ?_ <;> intro _ <;> (try (exfalso; first | contradiction | omega | (rename_i hz; refine hz ?_; simp; done) | (rename_i hz; simp at hz; done) | (simp only [LN] at *; omega))))
    | (with_reducible refine spB_bne ?_ ?_ <;> intro _ <;> (try (exfalso; first | contradiction | omega | (rename_i hz; refine hz ?_; simp; done) | (rename_i hz; simp at hz; done) | (simp only [LN] at *; omega))))
    | (with_reducible refine spB_mk ?_ ?_ <;> intro _ <;> (try (exfalso; first | contradiction | omega | (rename_i hz; refine hz ?_; simp; done) | (rename_i hz; simp at hz; done) | (simp only [LN] at *; omega))))
    | ((with_reducible apply rowN_mk); (focus rfl))
    | ((with_reducible apply ixN_lit); (focus (exact rfl)); (focus (exact rfl)))
    | ((with_reducible apply ixN_litp); (focus (exact rfl)); (focus ((try simp only [LN] at *) <;> omega)))
    | ((with_reducible refine eqN_mk2 ?_ ?_); (focus rfl))
    | with_reducible refine wr_i64 (by first | omega | (simp only [LN] at *; omega)) ?_
    | with_reducible refine wr_u64 (by omega) ?_
    | with_reducible first | refine wr_mk _ rfl ?_
    | ((with_reducible refine ixN_nat ?_ ?_); (focus ((try simp only [LN] at *) <;> omega)))
    | ((with_reducible refine rowN_map ?_ ?_); (focus ((try simp only [LN] at *) <;> omega)); intro x hx)
    | with_reducible refine eqN_dec (by omega) ?_
    | with_reducible first | refine apN_mk (by kernel_rfl) ?_ | refine Z.callZ_in tabOk 8 Try.f69 _ Try.func69 (by kernel_rfl) rfl rfl rfl ?_
    | ((first | (with_reducible refine Z.conZ_mz ?_ (cc) ?_) | (with_reducible refine Z.callZ_mk ?_ (cc) ?_)); (focus ((repeat' (first | exact trivial | exact ⟨_, rfl, rfl, rfl⟩ | (refine Z.low_osln ?_ (fun _ => rfl); (first | exact hzl | exact hzl.symm)) | exact rfl | exact Z.low_nil | exact Z.low_nil2 | exact low_osl (fun _ => rfl) | (refine Z.low_osln ?_ (fun _ => rfl); (simp only [List.length_map]; done)) | exact low_oslr (fun _ => rfl) | exact Z.low_gslm (by first | rfl | exact Z.kb_some rfl) (fun _ => rfl) | exact .inl rfl | exact .inr ⟨_, rfl⟩ | apply And.intro)); done)))
    | ((with_reducible refine eqN_mk2 ?_ ?_); (focus (exact Z.kb_some rfl)))
    | ((with_reducible apply ex_and); exact rfl)
    | with_reducible first | refine Z.drawZ_rule tabOk mixOk ?_ | refine Z.apZ_mk (by kernel_rfl) ?_
    | ((with_reducible refine Z.ConZ.red ?_); (try subst hlb); (apply Z.conZ_all); (focus (repeat (first | exact Z.FK.nil | (apply Z.FK.keep; exact rfl)))); (focus rfl); (focus rfl); (focus (repeat (first | exact trivial | (refine ⟨(fun o ho => (by first | (cases ho; rfl) | (cases ho; exact Z.inL_map fun _ => rfl) | (cases ho; exact Z.inL_mapr fun _ => rfl) | exact Z.inL_gB ho fun _ => rfl)), ?_⟩)))))
    | ((refine ⟨rfl, ?_, rfl⟩); (focus (repeat (first | exact Z.DK.nil | apply Z.DK.cons))))
    | (focus (exact (rfl : Nat.ble _ _ = true))))
  all_goals (try (conv => whnf))
  all_goals try (show Nat.ble _ _ = true; rfl)
  all_goals first
    | ((first | (with_reducible apply Z.retF1) | (with_reducible apply Z.retF2) | (with_reducible apply Z.retF0)); (focus (exact rfl)); (repeat' (first | exact trivial | (with_reducible apply Z.frz_one) | (with_reducible apply Z.frz_agg) | (with_reducible apply Z.fq_int) | (with_reducible apply Z.fq_bool) | (exact Z.frz_nil) | (exact Z.frz_osl0 rfl rfl rfl) | (with_reducible apply Z.fq_nil) | (with_reducible apply Z.fq_ro) | ((with_reducible apply Z.fq_gsl); (focus (first | rfl | exact Z.isB_map _ | exact Z.gB_snoc.symm)); (focus (exact fun _ => rfl))) | ((with_reducible apply Z.fq_osl); (focus (exact rfl)); (focus (first | exact rfl | (simp only [List.length_map, Nat.zero_add]; done) | ((try simp only [LN] at *) <;> omega))); (focus (exact fun _ => rfl))) | ((with_reducible apply Z.fq_src); (focus (exact rfl)); (focus (first | exact rfl | (simp only [List.length_map, Nat.zero_add]; done) | ((try simp only [LN] at *) <;> omega))); (focus (exact fun _ => rfl))) | exact rfl | ((apply Z.fq_osl); (focus (exact rfl)); (focus (first | exact rfl | (simp only [List.length_map, Nat.zero_add]; done) | ((try simp only [LN] at *) <;> omega))); (focus (exact fun _ => rfl))) | ((apply Z.fq_src); (focus (exact rfl)); (focus (first | exact rfl | (simp only [List.length_map, Nat.zero_add]; done) | ((try simp only [LN] at *) <;> omega))); (focus (exact fun _ => rfl))) | (apply Z.fq_ro) | (apply Z.fq_int) | (apply Z.fq_bool) | apply And.intro)); (all_goals (try exact (fun _ => none))); all_goals (first | rfl | (simp; done)))
    | (exfalso; rename_i hz; cases hz; done)
    | (exfalso; (try simp only [LN] at *) <;> omega)
    | (fail)
end Tab
end Go.Proofs.Ytopieffkpdlpbaa
namespace Go.Proofs.Ytopieffkpdlpbaa
open Go Go.RowKit Wx
set_option linter.unusedVariables false
set_option linter.unusedSimpArgs false
set_option maxHeartbeats 4000000
namespace Tab
end Tab
end Go.Proofs.Ytopieffkpdlpbaa
namespace Go.Proofs.Ytopieffkpdlpbaa
open Go Go.RowKit Wx
set_option linter.unusedVariables false
set_option linter.unusedSimpArgs false
set_option maxHeartbeats 4000000
namespace Tab
end Tab
end Go.Proofs.Ytopieffkpdlpbaa
namespace Go.Proofs.Ytopieffkpdlpbaa
open Go Go.RowKit Wx
set_option linter.unusedVariables false
set_option linter.unusedSimpArgs false
set_option maxHeartbeats 4000000
namespace Tab
def okS (i w : Int) : Prop := (1 ≤ w ∧ w ≤ 3) ∧ 0 ≤ i ∧ i < w
instance (i w : Int) : Decidable (okS i w) := by unfold okS; infer_instance
theorem share_con (i w : Int)  : Con Try.prog 70 [.one (.v (.int .i64 i)), .one (.v (.int .i64 w))] (fun rx rK rt => rx = .val (.bool (decide (okS i w))) ∧ rK = [] ∧ rt = 0) := by
  refine Z.con_ofF tabOk 16 Try.f70 _ Try.func70 (by kernel_rfl) rfl rfl rfl rfl ?_
  by_cases h : okS i w
  · rw [decide_eq_true h]
    unfold okS at h
    repeat' ((conv => whnf); first
      | with_reducible first | refine spB_t ?_
      | (with_reducible refine spB_dec ?_ ?_ <;> intro _ <;> (try (exfalso; first | contradiction | omega | (rename_i hz; refine hz ?_; simp; done) | (rename_i hz; simp at hz; done) | (simp only [LN] at *; omega))))
      | with_reducible first | refine Z.callZ_in tabOk 9 Try.f102 _ Try.func102 (by kernel_rfl) rfl rfl rfl ?_
      | ((with_reducible apply ex_and); exact rfl)
      | fail)
    all_goals (try (conv => whnf))
    all_goals try (show Nat.ble _ _ = true; rfl)
    all_goals try (exfalso; rename_i hz; cases hz; done)
    all_goals try (exfalso; (try simp only [LN] at *) <;> omega)
    all_goals first
      | ((first | (with_reducible apply Z.retF1)); (focus (exact rfl)); (repeat' (first | exact trivial | (with_reducible apply Z.frz_one) | (with_reducible apply Z.fq_bool) | apply And.intro)); (all_goals (try exact (fun _ => none))); all_goals (first | (simp_all; done)))
      | fail
  · rw [decide_eq_false h]
    unfold okS at h
    repeat' ((conv => whnf); first
      | with_reducible first | refine spB_t ?_
      | with_reducible first | refine spB_no (by decide) ?_
      | (with_reducible refine spB_dec ?_ ?_ <;> intro _ <;> (try (exfalso; first | contradiction | omega | (rename_i hz; refine hz ?_; simp; done) | (rename_i hz; simp at hz; done) | (simp only [LN] at *; omega))))
      | with_reducible first | refine Z.callZ_in tabOk 9 Try.f102 _ Try.func102 (by kernel_rfl) rfl rfl rfl ?_
      | ((with_reducible apply ex_and); exact rfl)
      | fail)
    all_goals (try (conv => whnf))
    all_goals try (show Nat.ble _ _ = true; rfl)
    all_goals try (exfalso; rename_i hz; cases hz; done)
    all_goals try (exfalso; (try simp only [LN] at *) <;> omega)
    all_goals first
      | ((first | (with_reducible apply Z.retF1)); (focus (exact rfl)); (repeat' (first | exact trivial | (with_reducible apply Z.frz_one) | (with_reducible apply Z.fq_bool) | exact rfl | apply And.intro)); (all_goals (try exact (fun _ => none))); all_goals (first | (simp_all; done)))
      | fail
theorem owned_bad (i w : Int) (h : ¬ okS i w) : Con Try.prog 72 [.one (.v (.int .i64 i)), .one (.v (.int .i64 w))] (fun rx rK rt => rx = .tup [.one (.ro true 1 []), .one (.v (.int .i64 2))] ∧ rK = [] ∧ rt = 0) := by
  refine Z.con_ofF tabOk 29 Try.f72 _ Try.func72 (by kernel_rfl) rfl rfl rfl rfl ?_
  have csh := share_con i w
  rw [decide_eq_false h] at csh
  repeat' ((conv => whnf); first
    | with_reducible first | refine spB_t ?_
    | ((with_reducible apply spB_cong); (focus (simp only [beq_self_eq_true, bne_self_eq_false, Bool.true_bne, Bool.false_bne, Bool.bne_true, Bool.bne_false, Bool.true_beq, Bool.false_beq, Bool.not_true, Bool.not_false, Bool.not_not, Int.reduceBEq, Int.reduceBNe, Int.reduceLE, Int.reduceLT, Int.reduceEq, decide_true, decide_false]; rfl)))
    | ((first | (with_reducible refine Z.callZ_mk ?_ (csh) ?_)); (focus ((repeat' (first | exact trivial | exact rfl | apply And.intro)); done)))
    | fail)
  all_goals (try (conv => whnf))
  all_goals try (show Nat.ble _ _ = true; rfl)
  all_goals try (exfalso; rename_i hz; cases hz; done)
  all_goals try (exfalso; (try simp only [LN] at *) <;> omega)
  all_goals first
    | ((first | (with_reducible apply Z.retF2)); (focus (exact rfl)); (repeat' (first | exact trivial | (with_reducible apply Z.frz_one) | (with_reducible apply Z.fq_int) | (exact Z.frz_nil) | exact rfl | apply And.intro)); (all_goals (try exact (fun _ => none))); all_goals (first | (simp_all; done)))
    | fail
end Tab
end Go.Proofs.Ytopieffkpdlpbaa
namespace Go.Proofs.Ytopieffkpdlpbaa
open Go Go.RowKit Wx
set_option linter.unusedVariables false
set_option linter.unusedSimpArgs false
set_option maxHeartbeats 4000000
theorem zero_bad (o i w : Int) (h : ¬ okZ o i w) : Con Try.prog 10 [.one (.v (.int .i64 o)), .one (.v (.int .i64 i)), .one (.v (.int .i64 w))] (fun rx rK rt => rx = .tup [.agg [.v (.int .i64 0), .v (.int .i64 0), .v (.int .i64 0), .v (.bool false), .v (.slice none 0 0), .v (.int .i64 0), .v (.int .i64 0), .v (.int .i64 0), .v (.int .i64 0), .v (.int .i64 0), .v (.int .i64 0), .v (.int .i64 0), .v (.int .i64 0), .v (.slice none 0 0)], .one (.v (.int .i64 2))] ∧ rK = [] ∧ rt = 0) := by
  refine Z.con_ofZ tabOk 22 Try.f10 _ Try.func10 (by kernel_rfl) rfl rfl rfl rfl ?_
  by_cases ho : 0 ≤ o ∧ o < 8
  · have hs : ¬ Tab.okS i w := fun hs => h ⟨ho, hs⟩
    have cow := Tab.owned_bad i w hs
    repeat' ((conv => whnf); first
      | with_reducible first | refine spB_t ?_
      | ((with_reducible apply spB_cong); (focus (simp only [beq_self_eq_true, bne_self_eq_false, Bool.true_bne, Bool.false_bne, Bool.bne_true, Bool.bne_false, Bool.true_beq, Bool.false_beq, Bool.not_true, Bool.not_false, Bool.not_not, Int.reduceBEq, Int.reduceBNe, Int.reduceLE, Int.reduceLT, Int.reduceEq, decide_true, decide_false]; rfl)))
      | with_reducible first | refine spB_no (by decide) ?_ | refine spB_not ?_
      | (with_reducible refine spB_dec ?_ ?_ <;> intro _ <;> (try (exfalso; first | contradiction | omega | (rename_i hz; refine hz ?_; simp; done) | (rename_i hz; simp at hz; done) | (simp only [LN] at *; omega))))
      | with_reducible first | refine Z.callZ_in tabOk 9 Try.f31 _ Try.func31 (by kernel_rfl) rfl rfl rfl ?_ | refine Z.callZ_in tabOk 15 Try.f32 _ Try.func32 (by kernel_rfl) rfl rfl rfl ?_
      | ((first | (with_reducible refine Z.callZ_mk ?_ (cow) ?_)); (focus ((repeat' (first | exact trivial | exact rfl | apply And.intro)); done)))
      | ((with_reducible apply ex_and); exact rfl)
      | fail)
    all_goals (try (conv => whnf))
    all_goals try (show Nat.ble _ _ = true; rfl)
    all_goals try (exfalso; rename_i hz; cases hz; done)
    all_goals try (exfalso; (try simp only [LN] at *) <;> omega)
    all_goals first
      | (refine ret1 [.agg [.v (.int .i64 0), .v (.int .i64 0), .v (.int .i64 0), .v (.bool false), .v (.slice none 0 0), .v (.int .i64 0), .v (.int .i64 0), .v (.int .i64 0), .v (.int .i64 0), .v (.int .i64 0), .v (.int .i64 0), .v (.int .i64 0), .v (.int .i64 0), .v (.slice none 0 0)], .one (.v (.int .i64 2))] rfl [] (.tup [.agg [.v (.int .i64 0), .v (.int .i64 0), .v (.int .i64 0), .v (.bool false), .v (.slice none 0 0), .v (.int .i64 0), .v (.int .i64 0), .v (.int .i64 0), .v (.int .i64 0), .v (.int .i64 0), .v (.int .i64 0), .v (.int .i64 0), .v (.int .i64 0), .v (.slice none 0 0)], .one (.v (.int .i64 2))]) [] rfl trivial List.nodup_nil rfl ?_ (fun p hp => nomatch hp) ⟨rfl, rfl, rfl⟩; intro p b hp; cases hp; done)
      | fail
  repeat' ((conv => whnf); first
    | with_reducible first | refine spB_t ?_
    | ((with_reducible apply spB_cong); (focus (simp only [beq_self_eq_true, bne_self_eq_false, Bool.true_bne, Bool.false_bne, Bool.bne_true, Bool.bne_false, Bool.true_beq, Bool.false_beq, Bool.not_true, Bool.not_false, Bool.not_not, Int.reduceBEq, Int.reduceBNe, Int.reduceLE, Int.reduceLT, Int.reduceEq, decide_true, decide_false]; rfl)))
    | with_reducible first | refine spB_no (by decide) ?_ | refine spB_not ?_
    | (with_reducible refine spB_dec ?_ ?_ <;> intro _ <;> (try (exfalso; first | contradiction | omega | (rename_i hz; refine hz ?_; simp; done) | (rename_i hz; simp at hz; done) | (simp only [LN] at *; omega))))
    | with_reducible first | refine Z.callZ_in tabOk 9 Try.f31 _ Try.func31 (by kernel_rfl) rfl rfl rfl ?_
    | ((with_reducible apply ex_and); exact rfl)
    | fail)
  all_goals (try (conv => whnf))
  all_goals try (show Nat.ble _ _ = true; rfl)
  all_goals try (exfalso; rename_i hz; cases hz; done)
  all_goals try (exfalso; (try simp only [LN] at *) <;> omega)
  all_goals first
    | (refine ret1 [.agg [.v (.int .i64 0), .v (.int .i64 0), .v (.int .i64 0), .v (.bool false), .v (.slice none 0 0), .v (.int .i64 0), .v (.int .i64 0), .v (.int .i64 0), .v (.int .i64 0), .v (.int .i64 0), .v (.int .i64 0), .v (.int .i64 0), .v (.int .i64 0), .v (.slice none 0 0)], .one (.v (.int .i64 2))] rfl [] (.tup [.agg [.v (.int .i64 0), .v (.int .i64 0), .v (.int .i64 0), .v (.bool false), .v (.slice none 0 0), .v (.int .i64 0), .v (.int .i64 0), .v (.int .i64 0), .v (.int .i64 0), .v (.int .i64 0), .v (.int .i64 0), .v (.int .i64 0), .v (.int .i64 0), .v (.slice none 0 0)], .one (.v (.int .i64 2))]) [] rfl trivial List.nodup_nil rfl ?_ (fun p hp => nomatch hp) ⟨rfl, rfl, rfl⟩; intro p b hp; cases hp; done)
    | fail
theorem right_bad (o i w : Int) (h : ¬ okZ o i w) : Con Try.prog 11 [.agg [.v (.int .i64 o), .v (.int .i64 i), .v (.int .i64 w), .v (.bool false), .v (.slice none 0 0), .v (.int .i64 0), .v (.int .i64 0), .v (.int .i64 0), .v (.int .i64 0), .v (.int .i64 0), .v (.int .i64 0), .v (.int .i64 0), .v (.int .i64 0), .v (.slice none 0 0)]] (fun rx rK rt => rx = .val (.bool false) ∧ rK = [] ∧ rt = 0) := by
  refine Z.con_ofF tabOk 71 Try.f11 _ Try.func11 (by kernel_rfl) rfl rfl rfl rfl ?_
  unfold okZ at h
  repeat' ((conv => whnf); first
    | with_reducible first | refine spB_t ?_
    | ((with_reducible apply spB_cong); (focus (simp only [beq_self_eq_true, bne_self_eq_false, Bool.true_bne, Bool.false_bne, Bool.bne_true, Bool.bne_false, Bool.true_beq, Bool.false_beq, Bool.not_true, Bool.not_false, Bool.not_not, Int.reduceBEq, Int.reduceBNe, Int.reduceLE, Int.reduceLT, Int.reduceEq, decide_true, decide_false]; rfl)))
    | with_reducible first | refine spB_no (by decide) ?_ | refine spB_not ?_
    | (with_reducible refine spB_dec ?_ ?_ <;> intro _ <;> (try (exfalso; first | contradiction | omega | (rename_i hz; refine hz ?_; simp; done) | (rename_i hz; simp at hz; done) | (simp only [LN] at *; omega))))
    | with_reducible first | refine Z.callZ_in tabOk 18 Try.f33 _ Try.func33 (by kernel_rfl) rfl rfl rfl ?_ | refine Z.callZ_in tabOk 20 Try.f50 _ Try.func50 (by kernel_rfl) rfl rfl rfl ?_
    | ((with_reducible apply ex_and); exact rfl)
    | fail)
  all_goals (try (conv => whnf))
  all_goals try (show Nat.ble _ _ = true; rfl)
  all_goals try (exfalso; rename_i hz; cases hz; done)
  all_goals try (exfalso; (try simp only [LN] at *) <;> omega)
  all_goals first
    | ((first | (with_reducible apply Z.retF1)); (focus (exact rfl)); (repeat' (first | exact trivial | (with_reducible apply Z.frz_one) | (with_reducible apply Z.fq_bool) | exact rfl | apply And.intro)); (all_goals (try exact (fun _ => none))); all_goals (first | (simp_all; done)))
    | fail
end Go.Proofs.Ytopieffkpdlpbaa
namespace Go.Proofs.Ytopieffkpdlpbaa
open Go Go.RowKit Wx
set_option linter.unusedVariables false
set_option linter.unusedSimpArgs false
set_option maxHeartbeats 4000000
namespace Tab
end Tab
end Go.Proofs.Ytopieffkpdlpbaa
namespace Go.Proofs.Ytopieffkpdlpbaa
open Go Go.RowKit Wx
set_option linter.unusedVariables false
set_option linter.unusedSimpArgs false
set_option maxHeartbeats 4000000
namespace Tab
end Tab
end Go.Proofs.Ytopieffkpdlpbaa
namespace Go.Proofs.Ytopieffkpdlpbaa
open Go Go.RowKit Wx
set_option linter.unusedVariables false
set_option linter.unusedSimpArgs false
set_option maxHeartbeats 4000000
namespace Tab
end Tab
end Go.Proofs.Ytopieffkpdlpbaa
namespace Go.Proofs.Ytopieffkpdlpbaa
open Go Go.RowKit Wx
set_option linter.unusedVariables false
set_option linter.unusedSimpArgs false
set_option maxHeartbeats 4000000
namespace Tab
namespace Ops
end Ops
end Tab
end Go.Proofs.Ytopieffkpdlpbaa
namespace Go.Proofs.Ytopieffkpdlpbaa
open Go Go.RowKit Wx
set_option linter.unusedVariables false
set_option linter.unusedSimpArgs false
set_option maxHeartbeats 4000000
namespace Tab
end Tab
end Go.Proofs.Ytopieffkpdlpbaa
namespace Go.Proofs.Ytopieffkpdlpbaa
open Go Go.RowKit Wx
set_option linter.unusedVariables false
set_option linter.unusedSimpArgs false
set_option maxHeartbeats 4000000
namespace Tab
theorem sort_rule {m i n top : Nat} {c : Option Nat} {R : List (List Ce)} {bx : Bool} {K : Z.Kr} {k : AV → Z.Kr → Nat → Prop} (zs : List Kc) (hb : Z.kz K i = some (Z.Ob.b ⟨R, 4, 70, bx⟩)) (hr : R = zs.map cK) (hn : n = zs.length) (hl : zs.length ≤ 4000)
    (hkk : ∀ zs' : List Kc, zs'.Perm zs → zs'.Pairwise (fun x y => ltOf cfK y x = false) → k (.tup []) ((i, some (Z.Ob.b ⟨zs'.map cK, 4, 70, bx⟩)) :: K) top) : Z.CallZ Try.prog m (.fn 104 []) [.c (.osl i 0 n c), .c (.fn 105 [])] K top k := by
  refine Z.callZ_sortK (enc := ev) (kk := 4) (b := ⟨R, 4, 70, bx⟩) (by kernel_rfl) cK (ltOf cfK) zs [] (fun _ => rfl) (fun _ => rfl) hb rfl (by rw [hr, List.append_nil]) hn ?_ ?_
  · intro blk cap w hH hblk
    exact AnyQ.slices_SortFunc (ρ := Try.sortK_ren) Try.sortK 4 (fun _ => by kernel_rfl) (fun _ => by kernel_rfl) ev (fun _ => rfl) (fun x v hv => by
      simp only [List.mem_cons, List.not_mem_nil, or_false] at hv
      rcases hv with rfl | rfl | rfl | rfl <;> rfl) cfK cfK_swo 105 #[] blk 0 cap zs.toArray w (Go.Proofs.enters_of Try.func105 (by kernel_rfl) rfl) (Z.con_cmp fun x y => cmpk_con x y) hH hblk (by simp; omega)
  · intro zs' h1 h2
    rw [List.append_nil]
    exact hkk zs' h1 h2
end Tab
end Go.Proofs.Ytopieffkpdlpbaa
namespace Go.Proofs.Ytopieffkpdlpbaa
open Go Go.RowKit Wx
set_option linter.unusedVariables false
set_option linter.unusedSimpArgs false
set_option maxHeartbeats 4000000
namespace Tab
theorem concat_own (a b : List Kc) (ha : a.length ≤ 1000) (hb : b.length ≤ 1000) (h0 : 0 < a.length + b.length) : Con Try.prog 103 [.one (.ro false 1 [[RT.ro 4 (a.map eK)], [RT.ro 4 (b.map eK)]])] (fun rx rK rt => rx = .c (.osl 0 0 (a ++ b).length none) ∧ rK = [(0, some ⟨(a ++ b).map cK, 4, 70, false⟩)] ∧ rt = 1) := by
  refine Z.con_ofZ tabOk 36 Try.f103 _ Try.func103 (by kernel_rfl) rfl rfl rfl rfl ?_
  have hA : List.take (0 + (a.map eK).length) ((a.map eK).map (List.map (RT.ce false))) ++ (b.map eK).map (List.map (RT.ce false)) = (a ++ b).map cK := by rw [Nat.zero_add, List.take_of_length_le (by simp), List.map_append, List.map_map, List.map_map]; rfl
  repeat' ((conv => whnf); first
    | with_reducible first | refine spB_t ?_
    | ((with_reducible apply spB_cong); (focus (simp only [beq_self_eq_true, bne_self_eq_false, Bool.true_bne, Bool.false_bne, Bool.bne_true, Bool.bne_false, Bool.true_beq, Bool.false_beq, Bool.not_true, Bool.not_false, Bool.not_not, Int.reduceBEq, Int.reduceBNe, Int.reduceLE, Int.reduceLT, Int.reduceEq, decide_true, decide_false]; rfl)))
    | with_reducible first | refine spB_yes (by decide) ?_ | refine spB_no (by decide) ?_ | refine spB_f ?_ | refine spB_not ?_ | refine spB_yes (by assumption) ?_ | refine spB_no (by assumption) ?_
    | (with_reducible refine spB_dec ?_ ?_ <;> intro _ <;> (try (exfalso; first | contradiction | omega | (simp only [LN] at *; omega))))
    | (with_reducible refine spB_beq ?_ ?_ <;> intro _ <;> (try (exfalso; first | contradiction | omega | (simp only [LN] at *; omega))))
    | (with_reducible refine spB_bne ?_ ?_ <;> intro _ <;> (try (exfalso; first | contradiction | omega | (simp only [LN] at *; omega))))
    | (with_reducible refine spB_mk ?_ ?_ <;> intro _ <;> (try (exfalso; first | contradiction | omega | (simp only [LN] at *; omega))))
    | with_reducible first | refine Z.loopZ_unroll tabOk 3 ?_
    | ((with_reducible refine slN_hi 0 ?_ ?_ ?_); (focus rfl); (focus (exact Nat.zero_le _)))
    | ((with_reducible refine apz0N_mk (a.length + b.length) ?_ ?_ ?_ ?_ ?_); (iterate 4 (focus ((try simp only [LN] at *) <;> omega))))
    | ((with_reducible refine apz0N_mk _ ?_ ?_ ?_ ?_ ?_); (focus (first | rfl | exact (Int.toNat_of_nonneg (by omega)).symm)); (focus ((try simp only [LN] at *) <;> omega)); (focus ((try simp only [LN] at *) <;> omega)); (focus ((try simp only [LN] at *) <;> omega)))
    | ((with_reducible refine posE_pos ?_ ?_); (focus ((try simp only [LN] at *) <;> omega)))
    | ((with_reducible refine posE_nil ?_ ?_); (focus rfl))
    | ((with_reducible apply rowN_mk); (focus rfl))
    | ((with_reducible apply ixN_lit); (focus (exact rfl)); (focus (exact rfl)))
    | ((with_reducible apply ixN_litp); (focus (exact rfl)); (focus ((try simp only [LN] at *) <;> omega)))
    | ((with_reducible refine eqN_mk2 ?_ ?_); (focus rfl))
    | ((with_reducible refine posN_mk2 ?_ ?_); (focus (first | decide | ((try simp only [LN] at *) <;> omega))))
    | ((with_reducible refine apdE_r ?_); (with_reducible refine aprN.mk ⟨_, rfl, ?_⟩ ?_ ?_ ?_ ?_); (focus ((try simp only [LN] at *) <;> omega)); (focus (first | rfl | (simp; done) | ((try simp only [LN] at *) <;> omega))); (focus (first | exact one_all (by rfl) | exact one_map (fun _ => rfl) | exact one_map2 (fun _ => rfl) | exact one_drop (fun _ => rfl))); (focus ((try simp only [LN] at *) <;> omega)))
    | ((with_reducible refine apdE_k ?_); (with_reducible refine apkN.mk ⟨_, rfl, ?_⟩ ?_); (focus ((try simp only [LN] at *) <;> omega)))
    | with_reducible first | refine apdE_n ?_
    | ((with_reducible refine slE_a ?_ ?_); (focus ((try simp only [LN] at *) <;> omega)))
    | ((with_reducible refine slE_b ?_ ?_); (focus ((try simp only [LN] at *) <;> omega)))
    | ((with_reducible refine slE_split ?_ ?_ ?_); (focus ((try simp only [LN] at *) <;> omega)); (all_goals intro _))
    | ((with_reducible refine apdN.mk ?_ ?_ ?_ ?_ ?_ ?_); (focus (first | rfl | (simp; done))); (focus (first | exact one_all (by rfl) | exact one_map (fun _ => rfl) | exact one_map2 (fun _ => rfl))); (focus ((try simp only [LN] at *) <;> omega)); (focus ((try simp only [LN] at *) <;> omega)); (focus ((try simp only [LN] at *) <;> omega)))
    | with_reducible refine wr_i64 (by first | omega | (simp only [LN] at *; omega)) ?_
    | with_reducible refine wr_u64 (by omega) ?_
    | with_reducible refine wr_u8 (by omega) ?_
    | with_reducible refine wr_u32 (by omega) ?_
    | with_reducible first | refine wr_mk _ rfl ?_
    | ((with_reducible refine ixN_nat ?_ ?_); (focus ((try simp only [LN] at *) <;> omega)))
    | ((with_reducible refine rowN_map ?_ ?_); (focus ((try simp only [LN] at *) <;> omega)); intro x hx)
    | ((with_reducible refine posE_nil (by rfl) ?_))
    | ((with_reducible refine posE_pos (by decide) ?_))
    | with_reducible refine eqN_dec (by omega) ?_
    | with_reducible first | refine apN_mk (by kernel_rfl) ?_ | refine Z.callZ_in tabOk 27 Try.f113 _ Try.func113 (by kernel_rfl) rfl rfl rfl ?_
    | ((with_reducible refine eqN_mk2 ?_ ?_); (focus (exact Z.kb_some rfl)))
    | ((with_reducible apply ex_and); exact rfl))
  all_goals (try (conv => whnf))
  all_goals try (show Nat.ble _ _ = true; rfl)
  all_goals try (exfalso; rename_i hz; cases hz; done)
  all_goals try (exfalso; (try simp only [LN] at *) <;> omega)
  all_goals (refine ret1b 2 (.c (.osl 0 0 (a ++ b).length none)) ((a ++ b).map cK) 4 70 false _ rfl ?_ (by rfl) ?_ (ren_map fun _ => rfl) rfl (own_map fun _ => rfl) ⟨rfl, rfl, rfl⟩)
  · exact congrArg (fun n => AV.c (Ce.osl 2 0 n none)) (by simp)
  · first | exact hA | (simp [List.take_of_length_le, Function.comp_def]; done)
end Tab
end Go.Proofs.Ytopieffkpdlpbaa
namespace Go.Proofs.Ytopieffkpdlpbaa
open Go Go.RowKit Wx
set_option linter.unusedVariables false
set_option linter.unusedSimpArgs false
set_option maxHeartbeats 4000000
namespace Tab
theorem con_quiet {P : Program} {g : FuncId} {u v : Value} (hfn : fnB P g = true) (h : ∀ w, Calls P g #[u] w fun e w' => e = .returned v ∧ w' = w) : Con P g [.one (.v u)] (fun rx rK rt => rx = .val v ∧ rK = [] ∧ rt = 0) := by
  refine ⟨hfn, fun w vs hvs => ?_⟩
  cases vs with
  | nil => exact hvs.elim
  | cons x vs => cases vs with
    | cons _ _ => exact hvs.2.elim
    | nil =>
      have hx : x = u := hvs.1
      subst hx
      refine Calls.mono (h w) ?_
      rintro e w' ⟨rfl, rfl⟩
      exact ⟨v, .val v, [], 0, fun _ => none, fun _ _ => none, rfl, ⟨fun i b h => by simp [kg] at h, fun i j bi bj p q h => by simp [kg] at h, fun i b p h => by simp [kg] at h, (fun _ _ _ _ hu => nomatch hu), fun i b p f o h => by simp [kg] at h, (fun _ _ _ hu => nomatch hu), (fun _ _ _ hu => nomatch hu), .refl _, (fun _ _ _ _ hu => nomatch hu), fun _ h => h.elim⟩, fun _ _ => rfl, (fun p hp => nomatch hp), rfl, rfl, rfl, rfl⟩
theorem len0_con : Con Try.prog 115 [.one (.v (.int .u64 0))] (fun rx rK rt => rx = .val (.int .i64 0) ∧ rK = [] ∧ rt = 0) := con_quiet (by kernel_rfl) fun w => Any.bits_Len (SlLaysF0.n15.bits (P := Try.prog) (ρ := Try.sortK_ren) { Try.sortK with }) 0 w (by decide) (by decide)
theorem pdq0_con : Con Try.prog 114 [.one (.v (.slice none 0 0)), .one (.v (.int .i64 0)), .one (.v (.int .i64 0)), .one (.v (.int .i64 0)), .one (.fn 105 [])] (fun rx rK rt => rx = .tup [] ∧ rK = [] ∧ rt = 0) := Y.con_eval ftabOk tabOk mixOk 60 12 (by kernel_rfl) (by rfl) (by kernel_rfl)
theorem sortnil_con   : Con Try.prog 104 [.one (.v (.slice none 0 0)), .one (.fn 105 [])] (fun rx rK rt => rx = .tup [] ∧ rK = [] ∧ rt = 0) := by
  refine Z.con_ofF tabOk 14 Try.f104 _ Try.func104 (by kernel_rfl) rfl rfl rfl rfl ?_
  repeat' ((conv => whnf); first
    | with_reducible first | refine spB_t ?_
    | ((with_reducible apply spB_cong); (focus (simp only [beq_self_eq_true, bne_self_eq_false, Bool.true_bne, Bool.false_bne, Bool.bne_true, Bool.bne_false, Bool.true_beq, Bool.false_beq, Bool.not_true, Bool.not_false, Bool.not_not, Int.reduceBEq, Int.reduceBNe, Int.reduceLE, Int.reduceLT, Int.reduceEq, decide_true, decide_false]; rfl)))
    | with_reducible first | refine spB_yes (by decide) ?_ | refine spB_no (by decide) ?_ | refine spB_f ?_ | refine spB_not ?_ | refine spB_yes (by assumption) ?_ | refine spB_no (by assumption) ?_
    | (with_reducible refine spB_dec ?_ ?_ <;> intro _ <;> (try (exfalso; first | contradiction | omega | (rename_i hz; refine hz ?_; simp; done) | (rename_i hz; simp at hz; done) | (simp only [LN] at *; omega))))
    | (with_reducible refine spB_beq ?_ ?_ <;> intro _ <;> (try (exfalso; first | contradiction | omega | (rename_i hz; refine hz ?_; simp; done) | (rename_i hz; simp at hz; done) | (simp only [LN] at *; omega))))
    | (with_reducible refine spB_bne ?_ ?_ <;> intro _ <;> (try (exfalso; first | contradiction | omega | (rename_i hz; refine hz ?_; simp; done) | (rename_i hz; simp at hz; done) | (simp only [LN] at *; omega))))
    | (with_reducible refine spB_mk ?_ ?_ <;> intro _ <;> (try (exfalso; first | contradiction | omega | (rename_i hz; refine hz ?_; simp; done) | (rename_i hz; simp at hz; done) | (simp only [LN] at *; omega))))
    | ((with_reducible apply rowN_mk); (focus rfl))
    | ((with_reducible apply ixN_lit); (focus (exact rfl)); (focus (exact rfl)))
    | ((with_reducible apply ixN_litp); (focus (exact rfl)); (focus ((try simp only [LN] at *) <;> omega)))
    | ((with_reducible refine eqN_mk2 ?_ ?_); (focus rfl))
    | with_reducible refine wr_i64 (by first | omega | (simp only [LN] at *; omega)) ?_
    | with_reducible refine wr_u64 (by omega) ?_
    | with_reducible refine wr_u8 (by omega) ?_
    | with_reducible refine wr_u32 (by omega) ?_
    | with_reducible first | refine wr_mk _ rfl ?_
    | ((with_reducible refine ixN_nat ?_ ?_); (focus ((try simp only [LN] at *) <;> omega)))
    | ((with_reducible refine rowN_map ?_ ?_); (focus ((try simp only [LN] at *) <;> omega)); intro x hx)
    | with_reducible refine eqN_dec (by omega) ?_
    | with_reducible first | refine apN_mk (by kernel_rfl) ?_
    | ((first | (with_reducible refine Z.conZ_mz ?_ (pdq0_con) ?_) | (with_reducible refine Z.callZ_mk ?_ (pdq0_con) ?_) | (with_reducible refine Z.conZ_mz ?_ (len0_con) ?_) | (with_reducible refine Z.callZ_mk ?_ (len0_con) ?_)); (focus ((repeat' (first | exact trivial | exact ⟨_, rfl, rfl, rfl⟩ | (refine Z.low_osln ?_ (fun _ => rfl); (first | exact hzl | exact hzl.symm)) | exact rfl | exact Z.low_nil | exact Z.low_nil2 | exact low_osl (fun _ => rfl) | (refine Z.low_osln ?_ (fun _ => rfl); (simp only [List.length_map]; done)) | exact low_oslr (fun _ => rfl) | exact Z.low_gslm (by first | rfl | exact Z.kb_some rfl) (fun _ => rfl) | exact .inl rfl | exact .inr ⟨_, rfl⟩ | apply And.intro)); done)))
    | ((with_reducible refine eqN_mk2 ?_ ?_); (focus (exact Z.kb_some rfl)))
    | ((with_reducible apply ex_and); exact rfl))
  all_goals (try (conv => whnf))
  all_goals try (show Nat.ble _ _ = true; rfl)
  all_goals first
    | ((first | (with_reducible apply Z.retF1) | (with_reducible apply Z.retF2) | (with_reducible apply Z.retF0)); (focus (exact rfl)); (repeat' (first | exact trivial | (with_reducible apply Z.frz_one) | (with_reducible apply Z.frz_agg) | (with_reducible apply Z.fq_int) | (with_reducible apply Z.fq_bool) | (exact Z.frz_nil) | (exact Z.frz_osl0 rfl rfl rfl) | (with_reducible apply Z.fq_nil) | (with_reducible apply Z.fq_ro) | ((with_reducible apply Z.fq_gsl); (focus (first | rfl | exact Z.isB_map _ | exact Z.gB_snoc.symm)); (focus (exact fun _ => rfl))) | ((with_reducible apply Z.fq_osl); (focus (exact rfl)); (focus (first | exact rfl | (simp only [List.length_map, Nat.zero_add]; done) | ((try simp only [LN] at *) <;> omega))); (focus (exact fun _ => rfl))) | ((with_reducible apply Z.fq_src); (focus (exact rfl)); (focus (first | exact rfl | (simp only [List.length_map, Nat.zero_add]; done) | ((try simp only [LN] at *) <;> omega))); (focus (exact fun _ => rfl))) | exact rfl | ((apply Z.fq_osl); (focus (exact rfl)); (focus (first | exact rfl | (simp only [List.length_map, Nat.zero_add]; done) | ((try simp only [LN] at *) <;> omega))); (focus (exact fun _ => rfl))) | ((apply Z.fq_src); (focus (exact rfl)); (focus (first | exact rfl | (simp only [List.length_map, Nat.zero_add]; done) | ((try simp only [LN] at *) <;> omega))); (focus (exact fun _ => rfl))) | (apply Z.fq_ro) | (apply Z.fq_int) | (apply Z.fq_bool) | apply And.intro)); (all_goals (try exact (fun _ => none))); all_goals (first | rfl | (simp; done)))
    | (exfalso; rename_i hz; cases hz; done)
    | (exfalso; (try simp only [LN] at *) <;> omega)
    | (fail)
theorem concat_nil   : Con Try.prog 103 [.one (.ro false 1 [[RT.ro 4 (([] : List Kc).map eK)], [RT.ro 4 (([] : List Kc).map eK)]])] (fun rx rK rt => rx = .val (.slice none 0 0) ∧ rK = [] ∧ rt = 0) := by
  refine Z.con_ofZ tabOk 36 Try.f103 _ Try.func103 (by kernel_rfl) rfl rfl rfl rfl ?_
  repeat' ((conv => whnf); first
    | with_reducible first | refine spB_t ?_
    | ((with_reducible apply spB_cong); (focus (simp only [beq_self_eq_true, bne_self_eq_false, Bool.true_bne, Bool.false_bne, Bool.bne_true, Bool.bne_false, Bool.true_beq, Bool.false_beq, Bool.not_true, Bool.not_false, Bool.not_not, Int.reduceBEq, Int.reduceBNe, Int.reduceLE, Int.reduceLT, Int.reduceEq, decide_true, decide_false]; rfl)))
    | with_reducible first | refine spB_yes (by decide) ?_ | refine spB_no (by decide) ?_ | refine spB_f ?_ | refine spB_not ?_ | refine spB_yes (by assumption) ?_ | refine spB_no (by assumption) ?_
    | (with_reducible refine spB_dec ?_ ?_ <;> intro _ <;> (try (exfalso; first | contradiction | omega | (rename_i hz; refine hz ?_; simp; done) | (rename_i hz; simp at hz; done) | (simp only [LN] at *; omega))))
    | (with_reducible refine spB_beq ?_ ?_ <;> intro _ <;> (try (exfalso; first | contradiction | omega | (rename_i hz; refine hz ?_; simp; done) | (rename_i hz; simp at hz; done) | (simp only [LN] at *; omega))))
    | (with_reducible refine spB_bne ?_ ?_ <;> intro _ <;> (try (exfalso; first | contradiction | omega | (rename_i hz; refine hz ?_; simp; done) | (rename_i hz; simp at hz; done) | (simp only [LN] at *; omega))))
    | (with_reducible refine spB_mk ?_ ?_ <;> intro _ <;> (try (exfalso; first | contradiction | omega | (rename_i hz; refine hz ?_; simp; done) | (rename_i hz; simp at hz; done) | (simp only [LN] at *; omega))))
    | with_reducible first | refine Z.loopZ_unroll tabOk 3 ?_
    | ((with_reducible refine apz0N_mk _ ?_ ?_ ?_ ?_ ?_); (focus (first | rfl | exact (Int.toNat_of_nonneg (by omega)).symm)); (focus ((try simp only [LN] at *) <;> omega)); (focus ((try simp only [LN] at *) <;> omega)); (focus ((try simp only [LN] at *) <;> omega)))
    | ((with_reducible refine posE_pos ?_ ?_); (focus ((try simp only [LN] at *) <;> omega)))
    | ((with_reducible refine posE_nil ?_ ?_); (focus rfl))
    | ((with_reducible apply rowN_mk); (focus rfl))
    | ((with_reducible apply ixN_lit); (focus (exact rfl)); (focus (exact rfl)))
    | ((with_reducible apply ixN_litp); (focus (exact rfl)); (focus ((try simp only [LN] at *) <;> omega)))
    | ((with_reducible refine eqN_mk2 ?_ ?_); (focus rfl))
    | ((with_reducible refine posN_mk2 ?_ ?_); (focus (first | decide | ((try simp only [LN] at *) <;> omega))))
    | ((with_reducible refine apdE_r ?_); (with_reducible refine aprN.mk ⟨_, rfl, ?_⟩ ?_ ?_ ?_ ?_); (focus ((try simp only [LN] at *) <;> omega)); (focus (first | rfl | (simp; done) | ((try simp only [LN] at *) <;> omega))); (focus (first | exact one_all (by rfl) | exact one_map (fun _ => rfl) | exact one_map2 (fun _ => rfl) | exact one_drop (fun _ => rfl))); (focus ((try simp only [LN] at *) <;> omega)))
    | ((with_reducible refine apdE_k ?_); (with_reducible refine apkN.mk ⟨_, rfl, ?_⟩ ?_); (focus ((try simp only [LN] at *) <;> omega)))
    | with_reducible first | refine apdE_n ?_
    | ((with_reducible refine slE_a ?_ ?_); (focus ((try simp only [LN] at *) <;> omega)))
    | ((with_reducible refine slE_b ?_ ?_); (focus ((try simp only [LN] at *) <;> omega)))
    | ((with_reducible refine slE_split ?_ ?_ ?_); (focus ((try simp only [LN] at *) <;> omega)); (all_goals intro _))
    | ((with_reducible refine apdN.mk ?_ ?_ ?_ ?_ ?_ ?_); (focus (first | rfl | (simp; done))); (focus (first | exact one_all (by rfl) | exact one_map (fun _ => rfl) | exact one_map2 (fun _ => rfl))); (focus ((try simp only [LN] at *) <;> omega)); (focus ((try simp only [LN] at *) <;> omega)); (focus ((try simp only [LN] at *) <;> omega)))
    | with_reducible refine wr_i64 (by first | omega | (simp only [LN] at *; omega)) ?_
    | with_reducible refine wr_u64 (by omega) ?_
    | with_reducible refine wr_u8 (by omega) ?_
    | with_reducible refine wr_u32 (by omega) ?_
    | with_reducible first | refine wr_mk _ rfl ?_
    | ((with_reducible refine ixN_nat ?_ ?_); (focus ((try simp only [LN] at *) <;> omega)))
    | ((with_reducible refine rowN_map ?_ ?_); (focus ((try simp only [LN] at *) <;> omega)); intro x hx)
    | ((with_reducible refine posE_nil (by rfl) ?_))
    | ((with_reducible refine posE_pos (by decide) ?_))
    | with_reducible refine eqN_dec (by omega) ?_
    | with_reducible first | refine apN_mk (by kernel_rfl) ?_ | refine Z.callZ_in tabOk 27 Try.f113 _ Try.func113 (by kernel_rfl) rfl rfl rfl ?_
    | ((with_reducible refine eqN_mk2 ?_ ?_); (focus (exact Z.kb_some rfl)))
    | ((with_reducible apply ex_and); exact rfl))
  all_goals (try (conv => whnf))
  all_goals try (show Nat.ble _ _ = true; rfl)
  all_goals try (exfalso; rename_i hz; cases hz; done)
  all_goals try (exfalso; (try simp only [LN] at *) <;> omega)
  all_goals first
  | (refine ret1 [.one (.v (.slice none 0 0))] rfl [] (.val (.slice none 0 0)) [] rfl trivial List.nodup_nil rfl ?_ (fun p hp => nomatch hp) ⟨rfl, rfl, rfl⟩; intro p b hp; cases hp; done)
  | (fail)
end Tab
end Go.Proofs.Ytopieffkpdlpbaa
namespace Go.Proofs.Ytopieffkpdlpbaa
open Go Go.RowKit Wx
set_option linter.unusedVariables false
set_option linter.unusedSimpArgs false
set_option maxHeartbeats 4000000
namespace Tab
theorem join_bad (a b : List Kc) (h : tabR a = false ∨ tabR b = false) (hla : a.length ≤ 1000) (hlb : b.length ≤ 1000) : Con Try.prog 79 [.agg [.ro false 4 (a.map eK)], .agg [.ro false 4 (b.map eK)]] (fun rx rK rt => rx = .tup [.agg [.ro true 4 (([] : List Kc).map eK)], .one (.v (.int .i64 220))] ∧ rK = [] ∧ rt = 0) := by
  refine Z.con_ofF tabOk 32 Try.f79 _ Try.func79 (by kernel_rfl) rfl rfl rfl rfl ?_
  have ca := check_con a (by omega)
  have cb := check_con b (by omega)
  cases ha : tabR a
  all_goals rw [ha] at ca
  all_goals simp only [cond_true, cond_false] at ca
  rotate_left
  · have hb : tabR b = false := by rcases h with h | h; (rw [ha] at h; cases h); exact h
    rw [hb] at cb
    simp only [cond_false] at cb
    repeat' ((conv => whnf); first
      | with_reducible first | refine spB_t ?_
      | ((with_reducible apply spB_cong); (focus (simp only [beq_self_eq_true, bne_self_eq_false, Bool.true_bne, Bool.false_bne, Bool.bne_true, Bool.bne_false, Bool.true_beq, Bool.false_beq, Bool.not_true, Bool.not_false, Bool.not_not, Int.reduceBEq, Int.reduceBNe, Int.reduceLE, Int.reduceLT, Int.reduceEq, decide_true, decide_false]; rfl)))
      | with_reducible first | refine spB_no (by decide) ?_
      | ((first | (with_reducible refine Z.callZ_mk ?_ (ca) ?_)); (focus ((repeat' (first | exact trivial | exact rfl | apply And.intro)); done)))
      | ((first | (with_reducible refine Z.callZ_mk ?_ (cb) ?_)); (focus ((repeat' (first | exact trivial | exact rfl | apply And.intro)); done)))
      | fail)
    all_goals (try (conv => whnf))
    all_goals try (show Nat.ble _ _ = true; rfl)
    all_goals try (exfalso; rename_i hz; cases hz; done)
    all_goals try (exfalso; (try simp only [LN] at *) <;> omega)
    all_goals first
      | ((first | (with_reducible apply Z.retF2)); (focus (exact rfl)); (repeat' (first | exact trivial | (with_reducible apply Z.frz_one) | (with_reducible apply Z.frz_agg) | (with_reducible apply Z.fq_int) | (exact Z.frz_nil) | exact rfl | apply And.intro)); (all_goals (try exact (fun _ => none))); all_goals (first | (simp; done)))
      | fail
  repeat' ((conv => whnf); first
    | with_reducible first | refine spB_t ?_
    | ((with_reducible apply spB_cong); (focus (simp only [beq_self_eq_true, bne_self_eq_false, Bool.true_bne, Bool.false_bne, Bool.bne_true, Bool.bne_false, Bool.true_beq, Bool.false_beq, Bool.not_true, Bool.not_false, Bool.not_not, Int.reduceBEq, Int.reduceBNe, Int.reduceLE, Int.reduceLT, Int.reduceEq, decide_true, decide_false]; rfl)))
    | ((first | (with_reducible refine Z.callZ_mk ?_ (ca) ?_)); (focus ((repeat' (first | exact trivial | exact rfl | apply And.intro)); done)))
    | fail)
  all_goals (try (conv => whnf))
  all_goals try (show Nat.ble _ _ = true; rfl)
  all_goals try (exfalso; rename_i hz; cases hz; done)
  all_goals try (exfalso; (try simp only [LN] at *) <;> omega)
  all_goals first
    | ((first | (with_reducible apply Z.retF2)); (focus (exact rfl)); (repeat' (first | exact trivial | (with_reducible apply Z.frz_one) | (with_reducible apply Z.frz_agg) | (with_reducible apply Z.fq_int) | (exact Z.frz_nil) | exact rfl | apply And.intro)); (all_goals (try exact (fun _ => none))); all_goals (first | (simp; done)))
    | fail
theorem join_nil   : Con Try.prog 79 [.agg [.ro false 4 (([] : List Kc).map eK)], .agg [.ro false 4 (([] : List Kc).map eK)]] (fun rx rK rt => rx = .tup [.agg [.ro true 4 (([] : List Kc).map eK)], .one (.v (.int .i64 0))] ∧ rK = [] ∧ rt = 0) := by
  refine Z.con_ofF tabOk 32 Try.f79 _ Try.func79 (by kernel_rfl) rfl rfl rfl rfl ?_
  have ca := check_con [] (by simp)
  have cat := concat_nil
  rw [show tabR [] = true from rfl] at ca
  simp only [cond_true] at ca
  repeat' ((conv => whnf); first
    | ((with_reducible apply spB_cong); (focus (simp only [beq_self_eq_true, bne_self_eq_false, Bool.true_bne, Bool.false_bne, Bool.bne_true, Bool.bne_false, Bool.true_beq, Bool.false_beq, Bool.not_true, Bool.not_false, Bool.not_not, Int.reduceBEq, Int.reduceBNe, Int.reduceLE, Int.reduceLT, Int.reduceEq, decide_true, decide_false]; rfl)))
    | with_reducible first | refine spB_no (by decide) ?_
    | ((first | (with_reducible refine Z.callZ_mk ?_ (ca) ?_) | (with_reducible refine Z.callZ_mk ?_ (cat) ?_) | (with_reducible refine Z.callZ_mk ?_ (sortnil_con) ?_)); (focus ((repeat' (first | exact trivial | exact ⟨_, rfl, rfl, rfl⟩ | exact rfl | exact Z.low_nil | exact .inl rfl | apply And.intro)); done)))
    | fail)
  all_goals (try (conv => whnf))
  all_goals try (show Nat.ble _ _ = true; rfl)
  all_goals try (exfalso; rename_i hz; cases hz; done)
  all_goals try (exfalso; (try simp only [LN] at *) <;> omega)
  all_goals first
    | ((first | (with_reducible apply Z.retF2)); (focus (exact rfl)); (repeat' (first | exact trivial | (with_reducible apply Z.frz_one) | (with_reducible apply Z.frz_agg) | (with_reducible apply Z.fq_int) | (exact Z.frz_nil) | exact rfl | apply And.intro)); (all_goals (try exact (fun _ => none))); all_goals (first | (simp; done)))
    | fail
end Tab
end Go.Proofs.Ytopieffkpdlpbaa
namespace Go.Proofs.Ytopieffkpdlpbaa
open Go Go.RowKit Wx
set_option linter.unusedVariables false
set_option linter.unusedSimpArgs false
set_option maxHeartbeats 4000000
namespace Tab
theorem join_both (a b : List Kc) (ha : tabR a = true) (hb : tabR b = true) (h0 : 0 < a.length + b.length) (hc : comm a b = true) : Con Try.prog 79 [.agg [.ro false 4 (a.map eK)], .agg [.ro false 4 (b.map eK)]] (fun rx rK rt => rx = .tup [.agg [.ro true 4 (([] : List Kc).map eK)], .one (.v (.int .i64 5))] ∧ rK = [] ∧ rt = 0) := by
  refine Z.con_ofF tabOk 32 Try.f79 _ Try.func79 (by kernel_rfl) rfl rfl rfl rfl ?_
  have hla := tab_len ha
  have hlb := tab_len hb
  have ca := check_con a (by omega)
  have cb := check_con b (by omega)
  rw [ha] at ca
  rw [hb] at cb
  simp only [cond_true] at ca cb
  have cat := concat_own a b (by omega) (by omega) h0
  repeat' ((conv => whnf); first
    | with_reducible first | refine spB_t ?_
    | ((with_reducible apply spB_cong); (focus (simp only [beq_self_eq_true, bne_self_eq_false, Bool.true_bne, Bool.false_bne, Bool.bne_true, Bool.bne_false, Bool.true_beq, Bool.false_beq, Bool.not_true, Bool.not_false, Bool.not_not, Int.reduceBEq, Int.reduceBNe, Int.reduceLE, Int.reduceLT, Int.reduceEq, decide_true, decide_false]; rfl)))
    | with_reducible first | refine spB_yes (by decide) ?_ | refine spB_no (by decide) ?_ | refine spB_f ?_ | refine spB_not ?_ | refine spB_yes (by assumption) ?_ | refine spB_no (by assumption) ?_
    | (with_reducible refine spB_dec ?_ ?_ <;> intro _ <;> (try (exfalso; first | contradiction | omega | (rename_i hz; refine hz ?_; simp; done) | (rename_i hz; simp at hz; done) | (simp only [LN] at *; omega))))
    | (with_reducible refine spB_beq ?_ ?_ <;> intro _ <;> (try (exfalso; first | contradiction | omega | (rename_i hz; refine hz ?_; simp; done) | (rename_i hz; simp at hz; done) | (simp only [LN] at *; omega))))
    | (with_reducible refine spB_bne ?_ ?_ <;> intro _ <;> (try (exfalso; first | contradiction | omega | (rename_i hz; refine hz ?_; simp; done) | (rename_i hz; simp at hz; done) | (simp only [LN] at *; omega))))
    | (with_reducible refine spB_mk ?_ ?_ <;> intro _ <;> (try (exfalso; first | contradiction | omega | (rename_i hz; refine hz ?_; simp; done) | (rename_i hz; simp at hz; done) | (simp only [LN] at *; omega))))
    | ((refine sort_rule (a ++ b) rfl ?_ ?_ ?_ ?_); (focus (first | rfl | exact ren_map fun _ => rfl)); (focus (first | rfl | (simp; done))); (focus ((try simp only [LN] at *) <;> omega)); (intro zs hzp hzs; have hzl : zs.length = (a ++ b).length := hzp.length_eq; obtain ⟨hj, hj2⟩ := sort_join ha hb hzp hzs; rw [hc] at hj; have cz := check_con zs (by rw [hzp.length_eq, List.length_append]; omega); rw [hj] at cz; simp only [Bool.not_true, Bool.not_false, cond_true, cond_false] at cz))
    | ((with_reducible apply rowN_mk); (focus rfl))
    | ((with_reducible apply ixN_lit); (focus (exact rfl)); (focus (exact rfl)))
    | ((with_reducible apply ixN_litp); (focus (exact rfl)); (focus ((try simp only [LN] at *) <;> omega)))
    | ((with_reducible refine eqN_mk2 ?_ ?_); (focus rfl))
    | with_reducible refine wr_i64 (by first | omega | (simp only [LN] at *; omega)) ?_
    | with_reducible refine wr_u64 (by omega) ?_
    | with_reducible refine wr_u8 (by omega) ?_
    | with_reducible refine wr_u32 (by omega) ?_
    | with_reducible first | refine wr_mk _ rfl ?_
    | ((with_reducible refine ixN_nat ?_ ?_); (focus ((try simp only [LN] at *) <;> omega)))
    | ((with_reducible refine rowN_map ?_ ?_); (focus ((try simp only [LN] at *) <;> omega)); intro x hx)
    | with_reducible refine eqN_dec (by omega) ?_
    | with_reducible first | refine apN_mk (by kernel_rfl) ?_ | refine Z.callZ_in tabOk 10 Try.f105 _ Try.func105 (by kernel_rfl) rfl rfl rfl ?_ | refine Z.callZ_in tabOk 8 Try.f69 _ Try.func69 (by kernel_rfl) rfl rfl rfl ?_ | refine Z.callZ_in tabOk 17 Try.f99 _ Try.func99 (by kernel_rfl) rfl rfl rfl ?_ | refine Z.callZ_in tabOk 18 Try.f107 _ Try.func107 (by kernel_rfl) rfl rfl rfl ?_ | refine Z.callZ_in tabOk 20 Try.f108 _ Try.func108 (by kernel_rfl) rfl rfl rfl ?_ | refine Z.callZ_in tabOk 6 Try.f117 _ Try.func117 (by kernel_rfl) rfl rfl rfl ?_
    | ((first | (with_reducible refine Z.conZ_mz ?_ (cat) ?_) | (with_reducible refine Z.callZ_mk ?_ (cat) ?_)); (focus ((repeat' (first | exact trivial | exact ⟨_, rfl, rfl, rfl⟩ | (refine Z.low_osln ?_ (fun _ => rfl); (first | exact hzl | exact hzl.symm)) | exact rfl | exact Z.low_nil | exact Z.low_nil2 | exact low_osl (fun _ => rfl) | (refine Z.low_osln ?_ (fun _ => rfl); (simp only [List.length_map]; done)) | exact low_oslr (fun _ => rfl) | exact Z.low_gslm (by first | rfl | exact Z.kb_some rfl) (fun _ => rfl) | exact .inl rfl | exact .inr ⟨_, rfl⟩ | apply And.intro)); done)))
    | ((first | (with_reducible refine Z.conZ_mz ?_ (ca) ?_) | (with_reducible refine Z.callZ_mk ?_ (ca) ?_)); (focus ((repeat' (first | exact trivial | exact ⟨_, rfl, rfl, rfl⟩ | (refine Z.low_osln ?_ (fun _ => rfl); (first | exact hzl | exact hzl.symm)) | exact rfl | exact Z.low_nil | exact Z.low_nil2 | exact low_osl (fun _ => rfl) | (refine Z.low_osln ?_ (fun _ => rfl); (simp only [List.length_map]; done)) | exact low_oslr (fun _ => rfl) | exact Z.low_gslm (by first | rfl | exact Z.kb_some rfl) (fun _ => rfl) | exact .inl rfl | exact .inr ⟨_, rfl⟩ | apply And.intro)); done)))
    | ((first | (with_reducible refine Z.conZ_mz ?_ (cb) ?_) | (with_reducible refine Z.callZ_mk ?_ (cb) ?_)); (focus ((repeat' (first | exact trivial | exact ⟨_, rfl, rfl, rfl⟩ | (refine Z.low_osln ?_ (fun _ => rfl); (first | exact hzl | exact hzl.symm)) | exact rfl | exact Z.low_nil | exact Z.low_nil2 | exact low_osl (fun _ => rfl) | (refine Z.low_osln ?_ (fun _ => rfl); (simp only [List.length_map]; done)) | exact low_oslr (fun _ => rfl) | exact Z.low_gslm (by first | rfl | exact Z.kb_some rfl) (fun _ => rfl) | exact .inl rfl | exact .inr ⟨_, rfl⟩ | apply And.intro)); done)))
    | ((first | (with_reducible refine Z.conZ_mz ?_ (cz) ?_) | (with_reducible refine Z.callZ_mk ?_ (cz) ?_)); (focus ((repeat' (first | exact trivial | exact ⟨_, rfl, rfl, rfl⟩ | (refine Z.low_osln ?_ (fun _ => rfl); (first | exact hzl | exact hzl.symm)) | exact rfl | exact Z.low_nil | exact Z.low_nil2 | exact low_osl (fun _ => rfl) | (refine Z.low_osln ?_ (fun _ => rfl); (simp only [List.length_map]; done)) | exact low_oslr (fun _ => rfl) | exact Z.low_gslm (by first | rfl | exact Z.kb_some rfl) (fun _ => rfl) | exact .inl rfl | exact .inr ⟨_, rfl⟩ | apply And.intro)); done)))
    | ((with_reducible refine eqN_mk2 ?_ ?_); (focus (exact Z.kb_some rfl)))
    | ((with_reducible apply ex_and); exact rfl)
    | with_reducible first | refine Z.drawZ_rule tabOk mixOk ?_ | refine Z.apZ_mk (by kernel_rfl) ?_
    | ((with_reducible refine Z.ConZ.red ?_); (try subst hlb); (apply Z.conZ_all); (focus (repeat (first | exact Z.FK.nil | (apply Z.FK.keep; exact rfl)))); (focus rfl); (focus rfl); (focus (repeat (first | exact trivial | (refine ⟨(fun o ho => (by first | (cases ho; rfl) | (cases ho; exact Z.inL_map fun _ => rfl) | (cases ho; exact Z.inL_mapr fun _ => rfl) | exact Z.inL_gB ho fun _ => rfl)), ?_⟩)))))
    | ((refine ⟨rfl, ?_, rfl⟩); (focus (repeat (first | exact Z.DK.nil | apply Z.DK.cons))))
    | (focus (exact (rfl : Nat.ble _ _ = true))))
  all_goals (try (conv => whnf))
  all_goals try (show Nat.ble _ _ = true; rfl)
  all_goals try (exfalso; rename_i hz; cases hz; done)
  all_goals try (exfalso; (try simp only [LN] at *) <;> omega)
  all_goals first
    | ((first | (with_reducible apply Z.retF1) | (with_reducible apply Z.retF2) | (with_reducible apply Z.retF0)); (focus (exact rfl)); (repeat' (first | exact trivial | (with_reducible apply Z.frz_one) | (with_reducible apply Z.frz_agg) | (with_reducible apply Z.fq_int) | (with_reducible apply Z.fq_bool) | (exact Z.frz_nil) | (exact Z.frz_osl0 rfl rfl rfl) | (with_reducible apply Z.fq_nil) | (with_reducible apply Z.fq_ro) | ((with_reducible apply Z.fq_gsl); (focus (first | rfl | exact Z.isB_map _ | exact Z.gB_snoc.symm)); (focus (exact fun _ => rfl))) | ((with_reducible apply Z.fq_osl); (focus (exact rfl)); (focus (first | exact rfl | (simp only [List.length_map, Nat.zero_add]; done) | ((try simp only [LN] at *) <;> omega))); (focus (exact fun _ => rfl))) | ((with_reducible apply Z.fq_src); (focus (exact rfl)); (focus (first | exact rfl | (simp only [List.length_map, Nat.zero_add]; done) | ((try simp only [LN] at *) <;> omega))); (focus (exact fun _ => rfl))) | exact rfl | ((apply Z.fq_osl); (focus (exact rfl)); (focus (first | exact rfl | (simp only [List.length_map, Nat.zero_add]; done) | ((try simp only [LN] at *) <;> omega))); (focus (exact fun _ => rfl))) | ((apply Z.fq_src); (focus (exact rfl)); (focus (first | exact rfl | (simp only [List.length_map, Nat.zero_add]; done) | ((try simp only [LN] at *) <;> omega))); (focus (exact fun _ => rfl))) | (apply Z.fq_ro) | (apply Z.fq_int) | (apply Z.fq_bool) | apply And.intro)); (all_goals (try exact (fun _ => none))); all_goals (first | rfl | (simp; done)))
    | (exfalso; rename_i hz; cases hz; done)
    | (exfalso; (try simp only [LN] at *) <;> omega)
    | (fail)
end Tab
end Go.Proofs.Ytopieffkpdlpbaa
namespace Go.Proofs.Ytopieffkpdlpbaa
open Go Go.RowKit Wx
set_option linter.unusedVariables false
set_option linter.unusedSimpArgs false
set_option maxHeartbeats 4000000
namespace Tab
theorem join_ok (a b : List Kc) (ha : tabR a = true) (hb : tabR b = true) (h0 : 0 < a.length + b.length) (hc : comm a b = false) : Con Try.prog 79 [.agg [.ro false 4 (a.map eK)], .agg [.ro false 4 (b.map eK)]] (fun rx rK rt => rx = .tup [.agg [.ro true 4 ((mrg a b : List Kc).map eK)], .one (.v (.int .i64 0))] ∧ rK = [] ∧ rt = 0) := by
  refine Z.con_ofF tabOk 32 Try.f79 _ Try.func79 (by kernel_rfl) rfl rfl rfl rfl ?_
  have hla := tab_len ha
  have hlb := tab_len hb
  have ca := check_con a (by omega)
  have cb := check_con b (by omega)
  rw [ha] at ca
  rw [hb] at cb
  simp only [cond_true] at ca cb
  have cat := concat_own a b (by omega) (by omega) h0
  repeat' ((conv => whnf); first
    | with_reducible first | refine spB_t ?_
    | ((with_reducible apply spB_cong); (focus (simp only [beq_self_eq_true, bne_self_eq_false, Bool.true_bne, Bool.false_bne, Bool.bne_true, Bool.bne_false, Bool.true_beq, Bool.false_beq, Bool.not_true, Bool.not_false, Bool.not_not, Int.reduceBEq, Int.reduceBNe, Int.reduceLE, Int.reduceLT, Int.reduceEq, decide_true, decide_false]; rfl)))
    | with_reducible first | refine spB_yes (by decide) ?_ | refine spB_no (by decide) ?_ | refine spB_f ?_ | refine spB_not ?_ | refine spB_yes (by assumption) ?_ | refine spB_no (by assumption) ?_
    | (with_reducible refine spB_dec ?_ ?_ <;> intro _ <;> (try (exfalso; first | contradiction | omega | (rename_i hz; refine hz ?_; simp; done) | (rename_i hz; simp at hz; done) | (simp only [LN] at *; omega))))
    | (with_reducible refine spB_beq ?_ ?_ <;> intro _ <;> (try (exfalso; first | contradiction | omega | (rename_i hz; refine hz ?_; simp; done) | (rename_i hz; simp at hz; done) | (simp only [LN] at *; omega))))
    | (with_reducible refine spB_bne ?_ ?_ <;> intro _ <;> (try (exfalso; first | contradiction | omega | (rename_i hz; refine hz ?_; simp; done) | (rename_i hz; simp at hz; done) | (simp only [LN] at *; omega))))
    | (with_reducible refine spB_mk ?_ ?_ <;> intro _ <;> (try (exfalso; first | contradiction | omega | (rename_i hz; refine hz ?_; simp; done) | (rename_i hz; simp at hz; done) | (simp only [LN] at *; omega))))
    | ((refine sort_rule (a ++ b) rfl ?_ ?_ ?_ ?_); (focus (first | rfl | exact ren_map fun _ => rfl)); (focus (first | rfl | (simp; done))); (focus ((try simp only [LN] at *) <;> omega)); (intro zs hzp hzs; have hzl : zs.length = (a ++ b).length := hzp.length_eq; obtain ⟨hj, hj2⟩ := sort_join ha hb hzp hzs; rw [hc] at hj; obtain rfl := hj2 hc; have cz := check_con (mrg a b) (by rw [hzp.length_eq, List.length_append]; omega); rw [hj] at cz; simp only [Bool.not_true, Bool.not_false, cond_true, cond_false] at cz))
    | ((with_reducible apply rowN_mk); (focus rfl))
    | ((with_reducible apply ixN_lit); (focus (exact rfl)); (focus (exact rfl)))
    | ((with_reducible apply ixN_litp); (focus (exact rfl)); (focus ((try simp only [LN] at *) <;> omega)))
    | ((with_reducible refine eqN_mk2 ?_ ?_); (focus rfl))
    | with_reducible refine wr_i64 (by first | omega | (simp only [LN] at *; omega)) ?_
    | with_reducible refine wr_u64 (by omega) ?_
    | with_reducible refine wr_u8 (by omega) ?_
    | with_reducible refine wr_u32 (by omega) ?_
    | with_reducible first | refine wr_mk _ rfl ?_
    | ((with_reducible refine ixN_nat ?_ ?_); (focus ((try simp only [LN] at *) <;> omega)))
    | ((with_reducible refine rowN_map ?_ ?_); (focus ((try simp only [LN] at *) <;> omega)); intro x hx)
    | with_reducible refine eqN_dec (by omega) ?_
    | with_reducible first | refine apN_mk (by kernel_rfl) ?_ | refine Z.callZ_in tabOk 10 Try.f105 _ Try.func105 (by kernel_rfl) rfl rfl rfl ?_ | refine Z.callZ_in tabOk 8 Try.f69 _ Try.func69 (by kernel_rfl) rfl rfl rfl ?_ | refine Z.callZ_in tabOk 17 Try.f99 _ Try.func99 (by kernel_rfl) rfl rfl rfl ?_ | refine Z.callZ_in tabOk 18 Try.f107 _ Try.func107 (by kernel_rfl) rfl rfl rfl ?_ | refine Z.callZ_in tabOk 20 Try.f108 _ Try.func108 (by kernel_rfl) rfl rfl rfl ?_ | refine Z.callZ_in tabOk 6 Try.f117 _ Try.func117 (by kernel_rfl) rfl rfl rfl ?_
    | ((first | (with_reducible refine Z.conZ_mz ?_ (cat) ?_) | (with_reducible refine Z.callZ_mk ?_ (cat) ?_)); (focus ((repeat' (first | exact trivial | exact ⟨_, rfl, rfl, rfl⟩ | (refine Z.low_osln ?_ (fun _ => rfl); (first | exact hzl | exact hzl.symm)) | exact rfl | exact Z.low_nil | exact Z.low_nil2 | exact low_osl (fun _ => rfl) | (refine Z.low_osln ?_ (fun _ => rfl); (simp only [List.length_map]; done)) | exact low_oslr (fun _ => rfl) | exact Z.low_gslm (by first | rfl | exact Z.kb_some rfl) (fun _ => rfl) | exact .inl rfl | exact .inr ⟨_, rfl⟩ | apply And.intro)); done)))
    | ((first | (with_reducible refine Z.conZ_mz ?_ (ca) ?_) | (with_reducible refine Z.callZ_mk ?_ (ca) ?_)); (focus ((repeat' (first | exact trivial | exact ⟨_, rfl, rfl, rfl⟩ | (refine Z.low_osln ?_ (fun _ => rfl); (first | exact hzl | exact hzl.symm)) | exact rfl | exact Z.low_nil | exact Z.low_nil2 | exact low_osl (fun _ => rfl) | (refine Z.low_osln ?_ (fun _ => rfl); (simp only [List.length_map]; done)) | exact low_oslr (fun _ => rfl) | exact Z.low_gslm (by first | rfl | exact Z.kb_some rfl) (fun _ => rfl) | exact .inl rfl | exact .inr ⟨_, rfl⟩ | apply And.intro)); done)))
    | ((first | (with_reducible refine Z.conZ_mz ?_ (cb) ?_) | (with_reducible refine Z.callZ_mk ?_ (cb) ?_)); (focus ((repeat' (first | exact trivial | exact ⟨_, rfl, rfl, rfl⟩ | (refine Z.low_osln ?_ (fun _ => rfl); (first | exact hzl | exact hzl.symm)) | exact rfl | exact Z.low_nil | exact Z.low_nil2 | exact low_osl (fun _ => rfl) | (refine Z.low_osln ?_ (fun _ => rfl); (simp only [List.length_map]; done)) | exact low_oslr (fun _ => rfl) | exact Z.low_gslm (by first | rfl | exact Z.kb_some rfl) (fun _ => rfl) | exact .inl rfl | exact .inr ⟨_, rfl⟩ | apply And.intro)); done)))
    | ((first | (with_reducible refine Z.conZ_mz ?_ (cz) ?_) | (with_reducible refine Z.callZ_mk ?_ (cz) ?_)); (focus ((repeat' (first | exact trivial | exact ⟨_, rfl, rfl, rfl⟩ | (refine Z.low_osln ?_ (fun _ => rfl); (first | exact hzl | exact hzl.symm)) | exact rfl | exact Z.low_nil | exact Z.low_nil2 | exact low_osl (fun _ => rfl) | (refine Z.low_osln ?_ (fun _ => rfl); (simp only [List.length_map]; done)) | exact low_oslr (fun _ => rfl) | exact Z.low_gslm (by first | rfl | exact Z.kb_some rfl) (fun _ => rfl) | exact .inl rfl | exact .inr ⟨_, rfl⟩ | apply And.intro)); done)))
    | ((with_reducible refine eqN_mk2 ?_ ?_); (focus (exact Z.kb_some rfl)))
    | ((with_reducible apply ex_and); exact rfl)
    | with_reducible first | refine Z.drawZ_rule tabOk mixOk ?_ | refine Z.apZ_mk (by kernel_rfl) ?_
    | ((with_reducible refine Z.ConZ.red ?_); (try subst hlb); (apply Z.conZ_all); (focus (repeat (first | exact Z.FK.nil | (apply Z.FK.keep; exact rfl)))); (focus rfl); (focus rfl); (focus (repeat (first | exact trivial | (refine ⟨(fun o ho => (by first | (cases ho; rfl) | (cases ho; exact Z.inL_map fun _ => rfl) | (cases ho; exact Z.inL_mapr fun _ => rfl) | exact Z.inL_gB ho fun _ => rfl)), ?_⟩)))))
    | ((refine ⟨rfl, ?_, rfl⟩); (focus (repeat (first | exact Z.DK.nil | apply Z.DK.cons))))
    | (focus (exact (rfl : Nat.ble _ _ = true))))
  all_goals (try (conv => whnf))
  all_goals try (show Nat.ble _ _ = true; rfl)
  all_goals try (exfalso; rename_i hz; cases hz; done)
  all_goals try (exfalso; (try simp only [LN] at *) <;> omega)
  all_goals first
    | ((first | (with_reducible apply Z.retF1) | (with_reducible apply Z.retF2) | (with_reducible apply Z.retF0)); (focus (exact rfl)); (repeat' (first | exact trivial | (refine Z.frz_oslw (l := mrg a b) (f := cK) (ty := 70) (bx := false) rfl ?_ ?_ (fun _ => rfl); (focus (first | rfl | exact hzl | exact hzl.symm | (simp; done) | (simp; omega))); (focus (first | exact (ren_map fun _ => rfl) | exact (congrArg (List.take _) (ren_map fun _ => rfl)).trans (List.take_of_length_le (by rw [List.length_map]; exact Nat.le_of_eq hzl)) | exact List.take_of_length_le (by rw [List.length_map]; exact Nat.le_of_eq hzl) | (fail)))) | (refine Z.fq_gsl (l := [(⟨s, k, y⟩ : Rcd)]) (f := cR) (g := eR) (sz := 3) (ty := 61) rfl (fun _ => rfl) ?_) | (with_reducible apply Z.frz_one) | (with_reducible apply Z.frz_agg) | (with_reducible apply Z.fq_int) | (with_reducible apply Z.fq_bool) | (exact Z.frz_nil) | (exact Z.frz_osl0 rfl rfl rfl) | (with_reducible apply Z.fq_nil) | (with_reducible apply Z.fq_ro) | ((with_reducible apply Z.fq_gsl); (focus (first | rfl | exact Z.isB_map _ | exact Z.gB_snoc.symm)); (focus (exact fun _ => rfl))) | ((with_reducible apply Z.fq_osl); (focus (exact rfl)); (focus (first | exact rfl | (simp only [List.length_map, Nat.zero_add]; done) | ((try simp only [LN] at *) <;> omega))); (focus (exact fun _ => rfl))) | ((with_reducible apply Z.fq_src); (focus (exact rfl)); (focus (first | exact rfl | (simp only [List.length_map, Nat.zero_add]; done) | ((try simp only [LN] at *) <;> omega))); (focus (exact fun _ => rfl))) | exact rfl | ((apply Z.fq_osl); (focus (exact rfl)); (focus (first | exact rfl | (simp only [List.length_map, Nat.zero_add]; done) | ((try simp only [LN] at *) <;> omega))); (focus (exact fun _ => rfl))) | ((apply Z.fq_src); (focus (exact rfl)); (focus (first | exact rfl | (simp only [List.length_map, Nat.zero_add]; done) | ((try simp only [LN] at *) <;> omega))); (focus (exact fun _ => rfl))) | (apply Z.fq_ro) | (apply Z.fq_int) | (apply Z.fq_bool) | apply And.intro)); (all_goals (try exact (fun _ => none))); all_goals (first | rfl | (simp; done)))
    | (exfalso; rename_i hz; cases hz; done)
    | (exfalso; (try simp only [LN] at *) <;> omega)
    | (fail)
end Tab
end Go.Proofs.Ytopieffkpdlpbaa
namespace Go.Proofs.Ytopieffkpdlpbaa
open Go Go.RowKit Wx
set_option linter.unusedVariables false
set_option linter.unusedSimpArgs false
set_option maxHeartbeats 4000000
namespace Tab
end Tab
end Go.Proofs.Ytopieffkpdlpbaa
namespace Go.Proofs.Ytopieffkpdlpbaa
open Go Go.RowKit Wx
set_option linter.unusedVariables false
set_option linter.unusedSimpArgs false
set_option maxHeartbeats 4000000
namespace Tab
theorem tjoin_con (a b : List Kc) (hla : a.length ≤ 1000) (hlb : b.length ≤ 1000) : Con Try.prog 79 [.agg [.ro false 4 (a.map eK)], .agg [.ro false 4 (b.map eK)]] (fun rx rK rt => rx = .tup [.agg [.ro true 4 ((joinT a b).1.map eK)], .one (.v (.int .i64 (joinT a b).2))] ∧ rK = [] ∧ rt = 0) := by
  unfold joinT
  by_cases h : tabR a = false ∨ tabR b = false
  · rw [if_pos h]; exact join_bad a b h hla hlb
  · rw [if_neg h]
    have ha : tabR a = true := by cases hz : tabR a with
      | true => rfl
      | false => exact absurd (.inl hz) h
    have hb : tabR b = true := by cases hz : tabR b with
      | true => rfl
      | false => exact absurd (.inr hz) h
    by_cases h0 : 0 < a.length + b.length
    · cases hc : comm a b
      · rw [if_neg (by decide)]; exact join_ok a b ha hb h0 hc
      · rw [if_pos rfl]; exact join_both a b ha hb h0 hc
    · have e1 : a = [] := List.length_eq_zero_iff.1 (by omega)
      have e2 : b = [] := List.length_eq_zero_iff.1 (by omega)
      subst e1 e2
      exact join_nil
end Tab
end Go.Proofs.Ytopieffkpdlpbaa
namespace Go.Proofs.Ytopieffkpdlpbaa
open Go Go.RowKit Wx
set_option linter.unusedVariables false
set_option linter.unusedSimpArgs false
set_option maxHeartbeats 4000000
def rowsE {α : Type} (sz mx : Nat) (d : List Ce → Option α) (dr : List RT → Option α) (K : Nat → Option Y.Ob) : Ce → Option (List α)
  | .ro _ z rows => match Nat.beq z sz, rows.mapM dr with
    | true, some xs => match Nat.ble xs.length mx with
      | true => some xs
      | false => none
    | _, _ => none
  | c => Y.rowsD sz mx d K c
theorem mapM_en {α : Type} {dr : List RT → Option α} {en : α → List RT} (hd : ∀ r x, dr r = some x → r = en x) : ∀ {rows : List (List RT)} {xs : List α}, rows.mapM dr = some xs → rows = xs.map en
  | [], xs, h => by simp only [List.mapM_nil, Option.pure_def, Option.some.injEq] at h; subst h; rfl
  | r :: rows, xs, h => by
    rw [List.mapM_cons] at h
    cases h1 : dr r with
    | none => rw [h1] at h; cases h
    | some x =>
      cases h2 : rows.mapM dr with
      | none => rw [h1, h2] at h; cases h
      | some ys =>
        rw [h1, h2] at h
        simp only [Option.pure_def, Option.bind_eq_bind, Option.bind_some, Option.some.injEq] at h
        subst h
        rw [List.map_cons, ← hd r x h1, ← mapM_en hd h2]
theorem rowsE_low {α : Type} {sz mx : Nat} {d : List Ce → Option α} {dr : List RT → Option α} {en : α → List RT} (hd : ∀ r x, d r = some x → r.map RT.of = (en x).map some) (hr : ∀ r x, dr r = some x → r = en x) {K : Nat → Option Y.Ob} {c : Ce} {xs : List α} (h : rowsE sz mx d dr K c = some xs) : lowC (Y.blkOf K) c (.ro false sz (xs.map en)) ∧ xs.length ≤ mx := by
  unfold rowsE at h
  split at h
  · rename_i fl z rows
    split at h
    · rename_i ys h1 h2
      split at h
      · rename_i h3
        simp only [Option.some.injEq] at h
        subst h
        refine ⟨?_, Nat.le_of_ble_eq_true h3⟩
        have e := mapM_en hr h2
        subst e
        rw [Nat.eq_of_beq_eq_true h1]
        exact rfl
      · cases h
    · cases h
  · exact Y.rowsD_low hd h
def decK : List Ce → Option Tab.Kc
  | [.v (.int .i64 a), .v (.int .i64 b), .v (.int .i64 c), .v (.int .i64 d)] => some ⟨a, b, c, d⟩
  | _ => none
theorem decK_ok (r : List Ce) (x : Tab.Kc) (h : decK r = some x) : r.map RT.of = (Tab.eK x).map some := by
  unfold decK at h
  split at h
  · simp only [Option.some.injEq] at h; subst h; rfl
  · cases h
def decKr : List RT → Option Tab.Kc
  | [.v (.int .i64 a), .v (.int .i64 b), .v (.int .i64 c), .v (.int .i64 d)] => some ⟨a, b, c, d⟩
  | _ => none
theorem decKr_ok (r : List RT) (x : Tab.Kc) (h : decKr r = some x) : r = Tab.eK x := by
  unfold decKr at h
  split at h
  · simp only [Option.some.injEq] at h; subst h; rfl
  · cases h
def orcJ : Y.CallFn := fun c avs K top => match c, avs with
  | .fn g [], [.pl (.agg [ca]), .pl (.agg [cb])] => match Nat.beq g 79, rowsE 4 1000 decK decKr K.get ca, rowsE 4 1000 decK decKr K.get cb with
    | true, some a, some b => some ⟨.tup [.agg [.ro true 4 ((Tab.joinT a b).1.map Tab.eK)], .one (.v (.int .i64 (Tab.joinT a b).2))], K, top, []⟩
    | _, _, _ => none
  | _, _ => none
theorem orcJ_sound : Y.CallsOk Try.prog orcJ := by
  intro c avs K top r h
  unfold orcJ at h
  split at h
  · rename_i g ca cb
    split at h
    · rename_i a b h1 h2 h3
      simp only [Option.some.injEq] at h
      subst h
      obtain ⟨g1, g2⟩ := rowsE_low (en := Tab.eK) decK_ok decKr_ok h2
      obtain ⟨g3, g4⟩ := rowsE_low (en := Tab.eK) decK_ok decKr_ok h3
      have := Nat.eq_of_beq_eq_true h1
      subst this
      exact ⟨Y.con_callE (args := [.agg [.ro false 4 (a.map Tab.eK)], .agg [.ro false 4 (b.map Tab.eK)]]) ⟨⟨g1, trivial⟩, ⟨g3, trivial⟩, trivial⟩ (Tab.tjoin_con a b g2 g4) rfl, fun _ _ => rfl⟩
    · cases h
  · cases h
theorem wakes_con : Con Try.prog 9 [] (fun x K t => x = .val (.bool true) ∧ K = [] ∧ t = 0) := Y.con_runO ftabOk tabOk mixOk orcJ_sound 60 14 (by kernel_rfl) (by kernel_rfl)
end Go.Proofs.Ytopieffkpdlpbaa
namespace Go.Proofs.Ytopieffkpdlpbaa
open Go Go.RowKit Wx
set_option linter.unusedVariables false
set_option linter.unusedSimpArgs false
set_option maxHeartbeats 4000000
theorem snapzero_con (l : List Sha) (hl : l.length ≤ 9223372036854775807) : Con Try.prog 3 [.one (.ro false 3 (l.map eSh))] (fun rx rK rt => rx = .val (.bool true) ∧ rK = [] ∧ rt = 0) := by
  refine Z.con_ofF tabOk 55 Try.f3 _ Try.func3 (by kernel_rfl) rfl rfl rfl rfl ?_
  repeat' ((conv => whnf); first
    | ((with_reducible apply spB_cong); (focus (simp only [beq_self_eq_true, bne_self_eq_false, Bool.true_bne, Bool.false_bne, Bool.bne_true, Bool.bne_false, Bool.true_beq, Bool.false_beq, Bool.not_true, Bool.not_false, Bool.not_not, Int.reduceBEq, Int.reduceBNe, Int.reduceLE, Int.reduceLT, Int.reduceEq, decide_true, decide_false]; rfl)))
    | with_reducible first | refine spB_no (by decide) ?_
    | ((first | (with_reducible refine Z.callZ_mk ?_ (wakes_con) ?_)); (focus ((repeat' (first | exact trivial)); done)))
    | fail)
  all_goals (try (conv => whnf))
  all_goals try (show Nat.ble _ _ = true; rfl)
  all_goals try (exfalso; rename_i hz; cases hz; done)
  all_goals try (exfalso; (try simp only [LN] at *) <;> omega)
  refine Z.loopK tabOk (fun zq : Nat => [(12, .val (.int .i64 (zq : Int)))]) (fun zq : Nat => ([] : Z.Kr)) (fun zq => zq ≤ l.length) (fun zq => l.length - zq) 0 0 [(10, _), (11, _)] ⟨rfl, rfl, trivial⟩ [] trivial ?_ ?_ rfl rfl (Nat.zero_le _) ?_
  · repeat' (first | exact trivial | apply And.intro | exact ⟨_, rfl, Z.Imp.refl _⟩)
  · repeat' (first | exact trivial)
  rintro i HINV
  (try dsimp only at HINV); (try dsimp only)
  by_cases hi : i < l.length ∧ i ≠ 20
  rotate_left
  · by_cases hil : i < l.length
    · have hi20 : i = 20 := by omega
      subst hi20
      obtain ⟨x, hx⟩ := getElem?_some' (xs := l) (i := 20) hil
      repeat' ((conv => whnf); first
        | with_reducible first | refine spB_yes (by decide) ?_
        | (with_reducible refine spB_dec ?_ ?_ <;> intro _ <;> (try (exfalso; first | contradiction | omega | (rename_i hz; refine hz ?_; simp; done) | (rename_i hz; simp at hz; done) | (simp only [LN] at *; omega))))
        | with_reducible first | refine Z.rowN_known hx ?_
        | ((with_reducible apply ixN_litp); (focus (exact rfl)); (focus ((try simp only [LN] at *) <;> omega)))
        | fail)
      all_goals (try (conv => whnf))
      all_goals try (show Nat.ble _ _ = true; rfl)
      all_goals try (exfalso; rename_i hz; cases hz; done)
      all_goals try (exfalso; (try simp only [LN] at *) <;> omega)
      all_goals first
        | ((first | (with_reducible apply Z.retF1)); (focus (exact rfl)); (repeat' (first | exact trivial | (with_reducible apply Z.frz_one) | (with_reducible apply Z.fq_bool) | exact rfl | apply And.intro)); (all_goals (try exact (fun _ => none))); all_goals (first | (simp; done)))
        | fail
    have hil2 : i = l.length := by omega
    subst hil2
    repeat' ((conv => whnf); first
      | (with_reducible refine spB_dec ?_ ?_ <;> intro _ <;> (try (exfalso; first | contradiction | omega | (rename_i hz; refine hz ?_; simp; done) | (rename_i hz; simp at hz; done) | (simp only [LN] at *; omega))))
      | fail)
    all_goals (try (conv => whnf))
    all_goals try (show Nat.ble _ _ = true; rfl)
    all_goals try (exfalso; rename_i hz; cases hz; done)
    all_goals try (exfalso; (try simp only [LN] at *) <;> omega)
    all_goals first
      | ((first | (with_reducible apply Z.retF1)); (focus (exact rfl)); (repeat' (first | exact trivial | (with_reducible apply Z.frz_one) | (with_reducible apply Z.fq_bool) | exact rfl | apply And.intro)); (all_goals (try exact (fun _ => none))); all_goals (first | (simp; done)))
      | fail
  obtain ⟨hi, hi20⟩ := hi
  obtain ⟨x, hx⟩ := getElem?_some' (xs := l) (i := i) hi
  by_cases hv : okZ x.op x.ix x.w
  · have cz := zero_ok x.op x.ix x.w hv
    have cr := right_ok x.op x.ix x.w hv
    have cs := same_ok x.op x.ix x.w hv
    repeat' ((conv => whnf); first
      | with_reducible first | refine spB_t ?_
      | ((with_reducible apply spB_cong); (focus (simp only [beq_self_eq_true, bne_self_eq_false, Bool.true_bne, Bool.false_bne, Bool.bne_true, Bool.bne_false, Bool.true_beq, Bool.false_beq, Bool.not_true, Bool.not_false, Bool.not_not, Int.reduceBEq, Int.reduceBNe, Int.reduceLE, Int.reduceLT, Int.reduceEq, decide_true, decide_false]; rfl)))
      | with_reducible first | refine spB_no (by decide) ?_
      | (with_reducible refine spB_dec ?_ ?_ <;> intro _ <;> (try (exfalso; first | contradiction | omega | (rename_i hz; refine hz ?_; simp; done) | (rename_i hz; simp at hz; done) | (simp only [LN] at *; omega))))
      | (with_reducible refine spB_beq ?_ ?_ <;> intro _ <;> (try (exfalso; first | contradiction | omega | (rename_i hz; refine hz ?_; simp; done) | (rename_i hz; simp at hz; done) | (simp only [LN] at *; omega))))
      | with_reducible first | refine Z.rowN_known hx ?_
      | ((with_reducible apply ixN_litp); (focus (exact rfl)); (focus ((try simp only [LN] at *) <;> omega)))
      | with_reducible refine wr_i64 (by first | omega | (simp only [LN] at *; omega)) ?_
      | ((first | (with_reducible refine Z.callZ_mk ?_ (cz) ?_) | (with_reducible refine Z.callZ_mk ?_ (cr) ?_) | (with_reducible refine Z.callZ_mk ?_ (cs) ?_)); (focus ((repeat' (first | exact trivial | exact rfl | exact .inl rfl | apply And.intro)); done)))
      | fail)
    all_goals (try (conv => whnf))
    all_goals try (show Nat.ble _ _ = true; rfl)
    all_goals try (exfalso; rename_i hz; cases hz; done)
    all_goals try (exfalso; (try simp only [LN] at *) <;> omega)
    all_goals first
      | ((refine Z.rndK ((i + 1)) (fun s => []) rfl rfl rfl rfl ?_ ?_ ?_ ?_); (focus (repeat' (first | exact trivial | exact rfl | apply And.intro))); (focus (repeat' (first | exact trivial))); (focus (((try dsimp only); omega))); ((try dsimp only); omega))
      | fail
  have cz := zero_bad x.op x.ix x.w hv
  have cr := right_bad x.op x.ix x.w hv
  have cs := same_0
  repeat' ((conv => whnf); first
    | ((with_reducible apply spB_cong); (focus (simp only [beq_self_eq_true, bne_self_eq_false, Bool.true_bne, Bool.false_bne, Bool.bne_true, Bool.bne_false, Bool.true_beq, Bool.false_beq, Bool.not_true, Bool.not_false, Bool.not_not, Int.reduceBEq, Int.reduceBNe, Int.reduceLE, Int.reduceLT, Int.reduceEq, decide_true, decide_false]; rfl)))
    | with_reducible first | refine spB_no (by decide) ?_
    | (with_reducible refine spB_dec ?_ ?_ <;> intro _ <;> (try (exfalso; first | contradiction | omega | (rename_i hz; refine hz ?_; simp; done) | (rename_i hz; simp at hz; done) | (simp only [LN] at *; omega))))
    | (with_reducible refine spB_beq ?_ ?_ <;> intro _ <;> (try (exfalso; first | contradiction | omega | (rename_i hz; refine hz ?_; simp; done) | (rename_i hz; simp at hz; done) | (simp only [LN] at *; omega))))
    | with_reducible first | refine Z.rowN_known hx ?_
    | ((with_reducible apply ixN_litp); (focus (exact rfl)); (focus ((try simp only [LN] at *) <;> omega)))
    | with_reducible refine wr_i64 (by first | omega | (simp only [LN] at *; omega)) ?_
    | ((first | (with_reducible refine Z.callZ_mk ?_ (cz) ?_) | (with_reducible refine Z.callZ_mk ?_ (cr) ?_) | (with_reducible refine Z.callZ_mk ?_ (cs) ?_)); (focus ((repeat' (first | exact trivial | exact rfl | exact .inl rfl | apply And.intro)); done)))
    | fail)
  all_goals (try (conv => whnf))
  all_goals try (show Nat.ble _ _ = true; rfl)
  all_goals try (exfalso; rename_i hz; cases hz; done)
  all_goals try (exfalso; (try simp only [LN] at *) <;> omega)
  all_goals first
    | ((refine Z.rndK ((i + 1)) (fun s => []) rfl rfl rfl rfl ?_ ?_ ?_ ?_); (focus (repeat' (first | exact trivial | exact rfl | apply And.intro))); (focus (repeat' (first | exact trivial))); (focus (((try dsimp only); omega))); ((try dsimp only); omega))
    | fail
end Go.Proofs.Ytopieffkpdlpbaa
namespace Go.Proofs.Ytopieffkpdlpbaa
open Go Go.RowKit Wx
set_option linter.unusedVariables false
set_option linter.unusedSimpArgs false
set_option maxHeartbeats 4000000
def okSha (x : Sha) : Prop := (Lit.int .i64 x.op).wf = true ∧ (Lit.int .i64 x.ix).wf = true ∧ (Lit.int .i64 x.w).wf = true
theorem rowSha (row : List RT) (h : RowF (.st (.cons 3 1 (.int .i64) (.cons 3 1 (.int .i64) (.cons 3 1 (.int .i64) .nil)))) row) : ∃ x, row = eSh x ∧ okSha x := by
  obtain ⟨a0, r0, rfl, _, ⟨z0, rfl, w0⟩, a1, r1, rfl, _, ⟨z1, rfl, w1⟩, a2, r2, rfl, _, ⟨z2, rfl, w2⟩, rfl⟩ := h
  exact ⟨⟨z0, z1, z2⟩, rfl, w0, w1, w2⟩
namespace snapZero
theorem main (avs : List A0) (h : All2 FitA [(.sl (.st (.cons 3 1 (.int .i64) (.cons 3 1 (.int .i64) (.cons 3 1 (.int .i64) .nil)))) 25 3)] avs) : Con Try.prog 3 avs (fun x K t => x = .val (.bool true) ∧ K = [] ∧ t = 0) := by
  obtain ⟨x0, rfl, h0⟩ : ∃ x0, avs = [x0] ∧ FitA (.sl (.st (.cons 3 1 (.int .i64) (.cons 3 1 (.int .i64) (.cons 3 1 (.int .i64) .nil)))) 25 3) x0 := by
    cases avs with
    | nil => exact h.elim
    | cons x0 r => cases r with
      | nil => exact ⟨x0, rfl, h.1⟩
      | cons => exact h.2.elim
  clear h
  obtain ⟨r0, ⟨rows0, hr0, ll, hrows0⟩, rfl⟩ := h0
  simp only [List.cons.injEq, and_true] at hr0
  subst hr0
  obtain ⟨l, rfl, kl⟩ := rows_map eSh (okSha) rowSha rows0 hrows0
  rw [List.length_map] at ll
  exact snapzero_con l (by simpa [maxLen] using ll)
end snapZero
end Go.Proofs.Ytopieffkpdlpbaa
