import Derived.Test.YtibjpohankaoeaaRr1
import Derived.Test.YtibjpohankaoeaaRu3
namespace Go.Proofs.Ytibjpohankaoeaa
open Go Go.RowKit Wx
set_option linter.unusedVariables false
set_option linter.unusedSimpArgs false
set_option maxHeartbeats 4000000
theorem rRun_con (t w a b c s : Int) (ins : List Int) (l : List Int) (hi : ins.length ≤ 9223372036854775807) (hc : c ≤ 9223372036854775807) (hl : l.length ≤ 9223372036854775807) : Con Try.prog 21 [.agg [.v (.int .i64 t), .v (.int .i64 w), .ro false 1 (ins.map eI), .v (.int .i64 a), .v (.int .i64 b)], .agg [.v (.int .i64 c), .v (.int .i64 s)], .one (.ro false 1 (l.map eI))] (fun rx rK rt => rx = .tup [.agg [.v (.int .i64 (runF t w ins a b c s l).1.1), .v (.int .i64 (runF t w ins a b c s l).1.2)], .one (.ro true 1 ((runF t w ins a b c s l).2.1.map eI)), .one (.v (.int .i64 (runF t w ins a b c s l).2.2))] ∧ rK = [] ∧ rt = 0) := by
  by_cases h40 : 40 < l.length
  · rw [show runF t w ins a b c s l = ((0, 0), [], 3) by unfold runF; rw [if_pos h40]]
    exact con_to (X := .tup [.agg [.v (.int .i64 0), .v (.int .i64 0)], .one (.v (.slice none 0 0)), .one (.v (.int .i64 3))]) (rrun_long t w a b c s ins l hi hc h40 hl) (fun I R v h => nil_ro h)
  by_cases hok : okO t w ins a b = false
  · rw [show runF t w ins a b c s l = ((0, 0), [], 180) by unfold runF; rw [if_neg h40, if_pos hok]]
    exact con_to (X := .tup [.agg [.v (.int .i64 0), .v (.int .i64 0)], .one (.v (.slice none 0 0)), .one (.v (.int .i64 180))]) (rrun_op t w a b c s ins l hi hc hok (by omega)) (fun I R v h => nil_ro h)
  by_cases hf : fitP t a (c, s)
  · rw [show runF t w ins a b c s l = runG t a b c s l by unfold runF; rw [if_neg h40, if_neg hok, if_neg (not_not_intro hf)]]
    have hg := rrun_good t w a b c s ins l hi hc (by simpa using hok) hf (by omega)
    cases hfu : fullB t a b (c, s) l with
    | true =>
      rw [show runG t a b c s l = ((0, 0), [], 6) by unfold runG; rw [if_pos hfu]]
      exact con_to (X := .tup [.agg [.v (.int .i64 0), .v (.int .i64 0)], .one (.v (.slice none 0 0)), .one (.v (.int .i64 6))]) (con_mono hg (fun rx rK rt h => h.elim (fun h => h.2) (fun h => by have := full_f h.1; rw [hfu] at this; cases this))) (fun I R v h => nil_ro h)
    | false =>
      rw [show runG t a b c s l = ((fs t a b (c, s) l).1, (fs t a b (c, s) l).2, 0) by unfold runG; rw [if_neg (by rw [hfu]; simp)]]
      exact con_mono hg (fun rx rK rt h => h.elim (fun h => by have := full_t h.1; rw [hfu] at this; cases this) (fun h => h.2))
  · rw [show runF t w ins a b c s l = ((0, 0), [], 181) by unfold runF; rw [if_neg h40, if_neg hok, if_pos hf]]
    exact con_to (X := .tup [.agg [.v (.int .i64 0), .v (.int .i64 0)], .one (.v (.slice none 0 0)), .one (.v (.int .i64 181))]) (rrun_cell t w a b c s ins l hi hc (by simpa using hok) hf (by omega)) (fun I R v h => nil_ro h)
theorem runF_len {t w a b c s : Int} {ins l : List Int} : (runF t w ins a b c s l).2.1.length ≤ l.length := by
  unfold runF runG
  repeat' split
  all_goals first | exact Nat.zero_le _ | exact fs_len _
end Go.Proofs.Ytibjpohankaoeaa
