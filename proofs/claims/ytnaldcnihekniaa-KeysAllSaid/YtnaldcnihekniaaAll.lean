import Derived.Test.YtnaldcnihekniaaWakes
namespace Go.Proofs.Ytnaldcnihekniaa
open Go Go.RowKit Wx
set_option linter.unusedVariables false
set_option maxHeartbeats 4000000
theorem all1 : Con Try.prog 4 [.one (.v (.int .i64 1))] (fun x K t => x = .val (.bool true) ∧ K = [] ∧ t = 0) := Y.con_eval ftabOk tabOk mixOk 40 12 (by kernel_rfl) (by rfl) (by kernel_rfl)
theorem all2 : Con Try.prog 4 [.one (.v (.int .i64 2))] (fun x K t => x = .val (.bool true) ∧ K = [] ∧ t = 0) := Y.con_eval ftabOk tabOk mixOk 40 12 (by kernel_rfl) (by rfl) (by kernel_rfl)
theorem all3 : Con Try.prog 4 [.one (.v (.int .i64 3))] (fun x K t => x = .val (.bool true) ∧ K = [] ∧ t = 0) := Y.con_eval ftabOk tabOk mixOk 40 12 (by kernel_rfl) (by rfl) (by kernel_rfl)
end Go.Proofs.Ytnaldcnihekniaa
