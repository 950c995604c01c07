import Derived.Test.YtnaldcnihekniaaAll
import Derived.Test.YtnaldcnihekniaaAll0
import Derived.Test.YtnaldcnihekniaaRows
namespace Go.Proofs.Ytnaldcnihekniaa
open Go Go.RowKit Wx
set_option linter.unusedVariables false
set_option maxHeartbeats 4000000
namespace keysAll
theorem main (avs : List A0) (h : All2 FitA [(.int .i64)] avs) : Con Try.prog 4 avs (fun x K t => x = .val (.bool true) ∧ K = [] ∧ t = 0) := by
  obtain ⟨a0, rfl, h0⟩ : ∃ a0, avs = [a0] ∧ FitA (.int .i64) a0 := by
    cases avs with
    | nil => exact h.elim
    | cons a0 r => cases r with
      | nil => exact ⟨a0, rfl, h.1⟩
      | cons => exact h.2.elim
  clear h
  obtain ⟨w, rfl, _⟩ := fit_int h0
  by_cases hw : 1 ≤ w ∧ w ≤ 3
  · have : w = 1 ∨ w = 2 ∨ w = 3 := by omega
    rcases this with rfl | rfl | rfl
    · exact all1
    · exact all2
    · exact all3
  · exact all0_con w hw
end keysAll
end Go.Proofs.Ytnaldcnihekniaa
