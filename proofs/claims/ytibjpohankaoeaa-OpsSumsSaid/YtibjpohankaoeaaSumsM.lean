import Derived.Test.YtibjpohankaoeaaSu0
import Derived.Test.YtibjpohankaoeaaRows
namespace Go.Proofs.Ytibjpohankaoeaa
open Go Go.RowKit Wx
set_option linter.unusedVariables false
set_option linter.unusedSimpArgs false
set_option maxHeartbeats 4000000
namespace opsSums
theorem main (avs : List A0) (h : All2 FitA [(.int .i64), (.sl (.int .i64) 2 1)] avs) : Con Try.prog 9 avs (fun x K t => x = .val (.bool true) ∧ K = [] ∧ t = 0) := by
  obtain ⟨x0, x1, rfl, h0, h1⟩ : ∃ x0 x1, avs = [x0, x1] ∧ FitA (.int .i64) x0 ∧ FitA (.sl (.int .i64) 2 1) x1 := by
    cases avs with
    | nil => exact h.elim
    | cons x0 r => cases r with
      | nil => exact h.2.elim
      | cons x1 r => cases r with
        | nil => exact ⟨x0, x1, rfl, h.1, h.2.1⟩
        | cons => exact h.2.2.elim
  clear h
  obtain ⟨a0, rfl, wa0⟩ := fit_int h0
  obtain ⟨ls, rfl, lls, wls⟩ := fit_ints h1
  exact sums_con a0 ls (by simpa [maxLen] using lls) wls
end opsSums
end Go.Proofs.Ytibjpohankaoeaa
