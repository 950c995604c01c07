import Derived.Test.YtnlcmncfbiognaaRf1
import Derived.Test.YtnlcmncfbiognaaRb0
namespace Go.Proofs.Ytnlcmncfbiognaa
open Go Go.RowKit Wx
set_option linter.unusedVariables false
set_option linter.unusedSimpArgs false
set_option maxHeartbeats 4000000
namespace retainPuts
theorem main (avs : List A0) (h : All2 FitA [(.st (.cons 3 1 (.int .i64) (.cons 22 1 (.sl (.st (.cons 25 1 (.int .u64) (.cons 4 1 .bool (.cons 4 1 .bool .nil)))) 44 3) .nil))), (.int .u64), .bool] avs) : Con Try.prog 3 avs (fun x K t => x = .val (.bool true) ∧ K = [] ∧ t = 0) := by
  obtain ⟨x0, x1, x2, rfl, h0, h1, h2⟩ : ∃ x0 x1 x2, avs = [x0, x1, x2] ∧ FitA (.st (.cons 3 1 (.int .i64) (.cons 22 1 (.sl (.st (.cons 25 1 (.int .u64) (.cons 4 1 .bool (.cons 4 1 .bool .nil)))) 44 3) .nil))) x0 ∧ FitA (.int .u64) x1 ∧ FitA .bool x2 := by
    cases avs with
    | nil => exact h.elim
    | cons x0 r => cases r with
      | nil => exact h.2.elim
      | cons x1 r => cases r with
        | nil => exact h.2.2.elim
        | cons x2 r => cases r with
          | nil => exact ⟨x0, x1, x2, rfl, h.1, h.2.1, h.2.2.1⟩
          | cons => exact h.2.2.2.elim
  clear h
  obtain ⟨row0, hrow0, rfl⟩ := h0
  obtain ⟨x, rfl, kx⟩ := rowSf row0 hrow0
  obtain ⟨number, rfl, wnumber⟩ := fit_int h1
  obtain ⟨save, rfl⟩ := fit_bool h2
  exact retainputs_con x.keep number save x.l (by have := kx.2.1.1; simpa [maxLen] using this)
end retainPuts
end Go.Proofs.Ytnlcmncfbiognaa
