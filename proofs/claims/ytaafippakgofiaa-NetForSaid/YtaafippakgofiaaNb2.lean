import Derived.Test.YtaafippakgofiaaNb1
namespace Go.Proofs.Ytaafippakgofiaa
open Go Go.RowKit Wx
set_option linter.unusedVariables false
set_option linter.unusedSimpArgs false
set_option maxHeartbeats 4000000
namespace netFor
theorem main (avs : List A0) (h : All2 FitA [(.st (.cons 25 1 (.int .u64) (.cons 26 1 (.sl (.st (.cons 25 1 (.int .u64) (.cons 3 1 (.int .i64) (.cons 3 1 (.int .i64) (.cons 43 1 (.sl (.int .u8) 5 1) .nil))))) 48 4) .nil))), (.int .i64)] avs) : Con Try.prog 6 avs (fun x K t => x = .val (.bool true) ∧ K = [] ∧ t = 0) := by
  obtain ⟨x0, x1, rfl, h0, h1⟩ : ∃ x0 x1, avs = [x0, x1] ∧ FitA (.st (.cons 25 1 (.int .u64) (.cons 26 1 (.sl (.st (.cons 25 1 (.int .u64) (.cons 3 1 (.int .i64) (.cons 3 1 (.int .i64) (.cons 43 1 (.sl (.int .u8) 5 1) .nil))))) 48 4) .nil))) x0 ∧ FitA (.int .i64) x1 := by
    cases avs with
    | nil => exact h.elim
    | cons x0 r => cases r with
      | nil => exact h.2.elim
      | cons x1 r => cases r with
        | nil => exact ⟨x0, x1, rfl, h.1, h.2.1⟩
        | cons => exact h.2.2.elim
  clear h
  obtain ⟨row0, hrow0, rfl⟩ := h0
  obtain ⟨x, rfl, kx⟩ := rowNt row0 hrow0
  obtain ⟨k, rfl, wk⟩ := fit_int h1
  exact netfor_con x.sent k x.ps (by have := kx.2.1.1; simpa [maxLen] using this)
end netFor
end Go.Proofs.Ytaafippakgofiaa
