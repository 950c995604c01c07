import Derived.Test.YtakfkbciijahgaaGb2
namespace Go.Proofs.Ytakfkbciijahgaa
open Go Go.RowKit Wx
set_option linter.unusedVariables false
set_option linter.unusedSimpArgs false
set_option maxHeartbeats 4000000
namespace gateTells
theorem main (avs : List A0) (h : All2 FitA [(.st (.cons 22 1 (.sl (.st (.cons 37 1 (.sl (.st (.cons 3 1 (.int .i64) (.cons 27 3 (.st (.cons 3 1 (.int .i64) (.cons 3 1 (.int .i64) (.cons 2 1 (.int .i64) .nil)))) (.cons 23 1 (.int .u64) .nil)))) 29 5) (.cons 23 1 (.int .u64) (.cons 4 1 .bool (.cons 4 1 .bool .nil))))) 39 4) (.cons 23 1 (.int .u64) (.cons 23 1 (.int .u64) .nil)))), (.st (.cons 22 1 (.sl (.st (.cons 37 1 (.sl (.st (.cons 3 1 (.int .i64) (.cons 27 3 (.st (.cons 3 1 (.int .i64) (.cons 3 1 (.int .i64) (.cons 2 1 (.int .i64) .nil)))) (.cons 23 1 (.int .u64) .nil)))) 29 5) (.cons 23 1 (.int .u64) (.cons 4 1 .bool (.cons 4 1 .bool .nil))))) 39 4) (.cons 23 1 (.int .u64) (.cons 23 1 (.int .u64) .nil)))), (.int .i64)] avs) : Con Try.prog 5 avs (fun x K t => x = .val (.bool true) ∧ K = [] ∧ t = 0) := by
  obtain ⟨x0, x1, x2, rfl, h0, h1, h2⟩ : ∃ x0 x1 x2, avs = [x0, x1, x2] ∧ FitA (.st (.cons 22 1 (.sl (.st (.cons 37 1 (.sl (.st (.cons 3 1 (.int .i64) (.cons 27 3 (.st (.cons 3 1 (.int .i64) (.cons 3 1 (.int .i64) (.cons 2 1 (.int .i64) .nil)))) (.cons 23 1 (.int .u64) .nil)))) 29 5) (.cons 23 1 (.int .u64) (.cons 4 1 .bool (.cons 4 1 .bool .nil))))) 39 4) (.cons 23 1 (.int .u64) (.cons 23 1 (.int .u64) .nil)))) x0 ∧ FitA (.st (.cons 22 1 (.sl (.st (.cons 37 1 (.sl (.st (.cons 3 1 (.int .i64) (.cons 27 3 (.st (.cons 3 1 (.int .i64) (.cons 3 1 (.int .i64) (.cons 2 1 (.int .i64) .nil)))) (.cons 23 1 (.int .u64) .nil)))) 29 5) (.cons 23 1 (.int .u64) (.cons 4 1 .bool (.cons 4 1 .bool .nil))))) 39 4) (.cons 23 1 (.int .u64) (.cons 23 1 (.int .u64) .nil)))) x1 ∧ FitA (.int .i64) x2 := by
    cases avs with
    | nil => exact h.elim
    | cons x0 r => cases r with
      | nil => exact h.2.elim
      | cons x1 r => cases r with
        | nil => exact h.2.2.elim
        | cons x2 r => cases r with
          | nil => exact ⟨x0, x1, x2, rfl, h.1, h.2.1, h.2.2.1⟩
          | cons => exact h.2.2.2.elim
  clear h
  obtain ⟨row0, hrow0, rfl⟩ := h0
  obtain ⟨x, rfl, kx⟩ := rowGt row0 hrow0
  obtain ⟨row1, hrow1, rfl⟩ := h1
  obtain ⟨y, rfl, ky⟩ := rowGt row1 hrow1
  obtain ⟨k, rfl, wk⟩ := fit_int h2
  exact gatetells_con x.qs y.qs x.n x.d y.n y.d k (by have := kx.1.1; simpa [maxLen] using this) (by have := ky.1.1; simpa [maxLen] using this) (fun q hq e he => wf_u (((kx.1.2 q hq).1.2 e he).2.2.2.2.1)) (fun q hq => wf_u ((kx.1.2 q hq).2.1)) (wf_u kx.2.1)
end gateTells
end Go.Proofs.Ytakfkbciijahgaa
