import Derived.Test.YtaafippakgofiaaNc5
namespace Go.Proofs.Ytaafippakgofiaa
open Go Go.RowKit Wx
set_option linter.unusedVariables false
set_option linter.unusedSimpArgs false
set_option maxHeartbeats 4000000
namespace netTells
theorem main (avs : List A0) (h : All2 FitA [(.sl (.st (.cons 25 1 (.int .u64) (.cons 26 1 (.sl (.st (.cons 25 1 (.int .u64) (.cons 3 1 (.int .i64) (.cons 3 1 (.int .i64) (.cons 43 1 (.sl (.int .u8) 5 1) .nil))))) 48 4) .nil))) 28 2), (.sl (.int .i64) 3 1), (.sl (.int .i64) 3 1)] avs) : Con Try.prog 3 avs (fun x K t => x = .val (.bool true) ∧ K = [] ∧ t = 0) := by
  obtain ⟨x0, x1, x2, rfl, h0, h1, h2⟩ : ∃ x0 x1 x2, avs = [x0, x1, x2] ∧ FitA (.sl (.st (.cons 25 1 (.int .u64) (.cons 26 1 (.sl (.st (.cons 25 1 (.int .u64) (.cons 3 1 (.int .i64) (.cons 3 1 (.int .i64) (.cons 43 1 (.sl (.int .u8) 5 1) .nil))))) 48 4) .nil))) 28 2) x0 ∧ FitA (.sl (.int .i64) 3 1) x1 ∧ FitA (.sl (.int .i64) 3 1) x2 := by
    cases avs with
    | nil => exact h.elim
    | cons x0 r => cases r with
      | nil => exact h.2.elim
      | cons x1 r => cases r with
        | nil => exact h.2.2.elim
        | cons x2 r => cases r with
          | nil => exact ⟨x0, x1, x2, rfl, h.1, h.2.1, h.2.2.1⟩
          | cons => exact h.2.2.2.elim
  clear h
  obtain ⟨r0, ⟨rows0, hr0, ll, hrows0⟩, rfl⟩ := h0
  simp only [List.cons.injEq, and_true] at hr0
  subst hr0
  obtain ⟨l, rfl, kl⟩ := rows_map eNt (okNt) rowNt rows0 hrows0
  rw [List.length_map] at ll
  obtain ⟨nodes, rfl, lnodes, wnodes⟩ := fit_ints h1
  obtain ⟨picks, rfl, lpicks, wpicks⟩ := fit_ints h2
  exact nettells_con l nodes picks (by simpa [maxLen] using ll) (by simpa [maxLen] using lnodes) (by simpa [maxLen] using lpicks) (fun q hq => by have := (kl q hq).2.1.1; simpa [maxLen] using this) (fun q hq p hp z hz => wf_u8 (((kl q hq).2.1.2 p hp).2.2.2.1.2 z hz))
end netTells
end Go.Proofs.Ytaafippakgofiaa
