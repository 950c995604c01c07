import Derived.Test.YtoiadndmbppobaaOp1
namespace Go.Proofs.Ytoiadndmbppobaa
open Go Go.RowKit Wx
set_option linter.unusedVariables false
set_option maxHeartbeats 4000000
namespace linkOpens
theorem main (avs : List A0) (h : All2 FitA [(.sl (.int .u32) 22 1), (.sl (.int .i64) 3 1)] avs) : Con Try.prog 5 avs (fun x K t => x = .val (.bool true) ∧ K = [] ∧ t = 0) := by
  obtain ⟨x0, x1, rfl, h0, h1⟩ : ∃ x0 x1, avs = [x0, x1] ∧ FitA (.sl (.int .u32) 22 1) x0 ∧ FitA (.sl (.int .i64) 3 1) x1 := by
    cases avs with
    | nil => exact h.elim
    | cons x0 r => cases r with
      | nil => exact h.2.elim
      | cons x1 r => cases r with
        | nil => exact ⟨x0, x1, rfl, h.1, h.2.1⟩
        | cons => exact h.2.2.elim
  clear h
  obtain ⟨l, rfl, hl, _⟩ := fit_ints h0
  obtain ⟨m, rfl, hm, _⟩ := fit_ints h1
  exact opens_con l m (by simpa [maxLen] using hl) (by simpa [maxLen] using hm)
end linkOpens
end Go.Proofs.Ytoiadndmbppobaa
