import Derived.Test.YtgdkhdooekmfgaaSty4
import Derived.Test.YtgdkhdooekmfgaaRows
namespace Go.Proofs.Ytgdkhdooekmfgaa
open Go Go.RowKit Wx
set_option linter.unusedVariables false
set_option linter.unusedSimpArgs false
set_option maxHeartbeats 4000000
namespace heartSteady
theorem main (avs : List A0) (h : All2 FitA [(.int .i64), (.int .i64), (.sl (.int .i64) 2 1)] avs) : Con Try.prog 6 avs (fun x K t => x = .val (.bool true) ∧ K = [] ∧ t = 0) := by
  obtain ⟨x0, x1, x2, rfl, h0, h1, h2⟩ : ∃ x0 x1 x2, avs = [x0, x1, x2] ∧ FitA (.int .i64) x0 ∧ FitA (.int .i64) x1 ∧ FitA (.sl (.int .i64) 2 1) x2 := by
    cases avs with
    | nil => exact h.elim
    | cons x0 r => cases r with
      | nil => exact h.2.elim
      | cons x1 r => cases r with
        | nil => exact h.2.2.elim
        | cons x2 r => cases r with
          | nil => exact ⟨x0, x1, x2, rfl, h.1, h.2.1, h.2.2.1⟩
          | cons => exact h.2.2.2.elim
  clear h
  obtain ⟨sp0, rfl, wsp0⟩ := fit_int h0
  obtain ⟨w0, rfl, ww0⟩ := fit_int h1
  obtain ⟨ws, rfl, lws, wws⟩ := fit_ints h2
  exact steady_con sp0 w0 ws (by simpa [maxLen] using lws)
end heartSteady
end Go.Proofs.Ytgdkhdooekmfgaa
