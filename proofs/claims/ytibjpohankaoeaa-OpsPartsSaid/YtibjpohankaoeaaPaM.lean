import Derived.Test.YtibjpohankaoeaaPm1
import Derived.Test.YtibjpohankaoeaaRows
namespace Go.Proofs.Ytibjpohankaoeaa
open Go Go.RowKit Wx
set_option linter.unusedVariables false
set_option linter.unusedSimpArgs false
set_option maxHeartbeats 4000000
namespace opsParts
theorem main (avs : List A0) (h : All2 FitA [(.st (.cons 27 5 (.st (.cons 3 1 (.int .i64) (.cons 3 1 (.int .i64) (.cons 25 1 (.sl (.int .i64) 3 1) (.cons 2 1 (.int .i64) (.cons 2 1 (.int .i64) .nil)))))) (.cons 29 2 (.st (.cons 2 1 (.int .i64) (.cons 2 1 (.int .i64) .nil))) .nil))), (.sl (.int .i64) 2 1), (.int .i64)] avs) : Con Try.prog 7 avs (fun x K t => x = .val (.bool true) ∧ K = [] ∧ t = 0) := by
  obtain ⟨x0, x1, x2, rfl, h0, h1, h2⟩ : ∃ x0 x1 x2, avs = [x0, x1, x2] ∧ FitA (.st (.cons 27 5 (.st (.cons 3 1 (.int .i64) (.cons 3 1 (.int .i64) (.cons 25 1 (.sl (.int .i64) 3 1) (.cons 2 1 (.int .i64) (.cons 2 1 (.int .i64) .nil)))))) (.cons 29 2 (.st (.cons 2 1 (.int .i64) (.cons 2 1 (.int .i64) .nil))) .nil))) x0 ∧ FitA (.sl (.int .i64) 2 1) x1 ∧ FitA (.int .i64) x2 := by
    cases avs with
    | nil => exact h.elim
    | cons x0 r =>
      cases r with
      | nil => exact h.2.elim
      | cons x1 r =>
        cases r with
        | nil => exact h.2.2.elim
        | cons x2 r =>
          cases r with
          | nil => exact ⟨x0, x1, x2, rfl, h.1, h.2.1, h.2.2.1⟩
          | cons => exact h.2.2.2.elim
  clear h
  obtain ⟨_, ⟨b1, q1, rfl, _, ⟨a1, r1, rfl, _, ⟨t, rfl, _⟩, a2, r2, rfl, _, ⟨w, rfl, _⟩, a3, r3, rfl, _, hins, a4, r4, rfl, _, ⟨a, rfl, _⟩, a5, r5, rfl, _, ⟨b, rfl, _⟩, rfl⟩, b2, q2, rfl, _, ⟨a6, r6, rfl, _, ⟨c, rfl, wc⟩, a7, r7, rfl, _, ⟨s, rfl, _⟩, rfl⟩, rfl⟩, rfl⟩ := h0
  obtain ⟨rows3, rfl, l3, hrows3⟩ := hins
  obtain ⟨ins, rfl, _⟩ := rows_map (e := .int .i64) eI (fun z => (Lit.int .i64 z).wf = true) (fun row hrow => hrow) rows3 hrows3
  rw [List.length_map] at l3
  obtain ⟨l, rfl, ll, wl⟩ := fit_ints h1
  obtain ⟨at0, rfl, wat0⟩ := fit_int h2
  exact parts_main t w a b c s at0 ins l (by simpa [maxLen] using l3) (by simpa [maxLen] using ll) (by simp [Lit.wf, IntKind.min, IntKind.max, IntKind.signed, IntKind.bits] at wc; omega)
end opsParts
end Go.Proofs.Ytibjpohankaoeaa
