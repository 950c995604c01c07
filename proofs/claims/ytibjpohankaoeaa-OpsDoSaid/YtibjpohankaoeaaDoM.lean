import Derived.Test.YtibjpohankaoeaaOd0
import Derived.Test.YtibjpohankaoeaaRows
namespace Go.Proofs.Ytibjpohankaoeaa
open Go Go.RowKit Wx
set_option linter.unusedVariables false
set_option linter.unusedSimpArgs false
set_option maxHeartbeats 4000000
def okA (x : Ask) : Prop := x.ins.length ≤ 9223372036854775807 ∧ x.c ≤ 9223372036854775807
theorem rowA (row : List RT) (h : RowF (.st (.cons 27 5 (.st (.cons 3 1 (.int .i64) (.cons 3 1 (.int .i64) (.cons 25 1 (.sl (.int .i64) 3 1) (.cons 2 1 (.int .i64) (.cons 2 1 (.int .i64) .nil)))))) (.cons 29 2 (.st (.cons 2 1 (.int .i64) (.cons 2 1 (.int .i64) .nil))) .nil))) row) : ∃ x, row = eA x ∧ okA x := by
  obtain ⟨b1, q1, rfl, _, ⟨a1, r1, rfl, _, ⟨t, rfl, _⟩, a2, r2, rfl, _, ⟨w, rfl, _⟩, a3, r3, rfl, _, hins, a4, r4, rfl, _, ⟨a, rfl, _⟩, a5, r5, rfl, _, ⟨b, rfl, _⟩, rfl⟩, b2, q2, rfl, _, ⟨a6, r6, rfl, _, ⟨c, rfl, wc⟩, a7, r7, rfl, _, ⟨s, rfl, _⟩, rfl⟩, rfl⟩ := h
  obtain ⟨rows3, rfl, l3, hrows3⟩ := hins
  obtain ⟨ins, rfl, _⟩ := rows_map (e := .int .i64) eI (fun z => (Lit.int .i64 z).wf = true) (fun row hrow => hrow) rows3 hrows3
  rw [List.length_map] at l3
  exact ⟨⟨t, w, ins, a, b, c, s⟩, rfl, by simpa [maxLen] using l3, (by simp [Lit.wf, IntKind.min, IntKind.max, IntKind.signed, IntKind.bits] at wc; dsimp only; omega)⟩
namespace opsDo
theorem main (avs : List A0) (h : All2 FitA [(.sl (.st (.cons 27 5 (.st (.cons 3 1 (.int .i64) (.cons 3 1 (.int .i64) (.cons 25 1 (.sl (.int .i64) 3 1) (.cons 2 1 (.int .i64) (.cons 2 1 (.int .i64) .nil)))))) (.cons 29 2 (.st (.cons 2 1 (.int .i64) (.cons 2 1 (.int .i64) .nil))) .nil))) 31 7), (.sl (.int .i64) 2 1)] avs) : Con Try.prog 3 avs (fun x K t => x = .val (.bool true) ∧ K = [] ∧ t = 0) := by
  obtain ⟨x0, x1, rfl, h0, h1⟩ : ∃ x0 x1, avs = [x0, x1] ∧ FitA (.sl (.st (.cons 27 5 (.st (.cons 3 1 (.int .i64) (.cons 3 1 (.int .i64) (.cons 25 1 (.sl (.int .i64) 3 1) (.cons 2 1 (.int .i64) (.cons 2 1 (.int .i64) .nil)))))) (.cons 29 2 (.st (.cons 2 1 (.int .i64) (.cons 2 1 (.int .i64) .nil))) .nil))) 31 7) x0 ∧ FitA (.sl (.int .i64) 2 1) x1 := by
    cases avs with
    | nil => exact h.elim
    | cons x0 r => cases r with
      | nil => exact h.2.elim
      | cons x1 r => cases r with
        | nil => exact ⟨x0, x1, rfl, h.1, h.2.1⟩
        | cons => exact h.2.2.elim
  clear h
  obtain ⟨r0, ⟨rows0, hr0, ll, hrows0⟩, rfl⟩ := h0
  simp only [List.cons.injEq, and_true] at hr0
  subst hr0
  obtain ⟨l, rfl, kl⟩ := rows_map eA okA rowA rows0 hrows0
  rw [List.length_map] at ll
  obtain ⟨vs, rfl, lv, _⟩ := fit_ints h1
  exact opsdo_con l vs (by simpa [maxLen] using ll) (by simpa [maxLen] using lv) (fun x hx => kl x hx)
end opsDo
end Go.Proofs.Ytibjpohankaoeaa
