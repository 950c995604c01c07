import Derived.Test.YtgdkhdooekmfgaaTel5
namespace Go.Proofs.Ytgdkhdooekmfgaa
open Go Go.RowKit Wx
set_option linter.unusedVariables false
set_option linter.unusedSimpArgs false
set_option maxHeartbeats 4000000
def okPu (x : Pu) : Prop := (Lit.int .i64 x.w).wf = true ∧ (Lit.int .i64 x.h).wf = true ∧ True
theorem rowPu (row : List RT) (h : RowF (.st (.cons 3 1 (.int .i64) (.cons 2 1 (.int .i64) (.cons 4 1 .bool .nil)))) row) : ∃ x, row = eP x ∧ okPu x := by
  obtain ⟨a0, r0, rfl, _, ⟨z0, rfl, w0⟩, a1, r1, rfl, _, ⟨z1, rfl, w1⟩, a2, r2, rfl, _, ⟨z2, rfl⟩, rfl⟩ := h
  exact ⟨⟨z0, z1, z2⟩, rfl, w0, w1, trivial⟩
def okHx (x : Hx) : Prop := (Lit.int .i64 x.now).wf = true ∧ (Lit.int .i64 x.span).wf = true ∧ (x.ps.length ≤ maxLen ∧ ∀ z ∈ x.ps, okPu z) ∧ True
theorem rowHx (row : List RT) (h : RowF (.st (.cons 2 1 (.int .i64) (.cons 2 1 (.int .i64) (.cons 22 1 (.sl (.st (.cons 3 1 (.int .i64) (.cons 2 1 (.int .i64) (.cons 4 1 .bool .nil)))) 37 3) .nil)))) row) : ∃ x, row = eH x ∧ okHx x := by
  obtain ⟨a0, r0, rfl, _, ⟨z0, rfl, w0⟩, a1, r1, rfl, _, ⟨z1, rfl, w1⟩, a2, r2, rfl, _, ⟨rows2, rfl, l2, h2⟩, rfl⟩ := h
  obtain ⟨z2, rfl, k2⟩ := rows_map eP (fun z => okPu z) rowPu rows2 h2
  exact ⟨⟨z0, z1, z2⟩, rfl, w0, w1, ⟨by simpa using l2, k2⟩, trivial⟩
namespace heartTells
theorem main (avs : List A0) (h : All2 FitA [(.sl (.st (.cons 2 1 (.int .i64) (.cons 2 1 (.int .i64) (.cons 22 1 (.sl (.st (.cons 3 1 (.int .i64) (.cons 2 1 (.int .i64) (.cons 4 1 .bool .nil)))) 37 3) .nil)))) 24 3)] avs) : Con Try.prog 4 avs (fun x K t => x = .val (.bool true) ∧ K = [] ∧ t = 0) := by
  obtain ⟨x0, rfl, h0⟩ : ∃ x0, avs = [x0] ∧ FitA (.sl (.st (.cons 2 1 (.int .i64) (.cons 2 1 (.int .i64) (.cons 22 1 (.sl (.st (.cons 3 1 (.int .i64) (.cons 2 1 (.int .i64) (.cons 4 1 .bool .nil)))) 37 3) .nil)))) 24 3) x0 := by
    cases avs with
    | nil => exact h.elim
    | cons x0 r => cases r with
      | nil => exact ⟨x0, rfl, h.1⟩
      | cons => exact h.2.elim
  clear h
  obtain ⟨r0, ⟨rows0, hr0, ll, hrows0⟩, rfl⟩ := h0
  simp only [List.cons.injEq, and_true] at hr0
  subst hr0
  obtain ⟨l, rfl, kl⟩ := rows_map eH (okHx) rowHx rows0 hrows0
  rw [List.length_map] at ll
  exact tells_con l (by simpa [maxLen] using ll)
end heartTells
end Go.Proofs.Ytgdkhdooekmfgaa
