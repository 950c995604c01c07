import Derived.Test.YtgdkhdooekmfgaaHo7
import Derived.Test.YtgdkhdooekmfgaaRows
namespace Go.Proofs.Ytgdkhdooekmfgaa
open Go Go.RowKit Wx
set_option linter.unusedVariables false
set_option linter.unusedSimpArgs false
set_option maxHeartbeats 4000000
structure Hh where
  now : Int
  span : Int
  l : List Pu
abbrev eHh (x : Hh) : List RT := [RT.v (.int .i64 x.now), RT.v (.int .i64 x.span), RT.ro 3 (x.l.map eP)]
def okPu (x : Pu) : Prop := (Lit.int .i64 x.wk).wf = true ∧ (Lit.int .i64 x.heard).wf = true ∧ True
theorem rowPu (row : List RT) (h : RowF (.st (.cons 3 1 (.int .i64) (.cons 2 1 (.int .i64) (.cons 4 1 .bool .nil)))) row) : ∃ x, row = eP x ∧ okPu x := by
  obtain ⟨a0, r0, rfl, _, ⟨z0, rfl, w0⟩, a1, r1, rfl, _, ⟨z1, rfl, w1⟩, a2, r2, rfl, _, ⟨z2, rfl⟩, rfl⟩ := h
  exact ⟨⟨z0, z1, z2⟩, rfl, w0, w1, trivial⟩
def okOq (x : Oq) : Prop := (Lit.int .i64 x.kd).wf = true ∧ (Lit.int .i64 x.w).wf = true ∧ (Lit.int .i64 x.tick).wf = true ∧ True
theorem rowOq (row : List RT) (h : RowF (.st (.cons 3 1 (.int .i64) (.cons 3 1 (.int .i64) (.cons 2 1 (.int .i64) (.cons 4 1 .bool .nil))))) row) : ∃ x, row = eO x ∧ okOq x := by
  obtain ⟨a0, r0, rfl, _, ⟨z0, rfl, w0⟩, a1, r1, rfl, _, ⟨z1, rfl, w1⟩, a2, r2, rfl, _, ⟨z2, rfl, w2⟩, a3, r3, rfl, _, ⟨z3, rfl⟩, rfl⟩ := h
  exact ⟨⟨z0, z1, z2, z3⟩, rfl, w0, w1, w2, trivial⟩
def okHh (x : Hh) : Prop := (Lit.int .i64 x.now).wf = true ∧ (Lit.int .i64 x.span).wf = true ∧ (x.l.length ≤ maxLen ∧ ∀ z ∈ x.l, okPu z) ∧ True
theorem rowHh (row : List RT) (h : RowF (.st (.cons 2 1 (.int .i64) (.cons 2 1 (.int .i64) (.cons 22 1 (.sl (.st (.cons 3 1 (.int .i64) (.cons 2 1 (.int .i64) (.cons 4 1 .bool .nil)))) 37 3) .nil)))) row) : ∃ x, row = eHh x ∧ okHh x := by
  obtain ⟨a0, r0, rfl, _, ⟨z0, rfl, w0⟩, a1, r1, rfl, _, ⟨z1, rfl, w1⟩, a2, r2, rfl, _, ⟨rows2, rfl, l2, h2⟩, rfl⟩ := h
  obtain ⟨z2, rfl, k2⟩ := rows_map eP (fun z => okPu z) rowPu rows2 h2
  exact ⟨⟨z0, z1, z2⟩, rfl, w0, w1, ⟨by simpa using l2, k2⟩, trivial⟩
namespace heartDoes
theorem main (avs : List A0) (h : All2 FitA [(.st (.cons 2 1 (.int .i64) (.cons 2 1 (.int .i64) (.cons 22 1 (.sl (.st (.cons 3 1 (.int .i64) (.cons 2 1 (.int .i64) (.cons 4 1 .bool .nil)))) 37 3) .nil)))), (.sl (.st (.cons 3 1 (.int .i64) (.cons 3 1 (.int .i64) (.cons 2 1 (.int .i64) (.cons 4 1 .bool .nil))))) 29 4)] avs) : Con Try.prog 3 avs (fun x K t => x = .val (.bool true) ∧ K = [] ∧ t = 0) := by
  obtain ⟨x0, x1, rfl, h0, h1⟩ : ∃ x0 x1, avs = [x0, x1] ∧ FitA (.st (.cons 2 1 (.int .i64) (.cons 2 1 (.int .i64) (.cons 22 1 (.sl (.st (.cons 3 1 (.int .i64) (.cons 2 1 (.int .i64) (.cons 4 1 .bool .nil)))) 37 3) .nil)))) x0 ∧ FitA (.sl (.st (.cons 3 1 (.int .i64) (.cons 3 1 (.int .i64) (.cons 2 1 (.int .i64) (.cons 4 1 .bool .nil))))) 29 4) x1 := by
    cases avs with
    | nil => exact h.elim
    | cons x0 r => cases r with
      | nil => exact h.2.elim
      | cons x1 r => cases r with
        | nil => exact ⟨x0, x1, rfl, h.1, h.2.1⟩
        | cons => exact h.2.2.elim
  clear h
  obtain ⟨row0, hrow0, rfl⟩ := h0
  obtain ⟨x, rfl, kx⟩ := rowHh row0 hrow0
  obtain ⟨r1, ⟨rows1, hr1, ll, hrows1⟩, rfl⟩ := h1
  simp only [List.cons.injEq, and_true] at hr1
  subst hr1
  obtain ⟨l, rfl, kl⟩ := rows_map eO (okOq) rowOq rows1 hrows1
  rw [List.length_map] at ll
  exact heartdoes_con x.now x.span x.l l (by have := kx.2.2.1.1; simpa [maxLen] using this) (by simpa [maxLen] using ll)
end heartDoes
end Go.Proofs.Ytgdkhdooekmfgaa
