import Derived.Test.YtgdkhdooekmfgaaHt2
import Derived.Test.YtgdkhdooekmfgaaRows
namespace Go.Proofs.Ytgdkhdooekmfgaa
open Go Go.RowKit Wx
set_option linter.unusedVariables false
set_option linter.unusedSimpArgs false
set_option maxHeartbeats 4000000
structure Hh where
  now : Int
  span : Int
  l : List Pu
abbrev eHh (x : Hh) : List RT := [RT.v (.int .i64 x.now), RT.v (.int .i64 x.span), RT.ro 3 (x.l.map eP)]
def okPu (x : Pu) : Prop := (Lit.int .i64 x.wk).wf = true ∧ (Lit.int .i64 x.heard).wf = true ∧ True
theorem rowPu (row : List RT) (h : RowF (.st (.cons 3 1 (.int .i64) (.cons 2 1 (.int .i64) (.cons 4 1 .bool .nil)))) row) : ∃ x, row = eP x ∧ okPu x := by
  obtain ⟨a0, r0, rfl, _, ⟨z0, rfl, w0⟩, a1, r1, rfl, _, ⟨z1, rfl, w1⟩, a2, r2, rfl, _, ⟨z2, rfl⟩, rfl⟩ := h
  exact ⟨⟨z0, z1, z2⟩, rfl, w0, w1, trivial⟩
def okHh (x : Hh) : Prop := (Lit.int .i64 x.now).wf = true ∧ (Lit.int .i64 x.span).wf = true ∧ (x.l.length ≤ maxLen ∧ ∀ z ∈ x.l, okPu z) ∧ True
theorem rowHh (row : List RT) (h : RowF (.st (.cons 2 1 (.int .i64) (.cons 2 1 (.int .i64) (.cons 22 1 (.sl (.st (.cons 3 1 (.int .i64) (.cons 2 1 (.int .i64) (.cons 4 1 .bool .nil)))) 37 3) .nil)))) row) : ∃ x, row = eHh x ∧ okHh x := by
  obtain ⟨a0, r0, rfl, _, ⟨z0, rfl, w0⟩, a1, r1, rfl, _, ⟨z1, rfl, w1⟩, a2, r2, rfl, _, ⟨rows2, rfl, l2, h2⟩, rfl⟩ := h
  obtain ⟨z2, rfl, k2⟩ := rows_map eP (fun z => okPu z) rowPu rows2 h2
  exact ⟨⟨z0, z1, z2⟩, rfl, w0, w1, ⟨by simpa using l2, k2⟩, trivial⟩
namespace heartTwice
theorem main (avs : List A0) (h : All2 FitA [(.st (.cons 2 1 (.int .i64) (.cons 2 1 (.int .i64) (.cons 22 1 (.sl (.st (.cons 3 1 (.int .i64) (.cons 2 1 (.int .i64) (.cons 4 1 .bool .nil)))) 37 3) .nil)))), (.int .i64), (.int .i64)] avs) : Con Try.prog 7 avs (fun x K t => x = .val (.bool true) ∧ K = [] ∧ t = 0) := by
  obtain ⟨x0, x1, x2, rfl, h0, h1, h2⟩ : ∃ x0 x1 x2, avs = [x0, x1, x2] ∧ FitA (.st (.cons 2 1 (.int .i64) (.cons 2 1 (.int .i64) (.cons 22 1 (.sl (.st (.cons 3 1 (.int .i64) (.cons 2 1 (.int .i64) (.cons 4 1 .bool .nil)))) 37 3) .nil)))) x0 ∧ FitA (.int .i64) x1 ∧ FitA (.int .i64) x2 := by
    cases avs with
    | nil => exact h.elim
    | cons x0 r => cases r with
      | nil => exact h.2.elim
      | cons x1 r => cases r with
        | nil => exact h.2.2.elim
        | cons x2 r => cases r with
          | nil => exact ⟨x0, x1, x2, rfl, h.1, h.2.1, h.2.2.1⟩
          | cons => exact h.2.2.2.elim
  clear h
  obtain ⟨row0, hrow0, rfl⟩ := h0
  obtain ⟨x, rfl, kx⟩ := rowHh row0 hrow0
  obtain ⟨a, rfl, wa⟩ := fit_int h1
  obtain ⟨b, rfl, wb⟩ := fit_int h2
  exact hearttwice_con x.now x.span a b x.l (by have := kx.2.2.1.1; simpa [maxLen] using this)
end heartTwice
end Go.Proofs.Ytgdkhdooekmfgaa
