import Derived.Test.YtllnmdmmmkoiaaaSc1
import Derived.Test.YtllnmdmmmkoiaaaRows
namespace Go.Proofs.Ytllnmdmmmkoiaaa
open Go Go.RowKit Wx
set_option linter.unusedVariables false
set_option linter.unusedSimpArgs false
set_option maxHeartbeats 4000000
structure Fl where
  ws : List Wk
  ps : List Pl
abbrev eFl (x : Fl) : List RT := [RT.ro 2 (x.ws.map eW), RT.ro 2 (x.ps.map eL)]
def okWk (x : Wk) : Prop := (Lit.int .i64 x.id).wf = true ∧ (Lit.int .i64 x.sl).wf = true ∧ True
theorem rowWk (row : List RT) (h : RowF (.st (.cons 3 1 (.int .i64) (.cons 3 1 (.int .i64) .nil))) row) : ∃ x, row = eW x ∧ okWk x := by
  obtain ⟨a0, r0, rfl, _, ⟨z0, rfl, w0⟩, a1, r1, rfl, _, ⟨z1, rfl, w1⟩, rfl⟩ := h
  exact ⟨⟨z0, z1⟩, rfl, w0, w1, trivial⟩
def okPl (x : Pl) : Prop := (Lit.int .i64 x.task).wf = true ∧ (Lit.int .i64 x.wk).wf = true ∧ True
theorem rowPl (row : List RT) (h : RowF (.st (.cons 3 1 (.int .i64) (.cons 3 1 (.int .i64) .nil))) row) : ∃ x, row = eL x ∧ okPl x := by
  obtain ⟨a0, r0, rfl, _, ⟨z0, rfl, w0⟩, a1, r1, rfl, _, ⟨z1, rfl, w1⟩, rfl⟩ := h
  exact ⟨⟨z0, z1⟩, rfl, w0, w1, trivial⟩
def okFl (x : Fl) : Prop := (x.ws.length ≤ maxLen ∧ ∀ z ∈ x.ws, okWk z) ∧ (x.ps.length ≤ maxLen ∧ ∀ z ∈ x.ps, okPl z) ∧ True
theorem rowFl (row : List RT) (h : RowF (.st (.cons 22 1 (.sl (.st (.cons 3 1 (.int .i64) (.cons 3 1 (.int .i64) .nil))) 27 2) (.cons 23 1 (.sl (.st (.cons 3 1 (.int .i64) (.cons 3 1 (.int .i64) .nil))) 66 2) .nil))) row) : ∃ x, row = eFl x ∧ okFl x := by
  obtain ⟨a0, r0, rfl, _, ⟨rows0, rfl, l0, h0⟩, a1, r1, rfl, _, ⟨rows1, rfl, l1, h1⟩, rfl⟩ := h
  obtain ⟨z0, rfl, k0⟩ := rows_map eW (fun z => okWk z) rowWk rows0 h0
  obtain ⟨z1, rfl, k1⟩ := rows_map eL (fun z => okPl z) rowPl rows1 h1
  exact ⟨⟨z0, z1⟩, rfl, ⟨by simpa using l0, k0⟩, ⟨by simpa using l1, k1⟩, trivial⟩
theorem len2 {l : List Int} (h : l.length = 2) : ∃ a b, l = [a, b] := by
  match l, h with
  | [a, b], _ => exact ⟨a, b, rfl⟩
namespace slotsTells
theorem main (avs : List A0) (h : All2 FitA [(.st (.cons 22 1 (.sl (.st (.cons 3 1 (.int .i64) (.cons 3 1 (.int .i64) .nil))) 27 2) (.cons 23 1 (.sl (.st (.cons 3 1 (.int .i64) (.cons 3 1 (.int .i64) .nil))) 66 2) .nil))), (.st (.cons 22 1 (.sl (.st (.cons 3 1 (.int .i64) (.cons 3 1 (.int .i64) .nil))) 27 2) (.cons 23 1 (.sl (.st (.cons 3 1 (.int .i64) (.cons 3 1 (.int .i64) .nil))) 66 2) .nil))), (.arr 2 (.int .i64) 3 1)] avs) : Con Try.prog 5 avs (fun x K t => x = .val (.bool true) ∧ K = [] ∧ t = 0) := by
  obtain ⟨x0, x1, x2, rfl, h0, h1, h2⟩ : ∃ x0 x1 x2, avs = [x0, x1, x2] ∧ FitA (.st (.cons 22 1 (.sl (.st (.cons 3 1 (.int .i64) (.cons 3 1 (.int .i64) .nil))) 27 2) (.cons 23 1 (.sl (.st (.cons 3 1 (.int .i64) (.cons 3 1 (.int .i64) .nil))) 66 2) .nil))) x0 ∧ FitA (.st (.cons 22 1 (.sl (.st (.cons 3 1 (.int .i64) (.cons 3 1 (.int .i64) .nil))) 27 2) (.cons 23 1 (.sl (.st (.cons 3 1 (.int .i64) (.cons 3 1 (.int .i64) .nil))) 66 2) .nil))) x1 ∧ FitA (.arr 2 (.int .i64) 3 1) x2 := by
    cases avs with
    | nil => exact h.elim
    | cons x0 r => cases r with
      | nil => exact h.2.elim
      | cons x1 r => cases r with
        | nil => exact h.2.2.elim
        | cons x2 r => cases r with
          | nil => exact ⟨x0, x1, x2, rfl, h.1, h.2.1, h.2.2.1⟩
          | cons => exact h.2.2.2.elim
  clear h
  obtain ⟨row0, hrow0, rfl⟩ := h0
  obtain ⟨x, rfl, kx⟩ := rowFl row0 hrow0
  obtain ⟨row1, hrow1, rfl⟩ := h1
  obtain ⟨y, rfl, ky⟩ := rowFl row1 hrow1
  obtain ⟨zs, rfl, lzs, _⟩ := fit_iarr h2
  obtain ⟨q0, q1, rfl⟩ := len2 lzs
  exact slotstells_con x.ws y.ws x.ps y.ps q0 q1 (by have := kx.1.1; simpa [maxLen] using this) (by have := kx.2.1.1; simpa [maxLen] using this) (by have := ky.1.1; simpa [maxLen] using this) (by have := ky.2.1.1; simpa [maxLen] using this)
end slotsTells
end Go.Proofs.Ytllnmdmmmkoiaaa
