import Derived.Test.YtoiadndmbppobaaSa1
namespace Go.Proofs.Ytoiadndmbppobaa
open Go Go.RowKit Wx
set_option linter.unusedVariables false
set_option linter.unusedSimpArgs false
set_option maxHeartbeats 4000000
def okEl (x : El) : Prop := True
theorem rowEl (row : List RT) (h : RowF (.st (.cons 3 1 (.int .i64) (.cons 31 3 (.st (.cons 3 1 (.int .i64) (.cons 3 1 (.int .i64) (.cons 2 1 (.int .i64) .nil)))) (.cons 23 1 (.int .u64) .nil)))) row) : ∃ x, row = eEl x ∧ okEl x := by
  obtain ⟨a0, r0, rfl, _, ⟨z0, rfl, w0⟩, a1, r1, rfl, _, ⟨b0, q0, rfl, _, ⟨y0, rfl, _⟩, b1, q1, rfl, _, ⟨y1, rfl, _⟩, b2, q2, rfl, _, ⟨y2, rfl, _⟩, rfl⟩, a2, r2, rfl, _, ⟨z2, rfl, w2⟩, rfl⟩ := h
  exact ⟨⟨z0, y0, y1, y2, z2⟩, rfl, trivial⟩
structure Sn where
  n : Int
  b : Int
  p : List El
  l : Int
  d : Bool
abbrev eSn (x : Sn) : List RT := [RT.v (.int .u32 x.n), RT.v (.int .u64 x.b), RT.ro 5 (x.p.map eEl), RT.v (.int .u64 x.l), RT.v (.bool x.d)]
def okSn (x : Sn) : Prop := (Lit.int .u32 x.n).wf = true ∧ (Lit.int .u64 x.b).wf = true ∧ (x.p.length ≤ maxLen ∧ ∀ z ∈ x.p, okEl z) ∧ (Lit.int .u64 x.l).wf = true ∧ True
theorem rowSn (row : List RT) (h : RowF (.st (.cons 22 1 (.int .u32) (.cons 23 1 (.int .u64) (.cons 24 1 (.sl (.st (.cons 3 1 (.int .i64) (.cons 31 3 (.st (.cons 3 1 (.int .i64) (.cons 3 1 (.int .i64) (.cons 2 1 (.int .i64) .nil)))) (.cons 23 1 (.int .u64) .nil)))) 33 5) (.cons 23 1 (.int .u64) (.cons 4 1 .bool .nil)))))) row) : ∃ x, row = eSn x ∧ okSn x := by
  obtain ⟨a0, r0, rfl, _, ⟨z0, rfl, w0⟩, a1, r1, rfl, _, ⟨z1, rfl, w1⟩, a2, r2, rfl, _, ⟨rows2, rfl, l2, h2⟩, a3, r3, rfl, _, ⟨z3, rfl, w3⟩, a4, r4, rfl, _, ⟨z4, rfl⟩, rfl⟩ := h
  obtain ⟨z2, rfl, k2⟩ := rows_map eEl (fun z => okEl z) rowEl rows2 h2
  exact ⟨⟨z0, z1, z2, z3, z4⟩, rfl, w0, w1, ⟨by simpa using l2, k2⟩, w3, trivial⟩
def okRc (x : Rc) : Prop := (Lit.int .u32 x.n).wf = true ∧ (Lit.int .u64 x.b).wf = true ∧ (x.p.length ≤ maxLen ∧ ∀ z ∈ x.p, okEl z) ∧ (Lit.int .i64 x.l).wf = true ∧ True
theorem rowRc (row : List RT) (h : RowF (.st (.cons 22 1 (.int .u32) (.cons 23 1 (.int .u64) (.cons 24 1 (.sl (.st (.cons 3 1 (.int .i64) (.cons 31 3 (.st (.cons 3 1 (.int .i64) (.cons 3 1 (.int .i64) (.cons 2 1 (.int .i64) .nil)))) (.cons 23 1 (.int .u64) .nil)))) 33 5) (.cons 3 1 (.int .i64) .nil))))) row) : ∃ x, row = eRc x ∧ okRc x := by
  obtain ⟨a0, r0, rfl, _, ⟨z0, rfl, w0⟩, a1, r1, rfl, _, ⟨z1, rfl, w1⟩, a2, r2, rfl, _, ⟨rows2, rfl, l2, h2⟩, a3, r3, rfl, _, ⟨z3, rfl, w3⟩, rfl⟩ := h
  obtain ⟨z2, rfl, k2⟩ := rows_map eEl (fun z => okEl z) rowEl rows2 h2
  exact ⟨⟨z0, z1, z2, z3⟩, rfl, w0, w1, ⟨by simpa using l2, k2⟩, w3, trivial⟩
namespace linkSame
theorem main (avs : List A0) (h : All2 FitA [(.st (.cons 22 1 (.int .u32) (.cons 23 1 (.int .u64) (.cons 24 1 (.sl (.st (.cons 3 1 (.int .i64) (.cons 31 3 (.st (.cons 3 1 (.int .i64) (.cons 3 1 (.int .i64) (.cons 2 1 (.int .i64) .nil)))) (.cons 23 1 (.int .u64) .nil)))) 33 5) (.cons 23 1 (.int .u64) (.cons 4 1 .bool .nil)))))), (.st (.cons 22 1 (.int .u32) (.cons 23 1 (.int .u64) (.cons 24 1 (.sl (.st (.cons 3 1 (.int .i64) (.cons 31 3 (.st (.cons 3 1 (.int .i64) (.cons 3 1 (.int .i64) (.cons 2 1 (.int .i64) .nil)))) (.cons 23 1 (.int .u64) .nil)))) 33 5) (.cons 23 1 (.int .u64) (.cons 4 1 .bool .nil)))))), (.sl (.st (.cons 22 1 (.int .u32) (.cons 23 1 (.int .u64) (.cons 24 1 (.sl (.st (.cons 3 1 (.int .i64) (.cons 31 3 (.st (.cons 3 1 (.int .i64) (.cons 3 1 (.int .i64) (.cons 2 1 (.int .i64) .nil)))) (.cons 23 1 (.int .u64) .nil)))) 33 5) (.cons 3 1 (.int .i64) .nil))))) 55 4)] avs) : Con Try.prog 6 avs (fun x K t => x = .val (.bool true) ∧ K = [] ∧ t = 0) := by
  obtain ⟨x0, x1, x2, rfl, h0, h1, h2⟩ : ∃ x0 x1 x2, avs = [x0, x1, x2] ∧ FitA (.st (.cons 22 1 (.int .u32) (.cons 23 1 (.int .u64) (.cons 24 1 (.sl (.st (.cons 3 1 (.int .i64) (.cons 31 3 (.st (.cons 3 1 (.int .i64) (.cons 3 1 (.int .i64) (.cons 2 1 (.int .i64) .nil)))) (.cons 23 1 (.int .u64) .nil)))) 33 5) (.cons 23 1 (.int .u64) (.cons 4 1 .bool .nil)))))) x0 ∧ FitA (.st (.cons 22 1 (.int .u32) (.cons 23 1 (.int .u64) (.cons 24 1 (.sl (.st (.cons 3 1 (.int .i64) (.cons 31 3 (.st (.cons 3 1 (.int .i64) (.cons 3 1 (.int .i64) (.cons 2 1 (.int .i64) .nil)))) (.cons 23 1 (.int .u64) .nil)))) 33 5) (.cons 23 1 (.int .u64) (.cons 4 1 .bool .nil)))))) x1 ∧ FitA (.sl (.st (.cons 22 1 (.int .u32) (.cons 23 1 (.int .u64) (.cons 24 1 (.sl (.st (.cons 3 1 (.int .i64) (.cons 31 3 (.st (.cons 3 1 (.int .i64) (.cons 3 1 (.int .i64) (.cons 2 1 (.int .i64) .nil)))) (.cons 23 1 (.int .u64) .nil)))) 33 5) (.cons 3 1 (.int .i64) .nil))))) 55 4) x2 := by
    cases avs with
    | nil => exact h.elim
    | cons x0 r => cases r with
      | nil => exact h.2.elim
      | cons x1 r => cases r with
        | nil => exact h.2.2.elim
        | cons x2 r => cases r with
          | nil => exact ⟨x0, x1, x2, rfl, h.1, h.2.1, h.2.2.1⟩
          | cons => exact h.2.2.2.elim
  clear h
  obtain ⟨row0, hrow0, rfl⟩ := h0
  obtain ⟨a, rfl, ka⟩ := rowSn row0 hrow0
  obtain ⟨row1, hrow1, rfl⟩ := h1
  obtain ⟨b, rfl, kb⟩ := rowSn row1 hrow1
  obtain ⟨r2, ⟨rows2, hr2, lr, hrows2⟩, rfl⟩ := h2
  simp only [List.cons.injEq, and_true] at hr2
  subst hr2
  obtain ⟨r, rfl, kr⟩ := rows_map eRc (okRc) rowRc rows2 hrows2
  rw [List.length_map] at lr
  exact lsame_con a.n a.b a.l b.n b.b b.l a.d b.d a.p b.p r (by simpa [maxLen] using lr)
end linkSame
end Go.Proofs.Ytoiadndmbppobaa
