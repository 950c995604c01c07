import Derived.Test.YtopieffkpdlpbaaOwn7
import Derived.Test.YtopieffkpdlpbaaRows
namespace Go.Proofs.Ytopieffkpdlpbaa
open Go Go.RowKit Wx
set_option linter.unusedVariables false
set_option linter.unusedSimpArgs false
set_option maxHeartbeats 4000000
def okKw (x : Tab.Kc) : Prop := (Lit.int .i64 x.src).wf = true ∧ (Lit.int .i64 x.key).wf = true ∧ (Lit.int .i64 x.cnt).wf = true ∧ (Lit.int .i64 x.sum).wf = true
theorem rowKc (row : List RT) (h : RowF (.st (.cons 3 1 (.int .i64) (.cons 3 1 (.int .i64) (.cons 65 2 (.st (.cons 2 1 (.int .i64) (.cons 2 1 (.int .i64) .nil))) .nil)))) row) : ∃ x, row = Tab.eK x ∧ okKw x := by
  obtain ⟨a0, r0, rfl, _, ⟨z0, rfl, w0⟩, a1, r1, rfl, _, ⟨z1, rfl, w1⟩, a2, r2, rfl, _, ⟨a3, r3, rfl, _, ⟨z2, rfl, w2⟩, a4, r4, rfl, _, ⟨z3, rfl, w3⟩, rfl⟩, rfl⟩ := h
  exact ⟨⟨z0, z1, z2, z3⟩, rfl, w0, w1, w2, w3⟩
def okNm (x : Nm) : Prop := (Lit.int .i64 x.s).wf = true ∧ (Lit.int .i64 x.a).wf = true ∧ (Lit.int .i64 x.n).wf = true
theorem rowNm (row : List RT) (h : RowF (.st (.cons 3 1 (.int .i64) (.cons 3 1 (.int .i64) (.cons 3 1 (.int .i64) .nil)))) row) : ∃ x, row = eN x ∧ okNm x := by
  obtain ⟨a0, r0, rfl, _, ⟨z0, rfl, w0⟩, a1, r1, rfl, _, ⟨z1, rfl, w1⟩, a2, r2, rfl, _, ⟨z2, rfl, w2⟩, rfl⟩ := h
  exact ⟨⟨z0, z1, z2⟩, rfl, w0, w1, w2⟩
theorem row_arr {rows : List (List RT)} (h : ∀ row ∈ rows, RowF (.int .i64) row ∧ row.length = 1) : ∃ zs : List Int, rows.flatten = zs.map (fun z => RT.v (.int .i64 z)) ∧ zs.length = rows.length ∧ ∀ z ∈ zs, (Lit.int .i64 z).wf = true := by
  induction rows with
  | nil => exact ⟨[], rfl, rfl, fun z h => nomatch h⟩
  | cons r rs ih =>
    obtain ⟨zs, e, l, w⟩ := ih fun row hr => h row (by simp [hr])
    obtain ⟨⟨z, rfl, w0⟩, _⟩ := h r (by simp)
    exact ⟨z :: zs, by simp [e], by simp [l], fun y hy => by
      rcases List.mem_cons.1 hy with rfl | h2
      · exact w0
      · exact w y h2⟩
theorem list8 {zs : List Int} (h : zs.length = 8) : ∃ p0 p1 p2 p3 p4 p5 p6 p7, zs = [p0, p1, p2, p3, p4, p5, p6, p7] := by
  match zs, h with
  | [p0, p1, p2, p3, p4, p5, p6, p7], _ => exact ⟨p0, p1, p2, p3, p4, p5, p6, p7, rfl⟩
def wI (z : Int) : Prop := (Lit.int .i64 z).wf = true
def okSn (x : Sn) : Prop := ((wI x.op ∧ wI x.ix ∧ wI x.w) ∧ (wI x.o0 ∧ wI x.o1 ∧ wI x.o2 ∧ wI x.o3 ∧ wI x.o4 ∧ wI x.o5 ∧ wI x.o6 ∧ wI x.o7)) ∧ (x.rows.length ≤ maxLen ∧ ∀ z ∈ x.rows, okKw z) ∧ x.txs.length ≤ maxLen ∧ ∀ z ∈ x.txs, okNm z
theorem rowSn (row : List RT) (h : RowF (.st (.cons 3 1 (.int .i64) (.cons 3 1 (.int .i64) (.cons 3 1 (.int .i64) (.cons 4 1 .bool (.cons 28 1 (.st (.cons 26 1 (.sl (.st (.cons 3 1 (.int .i64) (.cons 3 1 (.int .i64) (.cons 65 2 (.st (.cons 2 1 (.int .i64) (.cons 2 1 (.int .i64) .nil))) .nil)))) 70 4) .nil)) (.cons 30 8 (.arr 8 (.int .i64) 3 1) (.cons 31 1 (.sl (.st (.cons 3 1 (.int .i64) (.cons 3 1 (.int .i64) (.cons 3 1 (.int .i64) .nil)))) 90 3) .nil)))))))) row) : ∃ x, row = eSn x ∧ okSn x := by
  obtain ⟨a0, r0, rfl, _, ⟨z0, rfl, w0⟩, a1, r1, rfl, _, ⟨z1, rfl, w1⟩, a2, r2, rfl, _, ⟨z2, rfl, w2⟩, a3, r3, rfl, _, ⟨z3, rfl⟩, a4, r4, rfl, _, ⟨a5, r5, rfl, _, ⟨rows5, rfl, l5, h5⟩, rfl⟩, a6, r6, rfl, _, ⟨rows6, rfl, l6, h6⟩, a7, r7, rfl, _, ⟨rows7, rfl, l7, h7⟩, rfl⟩ := h
  obtain ⟨z5, rfl, k5⟩ := rows_map Tab.eK okKw rowKc rows5 h5
  obtain ⟨z7, rfl, k7⟩ := rows_map eN okNm rowNm rows7 h7
  obtain ⟨zs, e6, ln6, w6⟩ := row_arr h6
  obtain ⟨p0, p1, p2, p3, p4, p5, p6, p7, rfl⟩ := list8 (ln6.trans l6)
  rw [e6]
  exact ⟨⟨z0, z1, z2, z3, z5, p0, p1, p2, p3, p4, p5, p6, p7, z7⟩, rfl, ⟨⟨w0, w1, w2⟩, w6 p0 (by simp), w6 p1 (by simp), w6 p2 (by simp), w6 p3 (by simp), w6 p4 (by simp), w6 p5 (by simp), w6 p6 (by simp), w6 p7 (by simp)⟩, ⟨by simpa using l5, k5⟩, by simpa using l7, k7⟩
end Go.Proofs.Ytopieffkpdlpbaa
namespace Go.Proofs.Ytopieffkpdlpbaa
open Go Go.RowKit Wx
set_option linter.unusedVariables false
set_option linter.unusedSimpArgs false
set_option maxHeartbeats 4000000
structure Rk where
  src : Int
  key : Int
  val : Int
deriving DecidableEq
abbrev eRk (x : Rk) : List RT := [RT.v (.int .i64 x.src), RT.v (.int .i64 x.key), RT.v (.int .i64 x.val)]
def okRk (x : Rk) : Prop := (Lit.int .i64 x.src).wf = true ∧ (Lit.int .i64 x.key).wf = true ∧ (Lit.int .i64 x.val).wf = true ∧ True
theorem rowRk (row : List RT) (h : RowF (.st (.cons 3 1 (.int .i64) (.cons 3 1 (.int .i64) (.cons 2 1 (.int .i64) .nil)))) row) : ∃ x, row = eRk x ∧ okRk x := by
  obtain ⟨a0, r0, rfl, _, ⟨z0, rfl, w0⟩, a1, r1, rfl, _, ⟨z1, rfl, w1⟩, a2, r2, rfl, _, ⟨z2, rfl, w2⟩, rfl⟩ := h
  exact ⟨⟨z0, z1, z2⟩, rfl, w0, w1, w2, trivial⟩
namespace snapKeys
theorem main (avs : List A0) (h : All2 FitA [(.sl (.st (.cons 3 1 (.int .i64) (.cons 3 1 (.int .i64) (.cons 3 1 (.int .i64) (.cons 4 1 .bool (.cons 28 1 (.st (.cons 26 1 (.sl (.st (.cons 3 1 (.int .i64) (.cons 3 1 (.int .i64) (.cons 65 2 (.st (.cons 2 1 (.int .i64) (.cons 2 1 (.int .i64) .nil))) .nil)))) 70 4) .nil)) (.cons 30 8 (.arr 8 (.int .i64) 3 1) (.cons 31 1 (.sl (.st (.cons 3 1 (.int .i64) (.cons 3 1 (.int .i64) (.cons 3 1 (.int .i64) .nil)))) 90 3) .nil)))))))) 33 14), (.int .i64), (.st (.cons 3 1 (.int .i64) (.cons 3 1 (.int .i64) (.cons 2 1 (.int .i64) .nil))))] avs) : Con Try.prog 8 avs (fun x K t => x = .val (.bool true) ∧ K = [] ∧ t = 0) := by
  obtain ⟨x0, x1, x2, rfl, h0, h1, h2⟩ : ∃ x0 x1 x2, avs = [x0, x1, x2] ∧ FitA (.sl (.st (.cons 3 1 (.int .i64) (.cons 3 1 (.int .i64) (.cons 3 1 (.int .i64) (.cons 4 1 .bool (.cons 28 1 (.st (.cons 26 1 (.sl (.st (.cons 3 1 (.int .i64) (.cons 3 1 (.int .i64) (.cons 65 2 (.st (.cons 2 1 (.int .i64) (.cons 2 1 (.int .i64) .nil))) .nil)))) 70 4) .nil)) (.cons 30 8 (.arr 8 (.int .i64) 3 1) (.cons 31 1 (.sl (.st (.cons 3 1 (.int .i64) (.cons 3 1 (.int .i64) (.cons 3 1 (.int .i64) .nil)))) 90 3) .nil)))))))) 33 14) x0 ∧ FitA (.int .i64) x1 ∧ FitA (.st (.cons 3 1 (.int .i64) (.cons 3 1 (.int .i64) (.cons 2 1 (.int .i64) .nil)))) x2 := by
    cases avs with
    | nil => exact h.elim
    | cons x0 r => cases r with
      | nil => exact h.2.elim
      | cons x1 r => cases r with
        | nil => exact h.2.2.elim
        | cons x2 r => cases r with
          | nil => exact ⟨x0, x1, x2, rfl, h.1, h.2.1, h.2.2.1⟩
          | cons => exact h.2.2.2.elim
  clear h
  obtain ⟨r0, ⟨rows0, hr0, lx, hrows0⟩, rfl⟩ := h0
  simp only [List.cons.injEq, and_true] at hr0
  subst hr0
  obtain ⟨x, rfl, kx⟩ := rows_map eSn (okSn) rowSn rows0 hrows0
  rw [List.length_map] at lx
  obtain ⟨z, rfl, wz⟩ := fit_int h1
  obtain ⟨row2, hrow2, rfl⟩ := h2
  obtain ⟨r, rfl, kr⟩ := rowRk row2 hrow2
  exact snapkeys_con x z r.src r.key r.val (fun y hy => ⟨by have := (kx y hy).2.1.1; simpa [maxLen] using this, by have := (kx y hy).2.2.1; simpa [maxLen] using this⟩) (by simpa [maxLen] using lx)
end snapKeys
end Go.Proofs.Ytopieffkpdlpbaa
