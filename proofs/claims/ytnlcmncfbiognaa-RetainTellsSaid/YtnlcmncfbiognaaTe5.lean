import Derived.Test.YtnlcmncfbiognaaTe4
import Derived.Test.YtnlcmncfbiognaaRows
namespace Go.Proofs.Ytnlcmncfbiognaa
open Go Go.RowKit Wx
set_option linter.unusedVariables false
set_option linter.unusedSimpArgs false
set_option maxHeartbeats 4000000
structure Sh where
  keep : Int
  rs : List Kp
abbrev eSh (x : Sh) : List RT := [RT.v (.int .i64 x.keep), RT.ro 3 (x.rs.map eK)]
def okKp (x : Kp) : Prop := (Lit.int .u64 x.num).wf = true ∧ True
theorem rowKp (row : List RT) (h : RowF (.st (.cons 25 1 (.int .u64) (.cons 4 1 .bool (.cons 4 1 .bool .nil)))) row) : ∃ x, row = eK x ∧ okKp x := by
  obtain ⟨a0, r0, rfl, _, ⟨z0, rfl, w0⟩, a1, r1, rfl, _, ⟨z1, rfl⟩, a2, r2, rfl, _, ⟨z2, rfl⟩, rfl⟩ := h
  exact ⟨⟨z0, z1, z2⟩, rfl, w0, trivial⟩
def okSh (x : Sh) : Prop := (Lit.int .i64 x.keep).wf = true ∧ (x.rs.length ≤ maxLen ∧ ∀ z ∈ x.rs, okKp z) ∧ True
theorem rowSh (row : List RT) (h : RowF (.st (.cons 3 1 (.int .i64) (.cons 22 1 (.sl (.st (.cons 25 1 (.int .u64) (.cons 4 1 .bool (.cons 4 1 .bool .nil)))) 44 3) .nil))) row) : ∃ x, row = eSh x ∧ okSh x := by
  obtain ⟨a0, r0, rfl, _, ⟨z0, rfl, w0⟩, a1, r1, rfl, _, ⟨rows1, rfl, l1, h1⟩, rfl⟩ := h
  obtain ⟨z1, rfl, k1⟩ := rows_map eK (fun z => okKp z) rowKp rows1 h1
  exact ⟨⟨z0, z1⟩, rfl, w0, ⟨by simpa using l1, k1⟩, trivial⟩
namespace retainTells
theorem main (avs : List A0) (h : All2 FitA [(.st (.cons 3 1 (.int .i64) (.cons 22 1 (.sl (.st (.cons 25 1 (.int .u64) (.cons 4 1 .bool (.cons 4 1 .bool .nil)))) 44 3) .nil))), (.st (.cons 3 1 (.int .i64) (.cons 22 1 (.sl (.st (.cons 25 1 (.int .u64) (.cons 4 1 .bool (.cons 4 1 .bool .nil)))) 44 3) .nil))), (.int .i64)] avs) : Con Try.prog 5 avs (fun x K t => x = .val (.bool true) ∧ K = [] ∧ t = 0) := by
  obtain ⟨x0, x1, x2, rfl, h0, h1, h2⟩ : ∃ x0 x1 x2, avs = [x0, x1, x2] ∧ FitA (.st (.cons 3 1 (.int .i64) (.cons 22 1 (.sl (.st (.cons 25 1 (.int .u64) (.cons 4 1 .bool (.cons 4 1 .bool .nil)))) 44 3) .nil))) x0 ∧ FitA (.st (.cons 3 1 (.int .i64) (.cons 22 1 (.sl (.st (.cons 25 1 (.int .u64) (.cons 4 1 .bool (.cons 4 1 .bool .nil)))) 44 3) .nil))) x1 ∧ FitA (.int .i64) x2 := by
    cases avs with
    | nil => exact h.elim
    | cons x0 r => cases r with
      | nil => exact h.2.elim
      | cons x1 r => cases r with
        | nil => exact h.2.2.elim
        | cons x2 r => cases r with
          | nil => exact ⟨x0, x1, x2, rfl, h.1, h.2.1, h.2.2.1⟩
          | cons => exact h.2.2.2.elim
  clear h
  obtain ⟨row0, hrow0, rfl⟩ := h0
  obtain ⟨a, rfl, ka⟩ := rowSh row0 hrow0
  obtain ⟨row1, hrow1, rfl⟩ := h1
  obtain ⟨b, rfl, kb⟩ := rowSh row1 hrow1
  obtain ⟨kp, rfl, wkp⟩ := fit_int h2
  exact tells_con a.keep b.keep kp a.rs b.rs
end retainTells
end Go.Proofs.Ytnlcmncfbiognaa
