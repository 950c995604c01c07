import Derived.Test.YtnlcmncfbiognaaRa2
import Derived.Test.YtnlcmncfbiognaaRows
namespace Go.Proofs.Ytnlcmncfbiognaa
open Go Go.RowKit Wx
set_option linter.unusedVariables false
set_option linter.unusedSimpArgs false
set_option maxHeartbeats 4000000
structure Sf where
  keep : Int
  l : List Kp
abbrev eSf (x : Sf) : List RT := [RT.v (.int .i64 x.keep), RT.ro 3 (x.l.map eK)]
def okKp (x : Kp) : Prop := (Lit.int .u64 x.num).wf = true ∧ True
theorem rowKp (row : List RT) (h : RowF (.st (.cons 25 1 (.int .u64) (.cons 4 1 .bool (.cons 4 1 .bool .nil)))) row) : ∃ x, row = eK x ∧ okKp x := by
  obtain ⟨a0, r0, rfl, _, ⟨z0, rfl, w0⟩, a1, r1, rfl, _, ⟨z1, rfl⟩, a2, r2, rfl, _, ⟨z2, rfl⟩, rfl⟩ := h
  exact ⟨⟨z0, z1, z2⟩, rfl, w0, trivial⟩
def okSf (x : Sf) : Prop := (Lit.int .i64 x.keep).wf = true ∧ (x.l.length ≤ maxLen ∧ ∀ z ∈ x.l, okKp z) ∧ True
theorem rowSf (row : List RT) (h : RowF (.st (.cons 3 1 (.int .i64) (.cons 22 1 (.sl (.st (.cons 25 1 (.int .u64) (.cons 4 1 .bool (.cons 4 1 .bool .nil)))) 44 3) .nil))) row) : ∃ x, row = eSf x ∧ okSf x := by
  obtain ⟨a0, r0, rfl, _, ⟨z0, rfl, w0⟩, a1, r1, rfl, _, ⟨rows1, rfl, l1, h1⟩, rfl⟩ := h
  obtain ⟨z1, rfl, k1⟩ := rows_map eK (fun z => okKp z) rowKp rows1 h1
  exact ⟨⟨z0, z1⟩, rfl, w0, ⟨by simpa using l1, k1⟩, trivial⟩
end Go.Proofs.Ytnlcmncfbiognaa
