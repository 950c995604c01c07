import Derived.Test.YtaafippakgofiaaNa9
import Derived.Test.YtaafippakgofiaaRows
namespace Go.Proofs.Ytaafippakgofiaa
open Go Go.RowKit Wx
set_option linter.unusedVariables false
set_option linter.unusedSimpArgs false
set_option maxHeartbeats 4000000
structure Nt where
  sent : Int
  ps : List Pc
abbrev eNt (x : Nt) : List RT := [RT.v (.int .u64 x.sent), RT.ro 4 (x.ps.map eP)]
theorem rowNu8 (row : List RT) (h : RowF (.int .u8) row) : ∃ z, row = eB z ∧ (Lit.int .u8 z).wf = true := by
  obtain ⟨z, rfl, w⟩ := h
  exact ⟨z, rfl, w⟩
def okPc (x : Pc) : Prop := (Lit.int .u64 x.num).wf = true ∧ (Lit.int .i64 x.fr).wf = true ∧ (Lit.int .i64 x.to).wf = true ∧ (x.bs.length ≤ maxLen ∧ ∀ z ∈ x.bs, (Lit.int .u8 z).wf = true) ∧ True
theorem rowPc (row : List RT) (h : RowF (.st (.cons 25 1 (.int .u64) (.cons 3 1 (.int .i64) (.cons 3 1 (.int .i64) (.cons 43 1 (.sl (.int .u8) 5 1) .nil))))) row) : ∃ x, row = eP x ∧ okPc x := by
  obtain ⟨a0, r0, rfl, _, ⟨z0, rfl, w0⟩, a1, r1, rfl, _, ⟨z1, rfl, w1⟩, a2, r2, rfl, _, ⟨z2, rfl, w2⟩, a3, r3, rfl, _, ⟨rows3, rfl, l3, h3⟩, rfl⟩ := h
  obtain ⟨z3, rfl, k3⟩ := rows_map eB (fun z => (Lit.int .u8 z).wf = true) rowNu8 rows3 h3
  exact ⟨⟨z0, z1, z2, z3⟩, rfl, w0, w1, w2, ⟨by simpa using l3, k3⟩, trivial⟩
def okNt (x : Nt) : Prop := (Lit.int .u64 x.sent).wf = true ∧ (x.ps.length ≤ maxLen ∧ ∀ z ∈ x.ps, okPc z) ∧ True
theorem rowNt (row : List RT) (h : RowF (.st (.cons 25 1 (.int .u64) (.cons 26 1 (.sl (.st (.cons 25 1 (.int .u64) (.cons 3 1 (.int .i64) (.cons 3 1 (.int .i64) (.cons 43 1 (.sl (.int .u8) 5 1) .nil))))) 48 4) .nil))) row) : ∃ x, row = eNt x ∧ okNt x := by
  obtain ⟨a0, r0, rfl, _, ⟨z0, rfl, w0⟩, a1, r1, rfl, _, ⟨rows1, rfl, l1, h1⟩, rfl⟩ := h
  obtain ⟨z1, rfl, k1⟩ := rows_map eP (fun z => okPc z) rowPc rows1 h1
  exact ⟨⟨z0, z1⟩, rfl, w0, ⟨by simpa using l1, k1⟩, trivial⟩
end Go.Proofs.Ytaafippakgofiaa
