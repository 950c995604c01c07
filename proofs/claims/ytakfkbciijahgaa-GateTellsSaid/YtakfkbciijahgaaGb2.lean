import Derived.Test.YtakfkbciijahgaaGb1
import Derived.Test.YtakfkbciijahgaaRows
namespace Go.Proofs.Ytakfkbciijahgaa
open Go Go.RowKit Wx
set_option linter.unusedVariables false
set_option linter.unusedSimpArgs false
set_option maxHeartbeats 4000000
structure Gt where
  qs : List Qu
  n : Int
  d : Int
abbrev eGt (x : Gt) : List RT := [RT.ro 4 (x.qs.map eQ), RT.v (.int .u64 x.n), RT.v (.int .u64 x.d)]
def okEl (x : El) : Prop := (Lit.int .i64 x.kd).wf = true ∧ (Lit.int .i64 x.src).wf = true ∧ (Lit.int .i64 x.key).wf = true ∧ (Lit.int .i64 x.val).wf = true ∧ (Lit.int .u64 x.num).wf = true ∧ True
theorem rowEl (row : List RT) (h : RowF (.st (.cons 3 1 (.int .i64) (.cons 27 3 (.st (.cons 3 1 (.int .i64) (.cons 3 1 (.int .i64) (.cons 2 1 (.int .i64) .nil)))) (.cons 23 1 (.int .u64) .nil)))) row) : ∃ x, row = eE x ∧ okEl x := by
  obtain ⟨a0, r0, rfl, _, ⟨z0, rfl, w0⟩, a1, r1, rfl, _, ⟨b1, s1, rfl, _, ⟨z1, rfl, w1⟩, b2, s2, rfl, _, ⟨z2, rfl, w2⟩, b3, s3, rfl, _, ⟨z3, rfl, w3⟩, rfl⟩, a2, r2, rfl, _, ⟨z4, rfl, w4⟩, rfl⟩ := h
  exact ⟨⟨z0, z1, z2, z3, z4⟩, rfl, w0, w1, w2, w3, w4, trivial⟩
def okQu (x : Qu) : Prop := (x.es.length ≤ maxLen ∧ ∀ z ∈ x.es, okEl z) ∧ (Lit.int .u64 x.last).wf = true ∧ True
theorem rowQu (row : List RT) (h : RowF (.st (.cons 37 1 (.sl (.st (.cons 3 1 (.int .i64) (.cons 27 3 (.st (.cons 3 1 (.int .i64) (.cons 3 1 (.int .i64) (.cons 2 1 (.int .i64) .nil)))) (.cons 23 1 (.int .u64) .nil)))) 29 5) (.cons 23 1 (.int .u64) (.cons 4 1 .bool (.cons 4 1 .bool .nil))))) row) : ∃ x, row = eQ x ∧ okQu x := by
  obtain ⟨a0, r0, rfl, _, ⟨rows0, rfl, l0, h0⟩, a1, r1, rfl, _, ⟨z1, rfl, w1⟩, a2, r2, rfl, _, ⟨z2, rfl⟩, a3, r3, rfl, _, ⟨z3, rfl⟩, rfl⟩ := h
  obtain ⟨z0, rfl, k0⟩ := rows_map eE (fun z => okEl z) rowEl rows0 h0
  exact ⟨⟨z0, z1, z2, z3⟩, rfl, ⟨by simpa using l0, k0⟩, w1, trivial⟩
def okGt (x : Gt) : Prop := (x.qs.length ≤ maxLen ∧ ∀ z ∈ x.qs, okQu z) ∧ (Lit.int .u64 x.n).wf = true ∧ (Lit.int .u64 x.d).wf = true ∧ True
theorem rowGt (row : List RT) (h : RowF (.st (.cons 22 1 (.sl (.st (.cons 37 1 (.sl (.st (.cons 3 1 (.int .i64) (.cons 27 3 (.st (.cons 3 1 (.int .i64) (.cons 3 1 (.int .i64) (.cons 2 1 (.int .i64) .nil)))) (.cons 23 1 (.int .u64) .nil)))) 29 5) (.cons 23 1 (.int .u64) (.cons 4 1 .bool (.cons 4 1 .bool .nil))))) 39 4) (.cons 23 1 (.int .u64) (.cons 23 1 (.int .u64) .nil)))) row) : ∃ x, row = eGt x ∧ okGt x := by
  obtain ⟨a0, r0, rfl, _, ⟨rows0, rfl, l0, h0⟩, a1, r1, rfl, _, ⟨z1, rfl, w1⟩, a2, r2, rfl, _, ⟨z2, rfl, w2⟩, rfl⟩ := h
  obtain ⟨z0, rfl, k0⟩ := rows_map eQ (fun z => okQu z) rowQu rows0 h0
  exact ⟨⟨z0, z1, z2⟩, rfl, ⟨by simpa using l0, k0⟩, w1, w2, trivial⟩
theorem wf_u {z : Int} (h : (Lit.int .u64 z).wf = true) : 0 ≤ z := by
  simp [Lit.wf, IntKind.min, IntKind.max, IntKind.signed, IntKind.bits] at h; omega
end Go.Proofs.Ytakfkbciijahgaa
