import Derived.Test.YtaafippakgofiaaNe6
import Derived.Test.YtaafippakgofiaaNb1
import Derived.Test.YtaafippakgofiaaRows
namespace Go.Proofs.Ytaafippakgofiaa
open Go Go.RowKit Wx
set_option linter.unusedVariables false
set_option linter.unusedSimpArgs false
set_option maxHeartbeats 4000000
structure Ot where
  kd : Int
  fr : Int
  to : Int
  at0 : Int
  st : Bool
  ot : Bool
  bs : List Int
abbrev eOt (x : Ot) : List RT := [RT.v (.int .i64 x.kd), RT.v (.int .i64 x.fr), RT.v (.int .i64 x.to), RT.v (.int .i64 x.at0), RT.v (.bool x.st), RT.v (.bool x.ot), RT.ro 1 (x.bs.map eB)]
def okOt (x : Ot) : Prop := (Lit.int .i64 x.kd).wf = true ∧ (Lit.int .i64 x.fr).wf = true ∧ (Lit.int .i64 x.to).wf = true ∧ (Lit.int .i64 x.at0).wf = true ∧ (x.bs.length ≤ maxLen ∧ ∀ z ∈ x.bs, (Lit.int .u8 z).wf = true) ∧ True
theorem rowOt (row : List RT) (h : RowF (.st (.cons 3 1 (.int .i64) (.cons 3 1 (.int .i64) (.cons 3 1 (.int .i64) (.cons 3 1 (.int .i64) (.cons 4 1 .bool (.cons 4 1 .bool (.cons 43 1 (.sl (.int .u8) 5 1) .nil)))))))) row) : ∃ x, row = eOt x ∧ okOt x := by
  obtain ⟨a0, r0, rfl, _, ⟨z0, rfl, w0⟩, a1, r1, rfl, _, ⟨z1, rfl, w1⟩, a2, r2, rfl, _, ⟨z2, rfl, w2⟩, a3, r3, rfl, _, ⟨z3, rfl, w3⟩, a4, r4, rfl, _, ⟨z4, rfl⟩, a5, r5, rfl, _, ⟨z5, rfl⟩, a6, r6, rfl, _, ⟨rows6, rfl, l6, h6⟩, rfl⟩ := h
  obtain ⟨z6, rfl, k6⟩ := rows_map eB (fun z => (Lit.int .u8 z).wf = true) rowNu8 rows6 h6
  exact ⟨⟨z0, z1, z2, z3, z4, z5, z6⟩, rfl, w0, w1, w2, w3, ⟨by simpa using l6, k6⟩, trivial⟩
theorem wf_u {z : Int} (h : (Lit.int .u64 z).wf = true) : 0 ≤ z := by
  simp [Lit.wf, IntKind.min, IntKind.max, IntKind.signed, IntKind.bits] at h; omega
namespace netOthers
theorem main (avs : List A0) (h : All2 FitA [(.st (.cons 25 1 (.int .u64) (.cons 26 1 (.sl (.st (.cons 25 1 (.int .u64) (.cons 3 1 (.int .i64) (.cons 3 1 (.int .i64) (.cons 43 1 (.sl (.int .u8) 5 1) .nil))))) 48 4) .nil))), (.st (.cons 3 1 (.int .i64) (.cons 3 1 (.int .i64) (.cons 3 1 (.int .i64) (.cons 3 1 (.int .i64) (.cons 4 1 .bool (.cons 4 1 .bool (.cons 43 1 (.sl (.int .u8) 5 1) .nil))))))))] avs) : Con Try.prog 5 avs (fun x K t => x = .val (.bool true) ∧ K = [] ∧ t = 0) := by
  obtain ⟨x0, x1, rfl, h0, h1⟩ : ∃ x0 x1, avs = [x0, x1] ∧ FitA (.st (.cons 25 1 (.int .u64) (.cons 26 1 (.sl (.st (.cons 25 1 (.int .u64) (.cons 3 1 (.int .i64) (.cons 3 1 (.int .i64) (.cons 43 1 (.sl (.int .u8) 5 1) .nil))))) 48 4) .nil))) x0 ∧ FitA (.st (.cons 3 1 (.int .i64) (.cons 3 1 (.int .i64) (.cons 3 1 (.int .i64) (.cons 3 1 (.int .i64) (.cons 4 1 .bool (.cons 4 1 .bool (.cons 43 1 (.sl (.int .u8) 5 1) .nil)))))))) x1 := by
    cases avs with
    | nil => exact h.elim
    | cons x0 r => cases r with
      | nil => exact h.2.elim
      | cons x1 r => cases r with
        | nil => exact ⟨x0, x1, rfl, h.1, h.2.1⟩
        | cons => exact h.2.2.elim
  clear h
  obtain ⟨row0, hrow0, rfl⟩ := h0
  obtain ⟨x, rfl, kx⟩ := rowNt row0 hrow0
  obtain ⟨row1, hrow1, rfl⟩ := h1
  obtain ⟨o, rfl, ko⟩ := rowOt row1 hrow1
  exact netothers_con o.kd o.fr o.to o.at0 o.st o.ot o.bs x.sent x.ps (by have := kx.2.1.1; simpa [maxLen] using this) (by have := ko.2.2.2.2.1.1; simpa [maxLen] using this) (wf_u kx.1)
end netOthers
end Go.Proofs.Ytaafippakgofiaa
