import Derived.Test.YtnlcmncfbiognaaRs1
import Derived.Test.YtnlcmncfbiognaaRows
namespace Go.Proofs.Ytnlcmncfbiognaa
open Go Go.RowKit Wx
set_option linter.unusedVariables false
set_option linter.unusedSimpArgs false
set_option maxHeartbeats 4000000
def okDd (x : Dd) : Prop := (Lit.int .i64 x.kind).wf = true ∧ (Lit.int .u64 x.by_).wf = true ∧ (Lit.int .i64 x.choice).wf = true ∧ True
theorem rowDd (row : List RT) (h : RowF (.st (.cons 3 1 (.int .i64) (.cons 25 1 (.int .u64) (.cons 4 1 .bool (.cons 3 1 (.int .i64) .nil))))) row) : ∃ x, row = eDd x ∧ okDd x := by
  obtain ⟨a0, r0, rfl, _, ⟨z0, rfl, w0⟩, a1, r1, rfl, _, ⟨z1, rfl, w1⟩, a2, r2, rfl, _, ⟨z2, rfl⟩, a3, r3, rfl, _, ⟨z3, rfl, w3⟩, rfl⟩ := h
  exact ⟨⟨z0, z1, z2, z3⟩, rfl, w0, w1, w3, trivial⟩
theorem wf_nn {z : Int} (h : (Lit.int .u64 z).wf = true) : 0 ≤ z := by
  simp [Lit.wf, IntKind.min, IntKind.max, IntKind.signed, IntKind.bits] at h; omega
namespace retainSafe
theorem main (avs : List A0) (h : All2 FitA [(.int .i64), (.sl (.st (.cons 3 1 (.int .i64) (.cons 25 1 (.int .u64) (.cons 4 1 .bool (.cons 3 1 (.int .i64) .nil))))) 54 4)] avs) : Con Try.prog 6 avs (fun x K t => x = .val (.bool true) ∧ K = [] ∧ t = 0) := by
  obtain ⟨x0, x1, rfl, h0, h1⟩ : ∃ x0 x1, avs = [x0, x1] ∧ FitA (.int .i64) x0 ∧ FitA (.sl (.st (.cons 3 1 (.int .i64) (.cons 25 1 (.int .u64) (.cons 4 1 .bool (.cons 3 1 (.int .i64) .nil))))) 54 4) x1 := by
    cases avs with
    | nil => exact h.elim
    | cons x0 r => cases r with
      | nil => exact h.2.elim
      | cons x1 r => cases r with
        | nil => exact ⟨x0, x1, rfl, h.1, h.2.1⟩
        | cons => exact h.2.2.elim
  clear h
  obtain ⟨keep, rfl, wkeep⟩ := fit_int h0
  obtain ⟨r1, ⟨rows1, hr1, ll, hrows1⟩, rfl⟩ := h1
  simp only [List.cons.injEq, and_true] at hr1
  subst hr1
  obtain ⟨l, rfl, kl⟩ := rows_map eDd (okDd) rowDd rows1 hrows1
  rw [List.length_map] at ll
  exact retainsafe_con keep l (by simpa [maxLen] using ll) (fun o ho => wf_nn (kl o ho).2.1)
end retainSafe
end Go.Proofs.Ytnlcmncfbiognaa
