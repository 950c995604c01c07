import Derived.Test.YtpnfogckdceiaaaTe2
import Derived.Test.YtpnfogckdceiaaaRows
namespace Go.Proofs.Ytpnfogckdceiaaa
open Go Go.RowKit Wx
set_option linter.unusedVariables false
set_option linter.unusedSimpArgs false
set_option maxHeartbeats 4000000
namespace recordTells
theorem main (avs : List A0) (h : All2 FitA [(.st (.cons 3 1 (.int .i64) (.cons 3 1 (.int .i64) (.cons 2 1 (.int .i64) .nil)))), (.st (.cons 3 1 (.int .i64) (.cons 3 1 (.int .i64) (.cons 2 1 (.int .i64) .nil)))), (.st (.cons 3 1 (.int .i64) (.cons 23 3 (.st (.cons 3 1 (.int .i64) (.cons 3 1 (.int .i64) (.cons 2 1 (.int .i64) .nil)))) (.cons 24 1 (.int .u64) .nil))))] avs) : Con Try.prog 3 avs (fun x K t => x = .val (.bool true) ∧ K = [] ∧ t = 0) := by
  obtain ⟨x0, x1, x2, rfl, h0, h1, h2⟩ : ∃ x0 x1 x2, avs = [x0, x1, x2] ∧ FitA (.st (.cons 3 1 (.int .i64) (.cons 3 1 (.int .i64) (.cons 2 1 (.int .i64) .nil)))) x0 ∧ FitA (.st (.cons 3 1 (.int .i64) (.cons 3 1 (.int .i64) (.cons 2 1 (.int .i64) .nil)))) x1 ∧ FitA (.st (.cons 3 1 (.int .i64) (.cons 23 3 (.st (.cons 3 1 (.int .i64) (.cons 3 1 (.int .i64) (.cons 2 1 (.int .i64) .nil)))) (.cons 24 1 (.int .u64) .nil)))) x2 := by
    cases avs with
    | nil => exact h.elim
    | cons x0 r => cases r with
      | nil => exact h.2.elim
      | cons x1 r => cases r with
        | nil => exact h.2.2.elim
        | cons x2 r => cases r with
          | nil => exact ⟨x0, x1, x2, rfl, h.1, h.2.1, h.2.2.1⟩
          | cons => exact h.2.2.2.elim
  clear h
  obtain ⟨_, ⟨a01, r01, rfl, _, ⟨ps, rfl, _⟩, a02, r02, rfl, _, ⟨pk, rfl, _⟩, a03, r03, rfl, _, ⟨pv, rfl, _⟩, rfl⟩, rfl⟩ := h0
  obtain ⟨_, ⟨a11, r11, rfl, _, ⟨qs, rfl, _⟩, a12, r12, rfl, _, ⟨qk, rfl, _⟩, a13, r13, rfl, _, ⟨qv, rfl, _⟩, rfl⟩, rfl⟩ := h1
  obtain ⟨_, ⟨b1, s1, rfl, _, ⟨kd, rfl, _⟩, b2, s2, rfl, _, ⟨a21, r21, rfl, _, ⟨xs, rfl, _⟩, a22, r22, rfl, _, ⟨xk, rfl, _⟩, a23, r23, rfl, _, ⟨xv, rfl, _⟩, rfl⟩, b3, s3, rfl, _, ⟨n, rfl, wn⟩, rfl⟩, rfl⟩ := h2
  exact tells_con ps pk pv qs qk qv kd xs xk xv n (by simp [Lit.wf, IntKind.min, IntKind.signed] at wn; omega)
end recordTells
end Go.Proofs.Ytpnfogckdceiaaa
