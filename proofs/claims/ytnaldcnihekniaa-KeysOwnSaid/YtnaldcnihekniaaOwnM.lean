import Derived.Test.YtnaldcnihekniaaOwn4
import Derived.Test.YtnaldcnihekniaaOwn5
import Derived.Test.YtnaldcnihekniaaOwn6
import Derived.Test.YtnaldcnihekniaaRows
namespace Go.Proofs.Ytnaldcnihekniaa
open Go Go.RowKit Wx
set_option linter.unusedVariables false
set_option maxHeartbeats 4000000
namespace keysOwn
theorem main (avs : List A0) (h : All2 FitA [(.st (.cons 3 1 (.int .i64) (.cons 3 1 (.int .i64) (.cons 2 1 (.int .i64) .nil)))), (.int .i64), (.st (.cons 3 1 (.int .i64) (.cons 3 1 (.int .i64) .nil)))] avs) : Con Try.prog 3 avs (fun x K t => x = .val (.bool true) ∧ K = [] ∧ t = 0) := by
  obtain ⟨x0, x1, x2, rfl, h0, h1, h2⟩ : ∃ x0 x1 x2, avs = [x0, x1, x2] ∧ FitA (.st (.cons 3 1 (.int .i64) (.cons 3 1 (.int .i64) (.cons 2 1 (.int .i64) .nil)))) x0 ∧ FitA (.int .i64) x1 ∧ FitA (.st (.cons 3 1 (.int .i64) (.cons 3 1 (.int .i64) .nil))) x2 := by
    cases avs with
    | nil => exact h.elim
    | cons x0 r => cases r with
      | nil => exact h.2.elim
      | cons x1 r => cases r with
        | nil => exact h.2.2.elim
        | cons x2 r => cases r with
          | nil => exact ⟨x0, x1, x2, rfl, h.1, h.2.1, h.2.2.1⟩
          | cons => exact h.2.2.2.elim
  clear h
  obtain ⟨_, ⟨a1, r1, rfl, _, ⟨s, rfl, _⟩, a2, r2, rfl, _, ⟨k, rfl, _⟩, a3, r3, rfl, _, ⟨v, rfl, _⟩, rfl⟩, rfl⟩ := h0
  obtain ⟨gr, rfl, _⟩ := fit_int h1
  obtain ⟨_, ⟨a1, r1, rfl, _, ⟨i, rfl, _⟩, a2, r2, rfl, _, ⟨w, rfl, _⟩, rfl⟩, rfl⟩ := h2
  by_cases hs : okS i w
  · have hc : (i = 0 ∧ w = 1) ∨ (i = 0 ∧ w = 2) ∨ (i = 1 ∧ w = 2) ∨ (i = 0 ∧ w = 3) ∨ (i = 1 ∧ w = 3) ∨ (i = 2 ∧ w = 3) := by unfold okS at hs; omega
    rcases hc with ⟨rfl, rfl⟩ | ⟨rfl, rfl⟩ | ⟨rfl, rfl⟩ | ⟨rfl, rfl⟩ | ⟨rfl, rfl⟩ | ⟨rfl, rfl⟩
    · exact own_0_1 s k v gr
    · exact own_0_2 s k v gr
    · exact own_1_2 s k v gr
    · exact own_0_3 s k v gr
    · exact own_1_3 s k v gr
    · exact own_2_3 s k v gr
  · exact own_bad s k v gr i w hs
end keysOwn
end Go.Proofs.Ytnaldcnihekniaa
