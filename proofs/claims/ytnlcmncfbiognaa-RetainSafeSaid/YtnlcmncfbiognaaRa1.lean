import Derived.Test.YtnlcmncfbiognaaRa0
namespace Go.Proofs.Ytnlcmncfbiognaa
open Go Go.RowKit Wx
set_option linter.unusedVariables false
set_option linter.unusedSimpArgs false
set_option maxHeartbeats 4000000
theorem cloneo_con (x : Kp) (l : List Kp) (hl : l.length ≤ 100) : Con Try.prog 39 [.one (.ro false 3 ((x :: l).map eK))] (fun rx rK rt => rx = .c (.osl 0 0 (x :: l).length none) ∧ rK = [(0, some ⟨(x :: l).map cK, 3, 44, false⟩)] ∧ rt = 1) := by
  refine con_of tabOk 8 Try.f39 _ Try.func39 (by kernel_rfl) rfl rfl rfl rfl (fun W => ?_)
  repeat' ((conv => whnf); first
    | with_reducible first | refine spB_yes (by decide) ?_ | refine spB_no (by decide) ?_ | refine spB_f ?_ | refine spB_not ?_ | refine spB_yes (by assumption) ?_ | refine spB_no (by assumption) ?_
    | ((with_reducible refine apdE_n ?_); (with_reducible refine apdN.mk ?_ ?_ ?_ ?_ ?_ ?_); (focus (simp; done)); (focus (exact one_map2 fun _ => rfl)); (focus ((try simp only [LN] at *) <;> omega)); (focus ((try simp only [LN] at *) <;> omega)); (focus ((try simp only [LN] at *) <;> omega))))
  all_goals (try (conv => whnf))
  refine ret1b 1 (.c (.osl 0 0 (x :: l).length none)) ((x :: l).map cK) 3 44 false _ rfl ?_ rfl ?_ (ren_map fun _ => rfl) rfl (own_map fun _ => rfl) ⟨rfl, rfl, rfl⟩
  · rw [show (x :: l).length = 0 + (List.map eK (x :: l)).length by simp]; rfl
  · rw [show List.map cK (x :: l) = List.map (List.map (RT.ce false)) (List.map eK (x :: l)) by rw [List.map_map]; rfl]; rfl

theorem cloneL_con (l : List Kp) (hl : l.length ≤ 100) (hne : l ≠ []) : Con Try.prog 39 [.one (.ro false 3 (l.map eK))] (fun rx rK rt => rx = .c (.osl 0 0 l.length none) ∧ rK = [(0, some ⟨l.map cK, 3, 44, false⟩)] ∧ rt = 1) := by
  cases l with
  | nil => exact absurd rfl hne
  | cons x l => exact cloneo_con x l (by simp only [List.length_cons] at hl; omega)
end Go.Proofs.Ytnlcmncfbiognaa
