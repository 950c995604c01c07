import Derived.Test.YtnlcmncfbiognaaRd2
namespace Go.Proofs.Ytnlcmncfbiognaa
open Go Go.RowKit Wx
set_option linter.unusedVariables false
set_option linter.unusedSimpArgs false
set_option maxHeartbeats 4000000
theorem full_one (keep number : Int) (save : Bool) (h : okS keep [] = true) : fullR keep ([] ++ [(⟨number, save, true⟩ : Kp)]) = ⟨keep, [⟨number, save, true⟩], [], 0⟩ := by
  have e : plK ⟨number, save, true⟩ = false := by simp [plK]
  simp [fullR, okRs, keptF, goneF, e]
theorem put_con (keep number : Int) (save : Bool) (l : List Kp) (hl : l.length ≤ 9223372036854775807) : Con Try.prog 11 [.agg [.v (.int .i64 keep), .ro false 3 (l.map eK)], .one (.v (.int .u64 number)), .one (.v (.bool save))] (fun rx rK rt => rx = .tup [.agg [.v (.int .i64 (putR keep number save l).keep), .ro true 3 (((putR keep number save l).rows).map eK)], .one (.ro true 1 (((putR keep number save l).gone).map eU)), .one (.v (.int .i64 (putR keep number save l).err))] ∧ rK = [] ∧ rt = 0) := by
  cases hk : okS keep l with
  | false =>
    have h := put_bad keep number save l hl hk
    unfold putR; rw [hk]; exact h
  | true =>
    have hl16 := (okS_keep hk).2.2
    by_cases ha : (lastK l).num < number ∧ number ≤ 4611686018427387904
    · by_cases hne : l = []
      · subst hne
        have e : putR keep number save [] = ⟨keep, [⟨number, save, true⟩], [], 0⟩ := by
          unfold putR; rw [hk, decide_eq_true ha]; exact full_one keep number save hk
        rw [e]
        exact con_nilagg (fun _ => put_e0 keep number save hk ha) (fun _ ad cap => put_e1 keep number save ad cap hk ha) (fun r rs h => by cases h)
      · have h := put_t keep number save l _ _ hl16 hk hne ha rfl rfl
        unfold putR; rw [hk, decide_eq_true ha]; exact h
    · by_cases hne : l = []
      · subst hne
        have h := put_arg0 keep number save hk ha
        unfold putR; rw [hk, decide_eq_false ha]; exact h
      · have h := put_arg keep number save l hl16 hk hne ha
        unfold putR; rw [hk, decide_eq_false ha]; exact h
end Go.Proofs.Ytnlcmncfbiognaa
