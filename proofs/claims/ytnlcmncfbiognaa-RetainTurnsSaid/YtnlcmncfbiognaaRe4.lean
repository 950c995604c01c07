import Derived.Test.YtnlcmncfbiognaaRe3
import Derived.Test.YtnlcmncfbiognaaRa7
import Derived.Test.YtnlcmncfbiognaaRc2
namespace Go.Proofs.Ytnlcmncfbiognaa
open Go Go.RowKit Wx
set_option linter.unusedVariables false
set_option linter.unusedSimpArgs false
set_option maxHeartbeats 4000000
theorem turn0_con (keep number : Int) (l : List Kp) (hl : l.length ≤ 9223372036854775807) : Con Try.prog 16 [.agg [.v (.int .i64 keep), .ro false 3 (l.map eK)], .one (.v (.int .u64 number)), .one (.v (.int .i64 0))] (fun rx rK rt => rx = .tup [.agg [.v (.int .i64 (setR keep number l).keep), .ro true 3 (((setR keep number l).rows).map eK)], .one (.ro true 1 (((setR keep number l).gone).map eU)), .one (.v (.int .i64 (setR keep number l).err))] ∧ rK = [] ∧ rt = 0) := by
  cases hk : okS keep l with
  | false =>
    have h := turn0_bad keep number l hl hk
    unfold setR; rw [atR_bad hk]; exact h
  | true =>
    have hl16 := (okS_keep hk).2.2
    have hR : okR ⟨0, false, false⟩ l = true := by unfold okS at hk; simp only [Bool.and_eq_true] at hk; exact hk.2
    cases ha : anyN number l with
    | false =>
      have h := turn0_none keep number l hl16 hk ha
      unfold setR; rw [atR_none hk ha]; exact h
    | true =>
      obtain ⟨q, hq, hn⟩ := anyN_get ha
      cases hs : q.opn with
      | false =>
        have h := turn0_n1 keep number l _ q hl16 hk ha rfl hq hs
        unfold setR; rw [atR_some hk rfl hq, set_n1 hR hq hn hs]; exact h
      | true =>
        cases hi : idxN number l with
        | zero =>
          rw [hi] at hq
          have h := turn0_t1 keep number l q hl16 hk ha hi hq hs
          unfold setR; rw [atR_some hk hi hq, set_t1 hq hn hs]; exact h
        | succ j =>
          rw [hi] at hq
          obtain ⟨z, hz⟩ := getElem?_some' (xs := l) (i := j) (by have := (List.getElem?_eq_some_iff.1 hq).1; omega)
          cases hzo : z.opn with
          | true =>
            have h := turn0_n2 keep number l j q z hl16 hk ha hi hq hz hs hzo
            unfold setR; rw [atR_some hk hi hq, set_n2 hi hz hzo]; exact h
          | false =>
            have h := turn0_t2 keep number l j q z hl16 hk ha hi hq hz hs hzo
            unfold setR; rw [atR_some hk hi hq, set_t2 hR hq hn hs hz hzo]; exact h
theorem turn1_con (keep number : Int) (l : List Kp) (hl : l.length ≤ 9223372036854775807) : Con Try.prog 16 [.agg [.v (.int .i64 keep), .ro false 3 (l.map eK)], .one (.v (.int .u64 number)), .one (.v (.int .i64 1))] (fun rx rK rt => rx = .tup [.agg [.v (.int .i64 (relR keep number l).keep), .ro true 3 (((relR keep number l).rows).map eK)], .one (.ro true 1 (((relR keep number l).gone).map eU)), .one (.v (.int .i64 (relR keep number l).err))] ∧ rK = [] ∧ rt = 0) := by
  cases hk : okS keep l with
  | false =>
    have h := turn1_bad keep number l hl hk
    unfold relR; rw [atR_bad hk]; exact h
  | true =>
    have hl16 := (okS_keep hk).2.2
    have hR : okR ⟨0, false, false⟩ l = true := by unfold okS at hk; simp only [Bool.and_eq_true] at hk; exact hk.2
    cases ha : anyN number l with
    | false =>
      have h := turn1_none keep number l hl16 hk ha
      unfold relR; rw [atR_none hk ha]; exact h
    | true =>
      obtain ⟨q, hq, hn⟩ := anyN_get ha
      cases hs : q.save with
      | false =>
        have h := turn1_no keep number l _ q hl16 hk ha rfl hq hs
        unfold relR; rw [atR_some hk rfl hq, hs]; exact h
      | true =>
        have h := turn1_t keep number l _ q hl16 hk ha rfl hq hs
        unfold relR; rw [atR_some hk rfl hq, hs]; exact h
theorem turn2_con (keep number : Int) (l : List Kp) (hl : l.length ≤ 9223372036854775807) : Con Try.prog 16 [.agg [.v (.int .i64 keep), .ro false 3 (l.map eK)], .one (.v (.int .u64 number)), .one (.v (.int .i64 2))] (fun rx rK rt => rx = .tup [.agg [.v (.int .i64 (markR keep number l).keep), .ro true 3 (((markR keep number l).rows).map eK)], .one (.ro true 1 (((markR keep number l).gone).map eU)), .one (.v (.int .i64 (markR keep number l).err))] ∧ rK = [] ∧ rt = 0) := by
  cases hk : okS keep l with
  | false =>
    have h := turn2_bad keep number l hl hk
    unfold markR; rw [atR_bad hk]; exact h
  | true =>
    have hl16 := (okS_keep hk).2.2
    have hR : okR ⟨0, false, false⟩ l = true := by unfold okS at hk; simp only [Bool.and_eq_true] at hk; exact hk.2
    cases ha : anyN number l with
    | false =>
      have h := turn2_none keep number l hl16 hk ha
      unfold markR; rw [atR_none hk ha]; exact h
    | true =>
      obtain ⟨q, hq, hn⟩ := anyN_get ha
      cases hs : q.save with
      | true =>
        have h := turn2_no keep number l _ q hl16 hk ha rfl hq hs
        unfold markR; rw [atR_some hk rfl hq, hs]; exact h
      | false =>
        have h := turn2_t keep number l _ q hl16 hk ha rfl hq hs
        unfold markR; rw [atR_some hk rfl hq, hs]; exact h
theorem retainturns_con (keep number : Int) (l : List Kp) (hl0 : l.length ≤ 9223372036854775807) : Con Try.prog 4 [.agg [.v (.int .i64 keep), .ro false 3 (l.map eK)], .one (.v (.int .u64 number))] (fun rx rK rt => rx = .val (.bool true) ∧ rK = [] ∧ rt = 0) := by
  refine Z.con_ofF tabOk 115 Try.f4 _ Try.func4 (by kernel_rfl) rfl rfl rfl rfl ?_
  by_cases hlen : l.length ≤ 100
  rotate_left
  · skip
    repeat' ((conv => whnf); first
      | ((with_reducible apply spB_cong); (focus (simp only [beq_self_eq_true, bne_self_eq_false, Bool.true_bne, Bool.false_bne, Bool.bne_true, Bool.bne_false, Bool.true_beq, Bool.false_beq, Bool.not_true, Bool.not_false, Bool.not_not, Int.reduceBEq, Int.reduceBNe, Int.reduceLE, Int.reduceLT, Int.reduceEq, decide_true, decide_false]; rfl)))
      | with_reducible first | refine spB_yes (by decide) ?_ | refine spB_no (by decide) ?_ | refine spB_f ?_ | refine spB_not ?_ | refine spB_yes (by assumption) ?_ | refine spB_no (by assumption) ?_
      | (with_reducible refine spB_dec ?_ ?_ <;> intro _ <;> (try (exfalso; first | contradiction | omega | (simp only [LN] at *; omega))))
      | ((first | (with_reducible refine Z.conZ_mz ?_ (wakes_con) ?_) | (with_reducible refine Z.callZ_mk ?_ (wakes_con) ?_)); (focus ((repeat' (first | exact trivial | exact rfl | exact Z.low_nil | exact Z.low_nil2 | exact low_osl (fun _ => rfl) | (refine Z.low_osln ?_ (fun _ => rfl); (simp only [List.length_map]; done)) | exact low_oslr (fun _ => rfl) | exact Z.low_gslm (by first | rfl | exact Z.kb_some rfl) (fun _ => rfl) | exact .inl rfl | exact .inr ⟨_, rfl⟩ | apply And.intro)); done))))
    all_goals (try (conv => whnf))
    all_goals first
      | ((first | (with_reducible apply Z.retF1) | (with_reducible apply Z.retF2) | (with_reducible apply Z.retF0)); (focus (exact rfl)); (repeat' (first | exact trivial | (with_reducible apply Z.frz_one) | (with_reducible apply Z.frz_agg) | (with_reducible apply Z.fq_int) | (with_reducible apply Z.fq_bool) | (exact Z.frz_nil) | (exact Z.frz_osl0 rfl rfl rfl) | (with_reducible apply Z.fq_nil) | (with_reducible apply Z.fq_ro) | ((with_reducible apply Z.fq_gsl); (focus (first | rfl | exact Z.isB_map _ | exact Z.gB_snoc.symm)); (focus (exact fun _ => rfl))) | ((with_reducible apply Z.fq_osl); (focus (exact rfl)); (focus (first | exact rfl | (simp only [List.length_map, Nat.zero_add]; done) | ((try simp only [LN] at *) <;> omega))); (focus (exact fun _ => rfl))) | ((with_reducible apply Z.fq_src); (focus (exact rfl)); (focus (first | exact rfl | (simp only [List.length_map, Nat.zero_add]; done) | ((try simp only [LN] at *) <;> omega))); (focus (exact fun _ => rfl))) | exact rfl | ((apply Z.fq_osl); (focus (exact rfl)); (focus (first | exact rfl | (simp only [List.length_map, Nat.zero_add]; done) | ((try simp only [LN] at *) <;> omega))); (focus (exact fun _ => rfl))) | ((apply Z.fq_src); (focus (exact rfl)); (focus (first | exact rfl | (simp only [List.length_map, Nat.zero_add]; done) | ((try simp only [LN] at *) <;> omega))); (focus (exact fun _ => rfl))) | (apply Z.fq_ro) | (apply Z.fq_int) | (apply Z.fq_bool) | apply And.intro)); (all_goals (try exact (fun _ => none))); all_goals (rfl))
      | (exfalso; simp_all; done)
      | (fail)
  have hl : l.length ≤ 9223372036854775807 := by omega
  have c0 := set_con keep number l hl
  have t0 := turn0_con keep number l hl
  have n0 := setR_len (keep := keep) (n := number) (l := l)
  generalize setR keep number l = R0 at *
  have c1 := rel_con keep number l hl
  have t1 := turn1_con keep number l hl
  have n1 := relR_len (keep := keep) (n := number) (l := l)
  generalize relR keep number l = R1 at *
  have c2 := mark_con keep number l hl
  have t2 := turn2_con keep number l hl
  have n2 := markR_len (keep := keep) (n := number) (l := l)
  generalize markR keep number l = R2 at *
  repeat' ((conv => whnf); first
    | with_reducible first | refine spB_t ?_
    | ((with_reducible apply spB_cong); (focus (simp only [beq_self_eq_true, bne_self_eq_false, Bool.true_bne, Bool.false_bne, Bool.bne_true, Bool.bne_false, Bool.true_beq, Bool.false_beq, Bool.not_true, Bool.not_false, Bool.not_not, Int.reduceBEq, Int.reduceBNe, Int.reduceLE, Int.reduceLT, Int.reduceEq, decide_true, decide_false]; rfl)))
    | with_reducible first | refine spB_yes (by decide) ?_ | refine spB_no (by decide) ?_ | refine spB_f ?_ | refine spB_not ?_ | refine spB_yes (by assumption) ?_ | refine spB_no (by assumption) ?_
    | (with_reducible refine spB_dec ?_ ?_ <;> intro _ <;> (try (exfalso; first | contradiction | omega | (simp only [LN] at *; omega))))
    | ((first | (with_reducible refine Z.conZ_mz ?_ (wakes_con) ?_) | (with_reducible refine Z.callZ_mk ?_ (wakes_con) ?_) | (with_reducible refine Z.conZ_mz ?_ (c0) ?_) | (with_reducible refine Z.callZ_mk ?_ (c0) ?_) | (with_reducible refine Z.conZ_mz ?_ (c1) ?_) | (with_reducible refine Z.callZ_mk ?_ (c1) ?_) | (with_reducible refine Z.conZ_mz ?_ (c2) ?_) | (with_reducible refine Z.callZ_mk ?_ (c2) ?_)); (focus ((repeat' (first | exact trivial | exact rfl | exact Z.low_nil | exact Z.low_nil2 | exact low_osl (fun _ => rfl) | (refine Z.low_osln ?_ (fun _ => rfl); (simp only [List.length_map]; done)) | exact low_oslr (fun _ => rfl) | exact Z.low_gslm (by first | rfl | exact Z.kb_some rfl) (fun _ => rfl) | exact .inl rfl | exact .inr ⟨_, rfl⟩ | apply And.intro)); done)))
    | ((first | (with_reducible apply Z.conZ_mz ?_ (copied_con _ _ ?_) ?_) | (with_reducible apply Z.callZ_mk ?_ (copied_con _ _ ?_) ?_) | (with_reducible apply Z.conZ_mz ?_ (eqn_con _ _ ?_) ?_) | (with_reducible apply Z.callZ_mk ?_ (eqn_con _ _ ?_) ?_)); (rotate_left 2); (focus ((repeat' (first | exact trivial | exact rfl | exact Z.low_nil | exact Z.low_nil2 | exact low_osl (fun _ => rfl) | (refine Z.low_osln ?_ (fun _ => rfl); (simp only [List.length_map]; done)) | exact low_oslr (fun _ => rfl) | exact Z.low_gslm (by first | rfl | exact Z.kb_some rfl) (fun _ => rfl) | exact .inl rfl | exact .inr ⟨_, rfl⟩ | apply And.intro)); done)); (iterate 1 (focus (first | assumption | omega | ((try simp only [LN] at *); omega)))))
    | ((first | (with_reducible apply Z.conZ_mz ?_ (rsame_con _ _ _ _ ?_) ?_) | (with_reducible apply Z.callZ_mk ?_ (rsame_con _ _ _ _ ?_) ?_)); (rotate_left 4); (focus ((repeat' (first | exact trivial | exact rfl | exact Z.low_nil | exact Z.low_nil2 | exact low_osl (fun _ => rfl) | (refine Z.low_osln ?_ (fun _ => rfl); (simp only [List.length_map]; done)) | exact low_oslr (fun _ => rfl) | exact Z.low_gslm (by first | rfl | exact Z.kb_some rfl) (fun _ => rfl) | exact .inl rfl | exact .inr ⟨_, rfl⟩ | apply And.intro)); done)); (iterate 1 (focus (first | assumption | omega | ((try simp only [LN] at *); omega)))))
    | ((first | (with_reducible refine Z.conZ_mz ?_ (t0) ?_) | (with_reducible refine Z.callZ_mk ?_ (t0) ?_)); (focus ((repeat' (first | exact trivial | exact rfl | exact Z.low_nil | exact Z.low_nil2 | exact low_osl (fun _ => rfl) | (refine Z.low_osln ?_ (fun _ => rfl); (simp only [List.length_map]; done)) | exact low_oslr (fun _ => rfl) | exact Z.low_gslm (by first | rfl | exact Z.kb_some rfl) (fun _ => rfl) | exact .inl rfl | exact .inr ⟨_, rfl⟩ | apply And.intro)); done)))
    | ((first | (with_reducible refine Z.conZ_mz ?_ (t1) ?_) | (with_reducible refine Z.callZ_mk ?_ (t1) ?_)); (focus ((repeat' (first | exact trivial | exact rfl | exact Z.low_nil | exact Z.low_nil2 | exact low_osl (fun _ => rfl) | (refine Z.low_osln ?_ (fun _ => rfl); (simp only [List.length_map]; done)) | exact low_oslr (fun _ => rfl) | exact Z.low_gslm (by first | rfl | exact Z.kb_some rfl) (fun _ => rfl) | exact .inl rfl | exact .inr ⟨_, rfl⟩ | apply And.intro)); done)))
    | ((first | (with_reducible refine Z.conZ_mz ?_ (t2) ?_) | (with_reducible refine Z.callZ_mk ?_ (t2) ?_)); (focus ((repeat' (first | exact trivial | exact rfl | exact Z.low_nil | exact Z.low_nil2 | exact low_osl (fun _ => rfl) | (refine Z.low_osln ?_ (fun _ => rfl); (simp only [List.length_map]; done)) | exact low_oslr (fun _ => rfl) | exact Z.low_gslm (by first | rfl | exact Z.kb_some rfl) (fun _ => rfl) | exact .inl rfl | exact .inr ⟨_, rfl⟩ | apply And.intro)); done))))
  all_goals (try (conv => whnf))
  all_goals first
    | ((first | (with_reducible apply Z.retF1) | (with_reducible apply Z.retF2) | (with_reducible apply Z.retF0)); (focus (exact rfl)); (repeat' (first | exact trivial | (with_reducible apply Z.frz_one) | (with_reducible apply Z.frz_agg) | (with_reducible apply Z.fq_int) | (with_reducible apply Z.fq_bool) | (exact Z.frz_nil) | (exact Z.frz_osl0 rfl rfl rfl) | (with_reducible apply Z.fq_nil) | (with_reducible apply Z.fq_ro) | ((with_reducible apply Z.fq_gsl); (focus (first | rfl | exact Z.isB_map _ | exact Z.gB_snoc.symm)); (focus (exact fun _ => rfl))) | ((with_reducible apply Z.fq_osl); (focus (exact rfl)); (focus (first | exact rfl | (simp only [List.length_map, Nat.zero_add]; done) | ((try simp only [LN] at *) <;> omega))); (focus (exact fun _ => rfl))) | ((with_reducible apply Z.fq_src); (focus (exact rfl)); (focus (first | exact rfl | (simp only [List.length_map, Nat.zero_add]; done) | ((try simp only [LN] at *) <;> omega))); (focus (exact fun _ => rfl))) | exact rfl | ((apply Z.fq_osl); (focus (exact rfl)); (focus (first | exact rfl | (simp only [List.length_map, Nat.zero_add]; done) | ((try simp only [LN] at *) <;> omega))); (focus (exact fun _ => rfl))) | ((apply Z.fq_src); (focus (exact rfl)); (focus (first | exact rfl | (simp only [List.length_map, Nat.zero_add]; done) | ((try simp only [LN] at *) <;> omega))); (focus (exact fun _ => rfl))) | (apply Z.fq_ro) | (apply Z.fq_int) | (apply Z.fq_bool) | apply And.intro)); (all_goals (try exact (fun _ => none))); all_goals (first | rfl | (simp; done)))
    | (exfalso; simp_all; done)
    | (fail)

end Go.Proofs.Ytnlcmncfbiognaa
