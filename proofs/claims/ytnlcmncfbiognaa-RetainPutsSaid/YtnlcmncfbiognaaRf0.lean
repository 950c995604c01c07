import Derived.Test.YtnlcmncfbiognaaRe1
import Derived.Test.YtnlcmncfbiognaaRe2
namespace Go.Proofs.Ytnlcmncfbiognaa
open Go Go.RowKit Wx
set_option linter.unusedVariables false
set_option linter.unusedSimpArgs false
set_option maxHeartbeats 4000000
theorem okRs_len (k : Int) (l : List Kp) : (okRs k l).rows.length ≤ l.length ∧ (okRs k l).gone.length ≤ l.length := by
  have := keptF_len k l
  simp only [okRs]; omega
theorem atR_len {keep n : Int} {l : List Kp} {k : Nat → Kp → Rs} {b : Nat} (hk : ∀ i q, (k i q).rows.length ≤ b ∧ (k i q).gone.length ≤ b) : (atR keep n l k).rows.length ≤ b ∧ (atR keep n l k).gone.length ≤ b := by
  unfold atR
  cases okS keep l with
  | false => exact ⟨Nat.zero_le _, Nat.zero_le _⟩
  | true =>
    simp only [cond_true]
    cases l[idxN n l]? with
    | none => exact ⟨Nat.zero_le _, Nat.zero_le _⟩
    | some q => exact hk _ _
theorem bif_len {c : Bool} {A : Rs} {e : Int} {b : Nat} (h : A.rows.length ≤ b ∧ A.gone.length ≤ b) : (bif c then A else ⟨0, [], [], e⟩).rows.length ≤ b ∧ (bif c then A else ⟨0, [], [], e⟩).gone.length ≤ b := by
  cases c with
  | false => exact ⟨Nat.zero_le _, Nat.zero_le _⟩
  | true => exact h
theorem setR_len {keep n : Int} {l : List Kp} : (setR keep n l).rows.length ≤ l.length ∧ (setR keep n l).gone.length ≤ l.length :=
  atR_len fun i q => bif_len (by have := okRs_len keep (l.set i ⟨q.num, q.save, false⟩); simpa using this)
theorem relR_len {keep n : Int} {l : List Kp} : (relR keep n l).rows.length ≤ l.length ∧ (relR keep n l).gone.length ≤ l.length :=
  atR_len fun i q => bif_len (by have := okRs_len keep (l.set i ⟨q.num, false, q.opn⟩); simpa using this)
theorem markR_len {keep n : Int} {l : List Kp} : (markR keep n l).rows.length ≤ l.length ∧ (markR keep n l).gone.length ≤ l.length :=
  atR_len fun i q => by
    cases q.save with
    | true => exact ⟨Nat.zero_le _, Nat.zero_le _⟩
    | false => have := okRs_len keep (l.set i ⟨q.num, true, q.opn⟩); simpa using this
theorem putR_len {keep n : Int} {save : Bool} {l : List Kp} : (putR keep n save l).rows.length ≤ l.length + 1 ∧ (putR keep n save l).gone.length ≤ l.length + 1 := by
  unfold putR
  refine bif_len (bif_len ?_)
  unfold fullR
  exact bif_len (by have := okRs_len keep (l ++ [⟨n, save, true⟩]); simpa using this)
theorem lastK_pos {keep : Int} {l : List Kp} (h : okS keep l = true) : 0 ≤ (lastK l).num := by
  unfold lastK
  cases hl : l.getLast? with
  | none => exact Int.le_refl _
  | some x =>
    unfold okS at h; simp only [Bool.and_eq_true] at h
    have := okR_gt h.2 (List.mem_of_getLast? hl)
    simp only [Option.getD_some]
    have h0 : (⟨0, false, false⟩ : Kp).num = 0 := rfl
    omega
theorem rput_bad (keep number : Int) (save : Bool) (l : List Kp) (hl : l.length ≤ 9223372036854775807) (hk : okS keep l = false) : Con Try.prog 12 [.agg [.v (.int .i64 keep), .ro false 3 (l.map eK)], .one (.v (.int .u64 number)), .one (.v (.bool save))] (fun rx rK rt => rx = .tup [.agg [.v (.int .i64 0), .ro true 3 ((([] : List Kp)).map eK)], .one (.ro true 1 ((([] : List Int)).map eU)), .one (.v (.int .i64 330))] ∧ rK = [] ∧ rt = 0) := by
  refine Z.con_ofF tabOk 60 Try.f12 _ Try.func12 (by kernel_rfl) rfl rfl rfl rfl ?_
  have cr := right_con keep l (by omega)
  rw [hk] at cr
  repeat' ((conv => whnf); first
    | with_reducible first | refine spB_t ?_
    | ((with_reducible apply spB_cong); (focus (simp only [beq_self_eq_true, bne_self_eq_false, Bool.true_bne, Bool.false_bne, Bool.bne_true, Bool.bne_false, Bool.true_beq, Bool.false_beq, Bool.not_true, Bool.not_false, Bool.not_not, Int.reduceBEq, Int.reduceBNe, Int.reduceLE, Int.reduceLT, Int.reduceEq, decide_true, decide_false, cond_true, cond_false]; rfl)))
    | ((first | (with_reducible refine Z.conZ_mz ?_ (cr) ?_) | (with_reducible refine Z.callZ_mk ?_ (cr) ?_)); (focus ((repeat' (first | exact trivial | exact rfl | exact Z.low_nil | exact Z.low_nil2 | exact low_osl (fun _ => rfl) | (refine Z.low_osln ?_ (fun _ => rfl); (simp only [List.length_map]; done)) | exact low_oslr (fun _ => rfl) | exact Z.low_gslm (by first | rfl | exact Z.kb_some rfl) (fun _ => rfl) | exact .inl rfl | exact .inr ⟨_, rfl⟩ | apply And.intro)); done))))
  all_goals (try (conv => whnf))
  all_goals first
    | ((first | (with_reducible apply Z.retF1) | (with_reducible apply Z.retF2) | (with_reducible apply Z.retF0)); (focus (exact rfl)); (repeat' (first | exact trivial | (with_reducible apply Z.frz_one) | (with_reducible apply Z.frz_agg) | (with_reducible apply Z.fq_int) | (with_reducible apply Z.fq_bool) | (exact Z.frz_nil) | (exact Z.frz_osl0 rfl rfl rfl) | (with_reducible apply Z.fq_nil) | (with_reducible apply Z.fq_ro) | ((with_reducible apply Z.fq_gsl); (focus (first | rfl | exact Z.isB_map _ | exact Z.gB_snoc.symm)); (focus (exact fun _ => rfl))) | ((with_reducible apply Z.fq_osl); (focus (exact rfl)); (focus (first | exact rfl | (simp only [List.length_map, Nat.zero_add]; done) | ((try simp only [LN] at *) <;> omega))); (focus (exact fun _ => rfl))) | ((with_reducible apply Z.fq_src); (focus (exact rfl)); (focus (first | exact rfl | (simp only [List.length_map, Nat.zero_add]; done) | ((try simp only [LN] at *) <;> omega))); (focus (exact fun _ => rfl))) | exact rfl | ((apply Z.fq_osl); (focus (exact rfl)); (focus (first | exact rfl | (simp only [List.length_map, Nat.zero_add]; done) | ((try simp only [LN] at *) <;> omega))); (focus (exact fun _ => rfl))) | ((apply Z.fq_src); (focus (exact rfl)); (focus (first | exact rfl | (simp only [List.length_map, Nat.zero_add]; done) | ((try simp only [LN] at *) <;> omega))); (focus (exact fun _ => rfl))) | (apply Z.fq_ro) | (apply Z.fq_int) | (apply Z.fq_bool) | apply And.intro)); (all_goals (try exact (fun _ => none))); all_goals (first | rfl))
    | (exfalso; simp_all; done)
    | (fail)

theorem rput_arg (keep number : Int) (save : Bool) (l : List Kp) (x : Kp) (hl : l.length ≤ 16) (hk : okS keep l = true) (hne : 0 < l.length) (hx : l[l.length - 1]? = some x) (h0 : 0 ≤ x.num) (ha : ¬ (x.num < number ∧ number ≤ 4611686018427387904)) : Con Try.prog 12 [.agg [.v (.int .i64 keep), .ro false 3 (l.map eK)], .one (.v (.int .u64 number)), .one (.v (.bool save))] (fun rx rK rt => rx = .tup [.agg [.v (.int .i64 0), .ro true 3 ((([] : List Kp)).map eK)], .one (.ro true 1 ((([] : List Int)).map eU)), .one (.v (.int .i64 2))] ∧ rK = [] ∧ rt = 0) := by
  refine Z.con_ofF tabOk 60 Try.f12 _ Try.func12 (by kernel_rfl) rfl rfl rfl rfl ?_
  have cr := right_con keep l (by omega)
  rw [hk] at cr
  repeat' ((conv => whnf); first
    | with_reducible first | refine spB_t ?_
    | ((with_reducible apply spB_cong); (focus (simp only [beq_self_eq_true, bne_self_eq_false, Bool.true_bne, Bool.false_bne, Bool.bne_true, Bool.bne_false, Bool.true_beq, Bool.false_beq, Bool.not_true, Bool.not_false, Bool.not_not, Int.reduceBEq, Int.reduceBNe, Int.reduceLE, Int.reduceLT, Int.reduceEq, decide_true, decide_false, cond_true, cond_false]; rfl)))
    | with_reducible first | refine spB_yes (by decide) ?_ | refine spB_no (by decide) ?_ | refine spB_f ?_ | refine spB_not ?_ | refine spB_yes (by assumption) ?_ | refine spB_no (by assumption) ?_
    | (with_reducible refine spB_dec ?_ ?_ <;> intro _ <;> (try (exfalso; first | contradiction | omega | (simp only [LN] at *; omega))))
    | ((with_reducible refine ixN_mk (l.length - 1) ?_ ?_ ?_); (focus ((try simp only [LN] at *) <;> omega)); (focus ((try simp only [LN] at *) <;> omega)))
    | with_reducible first | refine Z.rowN_known hx ?_
    | with_reducible refine wr_i64 (by first | omega | (simp only [LN] at *; omega)) ?_
    | ((first | (with_reducible refine Z.conZ_mz ?_ (cr) ?_) | (with_reducible refine Z.callZ_mk ?_ (cr) ?_)); (focus ((repeat' (first | exact trivial | exact rfl | exact Z.low_nil | exact Z.low_nil2 | exact low_osl (fun _ => rfl) | (refine Z.low_osln ?_ (fun _ => rfl); (simp only [List.length_map]; done)) | exact low_oslr (fun _ => rfl) | exact Z.low_gslm (by first | rfl | exact Z.kb_some rfl) (fun _ => rfl) | exact .inl rfl | exact .inr ⟨_, rfl⟩ | apply And.intro)); done))))
  all_goals (try (conv => whnf))
  all_goals first
    | ((first | (with_reducible apply Z.retF1) | (with_reducible apply Z.retF2) | (with_reducible apply Z.retF0)); (focus (exact rfl)); (repeat' (first | exact trivial | (with_reducible apply Z.frz_one) | (with_reducible apply Z.frz_agg) | (with_reducible apply Z.fq_int) | (with_reducible apply Z.fq_bool) | (exact Z.frz_nil) | (exact Z.frz_osl0 rfl rfl rfl) | (with_reducible apply Z.fq_nil) | (with_reducible apply Z.fq_ro) | ((with_reducible apply Z.fq_gsl); (focus (first | rfl | exact Z.isB_map _ | exact Z.gB_snoc.symm)); (focus (exact fun _ => rfl))) | ((with_reducible apply Z.fq_osl); (focus (exact rfl)); (focus (first | exact rfl | (simp only [List.length_map, Nat.zero_add]; done) | ((try simp only [LN] at *) <;> omega))); (focus (exact fun _ => rfl))) | ((with_reducible apply Z.fq_src); (focus (exact rfl)); (focus (first | exact rfl | (simp only [List.length_map, Nat.zero_add]; done) | ((try simp only [LN] at *) <;> omega))); (focus (exact fun _ => rfl))) | exact rfl | ((apply Z.fq_osl); (focus (exact rfl)); (focus (first | exact rfl | (simp only [List.length_map, Nat.zero_add]; done) | ((try simp only [LN] at *) <;> omega))); (focus (exact fun _ => rfl))) | ((apply Z.fq_src); (focus (exact rfl)); (focus (first | exact rfl | (simp only [List.length_map, Nat.zero_add]; done) | ((try simp only [LN] at *) <;> omega))); (focus (exact fun _ => rfl))) | (apply Z.fq_ro) | (apply Z.fq_int) | (apply Z.fq_bool) | apply And.intro)); (all_goals (try exact (fun _ => none))); all_goals (first | rfl))
    | (exfalso; simp_all; done)
    | (fail)

theorem rput_arg0 (keep number : Int) (save : Bool) (hk : okS keep [] = true) (ha : ¬ (0 < number ∧ number ≤ 4611686018427387904)) : Con Try.prog 12 [.agg [.v (.int .i64 keep), .ro false 3 (([] : List Kp).map eK)], .one (.v (.int .u64 number)), .one (.v (.bool save))] (fun rx rK rt => rx = .tup [.agg [.v (.int .i64 0), .ro true 3 ((([] : List Kp)).map eK)], .one (.ro true 1 ((([] : List Int)).map eU)), .one (.v (.int .i64 2))] ∧ rK = [] ∧ rt = 0) := by
  refine Z.con_ofF tabOk 60 Try.f12 _ Try.func12 (by kernel_rfl) rfl rfl rfl rfl ?_
  have cr := right_con keep [] (Nat.zero_le _)
  rw [hk] at cr
  repeat' ((conv => whnf); first
    | with_reducible first | refine spB_t ?_
    | ((with_reducible apply spB_cong); (focus (simp only [beq_self_eq_true, bne_self_eq_false, Bool.true_bne, Bool.false_bne, Bool.bne_true, Bool.bne_false, Bool.true_beq, Bool.false_beq, Bool.not_true, Bool.not_false, Bool.not_not, Int.reduceBEq, Int.reduceBNe, Int.reduceLE, Int.reduceLT, Int.reduceEq, decide_true, decide_false, cond_true, cond_false]; rfl)))
    | with_reducible first | refine spB_yes (by decide) ?_ | refine spB_no (by decide) ?_ | refine spB_f ?_ | refine spB_not ?_ | refine spB_yes (by assumption) ?_ | refine spB_no (by assumption) ?_
    | (with_reducible refine spB_dec ?_ ?_ <;> intro _ <;> (try (exfalso; first | contradiction | omega | (simp only [LN] at *; omega))))
    | ((first | (with_reducible refine Z.conZ_mz ?_ (cr) ?_) | (with_reducible refine Z.callZ_mk ?_ (cr) ?_)); (focus ((repeat' (first | exact trivial | exact rfl | exact Z.low_nil | exact Z.low_nil2 | exact low_osl (fun _ => rfl) | (refine Z.low_osln ?_ (fun _ => rfl); (simp only [List.length_map]; done)) | exact low_oslr (fun _ => rfl) | exact Z.low_gslm (by first | rfl | exact Z.kb_some rfl) (fun _ => rfl) | exact .inl rfl | exact .inr ⟨_, rfl⟩ | apply And.intro)); done))))
  all_goals (try (conv => whnf))
  all_goals first
    | ((first | (with_reducible apply Z.retF1) | (with_reducible apply Z.retF2) | (with_reducible apply Z.retF0)); (focus (exact rfl)); (repeat' (first | exact trivial | (with_reducible apply Z.frz_one) | (with_reducible apply Z.frz_agg) | (with_reducible apply Z.fq_int) | (with_reducible apply Z.fq_bool) | (exact Z.frz_nil) | (exact Z.frz_osl0 rfl rfl rfl) | (with_reducible apply Z.fq_nil) | (with_reducible apply Z.fq_ro) | ((with_reducible apply Z.fq_gsl); (focus (first | rfl | exact Z.isB_map _ | exact Z.gB_snoc.symm)); (focus (exact fun _ => rfl))) | ((with_reducible apply Z.fq_osl); (focus (exact rfl)); (focus (first | exact rfl | (simp only [List.length_map, Nat.zero_add]; done) | ((try simp only [LN] at *) <;> omega))); (focus (exact fun _ => rfl))) | ((with_reducible apply Z.fq_src); (focus (exact rfl)); (focus (first | exact rfl | (simp only [List.length_map, Nat.zero_add]; done) | ((try simp only [LN] at *) <;> omega))); (focus (exact fun _ => rfl))) | exact rfl | ((apply Z.fq_osl); (focus (exact rfl)); (focus (first | exact rfl | (simp only [List.length_map, Nat.zero_add]; done) | ((try simp only [LN] at *) <;> omega))); (focus (exact fun _ => rfl))) | ((apply Z.fq_src); (focus (exact rfl)); (focus (first | exact rfl | (simp only [List.length_map, Nat.zero_add]; done) | ((try simp only [LN] at *) <;> omega))); (focus (exact fun _ => rfl))) | (apply Z.fq_ro) | (apply Z.fq_int) | (apply Z.fq_bool) | apply And.intro)); (all_goals (try exact (fun _ => none))); all_goals (first | rfl))
    | (exfalso; simp_all; done)
    | (fail)

theorem rput_t (keep number : Int) (save : Bool) (l : List Kp) (x : Kp) (R : Rs) (hl : l.length ≤ 16) (hk : okS keep l = true) (hne : 0 < l.length) (hx : l[l.length - 1]? = some x) (h0 : 0 ≤ x.num) (ha : x.num < number ∧ number ≤ 4611686018427387904) (hR : R = fullR keep (l ++ [⟨number, save, true⟩])) : Con Try.prog 12 [.agg [.v (.int .i64 keep), .ro false 3 (l.map eK)], .one (.v (.int .u64 number)), .one (.v (.bool save))] (fun rx rK rt => rx = .tup [.agg [.v (.int .i64 R.keep), .ro true 3 ((R.rows).map eK)], .one (.ro true 1 ((R.gone).map eU)), .one (.v (.int .i64 R.err))] ∧ rK = [] ∧ rt = 0) := by
  refine Z.con_ofF tabOk 60 Try.f12 _ Try.func12 (by kernel_rfl) rfl rfl rfl rfl ?_
  have cr := right_con keep l (by omega)
  rw [hk] at cr
  have cw := with_con keep l (l.map eK).length ⟨number, save, true⟩ (by first | omega | exact Nat.zero_le _) (by rw [List.length_map]; exact Nat.le_refl _)
  rw [show wthF l (l.map eK).length ⟨number, save, true⟩ = l ++ [⟨number, save, true⟩] from if_pos (by simp)] at cw
  have cc := cut_con keep (l ++ [⟨number, save, true⟩]) (by rw [List.length_append, List.length_singleton]; (try simp only [List.length_nil]); omega)
  by_cases hf : (keptF keep (l ++ [⟨number, save, true⟩])).length ≤ 16
  · have hR2 : R = okRs keep (l ++ [⟨number, save, true⟩]) := by rw [hR]; unfold fullR; rw [decide_eq_true hf]; rfl
    clear hR; subst hR2
    repeat' ((conv => whnf); first
      | with_reducible first | refine spB_t ?_
      | ((with_reducible apply spB_cong); (focus (simp only [beq_self_eq_true, bne_self_eq_false, Bool.true_bne, Bool.false_bne, Bool.bne_true, Bool.bne_false, Bool.true_beq, Bool.false_beq, Bool.not_true, Bool.not_false, Bool.not_not, Int.reduceBEq, Int.reduceBNe, Int.reduceLE, Int.reduceLT, Int.reduceEq, decide_true, decide_false, cond_true, cond_false]; rfl)))
      | with_reducible first | refine spB_yes (by decide) ?_ | refine spB_no (by decide) ?_ | refine spB_f ?_ | refine spB_not ?_ | refine spB_yes (by assumption) ?_ | refine spB_no (by assumption) ?_
      | (with_reducible refine spB_dec ?_ ?_ <;> intro _ <;> (try (exfalso; first | contradiction | omega | (simp only [LN] at *; omega))))
      | ((with_reducible refine ixN_mk (l.length - 1) ?_ ?_ ?_); (focus ((try simp only [LN] at *) <;> omega)); (focus ((try simp only [LN] at *) <;> omega)))
      | with_reducible first | refine Z.rowN_known hx ?_
      | with_reducible refine wr_i64 (by first | omega | (simp only [LN] at *; omega)) ?_
      | ((first | (with_reducible refine Z.conZ_mz ?_ (cr) ?_) | (with_reducible refine Z.callZ_mk ?_ (cr) ?_) | (with_reducible refine Z.conZ_mz ?_ (cc) ?_) | (with_reducible refine Z.callZ_mk ?_ (cc) ?_) | (with_reducible refine Z.conZ_mz ?_ (cw) ?_) | (with_reducible refine Z.callZ_mk ?_ (cw) ?_)); (focus ((repeat' (first | exact trivial | exact rfl | exact Z.low_nil | exact Z.low_nil2 | exact low_osl (fun _ => rfl) | (refine Z.low_osln ?_ (fun _ => rfl); (simp only [List.length_map]; done)) | exact low_oslr (fun _ => rfl) | exact Z.low_gslm (by first | rfl | exact Z.kb_some rfl) (fun _ => rfl) | exact .inl rfl | exact .inr ⟨_, rfl⟩ | apply And.intro)); done))))
    all_goals (try (conv => whnf))
    all_goals first
      | ((first | (with_reducible apply Z.retF1) | (with_reducible apply Z.retF2) | (with_reducible apply Z.retF0)); (focus (exact rfl)); (repeat' (first | exact trivial | (with_reducible apply Z.frz_one) | (with_reducible apply Z.frz_agg) | (with_reducible apply Z.fq_int) | (with_reducible apply Z.fq_bool) | (exact Z.frz_nil) | (exact Z.frz_osl0 rfl rfl rfl) | (with_reducible apply Z.fq_nil) | (with_reducible apply Z.fq_ro) | ((with_reducible apply Z.fq_gsl); (focus (first | rfl | exact Z.isB_map _ | exact Z.gB_snoc.symm)); (focus (exact fun _ => rfl))) | ((with_reducible apply Z.fq_osl); (focus (exact rfl)); (focus (first | exact rfl | (simp only [List.length_map, Nat.zero_add]; done) | ((try simp only [LN] at *) <;> omega))); (focus (exact fun _ => rfl))) | ((with_reducible apply Z.fq_src); (focus (exact rfl)); (focus (first | exact rfl | (simp only [List.length_map, Nat.zero_add]; done) | ((try simp only [LN] at *) <;> omega))); (focus (exact fun _ => rfl))) | exact rfl | ((apply Z.fq_osl); (focus (exact rfl)); (focus (first | exact rfl | (simp only [List.length_map, Nat.zero_add]; done) | ((try simp only [LN] at *) <;> omega))); (focus (exact fun _ => rfl))) | ((apply Z.fq_src); (focus (exact rfl)); (focus (first | exact rfl | (simp only [List.length_map, Nat.zero_add]; done) | ((try simp only [LN] at *) <;> omega))); (focus (exact fun _ => rfl))) | (apply Z.fq_ro) | (apply Z.fq_int) | (apply Z.fq_bool) | apply And.intro)); (all_goals (try exact (fun _ => none))); all_goals (first | rfl))
      | (exfalso; simp_all; done)
      | (fail)
  · have hR2 : R = ⟨0, [], [], 6⟩ := by rw [hR]; unfold fullR; rw [decide_eq_false hf]; rfl
    clear hR; subst hR2
    repeat' ((conv => whnf); first
      | with_reducible first | refine spB_t ?_
      | ((with_reducible apply spB_cong); (focus (simp only [beq_self_eq_true, bne_self_eq_false, Bool.true_bne, Bool.false_bne, Bool.bne_true, Bool.bne_false, Bool.true_beq, Bool.false_beq, Bool.not_true, Bool.not_false, Bool.not_not, Int.reduceBEq, Int.reduceBNe, Int.reduceLE, Int.reduceLT, Int.reduceEq, decide_true, decide_false, cond_true, cond_false]; rfl)))
      | with_reducible first | refine spB_yes (by decide) ?_ | refine spB_no (by decide) ?_ | refine spB_f ?_ | refine spB_not ?_ | refine spB_yes (by assumption) ?_ | refine spB_no (by assumption) ?_
      | (with_reducible refine spB_dec ?_ ?_ <;> intro _ <;> (try (exfalso; first | contradiction | omega | (simp only [LN] at *; omega))))
      | ((with_reducible refine ixN_mk (l.length - 1) ?_ ?_ ?_); (focus ((try simp only [LN] at *) <;> omega)); (focus ((try simp only [LN] at *) <;> omega)))
      | with_reducible first | refine Z.rowN_known hx ?_
      | with_reducible refine wr_i64 (by first | omega | (simp only [LN] at *; omega)) ?_
      | ((first | (with_reducible refine Z.conZ_mz ?_ (cr) ?_) | (with_reducible refine Z.callZ_mk ?_ (cr) ?_) | (with_reducible refine Z.conZ_mz ?_ (cc) ?_) | (with_reducible refine Z.callZ_mk ?_ (cc) ?_) | (with_reducible refine Z.conZ_mz ?_ (cw) ?_) | (with_reducible refine Z.callZ_mk ?_ (cw) ?_)); (focus ((repeat' (first | exact trivial | exact rfl | exact Z.low_nil | exact Z.low_nil2 | exact low_osl (fun _ => rfl) | (refine Z.low_osln ?_ (fun _ => rfl); (simp only [List.length_map]; done)) | exact low_oslr (fun _ => rfl) | exact Z.low_gslm (by first | rfl | exact Z.kb_some rfl) (fun _ => rfl) | exact .inl rfl | exact .inr ⟨_, rfl⟩ | apply And.intro)); done))))
    all_goals (try (conv => whnf))
    all_goals first
      | ((first | (with_reducible apply Z.retF1) | (with_reducible apply Z.retF2) | (with_reducible apply Z.retF0)); (focus (exact rfl)); (repeat' (first | exact trivial | (with_reducible apply Z.frz_one) | (with_reducible apply Z.frz_agg) | (with_reducible apply Z.fq_int) | (with_reducible apply Z.fq_bool) | (exact Z.frz_nil) | (exact Z.frz_osl0 rfl rfl rfl) | (with_reducible apply Z.fq_nil) | (with_reducible apply Z.fq_ro) | ((with_reducible apply Z.fq_gsl); (focus (first | rfl | exact Z.isB_map _ | exact Z.gB_snoc.symm)); (focus (exact fun _ => rfl))) | ((with_reducible apply Z.fq_osl); (focus (exact rfl)); (focus (first | exact rfl | (simp only [List.length_map, Nat.zero_add]; done) | ((try simp only [LN] at *) <;> omega))); (focus (exact fun _ => rfl))) | ((with_reducible apply Z.fq_src); (focus (exact rfl)); (focus (first | exact rfl | (simp only [List.length_map, Nat.zero_add]; done) | ((try simp only [LN] at *) <;> omega))); (focus (exact fun _ => rfl))) | exact rfl | ((apply Z.fq_osl); (focus (exact rfl)); (focus (first | exact rfl | (simp only [List.length_map, Nat.zero_add]; done) | ((try simp only [LN] at *) <;> omega))); (focus (exact fun _ => rfl))) | ((apply Z.fq_src); (focus (exact rfl)); (focus (first | exact rfl | (simp only [List.length_map, Nat.zero_add]; done) | ((try simp only [LN] at *) <;> omega))); (focus (exact fun _ => rfl))) | (apply Z.fq_ro) | (apply Z.fq_int) | (apply Z.fq_bool) | apply And.intro)); (all_goals (try exact (fun _ => none))); all_goals (first | rfl))
      | (exfalso; simp_all; done)
      | (fail)

theorem rput_t0 (keep number : Int) (save : Bool) (R : Rs) (hk : okS keep [] = true) (ha : 0 < number ∧ number ≤ 4611686018427387904) (hR : R = fullR keep (([] : List Kp) ++ [⟨number, save, true⟩])) : Con Try.prog 12 [.agg [.v (.int .i64 keep), .ro false 3 (([] : List Kp).map eK)], .one (.v (.int .u64 number)), .one (.v (.bool save))] (fun rx rK rt => rx = .tup [.agg [.v (.int .i64 R.keep), .ro true 3 ((R.rows).map eK)], .one (.ro true 1 ((R.gone).map eU)), .one (.v (.int .i64 R.err))] ∧ rK = [] ∧ rt = 0) := by
  refine Z.con_ofF tabOk 60 Try.f12 _ Try.func12 (by kernel_rfl) rfl rfl rfl rfl ?_
  have cr := right_con keep [] (Nat.zero_le _)
  rw [hk] at cr
  have cw := with_con keep ([] : List Kp) (([] : List Kp).map eK).length ⟨number, save, true⟩ (by first | omega | exact Nat.zero_le _) (by rw [List.length_map]; exact Nat.le_refl _)
  rw [show wthF ([] : List Kp) (([] : List Kp).map eK).length ⟨number, save, true⟩ = ([] : List Kp) ++ [⟨number, save, true⟩] from if_pos (by simp)] at cw
  have cc := cut_con keep (([] : List Kp) ++ [⟨number, save, true⟩]) (by rw [List.length_append, List.length_singleton]; (try simp only [List.length_nil]); omega)
  by_cases hf : (keptF keep (([] : List Kp) ++ [⟨number, save, true⟩])).length ≤ 16
  · have hR2 : R = okRs keep (([] : List Kp) ++ [⟨number, save, true⟩]) := by rw [hR]; unfold fullR; rw [decide_eq_true hf]; rfl
    clear hR; subst hR2
    repeat' ((conv => whnf); first
      | ((with_reducible apply spB_cong); (focus (simp only [beq_self_eq_true, bne_self_eq_false, Bool.true_bne, Bool.false_bne, Bool.bne_true, Bool.bne_false, Bool.true_beq, Bool.false_beq, Bool.not_true, Bool.not_false, Bool.not_not, Int.reduceBEq, Int.reduceBNe, Int.reduceLE, Int.reduceLT, Int.reduceEq, decide_true, decide_false, cond_true, cond_false]; rfl)))
      | with_reducible first | refine spB_yes (by decide) ?_ | refine spB_no (by decide) ?_ | refine spB_f ?_ | refine spB_not ?_ | refine spB_yes (by assumption) ?_ | refine spB_no (by assumption) ?_
      | (with_reducible refine spB_dec ?_ ?_ <;> intro _ <;> (try (exfalso; first | contradiction | omega | (simp only [LN] at *; omega))))
      | ((first | (with_reducible refine Z.conZ_mz ?_ (cr) ?_) | (with_reducible refine Z.callZ_mk ?_ (cr) ?_) | (with_reducible refine Z.conZ_mz ?_ (cc) ?_) | (with_reducible refine Z.callZ_mk ?_ (cc) ?_) | (with_reducible refine Z.conZ_mz ?_ (cw) ?_) | (with_reducible refine Z.callZ_mk ?_ (cw) ?_)); (focus ((repeat' (first | exact trivial | exact rfl | exact Z.low_nil | exact Z.low_nil2 | exact low_osl (fun _ => rfl) | (refine Z.low_osln ?_ (fun _ => rfl); (simp only [List.length_map]; done)) | exact low_oslr (fun _ => rfl) | exact Z.low_gslm (by first | rfl | exact Z.kb_some rfl) (fun _ => rfl) | exact .inl rfl | exact .inr ⟨_, rfl⟩ | apply And.intro)); done))))
    all_goals (try (conv => whnf))
    all_goals first
      | ((first | (with_reducible apply Z.retF1) | (with_reducible apply Z.retF2) | (with_reducible apply Z.retF0)); (focus (exact rfl)); (repeat' (first | exact trivial | (with_reducible apply Z.frz_one) | (with_reducible apply Z.frz_agg) | (with_reducible apply Z.fq_int) | (with_reducible apply Z.fq_bool) | (exact Z.frz_nil) | (exact Z.frz_osl0 rfl rfl rfl) | (with_reducible apply Z.fq_nil) | (with_reducible apply Z.fq_ro) | ((with_reducible apply Z.fq_gsl); (focus (first | rfl | exact Z.isB_map _ | exact Z.gB_snoc.symm)); (focus (exact fun _ => rfl))) | ((with_reducible apply Z.fq_osl); (focus (exact rfl)); (focus (first | exact rfl | (simp only [List.length_map, Nat.zero_add]; done) | ((try simp only [LN] at *) <;> omega))); (focus (exact fun _ => rfl))) | ((with_reducible apply Z.fq_src); (focus (exact rfl)); (focus (first | exact rfl | (simp only [List.length_map, Nat.zero_add]; done) | ((try simp only [LN] at *) <;> omega))); (focus (exact fun _ => rfl))) | exact rfl | ((apply Z.fq_osl); (focus (exact rfl)); (focus (first | exact rfl | (simp only [List.length_map, Nat.zero_add]; done) | ((try simp only [LN] at *) <;> omega))); (focus (exact fun _ => rfl))) | ((apply Z.fq_src); (focus (exact rfl)); (focus (first | exact rfl | (simp only [List.length_map, Nat.zero_add]; done) | ((try simp only [LN] at *) <;> omega))); (focus (exact fun _ => rfl))) | (apply Z.fq_ro) | (apply Z.fq_int) | (apply Z.fq_bool) | apply And.intro)); (all_goals (try exact (fun _ => none))); all_goals (first | rfl))
      | (exfalso; simp_all; done)
      | (fail)
  · have hR2 : R = ⟨0, [], [], 6⟩ := by rw [hR]; unfold fullR; rw [decide_eq_false hf]; rfl
    clear hR; subst hR2
    repeat' ((conv => whnf); first
      | ((with_reducible apply spB_cong); (focus (simp only [beq_self_eq_true, bne_self_eq_false, Bool.true_bne, Bool.false_bne, Bool.bne_true, Bool.bne_false, Bool.true_beq, Bool.false_beq, Bool.not_true, Bool.not_false, Bool.not_not, Int.reduceBEq, Int.reduceBNe, Int.reduceLE, Int.reduceLT, Int.reduceEq, decide_true, decide_false, cond_true, cond_false]; rfl)))
      | with_reducible first | refine spB_yes (by decide) ?_ | refine spB_no (by decide) ?_ | refine spB_f ?_ | refine spB_not ?_ | refine spB_yes (by assumption) ?_ | refine spB_no (by assumption) ?_
      | (with_reducible refine spB_dec ?_ ?_ <;> intro _ <;> (try (exfalso; first | contradiction | omega | (simp only [LN] at *; omega))))
      | ((first | (with_reducible refine Z.conZ_mz ?_ (cr) ?_) | (with_reducible refine Z.callZ_mk ?_ (cr) ?_) | (with_reducible refine Z.conZ_mz ?_ (cc) ?_) | (with_reducible refine Z.callZ_mk ?_ (cc) ?_) | (with_reducible refine Z.conZ_mz ?_ (cw) ?_) | (with_reducible refine Z.callZ_mk ?_ (cw) ?_)); (focus ((repeat' (first | exact trivial | exact rfl | exact Z.low_nil | exact Z.low_nil2 | exact low_osl (fun _ => rfl) | (refine Z.low_osln ?_ (fun _ => rfl); (simp only [List.length_map]; done)) | exact low_oslr (fun _ => rfl) | exact Z.low_gslm (by first | rfl | exact Z.kb_some rfl) (fun _ => rfl) | exact .inl rfl | exact .inr ⟨_, rfl⟩ | apply And.intro)); done))))
    all_goals (try (conv => whnf))
    all_goals first
      | ((first | (with_reducible apply Z.retF1) | (with_reducible apply Z.retF2) | (with_reducible apply Z.retF0)); (focus (exact rfl)); (repeat' (first | exact trivial | (with_reducible apply Z.frz_one) | (with_reducible apply Z.frz_agg) | (with_reducible apply Z.fq_int) | (with_reducible apply Z.fq_bool) | (exact Z.frz_nil) | (exact Z.frz_osl0 rfl rfl rfl) | (with_reducible apply Z.fq_nil) | (with_reducible apply Z.fq_ro) | ((with_reducible apply Z.fq_gsl); (focus (first | rfl | exact Z.isB_map _ | exact Z.gB_snoc.symm)); (focus (exact fun _ => rfl))) | ((with_reducible apply Z.fq_osl); (focus (exact rfl)); (focus (first | exact rfl | (simp only [List.length_map, Nat.zero_add]; done) | ((try simp only [LN] at *) <;> omega))); (focus (exact fun _ => rfl))) | ((with_reducible apply Z.fq_src); (focus (exact rfl)); (focus (first | exact rfl | (simp only [List.length_map, Nat.zero_add]; done) | ((try simp only [LN] at *) <;> omega))); (focus (exact fun _ => rfl))) | exact rfl | ((apply Z.fq_osl); (focus (exact rfl)); (focus (first | exact rfl | (simp only [List.length_map, Nat.zero_add]; done) | ((try simp only [LN] at *) <;> omega))); (focus (exact fun _ => rfl))) | ((apply Z.fq_src); (focus (exact rfl)); (focus (first | exact rfl | (simp only [List.length_map, Nat.zero_add]; done) | ((try simp only [LN] at *) <;> omega))); (focus (exact fun _ => rfl))) | (apply Z.fq_ro) | (apply Z.fq_int) | (apply Z.fq_bool) | apply And.intro)); (all_goals (try exact (fun _ => none))); all_goals (first | rfl))
      | (exfalso; simp_all; done)
      | (fail)

theorem rput_con (keep number : Int) (save : Bool) (l : List Kp) (hl : l.length ≤ 9223372036854775807) : Con Try.prog 12 [.agg [.v (.int .i64 keep), .ro false 3 (l.map eK)], .one (.v (.int .u64 number)), .one (.v (.bool save))] (fun rx rK rt => rx = .tup [.agg [.v (.int .i64 (putR keep number save l).keep), .ro true 3 (((putR keep number save l).rows).map eK)], .one (.ro true 1 (((putR keep number save l).gone).map eU)), .one (.v (.int .i64 (putR keep number save l).err))] ∧ rK = [] ∧ rt = 0) := by
  cases hk : okS keep l with
  | false =>
    have h := rput_bad keep number save l hl hk
    unfold putR; rw [hk]; exact h
  | true =>
    have hl16 := (okS_keep hk).2.2
    have h0 := lastK_pos hk
    by_cases hne : l = []
    · subst hne
      by_cases ha : (lastK []).num < number ∧ number ≤ 4611686018427387904
      · have h := rput_t0 keep number save _ hk ha rfl
        unfold putR; rw [hk, decide_eq_true ha]; exact h
      · have h := rput_arg0 keep number save hk ha
        unfold putR; rw [hk, decide_eq_false ha]; exact h
    · have hpos : 0 < l.length := List.length_pos_iff.2 hne
      obtain ⟨x, hx⟩ := getElem?_some' (xs := l) (i := l.length - 1) (by omega)
      have hlk := lastK_at hx (by omega)
      rw [hlk] at h0
      by_cases ha : x.num < number ∧ number ≤ 4611686018427387904
      · have h := rput_t keep number save l x _ hl16 hk hpos hx h0 ha rfl
        unfold putR; rw [hk, hlk, decide_eq_true ha]; exact h
      · have h := rput_arg keep number save l x hl16 hk hpos hx h0 ha
        unfold putR; rw [hk, hlk, decide_eq_false ha]; exact h
end Go.Proofs.Ytnlcmncfbiognaa
