import Derived.Test.YtnlcmncfbiognaaRf0
import Derived.Test.YtnlcmncfbiognaaRd3
namespace Go.Proofs.Ytnlcmncfbiognaa
open Go Go.RowKit Wx
set_option linter.unusedVariables false
set_option linter.unusedSimpArgs false
set_option maxHeartbeats 4000000
theorem retainputs_con (keep number : Int) (save : Bool) (l : List Kp) (hl0 : l.length ≤ 9223372036854775807) : Con Try.prog 3 [.agg [.v (.int .i64 keep), .ro false 3 (l.map eK)], .one (.v (.int .u64 number)), .one (.v (.bool save))] (fun rx rK rt => rx = .val (.bool true) ∧ rK = [] ∧ rt = 0) := by
  refine Z.con_ofF tabOk 56 Try.f3 _ Try.func3 (by kernel_rfl) rfl rfl rfl rfl ?_
  by_cases hlen : l.length ≤ 100
  rotate_left
  · skip
    repeat' ((conv => whnf); first
      | ((with_reducible apply spB_cong); (focus (simp only [beq_self_eq_true, bne_self_eq_false, Bool.true_bne, Bool.false_bne, Bool.bne_true, Bool.bne_false, Bool.true_beq, Bool.false_beq, Bool.not_true, Bool.not_false, Bool.not_not, Int.reduceBEq, Int.reduceBNe, Int.reduceLE, Int.reduceLT, Int.reduceEq, decide_true, decide_false]; rfl)))
      | with_reducible first | refine spB_yes (by decide) ?_ | refine spB_no (by decide) ?_ | refine spB_f ?_ | refine spB_not ?_ | refine spB_yes (by assumption) ?_ | refine spB_no (by assumption) ?_
      | (with_reducible refine spB_dec ?_ ?_ <;> intro _ <;> (try (exfalso; first | contradiction | omega | (simp only [LN] at *; omega))))
      | ((first | (with_reducible refine Z.conZ_mz ?_ (wakes_con) ?_) | (with_reducible refine Z.callZ_mk ?_ (wakes_con) ?_)); (focus ((repeat' (first | exact trivial | exact rfl | exact Z.low_nil | exact Z.low_nil2 | exact low_osl (fun _ => rfl) | (refine Z.low_osln ?_ (fun _ => rfl); (simp only [List.length_map]; done)) | exact low_oslr (fun _ => rfl) | exact Z.low_gslm (by first | rfl | exact Z.kb_some rfl) (fun _ => rfl) | exact .inl rfl | exact .inr ⟨_, rfl⟩ | apply And.intro)); done))))
    all_goals (try (conv => whnf))
    all_goals first
      | ((first | (with_reducible apply Z.retF1) | (with_reducible apply Z.retF2) | (with_reducible apply Z.retF0)); (focus (exact rfl)); (repeat' (first | exact trivial | (with_reducible apply Z.frz_one) | (with_reducible apply Z.frz_agg) | (with_reducible apply Z.fq_int) | (with_reducible apply Z.fq_bool) | (exact Z.frz_nil) | (exact Z.frz_osl0 rfl rfl rfl) | (with_reducible apply Z.fq_nil) | (with_reducible apply Z.fq_ro) | ((with_reducible apply Z.fq_gsl); (focus (first | rfl | exact Z.isB_map _ | exact Z.gB_snoc.symm)); (focus (exact fun _ => rfl))) | ((with_reducible apply Z.fq_osl); (focus (exact rfl)); (focus (first | exact rfl | (simp only [List.length_map, Nat.zero_add]; done) | ((try simp only [LN] at *) <;> omega))); (focus (exact fun _ => rfl))) | ((with_reducible apply Z.fq_src); (focus (exact rfl)); (focus (first | exact rfl | (simp only [List.length_map, Nat.zero_add]; done) | ((try simp only [LN] at *) <;> omega))); (focus (exact fun _ => rfl))) | exact rfl | ((apply Z.fq_osl); (focus (exact rfl)); (focus (first | exact rfl | (simp only [List.length_map, Nat.zero_add]; done) | ((try simp only [LN] at *) <;> omega))); (focus (exact fun _ => rfl))) | ((apply Z.fq_src); (focus (exact rfl)); (focus (first | exact rfl | (simp only [List.length_map, Nat.zero_add]; done) | ((try simp only [LN] at *) <;> omega))); (focus (exact fun _ => rfl))) | (apply Z.fq_ro) | (apply Z.fq_int) | (apply Z.fq_bool) | apply And.intro)); (all_goals (try exact (fun _ => none))); all_goals (rfl))
      | (exfalso; simp_all; done)
      | (fail)
  have hl : l.length ≤ 9223372036854775807 := by omega
  have c0 := put_con keep number save l hl
  have t0 := rput_con keep number save l hl
  have n0 := putR_len (keep := keep) (n := number) (save := save) (l := l)
  generalize putR keep number save l = R0 at *
  repeat' ((conv => whnf); first
    | with_reducible first | refine spB_t ?_
    | ((with_reducible apply spB_cong); (focus (simp only [beq_self_eq_true, bne_self_eq_false, Bool.true_bne, Bool.false_bne, Bool.bne_true, Bool.bne_false, Bool.true_beq, Bool.false_beq, Bool.not_true, Bool.not_false, Bool.not_not, Int.reduceBEq, Int.reduceBNe, Int.reduceLE, Int.reduceLT, Int.reduceEq, decide_true, decide_false]; rfl)))
    | with_reducible first | refine spB_yes (by decide) ?_ | refine spB_no (by decide) ?_ | refine spB_f ?_ | refine spB_not ?_ | refine spB_yes (by assumption) ?_ | refine spB_no (by assumption) ?_
    | (with_reducible refine spB_dec ?_ ?_ <;> intro _ <;> (try (exfalso; first | contradiction | omega | (simp only [LN] at *; omega))))
    | ((first | (with_reducible refine Z.conZ_mz ?_ (wakes_con) ?_) | (with_reducible refine Z.callZ_mk ?_ (wakes_con) ?_) | (with_reducible refine Z.conZ_mz ?_ (c0) ?_) | (with_reducible refine Z.callZ_mk ?_ (c0) ?_) | (with_reducible refine Z.conZ_mz ?_ (t0) ?_) | (with_reducible refine Z.callZ_mk ?_ (t0) ?_)); (focus ((repeat' (first | exact trivial | exact rfl | exact Z.low_nil | exact Z.low_nil2 | exact low_osl (fun _ => rfl) | (refine Z.low_osln ?_ (fun _ => rfl); (simp only [List.length_map]; done)) | exact low_oslr (fun _ => rfl) | exact Z.low_gslm (by first | rfl | exact Z.kb_some rfl) (fun _ => rfl) | exact .inl rfl | exact .inr ⟨_, rfl⟩ | apply And.intro)); done)))
    | ((first | (with_reducible apply Z.conZ_mz ?_ (copied_con _ _ ?_) ?_) | (with_reducible apply Z.callZ_mk ?_ (copied_con _ _ ?_) ?_) | (with_reducible apply Z.conZ_mz ?_ (eqn_con _ _ ?_) ?_) | (with_reducible apply Z.callZ_mk ?_ (eqn_con _ _ ?_) ?_)); (rotate_left 2); (focus ((repeat' (first | exact trivial | exact rfl | exact Z.low_nil | exact Z.low_nil2 | exact low_osl (fun _ => rfl) | (refine Z.low_osln ?_ (fun _ => rfl); (simp only [List.length_map]; done)) | exact low_oslr (fun _ => rfl) | exact Z.low_gslm (by first | rfl | exact Z.kb_some rfl) (fun _ => rfl) | exact .inl rfl | exact .inr ⟨_, rfl⟩ | apply And.intro)); done)); (iterate 1 (focus (first | assumption | omega | ((try simp only [LN] at *); omega)))))
    | ((first | (with_reducible apply Z.conZ_mz ?_ (rsame_con _ _ _ _ ?_) ?_) | (with_reducible apply Z.callZ_mk ?_ (rsame_con _ _ _ _ ?_) ?_)); (rotate_left 4); (focus ((repeat' (first | exact trivial | exact rfl | exact Z.low_nil | exact Z.low_nil2 | exact low_osl (fun _ => rfl) | (refine Z.low_osln ?_ (fun _ => rfl); (simp only [List.length_map]; done)) | exact low_oslr (fun _ => rfl) | exact Z.low_gslm (by first | rfl | exact Z.kb_some rfl) (fun _ => rfl) | exact .inl rfl | exact .inr ⟨_, rfl⟩ | apply And.intro)); done)); (iterate 1 (focus (first | assumption | omega | ((try simp only [LN] at *); omega))))))
  all_goals (try (conv => whnf))
  all_goals first
    | ((first | (with_reducible apply Z.retF1) | (with_reducible apply Z.retF2) | (with_reducible apply Z.retF0)); (focus (exact rfl)); (repeat' (first | exact trivial | (with_reducible apply Z.frz_one) | (with_reducible apply Z.frz_agg) | (with_reducible apply Z.fq_int) | (with_reducible apply Z.fq_bool) | (exact Z.frz_nil) | (exact Z.frz_osl0 rfl rfl rfl) | (with_reducible apply Z.fq_nil) | (with_reducible apply Z.fq_ro) | ((with_reducible apply Z.fq_gsl); (focus (first | rfl | exact Z.isB_map _ | exact Z.gB_snoc.symm)); (focus (exact fun _ => rfl))) | ((with_reducible apply Z.fq_osl); (focus (exact rfl)); (focus (first | exact rfl | (simp only [List.length_map, Nat.zero_add]; done) | ((try simp only [LN] at *) <;> omega))); (focus (exact fun _ => rfl))) | ((with_reducible apply Z.fq_src); (focus (exact rfl)); (focus (first | exact rfl | (simp only [List.length_map, Nat.zero_add]; done) | ((try simp only [LN] at *) <;> omega))); (focus (exact fun _ => rfl))) | exact rfl | ((apply Z.fq_osl); (focus (exact rfl)); (focus (first | exact rfl | (simp only [List.length_map, Nat.zero_add]; done) | ((try simp only [LN] at *) <;> omega))); (focus (exact fun _ => rfl))) | ((apply Z.fq_src); (focus (exact rfl)); (focus (first | exact rfl | (simp only [List.length_map, Nat.zero_add]; done) | ((try simp only [LN] at *) <;> omega))); (focus (exact fun _ => rfl))) | (apply Z.fq_ro) | (apply Z.fq_int) | (apply Z.fq_bool) | apply And.intro)); (all_goals (try exact (fun _ => none))); all_goals (first | rfl | (simp; done) | (simp_all; done)))
    | (exfalso; simp_all; done)
    | (fail)

end Go.Proofs.Ytnlcmncfbiognaa
