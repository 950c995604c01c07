import Derived.Test.YtnlcmncfbiognaaRa2
namespace Go.Proofs.Ytnlcmncfbiognaa
open Go Go.RowKit Wx
set_option linter.unusedVariables false
set_option linter.unusedSimpArgs false
set_option maxHeartbeats 4000000
theorem clonen_con   : Con Try.prog 39 [.one (.v (.slice none 0 0))] (fun rx rK rt => rx = .c (.ro true 3 (([] : List Kp).map eK)) ∧ rK = [] ∧ rt = 0) := by
  refine Z.con_ofF tabOk 8 Try.f39 _ Try.func39 (by kernel_rfl) rfl rfl rfl rfl ?_
  repeat' ((conv => whnf); first
    | with_reducible first | refine spB_t ?_
    | ((with_reducible apply spB_cong); (focus (simp only [beq_self_eq_true, bne_self_eq_false, Bool.true_bne, Bool.false_bne, Bool.bne_true, Bool.bne_false, Bool.true_beq, Bool.false_beq, Bool.not_true, Bool.not_false, Bool.not_not, Int.reduceBEq, Int.reduceBNe, Int.reduceLE, Int.reduceLT, Int.reduceEq, decide_true, decide_false]; rfl)))
    | with_reducible first | refine spB_yes (by decide) ?_ | refine spB_no (by decide) ?_ | refine spB_f ?_ | refine spB_not ?_ | refine spB_yes (by assumption) ?_ | refine spB_no (by assumption) ?_
    | (with_reducible refine spB_dec ?_ ?_ <;> intro _ <;> (try (exfalso; first | contradiction | omega | (rename_i hz; with_reducible exact absurd rfl hz))))
    | (with_reducible refine spB_beq ?_ ?_ <;> intro _ <;> (try (exfalso; first | contradiction | omega | (rename_i hz; with_reducible exact absurd rfl hz))))
    | (with_reducible refine spB_bne ?_ ?_ <;> intro _ <;> (try (exfalso; first | contradiction | omega | (rename_i hz; with_reducible exact absurd rfl hz))))
    | (with_reducible refine spB_mk ?_ ?_ <;> intro _ <;> (try (exfalso; first | contradiction | omega | (rename_i hz; with_reducible exact absurd rfl hz))))
    | ((with_reducible refine posE_pos ?_ ?_); (focus ((try simp only [LN] at *) <;> omega)))
    | ((with_reducible refine posE_nil ?_ ?_); (focus rfl))
    | ((with_reducible apply rowN_mk); (focus rfl))
    | ((with_reducible apply ixN_lit); (focus (exact rfl)); (focus (exact rfl)))
    | ((with_reducible apply ixN_litp); (focus (exact rfl)); (focus ((try simp only [LN] at *) <;> omega)))
    | ((with_reducible refine eqN_mk2 ?_ ?_); (focus rfl))
    | ((with_reducible refine apdE_r ?_); (with_reducible refine aprN.mk ⟨_, rfl, ?_⟩ ?_ ?_ ?_ ?_); (focus ((try simp only [LN] at *) <;> omega)); (focus (first | rfl | (simp; done) | ((try simp only [LN] at *) <;> omega))); (focus (first | exact one_all (by rfl) | exact one_map (fun _ => rfl) | exact one_map2 (fun _ => rfl) | exact one_drop (fun _ => rfl))); (focus ((try simp only [LN] at *) <;> omega)))
    | with_reducible first | refine apdE_n ?_
    | ((with_reducible refine apdN.mk ?_ ?_ ?_ ?_ ?_ ?_); (focus (first | rfl | (simp; done))); (focus (first | exact one_all (by rfl) | exact one_map (fun _ => rfl) | exact one_map2 (fun _ => rfl))); (focus ((try simp only [LN] at *) <;> omega)); (focus ((try simp only [LN] at *) <;> omega)); (focus ((try simp only [LN] at *) <;> omega)))
    | with_reducible refine wr_i64 (by first | omega | (simp only [LN] at *; omega)) ?_
    | with_reducible refine wr_u64 (by omega) ?_
    | with_reducible first | refine wr_mk _ rfl ?_
    | ((with_reducible refine ixN_nat ?_ ?_); (focus ((try simp only [LN] at *) <;> omega)))
    | ((with_reducible refine rowN_map ?_ ?_); (focus ((try simp only [LN] at *) <;> omega)); intro x hx)
    | ((with_reducible refine posE_nil (by rfl) ?_))
    | ((with_reducible refine posE_pos (by decide) ?_))
    | with_reducible refine eqN_dec (by omega) ?_
    | with_reducible first | refine apN_mk (by kernel_rfl) ?_
    | ((with_reducible refine eqN_mk2 ?_ ?_); (focus (exact Z.kb_some rfl)))
    | ((with_reducible apply ex_and); exact rfl))
  all_goals (try (conv => whnf))
  all_goals first
    | ((first | (with_reducible apply Z.retF1) | (with_reducible apply Z.retF2) | (with_reducible apply Z.retF0)); (focus (exact rfl)); (repeat' (first | exact trivial | (with_reducible apply Z.frz_one) | (with_reducible apply Z.frz_agg) | (with_reducible apply Z.fq_int) | (with_reducible apply Z.fq_bool) | (exact Z.frz_nil) | (exact Z.frz_osl0 rfl rfl rfl) | (with_reducible apply Z.fq_nil) | (with_reducible apply Z.fq_ro) | ((with_reducible apply Z.fq_gsl); (focus (first | rfl | exact Z.isB_map _ | exact Z.gB_snoc.symm)); (focus (exact fun _ => rfl))) | ((with_reducible apply Z.fq_osl); (focus (exact rfl)); (focus (first | exact rfl | (simp only [List.length_map, Nat.zero_add]; done) | ((try simp only [LN] at *) <;> omega))); (focus (exact fun _ => rfl))) | ((with_reducible apply Z.fq_src); (focus (exact rfl)); (focus (first | exact rfl | (simp only [List.length_map, Nat.zero_add]; done) | ((try simp only [LN] at *) <;> omega))); (focus (exact fun _ => rfl))) | exact rfl | ((apply Z.fq_osl); (focus (exact rfl)); (focus (first | exact rfl | (simp only [List.length_map, Nat.zero_add]; done) | ((try simp only [LN] at *) <;> omega))); (focus (exact fun _ => rfl))) | ((apply Z.fq_src); (focus (exact rfl)); (focus (first | exact rfl | (simp only [List.length_map, Nat.zero_add]; done) | ((try simp only [LN] at *) <;> omega))); (focus (exact fun _ => rfl))) | (apply Z.fq_ro) | (apply Z.fq_int) | (apply Z.fq_bool) | apply And.intro)); (all_goals (try exact (fun _ => none))); all_goals (rfl))
    | (fail)

theorem clonee_con (ad : Addr) (cap : Nat)  : Con Try.prog 39 [.one (.v (.slice (some ad) 0 cap))] (fun rx rK rt => rx = .c (.ro true 3 (([] : List Kp).map eK)) ∧ rK = [] ∧ rt = 0) := by
  refine Z.con_ofF tabOk 8 Try.f39 _ Try.func39 (by kernel_rfl) rfl rfl rfl rfl ?_
  repeat' ((conv => whnf); first
    | with_reducible first | refine spB_t ?_
    | ((with_reducible apply spB_cong); (focus (simp only [beq_self_eq_true, bne_self_eq_false, Bool.true_bne, Bool.false_bne, Bool.bne_true, Bool.bne_false, Bool.true_beq, Bool.false_beq, Bool.not_true, Bool.not_false, Bool.not_not, Int.reduceBEq, Int.reduceBNe, Int.reduceLE, Int.reduceLT, Int.reduceEq, decide_true, decide_false]; rfl)))
    | with_reducible first | refine spB_yes (by decide) ?_ | refine spB_no (by decide) ?_ | refine spB_f ?_ | refine spB_not ?_ | refine spB_yes (by assumption) ?_ | refine spB_no (by assumption) ?_
    | (with_reducible refine spB_dec ?_ ?_ <;> intro _ <;> (try (exfalso; first | contradiction | omega | (rename_i hz; with_reducible exact absurd rfl hz))))
    | (with_reducible refine spB_beq ?_ ?_ <;> intro _ <;> (try (exfalso; first | contradiction | omega | (rename_i hz; with_reducible exact absurd rfl hz))))
    | (with_reducible refine spB_bne ?_ ?_ <;> intro _ <;> (try (exfalso; first | contradiction | omega | (rename_i hz; with_reducible exact absurd rfl hz))))
    | (with_reducible refine spB_mk ?_ ?_ <;> intro _ <;> (try (exfalso; first | contradiction | omega | (rename_i hz; with_reducible exact absurd rfl hz))))
    | ((with_reducible refine posE_pos ?_ ?_); (focus ((try simp only [LN] at *) <;> omega)))
    | ((with_reducible refine posE_nil ?_ ?_); (focus rfl))
    | ((with_reducible apply rowN_mk); (focus rfl))
    | ((with_reducible apply ixN_lit); (focus (exact rfl)); (focus (exact rfl)))
    | ((with_reducible apply ixN_litp); (focus (exact rfl)); (focus ((try simp only [LN] at *) <;> omega)))
    | ((with_reducible refine eqN_mk2 ?_ ?_); (focus rfl))
    | ((with_reducible refine apdE_r ?_); (with_reducible refine aprN.mk ⟨_, rfl, ?_⟩ ?_ ?_ ?_ ?_); (focus ((try simp only [LN] at *) <;> omega)); (focus (first | rfl | (simp; done) | ((try simp only [LN] at *) <;> omega))); (focus (first | exact one_all (by rfl) | exact one_map (fun _ => rfl) | exact one_map2 (fun _ => rfl) | exact one_drop (fun _ => rfl))); (focus ((try simp only [LN] at *) <;> omega)))
    | with_reducible first | refine apdE_n ?_
    | ((with_reducible refine apdN.mk ?_ ?_ ?_ ?_ ?_ ?_); (focus (first | rfl | (simp; done))); (focus (first | exact one_all (by rfl) | exact one_map (fun _ => rfl) | exact one_map2 (fun _ => rfl))); (focus ((try simp only [LN] at *) <;> omega)); (focus ((try simp only [LN] at *) <;> omega)); (focus ((try simp only [LN] at *) <;> omega)))
    | with_reducible refine wr_i64 (by first | omega | (simp only [LN] at *; omega)) ?_
    | with_reducible refine wr_u64 (by omega) ?_
    | with_reducible first | refine wr_mk _ rfl ?_
    | ((with_reducible refine ixN_nat ?_ ?_); (focus ((try simp only [LN] at *) <;> omega)))
    | ((with_reducible refine rowN_map ?_ ?_); (focus ((try simp only [LN] at *) <;> omega)); intro x hx)
    | ((with_reducible refine posE_nil (by rfl) ?_))
    | ((with_reducible refine posE_pos (by decide) ?_))
    | with_reducible refine eqN_dec (by omega) ?_
    | with_reducible first | refine apN_mk (by kernel_rfl) ?_
    | ((with_reducible refine eqN_mk2 ?_ ?_); (focus (exact Z.kb_some rfl)))
    | ((with_reducible apply ex_and); exact rfl))
  all_goals (try (conv => whnf))
  all_goals first
    | ((first | (with_reducible apply Z.retF1) | (with_reducible apply Z.retF2) | (with_reducible apply Z.retF0)); (focus (exact rfl)); (repeat' (first | exact trivial | (with_reducible apply Z.frz_one) | (with_reducible apply Z.frz_agg) | (with_reducible apply Z.fq_int) | (with_reducible apply Z.fq_bool) | (exact Z.frz_nil) | (exact Z.frz_osl0 rfl rfl rfl) | (with_reducible apply Z.fq_nil) | (with_reducible apply Z.fq_ro) | ((with_reducible apply Z.fq_gsl); (focus (first | rfl | exact Z.isB_map _ | exact Z.gB_snoc.symm)); (focus (exact fun _ => rfl))) | ((with_reducible apply Z.fq_osl); (focus (exact rfl)); (focus (first | exact rfl | (simp only [List.length_map, Nat.zero_add]; done) | ((try simp only [LN] at *) <;> omega))); (focus (exact fun _ => rfl))) | ((with_reducible apply Z.fq_src); (focus (exact rfl)); (focus (first | exact rfl | (simp only [List.length_map, Nat.zero_add]; done) | ((try simp only [LN] at *) <;> omega))); (focus (exact fun _ => rfl))) | exact rfl | ((apply Z.fq_osl); (focus (exact rfl)); (focus (first | exact rfl | (simp only [List.length_map, Nat.zero_add]; done) | ((try simp only [LN] at *) <;> omega))); (focus (exact fun _ => rfl))) | ((apply Z.fq_src); (focus (exact rfl)); (focus (first | exact rfl | (simp only [List.length_map, Nat.zero_add]; done) | ((try simp only [LN] at *) <;> omega))); (focus (exact fun _ => rfl))) | (apply Z.fq_ro) | (apply Z.fq_int) | (apply Z.fq_bool) | apply And.intro)); (all_goals (try exact (fun _ => none))); all_goals (rfl))
    | (fail)

theorem cloneE_con : Con Try.prog 39 [.one (.ro false 3 (([] : List Kp).map eK))] (fun rx rK rt => rx = .c (.ro true 3 (([] : List Kp).map eK)) ∧ rK = [] ∧ rt = 0) := Z.con_nilcases (fun _ => clonen_con) (fun _ ad cap => clonee_con ad cap) (fun r rs h => by cases h)
theorem mark_bad (keep number : Int) (l : List Kp) (hl : l.length ≤ 9223372036854775807) (hk : okS keep l = false) : Con Try.prog 18 [.agg [.v (.int .i64 keep), .ro false 3 (l.map eK)], .one (.v (.int .u64 number))] (fun rx rK rt => rx = .tup [.agg [.v (.int .i64 0), .ro true 3 ((([] : List Kp)).map eK)], .one (.v (.int .i64 330))] ∧ rK = [] ∧ rt = 0) := by
  refine Z.con_ofF tabOk 18 Try.f18 _ Try.func18 (by kernel_rfl) rfl rfl rfl rfl ?_
  repeat' ((conv => whnf); first
    | with_reducible first | refine spB_t ?_
    | ((with_reducible apply spB_cong); (focus (simp only [beq_self_eq_true, bne_self_eq_false, Bool.true_bne, Bool.false_bne, Bool.bne_true, Bool.bne_false, Bool.true_beq, Bool.false_beq, Bool.not_true, Bool.not_false, Bool.not_not, Int.reduceBEq, Int.reduceBNe, Int.reduceLE, Int.reduceLT, Int.reduceEq, decide_true, decide_false, hk, cond_false]; rfl)))
    | with_reducible first | refine spB_yes (by decide) ?_ | refine spB_no (by decide) ?_ | refine spB_f ?_ | refine spB_not ?_ | refine spB_yes (by assumption) ?_ | refine spB_no (by assumption) ?_
    | (with_reducible refine spB_dec ?_ ?_ <;> intro _ <;> (try (exfalso; first | contradiction | omega | (simp only [LN] at *; omega))))
    | (with_reducible refine spB_beq ?_ ?_ <;> intro _ <;> (try (exfalso; first | contradiction | omega | (simp only [LN] at *; omega))))
    | (with_reducible refine spB_bne ?_ ?_ <;> intro _ <;> (try (exfalso; first | contradiction | omega | (simp only [LN] at *; omega))))
    | (with_reducible refine spB_mk ?_ ?_ <;> intro _ <;> (try (exfalso; first | contradiction | omega | (simp only [LN] at *; omega))))
    | ((with_reducible refine Z.callZ_cap ?_); intro capv hcapv)
    | ((with_reducible refine posE_pos ?_ ?_); (focus ((try simp only [LN] at *) <;> omega)))
    | ((with_reducible refine posE_nil ?_ ?_); (focus rfl))
    | ((with_reducible apply rowN_mk); (focus rfl))
    | ((with_reducible apply ixN_lit); (focus (exact rfl)); (focus (exact rfl)))
    | ((with_reducible apply ixN_litp); (focus (exact rfl)); (focus ((try simp only [LN] at *) <;> omega)))
    | ((with_reducible refine eqN_mk2 ?_ ?_); (focus rfl))
    | ((with_reducible refine posN_mk2 ?_ ?_); (focus (first | decide | ((try simp only [LN] at *) <;> omega))))
    | ((with_reducible refine apdE_r ?_); (with_reducible refine aprN.mk ⟨_, rfl, ?_⟩ ?_ ?_ ?_ ?_); (focus ((try simp only [LN] at *) <;> omega)); (focus (first | rfl | (simp; done) | ((try simp only [LN] at *) <;> omega))); (focus (first | exact one_all (by rfl) | exact one_map (fun _ => rfl) | exact one_map2 (fun _ => rfl) | exact one_drop (fun _ => rfl))); (focus ((try simp only [LN] at *) <;> omega)))
    | with_reducible first | refine apdE_n ?_
    | ((with_reducible refine slE_a ?_ ?_); (focus ((try simp only [LN] at *) <;> omega)))
    | ((with_reducible refine slE_b ?_ ?_); (focus ((try simp only [LN] at *) <;> omega)))
    | ((with_reducible refine slE_split ?_ ?_ ?_); (focus ((try simp only [LN] at *) <;> omega)); (all_goals intro _))
    | ((with_reducible apply sl3N_mk); (focus (exact rfl)); (focus (exact rfl)); (focus (exact rfl)); (focus ((try simp only [LN] at *) <;> omega)); (focus ((try simp only [LN] at *) <;> omega)); (focus ((try simp only [LN] at *) <;> omega)); (focus ((try simp only [LN] at *) <;> omega)))
    | ((with_reducible refine clrN_mk ?_ ?_ ?_); (focus ((try simp only [LN] at *) <;> omega)); (focus rfl))
    | ((with_reducible refine apdN.mk ?_ ?_ ?_ ?_ ?_ ?_); (focus (first | rfl | (simp; done))); (focus (first | exact one_all (by rfl) | exact one_map (fun _ => rfl) | exact one_map2 (fun _ => rfl))); (focus ((try simp only [LN] at *) <;> omega)); (focus ((try simp only [LN] at *) <;> omega)); (focus ((try simp only [LN] at *) <;> omega)))
    | with_reducible refine wr_i64 (by first | omega | (simp only [LN] at *; omega)) ?_
    | with_reducible refine wr_u64 (by omega) ?_
    | with_reducible refine wr_u8 (by omega) ?_
    | with_reducible refine wr_u32 (by omega) ?_
    | with_reducible first | refine wr_mk _ rfl ?_
    | ((with_reducible refine ixN_nat ?_ ?_); (focus ((try simp only [LN] at *) <;> omega)))
    | ((with_reducible refine rowN_map ?_ ?_); (focus ((try simp only [LN] at *) <;> omega)); intro x hx)
    | ((with_reducible refine posE_nil (by rfl) ?_))
    | ((with_reducible refine posE_pos (by decide) ?_))
    | with_reducible refine eqN_dec (by omega) ?_
    | with_reducible first | refine apN_mk (by kernel_rfl) ?_ | refine Z.callZ_in tabOk 15 Try.f32 _ Try.func32 (by kernel_rfl) rfl rfl rfl ?_ | refine Z.callZ_in tabOk 10 Try.f37 _ Try.func37 (by kernel_rfl) rfl rfl rfl ?_ | refine Z.callZ_in tabOk 62 Try.f27 _ Try.func27 (by kernel_rfl) rfl rfl rfl ?_ | refine Z.callZ_in tabOk 25 Try.f44 _ Try.func44 (by kernel_rfl) rfl rfl rfl ?_ | refine Z.callZ_in tabOk 4 Try.f40 _ Try.func40 (by kernel_rfl) rfl rfl rfl ?_ | refine Z.callZ_in tabOk 33 Try.f41 _ Try.func41 (by kernel_rfl) rfl rfl rfl ?_ | refine Z.callZ_in tabOk 28 Try.f42 _ Try.func42 (by kernel_rfl) rfl rfl rfl ?_ | refine Z.callZ_in tabOk 26 Try.f48 _ Try.func48 (by kernel_rfl) rfl rfl rfl ?_ | refine Z.callZ_in tabOk 4 Try.f49 _ Try.func49 (by kernel_rfl) rfl rfl rfl ?_ | refine Z.callZ_in tabOk 19 Try.f52 _ Try.func52 (by kernel_rfl) rfl rfl rfl ?_
    | ((first | (with_reducible apply Z.conZ_mz ?_ (cf) ?_) | (with_reducible apply Z.callZ_mk ?_ (cf) ?_)); (focus ((repeat' (first | exact trivial | exact rfl | exact Z.low_nil | exact Z.low_nil2 | exact low_osl (fun _ => rfl) | (refine Z.low_osln ?_ (fun _ => rfl); (simp only [List.length_map]; done)) | exact low_oslr (fun _ => rfl) | exact Z.low_gslm (by first | rfl | exact Z.kb_some rfl) (fun _ => rfl) | exact .inl rfl | exact .inr ⟨_, rfl⟩ | apply And.intro)); done)))
    | ((first | (with_reducible apply Z.conZ_mz ?_ (plain_con _) ?_) | (with_reducible apply Z.callZ_mk ?_ (plain_con _) ?_)); (rotate_left 1); (focus ((repeat' (first | exact trivial | exact rfl | exact Z.low_nil | exact Z.low_nil2 | exact low_osl (fun _ => rfl) | (refine Z.low_osln ?_ (fun _ => rfl); (simp only [List.length_map]; done)) | exact low_oslr (fun _ => rfl) | exact Z.low_gslm (by first | rfl | exact Z.kb_some rfl) (fun _ => rfl) | exact .inl rfl | exact .inr ⟨_, rfl⟩ | apply And.intro)); done)))
    | ((first | (with_reducible apply Z.conZ_mz ?_ (cloneL_con _ ?_ ?_) ?_) | (with_reducible apply Z.callZ_mk ?_ (cloneL_con _ ?_ ?_) ?_)); (rotate_left 1); (focus ((repeat' (first | exact trivial | exact rfl | exact Z.low_nil | exact Z.low_nil2 | exact low_osl (fun _ => rfl) | (refine Z.low_osln ?_ (fun _ => rfl); (simp only [List.length_map]; done)) | exact low_oslr (fun _ => rfl) | exact Z.low_gslm (by first | rfl | exact Z.kb_some rfl) (fun _ => rfl) | exact .inl rfl | exact .inr ⟨_, rfl⟩ | apply And.intro)); done)); (iterate 2 (focus (first | assumption | omega | ((try simp only [LN] at *); omega)))))
    | ((first | (with_reducible apply Z.conZ_mz ?_ (check_con _ _ ?_) ?_) | (with_reducible apply Z.callZ_mk ?_ (check_con _ _ ?_) ?_)); (rotate_left 2); (focus ((repeat' (first | exact trivial | exact rfl | exact Z.low_nil | exact Z.low_nil2 | exact low_osl (fun _ => rfl) | (refine Z.low_osln ?_ (fun _ => rfl); (simp only [List.length_map]; done)) | exact low_oslr (fun _ => rfl) | exact Z.low_gslm (by first | rfl | exact Z.kb_some rfl) (fun _ => rfl) | exact .inl rfl | exact .inr ⟨_, rfl⟩ | apply And.intro)); done)); (iterate 1 (focus (first | assumption | omega | ((try simp only [LN] at *); omega)))))
    | ((with_reducible refine eqN_mk2 ?_ ?_); (focus (exact Z.kb_some rfl)))
    | ((with_reducible apply ex_and); exact rfl)
    | ((with_reducible refine Z.rngN.mk ?_); (try subst hlb))
    | ((with_reducible refine Z.CallZ.yl ?_); refine Z.yield_rule tabOk _ _ rfl rfl rfl rfl ?_)
    | ((with_reducible refine Z.CallZ.yl ?_); subst hlb; refine Z.yield_rule tabOk _ _ rfl rfl rfl rfl ?_)
    | ((with_reducible refine Z.RangeZ.red ?_); (refine Z.range_rule [(2, _), (4, _), (8, _), (10, _), (11, _), (35, _)] rfl ⟨rfl, rfl, rfl, rfl, rfl, rfl, trivial⟩ rfl rfl ?_); intro lb hlb)
    | ((with_reducible refine Z.RangeZ.red ?_); (refine Z.range_rule [(2, _), (3, _), (10, _)] rfl ⟨rfl, rfl, rfl, trivial⟩ rfl rfl ?_); intro lb hlb)
    | with_reducible first | refine Z.drawZ_rule tabOk mixOk ?_ | refine Z.apZ_mk (by kernel_rfl) ?_
    | ((with_reducible refine Z.ConZ.red ?_); (try subst hlb); (apply Z.conZ_all); (focus (repeat (first | exact Z.FK.nil | (apply Z.FK.keep; exact rfl)))); (focus rfl); (focus rfl); (focus (repeat (first | exact trivial | (refine ⟨(fun o ho => (by first | (cases ho; rfl) | (cases ho; exact Z.inL_map fun _ => rfl) | (cases ho; exact Z.inL_mapr fun _ => rfl) | exact Z.inL_gB ho fun _ => rfl)), ?_⟩)))))
    | ((refine ⟨rfl, ?_, rfl⟩); (focus (repeat (first | exact Z.DK.nil | apply Z.DK.cons))))
    | (focus (exact (rfl : Nat.ble _ _ = true))))
  all_goals (try (conv => whnf))
  all_goals try (show Nat.ble _ _ = true; rfl)
  all_goals first
    | ((first | (with_reducible apply Z.retF1) | (with_reducible apply Z.retF2) | (with_reducible apply Z.retF0)); (focus (exact rfl)); (repeat' (first | exact trivial | (with_reducible apply Z.frz_one) | (with_reducible apply Z.frz_agg) | (with_reducible apply Z.fq_int) | (with_reducible apply Z.fq_bool) | (exact Z.frz_nil) | (exact Z.frz_osl0 rfl rfl rfl) | (with_reducible apply Z.fq_nil) | (with_reducible apply Z.fq_ro) | ((with_reducible apply Z.fq_gsl); (focus (first | rfl | exact Z.isB_map _ | exact Z.gB_snoc.symm)); (focus (exact fun _ => rfl))) | ((with_reducible apply Z.fq_osl); (focus (exact rfl)); (focus (first | exact rfl | (simp only [List.length_map, Nat.zero_add]; done) | ((try simp only [LN] at *) <;> omega))); (focus (exact fun _ => rfl))) | ((with_reducible apply Z.fq_src); (focus (exact rfl)); (focus (first | exact rfl | (simp only [List.length_map, Nat.zero_add]; done) | ((try simp only [LN] at *) <;> omega))); (focus (exact fun _ => rfl))) | exact rfl | ((apply Z.fq_osl); (focus (exact rfl)); (focus (first | exact rfl | (simp only [List.length_map, Nat.zero_add]; done) | ((try simp only [LN] at *) <;> omega))); (focus (exact fun _ => rfl))) | ((apply Z.fq_src); (focus (exact rfl)); (focus (first | exact rfl | (simp only [List.length_map, Nat.zero_add]; done) | ((try simp only [LN] at *) <;> omega))); (focus (exact fun _ => rfl))) | (apply Z.fq_ro) | (apply Z.fq_int) | (apply Z.fq_bool) | apply And.intro)); (all_goals (try exact (fun _ => none))); all_goals (first | rfl | (rw [hk]; rfl)))
    | (exfalso; simp_all; done)
    | (fail)

theorem mark_none (keep number : Int) (l : List Kp) (hl : l.length ≤ 16) (hk : okS keep l = true) (hne : l ≠ []) (ha : anyN number l = false) : Con Try.prog 18 [.agg [.v (.int .i64 keep), .ro false 3 (l.map eK)], .one (.v (.int .u64 number))] (fun rx rK rt => rx = .tup [.agg [.v (.int .i64 0), .ro true 3 ((([] : List Kp)).map eK)], .one (.v (.int .i64 4))] ∧ rK = [] ∧ rt = 0) := by
  refine Z.con_ofF tabOk 18 Try.f18 _ Try.func18 (by kernel_rfl) rfl rfl rfl rfl ?_
  have cf := find_n keep number l (by omega) ha
  repeat' ((conv => whnf); first
    | with_reducible first | refine spB_t ?_
    | ((with_reducible apply spB_cong); (focus (simp only [beq_self_eq_true, bne_self_eq_false, Bool.true_bne, Bool.false_bne, Bool.bne_true, Bool.bne_false, Bool.true_beq, Bool.false_beq, Bool.not_true, Bool.not_false, Bool.not_not, Int.reduceBEq, Int.reduceBNe, Int.reduceLE, Int.reduceLT, Int.reduceEq, decide_true, decide_false, hk, cond_true]; rfl)))
    | with_reducible first | refine spB_yes (by decide) ?_ | refine spB_no (by decide) ?_ | refine spB_f ?_ | refine spB_not ?_ | refine spB_yes (by assumption) ?_ | refine spB_no (by assumption) ?_
    | (with_reducible refine spB_dec ?_ ?_ <;> intro _ <;> (try (exfalso; first | contradiction | omega | (simp only [LN] at *; omega))))
    | (with_reducible refine spB_beq ?_ ?_ <;> intro _ <;> (try (exfalso; first | contradiction | omega | (simp only [LN] at *; omega))))
    | (with_reducible refine spB_bne ?_ ?_ <;> intro _ <;> (try (exfalso; first | contradiction | omega | (simp only [LN] at *; omega))))
    | (with_reducible refine spB_mk ?_ ?_ <;> intro _ <;> (try (exfalso; first | contradiction | omega | (simp only [LN] at *; omega))))
    | ((with_reducible refine Z.callZ_cap ?_); intro capv hcapv)
    | ((with_reducible refine posE_pos ?_ ?_); (focus ((try simp only [LN] at *) <;> omega)))
    | ((with_reducible refine posE_nil ?_ ?_); (focus rfl))
    | ((with_reducible apply rowN_mk); (focus rfl))
    | ((with_reducible apply ixN_lit); (focus (exact rfl)); (focus (exact rfl)))
    | ((with_reducible apply ixN_litp); (focus (exact rfl)); (focus ((try simp only [LN] at *) <;> omega)))
    | ((with_reducible refine eqN_mk2 ?_ ?_); (focus rfl))
    | ((with_reducible refine posN_mk2 ?_ ?_); (focus (first | decide | ((try simp only [LN] at *) <;> omega))))
    | ((with_reducible refine apdE_r ?_); (with_reducible refine aprN.mk ⟨_, rfl, ?_⟩ ?_ ?_ ?_ ?_); (focus ((try simp only [LN] at *) <;> omega)); (focus (first | rfl | (simp; done) | ((try simp only [LN] at *) <;> omega))); (focus (first | exact one_all (by rfl) | exact one_map (fun _ => rfl) | exact one_map2 (fun _ => rfl) | exact one_drop (fun _ => rfl))); (focus ((try simp only [LN] at *) <;> omega)))
    | with_reducible first | refine apdE_n ?_
    | ((with_reducible refine slE_a ?_ ?_); (focus ((try simp only [LN] at *) <;> omega)))
    | ((with_reducible refine slE_b ?_ ?_); (focus ((try simp only [LN] at *) <;> omega)))
    | ((with_reducible refine slE_split ?_ ?_ ?_); (focus ((try simp only [LN] at *) <;> omega)); (all_goals intro _))
    | ((with_reducible apply sl3N_mk); (focus (exact rfl)); (focus (exact rfl)); (focus (exact rfl)); (focus ((try simp only [LN] at *) <;> omega)); (focus ((try simp only [LN] at *) <;> omega)); (focus ((try simp only [LN] at *) <;> omega)); (focus ((try simp only [LN] at *) <;> omega)))
    | ((with_reducible refine clrN_mk ?_ ?_ ?_); (focus ((try simp only [LN] at *) <;> omega)); (focus rfl))
    | ((with_reducible refine apdN.mk ?_ ?_ ?_ ?_ ?_ ?_); (focus (first | rfl | (simp; done))); (focus (first | exact one_all (by rfl) | exact one_map (fun _ => rfl) | exact one_map2 (fun _ => rfl))); (focus ((try simp only [LN] at *) <;> omega)); (focus ((try simp only [LN] at *) <;> omega)); (focus ((try simp only [LN] at *) <;> omega)))
    | with_reducible refine wr_i64 (by first | omega | (simp only [LN] at *; omega)) ?_
    | with_reducible refine wr_u64 (by omega) ?_
    | with_reducible refine wr_u8 (by omega) ?_
    | with_reducible refine wr_u32 (by omega) ?_
    | with_reducible first | refine wr_mk _ rfl ?_
    | ((with_reducible refine ixN_nat ?_ ?_); (focus ((try simp only [LN] at *) <;> omega)))
    | ((with_reducible refine rowN_map ?_ ?_); (focus ((try simp only [LN] at *) <;> omega)); intro x hx)
    | ((with_reducible refine posE_nil (by rfl) ?_))
    | ((with_reducible refine posE_pos (by decide) ?_))
    | with_reducible refine eqN_dec (by omega) ?_
    | with_reducible first | refine apN_mk (by kernel_rfl) ?_ | refine Z.callZ_in tabOk 15 Try.f32 _ Try.func32 (by kernel_rfl) rfl rfl rfl ?_ | refine Z.callZ_in tabOk 10 Try.f37 _ Try.func37 (by kernel_rfl) rfl rfl rfl ?_ | refine Z.callZ_in tabOk 62 Try.f27 _ Try.func27 (by kernel_rfl) rfl rfl rfl ?_ | refine Z.callZ_in tabOk 25 Try.f44 _ Try.func44 (by kernel_rfl) rfl rfl rfl ?_ | refine Z.callZ_in tabOk 4 Try.f40 _ Try.func40 (by kernel_rfl) rfl rfl rfl ?_ | refine Z.callZ_in tabOk 33 Try.f41 _ Try.func41 (by kernel_rfl) rfl rfl rfl ?_ | refine Z.callZ_in tabOk 28 Try.f42 _ Try.func42 (by kernel_rfl) rfl rfl rfl ?_ | refine Z.callZ_in tabOk 26 Try.f48 _ Try.func48 (by kernel_rfl) rfl rfl rfl ?_ | refine Z.callZ_in tabOk 4 Try.f49 _ Try.func49 (by kernel_rfl) rfl rfl rfl ?_ | refine Z.callZ_in tabOk 19 Try.f52 _ Try.func52 (by kernel_rfl) rfl rfl rfl ?_
    | ((first | (with_reducible apply Z.conZ_mz ?_ (cf) ?_) | (with_reducible apply Z.callZ_mk ?_ (cf) ?_)); (focus ((repeat' (first | exact trivial | exact rfl | exact Z.low_nil | exact Z.low_nil2 | exact low_osl (fun _ => rfl) | (refine Z.low_osln ?_ (fun _ => rfl); (simp only [List.length_map]; done)) | exact low_oslr (fun _ => rfl) | exact Z.low_gslm (by first | rfl | exact Z.kb_some rfl) (fun _ => rfl) | exact .inl rfl | exact .inr ⟨_, rfl⟩ | apply And.intro)); done)))
    | ((first | (with_reducible apply Z.conZ_mz ?_ (plain_con _) ?_) | (with_reducible apply Z.callZ_mk ?_ (plain_con _) ?_)); (rotate_left 1); (focus ((repeat' (first | exact trivial | exact rfl | exact Z.low_nil | exact Z.low_nil2 | exact low_osl (fun _ => rfl) | (refine Z.low_osln ?_ (fun _ => rfl); (simp only [List.length_map]; done)) | exact low_oslr (fun _ => rfl) | exact Z.low_gslm (by first | rfl | exact Z.kb_some rfl) (fun _ => rfl) | exact .inl rfl | exact .inr ⟨_, rfl⟩ | apply And.intro)); done)))
    | ((first | (with_reducible apply Z.conZ_mz ?_ (cloneL_con _ ?_ ?_) ?_) | (with_reducible apply Z.callZ_mk ?_ (cloneL_con _ ?_ ?_) ?_)); (rotate_left 1); (focus ((repeat' (first | exact trivial | exact rfl | exact Z.low_nil | exact Z.low_nil2 | exact low_osl (fun _ => rfl) | (refine Z.low_osln ?_ (fun _ => rfl); (simp only [List.length_map]; done)) | exact low_oslr (fun _ => rfl) | exact Z.low_gslm (by first | rfl | exact Z.kb_some rfl) (fun _ => rfl) | exact .inl rfl | exact .inr ⟨_, rfl⟩ | apply And.intro)); done)); (iterate 2 (focus (first | assumption | omega | ((try simp only [LN] at *); omega)))))
    | ((first | (with_reducible apply Z.conZ_mz ?_ (check_con _ _ ?_) ?_) | (with_reducible apply Z.callZ_mk ?_ (check_con _ _ ?_) ?_)); (rotate_left 2); (focus ((repeat' (first | exact trivial | exact rfl | exact Z.low_nil | exact Z.low_nil2 | exact low_osl (fun _ => rfl) | (refine Z.low_osln ?_ (fun _ => rfl); (simp only [List.length_map]; done)) | exact low_oslr (fun _ => rfl) | exact Z.low_gslm (by first | rfl | exact Z.kb_some rfl) (fun _ => rfl) | exact .inl rfl | exact .inr ⟨_, rfl⟩ | apply And.intro)); done)); (iterate 1 (focus (first | assumption | omega | ((try simp only [LN] at *); omega)))))
    | ((with_reducible refine eqN_mk2 ?_ ?_); (focus (exact Z.kb_some rfl)))
    | ((with_reducible apply ex_and); exact rfl)
    | ((with_reducible refine Z.rngN.mk ?_); (try subst hlb))
    | ((with_reducible refine Z.CallZ.yl ?_); refine Z.yield_rule tabOk _ _ rfl rfl rfl rfl ?_)
    | ((with_reducible refine Z.CallZ.yl ?_); subst hlb; refine Z.yield_rule tabOk _ _ rfl rfl rfl rfl ?_)
    | ((with_reducible refine Z.RangeZ.red ?_); (refine Z.range_rule [(2, _), (4, _), (8, _), (10, _), (11, _), (35, _)] rfl ⟨rfl, rfl, rfl, rfl, rfl, rfl, trivial⟩ rfl rfl ?_); intro lb hlb)
    | ((with_reducible refine Z.RangeZ.red ?_); (refine Z.range_rule [(2, _), (3, _), (10, _)] rfl ⟨rfl, rfl, rfl, trivial⟩ rfl rfl ?_); intro lb hlb)
    | with_reducible first | refine Z.drawZ_rule tabOk mixOk ?_ | refine Z.apZ_mk (by kernel_rfl) ?_
    | ((with_reducible refine Z.ConZ.red ?_); (try subst hlb); (apply Z.conZ_all); (focus (repeat (first | exact Z.FK.nil | (apply Z.FK.keep; exact rfl)))); (focus rfl); (focus rfl); (focus (repeat (first | exact trivial | (refine ⟨(fun o ho => (by first | (cases ho; rfl) | (cases ho; exact Z.inL_map fun _ => rfl) | (cases ho; exact Z.inL_mapr fun _ => rfl) | exact Z.inL_gB ho fun _ => rfl)), ?_⟩)))))
    | ((refine ⟨rfl, ?_, rfl⟩); (focus (repeat (first | exact Z.DK.nil | apply Z.DK.cons))))
    | (focus (exact (rfl : Nat.ble _ _ = true))))
  all_goals (try (conv => whnf))
  all_goals try (show Nat.ble _ _ = true; rfl)
  all_goals first
    | ((first | (with_reducible apply Z.retF1) | (with_reducible apply Z.retF2) | (with_reducible apply Z.retF0)); (focus (exact rfl)); (repeat' (first | exact trivial | (with_reducible apply Z.frz_one) | (with_reducible apply Z.frz_agg) | (with_reducible apply Z.fq_int) | (with_reducible apply Z.fq_bool) | (exact Z.frz_nil) | (exact Z.frz_osl0 rfl rfl rfl) | (with_reducible apply Z.fq_nil) | (with_reducible apply Z.fq_ro) | ((with_reducible apply Z.fq_gsl); (focus (first | rfl | exact Z.isB_map _ | exact Z.gB_snoc.symm)); (focus (exact fun _ => rfl))) | ((with_reducible apply Z.fq_osl); (focus (exact rfl)); (focus (first | exact rfl | (simp only [List.length_map, Nat.zero_add]; done) | ((try simp only [LN] at *) <;> omega))); (focus (exact fun _ => rfl))) | ((with_reducible apply Z.fq_src); (focus (exact rfl)); (focus (first | exact rfl | (simp only [List.length_map, Nat.zero_add]; done) | ((try simp only [LN] at *) <;> omega))); (focus (exact fun _ => rfl))) | exact rfl | ((apply Z.fq_osl); (focus (exact rfl)); (focus (first | exact rfl | (simp only [List.length_map, Nat.zero_add]; done) | ((try simp only [LN] at *) <;> omega))); (focus (exact fun _ => rfl))) | ((apply Z.fq_src); (focus (exact rfl)); (focus (first | exact rfl | (simp only [List.length_map, Nat.zero_add]; done) | ((try simp only [LN] at *) <;> omega))); (focus (exact fun _ => rfl))) | (apply Z.fq_ro) | (apply Z.fq_int) | (apply Z.fq_bool) | apply And.intro)); (all_goals (try exact (fun _ => none))); all_goals (first | rfl | (rw [hk]; rfl)))
    | (exfalso; simp_all; done)
    | (fail)

theorem mark_no (keep number : Int) (l : List Kp) (i : Nat) (q : Kp) (hl : l.length ≤ 16) (hk : okS keep l = true) (hne : l ≠ []) (ha : anyN number l = true) (hi : idxN number l = i) (hq : l[i]? = some q) (hs : q.save = true) : Con Try.prog 18 [.agg [.v (.int .i64 keep), .ro false 3 (l.map eK)], .one (.v (.int .u64 number))] (fun rx rK rt => rx = .tup [.agg [.v (.int .i64 0), .ro true 3 ((([] : List Kp)).map eK)], .one (.v (.int .i64 5))] ∧ rK = [] ∧ rt = 0) := by
  refine Z.con_ofF tabOk 18 Try.f18 _ Try.func18 (by kernel_rfl) rfl rfl rfl rfl ?_
  have hil : i < l.length := (List.getElem?_eq_some_iff.1 hq).1
  have cf := find_t keep number l (by omega) i hi ha
  repeat' ((conv => whnf); first
    | with_reducible first | refine spB_t ?_
    | ((with_reducible apply spB_cong); (focus (simp only [beq_self_eq_true, bne_self_eq_false, Bool.true_bne, Bool.false_bne, Bool.bne_true, Bool.bne_false, Bool.true_beq, Bool.false_beq, Bool.not_true, Bool.not_false, Bool.not_not, Int.reduceBEq, Int.reduceBNe, Int.reduceLE, Int.reduceLT, Int.reduceEq, decide_true, decide_false, hk, cond_true, hs]; rfl)))
    | with_reducible first | refine spB_yes (by decide) ?_ | refine spB_no (by decide) ?_ | refine spB_f ?_ | refine spB_not ?_ | refine spB_yes (by assumption) ?_ | refine spB_no (by assumption) ?_
    | (with_reducible refine spB_dec ?_ ?_ <;> intro _ <;> (try (exfalso; first | contradiction | omega | (simp only [LN] at *; omega))))
    | (with_reducible refine spB_beq ?_ ?_ <;> intro _ <;> (try (exfalso; first | contradiction | omega | (simp only [LN] at *; omega))))
    | (with_reducible refine spB_bne ?_ ?_ <;> intro _ <;> (try (exfalso; first | contradiction | omega | (simp only [LN] at *; omega))))
    | (with_reducible refine spB_mk ?_ ?_ <;> intro _ <;> (try (exfalso; first | contradiction | omega | (simp only [LN] at *; omega))))
    | ((with_reducible refine Z.callZ_cap ?_); intro capv hcapv)
    | ((with_reducible refine rowN_mk (cK q) ?_ ?_); (focus (exact ren_row hq)))
    | ((with_reducible refine rowN_mk (cK q) ?_ ?_); (focus (show (List.map cK l)[0 + i]? = some (cK q); rw [Nat.zero_add, List.getElem?_map, hq]; rfl)))
    | ((with_reducible refine posE_pos ?_ ?_); (focus ((try simp only [LN] at *) <;> omega)))
    | ((with_reducible refine posE_nil ?_ ?_); (focus rfl))
    | ((with_reducible apply rowN_mk); (focus rfl))
    | ((with_reducible apply ixN_lit); (focus (exact rfl)); (focus (exact rfl)))
    | ((with_reducible apply ixN_litp); (focus (exact rfl)); (focus ((try simp only [LN] at *) <;> omega)))
    | ((with_reducible refine eqN_mk2 ?_ ?_); (focus rfl))
    | ((with_reducible refine posN_mk2 ?_ ?_); (focus (first | decide | ((try simp only [LN] at *) <;> omega))))
    | ((with_reducible refine apdE_r ?_); (with_reducible refine aprN.mk ⟨_, rfl, ?_⟩ ?_ ?_ ?_ ?_); (focus ((try simp only [LN] at *) <;> omega)); (focus (first | rfl | (simp; done) | ((try simp only [LN] at *) <;> omega))); (focus (first | exact one_all (by rfl) | exact one_map (fun _ => rfl) | exact one_map2 (fun _ => rfl) | exact one_drop (fun _ => rfl))); (focus ((try simp only [LN] at *) <;> omega)))
    | with_reducible first | refine apdE_n ?_
    | ((with_reducible refine slE_a ?_ ?_); (focus ((try simp only [LN] at *) <;> omega)))
    | ((with_reducible refine slE_b ?_ ?_); (focus ((try simp only [LN] at *) <;> omega)))
    | ((with_reducible refine slE_split ?_ ?_ ?_); (focus ((try simp only [LN] at *) <;> omega)); (all_goals intro _))
    | ((with_reducible apply sl3N_mk); (focus (exact rfl)); (focus (exact rfl)); (focus (exact rfl)); (focus ((try simp only [LN] at *) <;> omega)); (focus ((try simp only [LN] at *) <;> omega)); (focus ((try simp only [LN] at *) <;> omega)); (focus ((try simp only [LN] at *) <;> omega)))
    | ((with_reducible refine clrN_mk ?_ ?_ ?_); (focus ((try simp only [LN] at *) <;> omega)); (focus rfl))
    | ((with_reducible refine apdN.mk ?_ ?_ ?_ ?_ ?_ ?_); (focus (first | rfl | (simp; done))); (focus (first | exact one_all (by rfl) | exact one_map (fun _ => rfl) | exact one_map2 (fun _ => rfl))); (focus ((try simp only [LN] at *) <;> omega)); (focus ((try simp only [LN] at *) <;> omega)); (focus ((try simp only [LN] at *) <;> omega)))
    | with_reducible refine wr_i64 (by first | omega | (simp only [LN] at *; omega)) ?_
    | with_reducible refine wr_u64 (by omega) ?_
    | with_reducible refine wr_u8 (by omega) ?_
    | with_reducible refine wr_u32 (by omega) ?_
    | with_reducible first | refine wr_mk _ rfl ?_
    | ((with_reducible refine ixN_nat ?_ ?_); (focus ((try simp only [LN] at *) <;> omega)))
    | ((with_reducible refine rowN_map ?_ ?_); (focus ((try simp only [LN] at *) <;> omega)); intro x hx)
    | ((with_reducible refine posE_nil (by rfl) ?_))
    | ((with_reducible refine posE_pos (by decide) ?_))
    | with_reducible refine eqN_dec (by omega) ?_
    | with_reducible first | refine apN_mk (by kernel_rfl) ?_ | refine Z.callZ_in tabOk 15 Try.f32 _ Try.func32 (by kernel_rfl) rfl rfl rfl ?_ | refine Z.callZ_in tabOk 10 Try.f37 _ Try.func37 (by kernel_rfl) rfl rfl rfl ?_ | refine Z.callZ_in tabOk 62 Try.f27 _ Try.func27 (by kernel_rfl) rfl rfl rfl ?_ | refine Z.callZ_in tabOk 25 Try.f44 _ Try.func44 (by kernel_rfl) rfl rfl rfl ?_ | refine Z.callZ_in tabOk 4 Try.f40 _ Try.func40 (by kernel_rfl) rfl rfl rfl ?_ | refine Z.callZ_in tabOk 33 Try.f41 _ Try.func41 (by kernel_rfl) rfl rfl rfl ?_ | refine Z.callZ_in tabOk 28 Try.f42 _ Try.func42 (by kernel_rfl) rfl rfl rfl ?_ | refine Z.callZ_in tabOk 26 Try.f48 _ Try.func48 (by kernel_rfl) rfl rfl rfl ?_ | refine Z.callZ_in tabOk 4 Try.f49 _ Try.func49 (by kernel_rfl) rfl rfl rfl ?_ | refine Z.callZ_in tabOk 19 Try.f52 _ Try.func52 (by kernel_rfl) rfl rfl rfl ?_
    | ((first | (with_reducible apply Z.conZ_mz ?_ (cf) ?_) | (with_reducible apply Z.callZ_mk ?_ (cf) ?_)); (focus ((repeat' (first | exact trivial | exact rfl | exact Z.low_nil | exact Z.low_nil2 | exact low_osl (fun _ => rfl) | (refine Z.low_osln ?_ (fun _ => rfl); (simp only [List.length_map]; done)) | exact low_oslr (fun _ => rfl) | exact Z.low_gslm (by first | rfl | exact Z.kb_some rfl) (fun _ => rfl) | exact .inl rfl | exact .inr ⟨_, rfl⟩ | apply And.intro)); done)))
    | ((first | (with_reducible apply Z.conZ_mz ?_ (plain_con _) ?_) | (with_reducible apply Z.callZ_mk ?_ (plain_con _) ?_)); (rotate_left 1); (focus ((repeat' (first | exact trivial | exact rfl | exact Z.low_nil | exact Z.low_nil2 | exact low_osl (fun _ => rfl) | (refine Z.low_osln ?_ (fun _ => rfl); (simp only [List.length_map]; done)) | exact low_oslr (fun _ => rfl) | exact Z.low_gslm (by first | rfl | exact Z.kb_some rfl) (fun _ => rfl) | exact .inl rfl | exact .inr ⟨_, rfl⟩ | apply And.intro)); done)))
    | ((first | (with_reducible apply Z.conZ_mz ?_ (cloneL_con _ ?_ ?_) ?_) | (with_reducible apply Z.callZ_mk ?_ (cloneL_con _ ?_ ?_) ?_)); (rotate_left 1); (focus ((repeat' (first | exact trivial | exact rfl | exact Z.low_nil | exact Z.low_nil2 | exact low_osl (fun _ => rfl) | (refine Z.low_osln ?_ (fun _ => rfl); (simp only [List.length_map]; done)) | exact low_oslr (fun _ => rfl) | exact Z.low_gslm (by first | rfl | exact Z.kb_some rfl) (fun _ => rfl) | exact .inl rfl | exact .inr ⟨_, rfl⟩ | apply And.intro)); done)); (iterate 2 (focus (first | assumption | omega | ((try simp only [LN] at *); omega)))))
    | ((first | (with_reducible apply Z.conZ_mz ?_ (check_con _ _ ?_) ?_) | (with_reducible apply Z.callZ_mk ?_ (check_con _ _ ?_) ?_)); (rotate_left 2); (focus ((repeat' (first | exact trivial | exact rfl | exact Z.low_nil | exact Z.low_nil2 | exact low_osl (fun _ => rfl) | (refine Z.low_osln ?_ (fun _ => rfl); (simp only [List.length_map]; done)) | exact low_oslr (fun _ => rfl) | exact Z.low_gslm (by first | rfl | exact Z.kb_some rfl) (fun _ => rfl) | exact .inl rfl | exact .inr ⟨_, rfl⟩ | apply And.intro)); done)); (iterate 1 (focus (first | assumption | omega | ((try simp only [LN] at *); omega)))))
    | ((with_reducible refine eqN_mk2 ?_ ?_); (focus (exact Z.kb_some rfl)))
    | ((with_reducible apply ex_and); exact rfl)
    | ((with_reducible refine Z.rngN.mk ?_); (try subst hlb))
    | ((with_reducible refine Z.CallZ.yl ?_); refine Z.yield_rule tabOk _ _ rfl rfl rfl rfl ?_)
    | ((with_reducible refine Z.CallZ.yl ?_); subst hlb; refine Z.yield_rule tabOk _ _ rfl rfl rfl rfl ?_)
    | ((with_reducible refine Z.RangeZ.red ?_); (refine Z.range_rule [(2, _), (4, _), (8, _), (10, _), (11, _), (35, _)] rfl ⟨rfl, rfl, rfl, rfl, rfl, rfl, trivial⟩ rfl rfl ?_); intro lb hlb)
    | ((with_reducible refine Z.RangeZ.red ?_); (refine Z.range_rule [(2, _), (3, _), (10, _)] rfl ⟨rfl, rfl, rfl, trivial⟩ rfl rfl ?_); intro lb hlb)
    | with_reducible first | refine Z.drawZ_rule tabOk mixOk ?_ | refine Z.apZ_mk (by kernel_rfl) ?_
    | ((with_reducible refine Z.ConZ.red ?_); (try subst hlb); (apply Z.conZ_all); (focus (repeat (first | exact Z.FK.nil | (apply Z.FK.keep; exact rfl)))); (focus rfl); (focus rfl); (focus (repeat (first | exact trivial | (refine ⟨(fun o ho => (by first | (cases ho; rfl) | (cases ho; exact Z.inL_map fun _ => rfl) | (cases ho; exact Z.inL_mapr fun _ => rfl) | exact Z.inL_gB ho fun _ => rfl)), ?_⟩)))))
    | ((refine ⟨rfl, ?_, rfl⟩); (focus (repeat (first | exact Z.DK.nil | apply Z.DK.cons))))
    | (focus (exact (rfl : Nat.ble _ _ = true))))
  all_goals (try (conv => whnf))
  all_goals try (show Nat.ble _ _ = true; rfl)
  all_goals first
    | ((first | (with_reducible apply Z.retF1) | (with_reducible apply Z.retF2) | (with_reducible apply Z.retF0)); (focus (exact rfl)); (repeat' (first | exact trivial | (with_reducible apply Z.frz_one) | (with_reducible apply Z.frz_agg) | (with_reducible apply Z.fq_int) | (with_reducible apply Z.fq_bool) | (exact Z.frz_nil) | (exact Z.frz_osl0 rfl rfl rfl) | (with_reducible apply Z.fq_nil) | (with_reducible apply Z.fq_ro) | ((with_reducible apply Z.fq_gsl); (focus (first | rfl | exact Z.isB_map _ | exact Z.gB_snoc.symm)); (focus (exact fun _ => rfl))) | ((with_reducible apply Z.fq_osl); (focus (exact rfl)); (focus (first | exact rfl | (simp only [List.length_map, Nat.zero_add]; done) | ((try simp only [LN] at *) <;> omega))); (focus (exact fun _ => rfl))) | ((with_reducible apply Z.fq_src); (focus (exact rfl)); (focus (first | exact rfl | (simp only [List.length_map, Nat.zero_add]; done) | ((try simp only [LN] at *) <;> omega))); (focus (exact fun _ => rfl))) | exact rfl | ((apply Z.fq_osl); (focus (exact rfl)); (focus (first | exact rfl | (simp only [List.length_map, Nat.zero_add]; done) | ((try simp only [LN] at *) <;> omega))); (focus (exact fun _ => rfl))) | ((apply Z.fq_src); (focus (exact rfl)); (focus (first | exact rfl | (simp only [List.length_map, Nat.zero_add]; done) | ((try simp only [LN] at *) <;> omega))); (focus (exact fun _ => rfl))) | (apply Z.fq_ro) | (apply Z.fq_int) | (apply Z.fq_bool) | apply And.intro)); (all_goals (try exact (fun _ => none))); all_goals (first | rfl | (rw [hk]; rfl)))
    | (exfalso; simp_all; done)
    | (fail)

theorem mark_emp (keep number : Int) (hk : okS keep [] = true) : Con Try.prog 18 [.agg [.v (.int .i64 keep), .ro false 3 (([] : List Kp).map eK)], .one (.v (.int .u64 number))] (fun rx rK rt => rx = .tup [.agg [.v (.int .i64 0), .ro true 3 ((([] : List Kp)).map eK)], .one (.v (.int .i64 4))] ∧ rK = [] ∧ rt = 0) := by
  refine Z.con_ofF tabOk 18 Try.f18 _ Try.func18 (by kernel_rfl) rfl rfl rfl rfl ?_
  have cf := find_n keep number [] (Nat.zero_le _) rfl
  repeat' ((conv => whnf); first
    | with_reducible first | refine spB_t ?_
    | ((with_reducible apply spB_cong); (focus (simp only [beq_self_eq_true, bne_self_eq_false, Bool.true_bne, Bool.false_bne, Bool.bne_true, Bool.bne_false, Bool.true_beq, Bool.false_beq, Bool.not_true, Bool.not_false, Bool.not_not, Int.reduceBEq, Int.reduceBNe, Int.reduceLE, Int.reduceLT, Int.reduceEq, decide_true, decide_false, hk, cond_true]; rfl)))
    | with_reducible first | refine spB_yes (by decide) ?_ | refine spB_no (by decide) ?_ | refine spB_f ?_ | refine spB_not ?_ | refine spB_yes (by assumption) ?_ | refine spB_no (by assumption) ?_
    | (with_reducible refine spB_dec ?_ ?_ <;> intro _ <;> (try (exfalso; first | contradiction | omega | (simp only [LN] at *; omega))))
    | (with_reducible refine spB_beq ?_ ?_ <;> intro _ <;> (try (exfalso; first | contradiction | omega | (simp only [LN] at *; omega))))
    | (with_reducible refine spB_bne ?_ ?_ <;> intro _ <;> (try (exfalso; first | contradiction | omega | (simp only [LN] at *; omega))))
    | (with_reducible refine spB_mk ?_ ?_ <;> intro _ <;> (try (exfalso; first | contradiction | omega | (simp only [LN] at *; omega))))
    | ((with_reducible refine Z.callZ_cap ?_); intro capv hcapv)
    | ((with_reducible refine posE_pos ?_ ?_); (focus ((try simp only [LN] at *) <;> omega)))
    | ((with_reducible refine posE_nil ?_ ?_); (focus rfl))
    | ((with_reducible apply rowN_mk); (focus rfl))
    | ((with_reducible apply ixN_lit); (focus (exact rfl)); (focus (exact rfl)))
    | ((with_reducible apply ixN_litp); (focus (exact rfl)); (focus ((try simp only [LN] at *) <;> omega)))
    | ((with_reducible refine eqN_mk2 ?_ ?_); (focus rfl))
    | ((with_reducible refine posN_mk2 ?_ ?_); (focus (first | decide | ((try simp only [LN] at *) <;> omega))))
    | ((with_reducible refine apdE_r ?_); (with_reducible refine aprN.mk ⟨_, rfl, ?_⟩ ?_ ?_ ?_ ?_); (focus ((try simp only [LN] at *) <;> omega)); (focus (first | rfl | (simp; done) | ((try simp only [LN] at *) <;> omega))); (focus (first | exact one_all (by rfl) | exact one_map (fun _ => rfl) | exact one_map2 (fun _ => rfl) | exact one_drop (fun _ => rfl))); (focus ((try simp only [LN] at *) <;> omega)))
    | with_reducible first | refine apdE_n ?_
    | ((with_reducible refine slE_a ?_ ?_); (focus ((try simp only [LN] at *) <;> omega)))
    | ((with_reducible refine slE_b ?_ ?_); (focus ((try simp only [LN] at *) <;> omega)))
    | ((with_reducible refine slE_split ?_ ?_ ?_); (focus ((try simp only [LN] at *) <;> omega)); (all_goals intro _))
    | ((with_reducible apply sl3N_mk); (focus (exact rfl)); (focus (exact rfl)); (focus (exact rfl)); (focus ((try simp only [LN] at *) <;> omega)); (focus ((try simp only [LN] at *) <;> omega)); (focus ((try simp only [LN] at *) <;> omega)); (focus ((try simp only [LN] at *) <;> omega)))
    | ((with_reducible refine clrN_mk ?_ ?_ ?_); (focus ((try simp only [LN] at *) <;> omega)); (focus rfl))
    | ((with_reducible refine apdN.mk ?_ ?_ ?_ ?_ ?_ ?_); (focus (first | rfl | (simp; done))); (focus (first | exact one_all (by rfl) | exact one_map (fun _ => rfl) | exact one_map2 (fun _ => rfl))); (focus ((try simp only [LN] at *) <;> omega)); (focus ((try simp only [LN] at *) <;> omega)); (focus ((try simp only [LN] at *) <;> omega)))
    | with_reducible refine wr_i64 (by first | omega | (simp only [LN] at *; omega)) ?_
    | with_reducible refine wr_u64 (by omega) ?_
    | with_reducible refine wr_u8 (by omega) ?_
    | with_reducible refine wr_u32 (by omega) ?_
    | with_reducible first | refine wr_mk _ rfl ?_
    | ((with_reducible refine ixN_nat ?_ ?_); (focus ((try simp only [LN] at *) <;> omega)))
    | ((with_reducible refine rowN_map ?_ ?_); (focus ((try simp only [LN] at *) <;> omega)); intro x hx)
    | ((with_reducible refine posE_nil (by rfl) ?_))
    | ((with_reducible refine posE_pos (by decide) ?_))
    | with_reducible refine eqN_dec (by omega) ?_
    | with_reducible first | refine apN_mk (by kernel_rfl) ?_ | refine Z.callZ_in tabOk 15 Try.f32 _ Try.func32 (by kernel_rfl) rfl rfl rfl ?_ | refine Z.callZ_in tabOk 10 Try.f37 _ Try.func37 (by kernel_rfl) rfl rfl rfl ?_ | refine Z.callZ_in tabOk 62 Try.f27 _ Try.func27 (by kernel_rfl) rfl rfl rfl ?_ | refine Z.callZ_in tabOk 25 Try.f44 _ Try.func44 (by kernel_rfl) rfl rfl rfl ?_ | refine Z.callZ_in tabOk 4 Try.f40 _ Try.func40 (by kernel_rfl) rfl rfl rfl ?_ | refine Z.callZ_in tabOk 33 Try.f41 _ Try.func41 (by kernel_rfl) rfl rfl rfl ?_ | refine Z.callZ_in tabOk 28 Try.f42 _ Try.func42 (by kernel_rfl) rfl rfl rfl ?_ | refine Z.callZ_in tabOk 26 Try.f48 _ Try.func48 (by kernel_rfl) rfl rfl rfl ?_ | refine Z.callZ_in tabOk 4 Try.f49 _ Try.func49 (by kernel_rfl) rfl rfl rfl ?_ | refine Z.callZ_in tabOk 19 Try.f52 _ Try.func52 (by kernel_rfl) rfl rfl rfl ?_
    | ((first | (with_reducible apply Z.conZ_mz ?_ (cf) ?_) | (with_reducible apply Z.callZ_mk ?_ (cf) ?_) | (with_reducible apply Z.conZ_mz ?_ (cloneE_con) ?_) | (with_reducible apply Z.callZ_mk ?_ (cloneE_con) ?_)); (focus ((repeat' (first | exact trivial | exact rfl | exact Z.low_nil | exact Z.low_nil2 | exact low_osl (fun _ => rfl) | (refine Z.low_osln ?_ (fun _ => rfl); (simp only [List.length_map]; done)) | exact low_oslr (fun _ => rfl) | exact Z.low_gslm (by first | rfl | exact Z.kb_some rfl) (fun _ => rfl) | exact .inl rfl | exact .inr ⟨_, rfl⟩ | apply And.intro)); done)))
    | ((first | (with_reducible apply Z.conZ_mz ?_ (plain_con _) ?_) | (with_reducible apply Z.callZ_mk ?_ (plain_con _) ?_)); (rotate_left 1); (focus ((repeat' (first | exact trivial | exact rfl | exact Z.low_nil | exact Z.low_nil2 | exact low_osl (fun _ => rfl) | (refine Z.low_osln ?_ (fun _ => rfl); (simp only [List.length_map]; done)) | exact low_oslr (fun _ => rfl) | exact Z.low_gslm (by first | rfl | exact Z.kb_some rfl) (fun _ => rfl) | exact .inl rfl | exact .inr ⟨_, rfl⟩ | apply And.intro)); done)))
    | ((first | (with_reducible apply Z.conZ_mz ?_ (check_con _ _ ?_) ?_) | (with_reducible apply Z.callZ_mk ?_ (check_con _ _ ?_) ?_)); (rotate_left 2); (focus ((repeat' (first | exact trivial | exact rfl | exact Z.low_nil | exact Z.low_nil2 | exact low_osl (fun _ => rfl) | (refine Z.low_osln ?_ (fun _ => rfl); (simp only [List.length_map]; done)) | exact low_oslr (fun _ => rfl) | exact Z.low_gslm (by first | rfl | exact Z.kb_some rfl) (fun _ => rfl) | exact .inl rfl | exact .inr ⟨_, rfl⟩ | apply And.intro)); done)); (iterate 1 (focus (first | assumption | omega | ((try simp only [LN] at *); omega)))))
    | ((with_reducible refine eqN_mk2 ?_ ?_); (focus (exact Z.kb_some rfl)))
    | ((with_reducible apply ex_and); exact rfl)
    | ((with_reducible refine Z.rngN.mk ?_); (try subst hlb))
    | ((with_reducible refine Z.CallZ.yl ?_); refine Z.yield_rule tabOk _ _ rfl rfl rfl rfl ?_)
    | ((with_reducible refine Z.CallZ.yl ?_); subst hlb; refine Z.yield_rule tabOk _ _ rfl rfl rfl rfl ?_)
    | ((with_reducible refine Z.RangeZ.red ?_); (refine Z.range_rule [(2, _), (4, _), (8, _), (10, _), (11, _), (35, _)] rfl ⟨rfl, rfl, rfl, rfl, rfl, rfl, trivial⟩ rfl rfl ?_); intro lb hlb)
    | ((with_reducible refine Z.RangeZ.red ?_); (refine Z.range_rule [(2, _), (3, _), (10, _)] rfl ⟨rfl, rfl, rfl, trivial⟩ rfl rfl ?_); intro lb hlb)
    | with_reducible first | refine Z.drawZ_rule tabOk mixOk ?_ | refine Z.apZ_mk (by kernel_rfl) ?_
    | ((with_reducible refine Z.ConZ.red ?_); (try subst hlb); (apply Z.conZ_all); (focus (repeat (first | exact Z.FK.nil | (apply Z.FK.keep; exact rfl)))); (focus rfl); (focus rfl); (focus (repeat (first | exact trivial | (refine ⟨(fun o ho => (by first | (cases ho; rfl) | (cases ho; exact Z.inL_map fun _ => rfl) | (cases ho; exact Z.inL_mapr fun _ => rfl) | exact Z.inL_gB ho fun _ => rfl)), ?_⟩)))))
    | ((refine ⟨rfl, ?_, rfl⟩); (focus (repeat (first | exact Z.DK.nil | apply Z.DK.cons))))
    | (focus (exact (rfl : Nat.ble _ _ = true))))
  all_goals (try (conv => whnf))
  all_goals try (show Nat.ble _ _ = true; rfl)
  all_goals first
    | ((first | (with_reducible apply Z.retF1) | (with_reducible apply Z.retF2) | (with_reducible apply Z.retF0)); (focus (exact rfl)); (repeat' (first | exact trivial | (with_reducible apply Z.frz_one) | (with_reducible apply Z.frz_agg) | (with_reducible apply Z.fq_int) | (with_reducible apply Z.fq_bool) | (exact Z.frz_nil) | (exact Z.frz_osl0 rfl rfl rfl) | (with_reducible apply Z.fq_nil) | (with_reducible apply Z.fq_ro) | ((with_reducible apply Z.fq_gsl); (focus (first | rfl | exact Z.isB_map _ | exact Z.gB_snoc.symm)); (focus (exact fun _ => rfl))) | ((with_reducible apply Z.fq_osl); (focus (exact rfl)); (focus (first | exact rfl | (simp only [List.length_map, Nat.zero_add]; done) | ((try simp only [LN] at *) <;> omega))); (focus (exact fun _ => rfl))) | ((with_reducible apply Z.fq_src); (focus (exact rfl)); (focus (first | exact rfl | (simp only [List.length_map, Nat.zero_add]; done) | ((try simp only [LN] at *) <;> omega))); (focus (exact fun _ => rfl))) | exact rfl | ((apply Z.fq_osl); (focus (exact rfl)); (focus (first | exact rfl | (simp only [List.length_map, Nat.zero_add]; done) | ((try simp only [LN] at *) <;> omega))); (focus (exact fun _ => rfl))) | ((apply Z.fq_src); (focus (exact rfl)); (focus (first | exact rfl | (simp only [List.length_map, Nat.zero_add]; done) | ((try simp only [LN] at *) <;> omega))); (focus (exact fun _ => rfl))) | (apply Z.fq_ro) | (apply Z.fq_int) | (apply Z.fq_bool) | apply And.intro)); (all_goals (try exact (fun _ => none))); all_goals (first | rfl | (rw [hk]; rfl)))
    | (exfalso; simp_all; done)
    | (fail)

theorem rel_bad (keep number : Int) (l : List Kp) (hl : l.length ≤ 9223372036854775807) (hk : okS keep l = false) : Con Try.prog 17 [.agg [.v (.int .i64 keep), .ro false 3 (l.map eK)], .one (.v (.int .u64 number))] (fun rx rK rt => rx = .tup [.agg [.v (.int .i64 0), .ro true 3 ((([] : List Kp)).map eK)], .one (.ro true 1 ((([] : List Int)).map eU)), .one (.v (.int .i64 330))] ∧ rK = [] ∧ rt = 0) := by
  refine Z.con_ofF tabOk 13 Try.f17 _ Try.func17 (by kernel_rfl) rfl rfl rfl rfl ?_
  repeat' ((conv => whnf); first
    | with_reducible first | refine spB_t ?_
    | ((with_reducible apply spB_cong); (focus (simp only [beq_self_eq_true, bne_self_eq_false, Bool.true_bne, Bool.false_bne, Bool.bne_true, Bool.bne_false, Bool.true_beq, Bool.false_beq, Bool.not_true, Bool.not_false, Bool.not_not, Int.reduceBEq, Int.reduceBNe, Int.reduceLE, Int.reduceLT, Int.reduceEq, decide_true, decide_false, hk, cond_false]; rfl)))
    | with_reducible first | refine spB_yes (by decide) ?_ | refine spB_no (by decide) ?_ | refine spB_f ?_ | refine spB_not ?_ | refine spB_yes (by assumption) ?_ | refine spB_no (by assumption) ?_
    | (with_reducible refine spB_dec ?_ ?_ <;> intro _ <;> (try (exfalso; first | contradiction | omega | (simp only [LN] at *; omega))))
    | (with_reducible refine spB_beq ?_ ?_ <;> intro _ <;> (try (exfalso; first | contradiction | omega | (simp only [LN] at *; omega))))
    | (with_reducible refine spB_bne ?_ ?_ <;> intro _ <;> (try (exfalso; first | contradiction | omega | (simp only [LN] at *; omega))))
    | (with_reducible refine spB_mk ?_ ?_ <;> intro _ <;> (try (exfalso; first | contradiction | omega | (simp only [LN] at *; omega))))
    | ((with_reducible refine Z.callZ_cap ?_); intro capv hcapv)
    | ((with_reducible refine posE_pos ?_ ?_); (focus ((try simp only [LN] at *) <;> omega)))
    | ((with_reducible refine posE_nil ?_ ?_); (focus rfl))
    | ((with_reducible apply rowN_mk); (focus rfl))
    | ((with_reducible apply ixN_lit); (focus (exact rfl)); (focus (exact rfl)))
    | ((with_reducible apply ixN_litp); (focus (exact rfl)); (focus ((try simp only [LN] at *) <;> omega)))
    | ((with_reducible refine eqN_mk2 ?_ ?_); (focus rfl))
    | ((with_reducible refine posN_mk2 ?_ ?_); (focus (first | decide | ((try simp only [LN] at *) <;> omega))))
    | ((with_reducible refine apdE_r ?_); (with_reducible refine aprN.mk ⟨_, rfl, ?_⟩ ?_ ?_ ?_ ?_); (focus ((try simp only [LN] at *) <;> omega)); (focus (first | rfl | (simp; done) | ((try simp only [LN] at *) <;> omega))); (focus (first | exact one_all (by rfl) | exact one_map (fun _ => rfl) | exact one_map2 (fun _ => rfl) | exact one_drop (fun _ => rfl))); (focus ((try simp only [LN] at *) <;> omega)))
    | with_reducible first | refine apdE_n ?_
    | ((with_reducible refine slE_a ?_ ?_); (focus ((try simp only [LN] at *) <;> omega)))
    | ((with_reducible refine slE_b ?_ ?_); (focus ((try simp only [LN] at *) <;> omega)))
    | ((with_reducible refine slE_split ?_ ?_ ?_); (focus ((try simp only [LN] at *) <;> omega)); (all_goals intro _))
    | ((with_reducible apply sl3N_mk); (focus (exact rfl)); (focus (exact rfl)); (focus (exact rfl)); (focus ((try simp only [LN] at *) <;> omega)); (focus ((try simp only [LN] at *) <;> omega)); (focus ((try simp only [LN] at *) <;> omega)); (focus ((try simp only [LN] at *) <;> omega)))
    | ((with_reducible refine clrN_mk ?_ ?_ ?_); (focus ((try simp only [LN] at *) <;> omega)); (focus rfl))
    | ((with_reducible refine apdN.mk ?_ ?_ ?_ ?_ ?_ ?_); (focus (first | rfl | (simp; done))); (focus (first | exact one_all (by rfl) | exact one_map (fun _ => rfl) | exact one_map2 (fun _ => rfl))); (focus ((try simp only [LN] at *) <;> omega)); (focus ((try simp only [LN] at *) <;> omega)); (focus ((try simp only [LN] at *) <;> omega)))
    | with_reducible refine wr_i64 (by first | omega | (simp only [LN] at *; omega)) ?_
    | with_reducible refine wr_u64 (by omega) ?_
    | with_reducible refine wr_u8 (by omega) ?_
    | with_reducible refine wr_u32 (by omega) ?_
    | with_reducible first | refine wr_mk _ rfl ?_
    | ((with_reducible refine ixN_nat ?_ ?_); (focus ((try simp only [LN] at *) <;> omega)))
    | ((with_reducible refine rowN_map ?_ ?_); (focus ((try simp only [LN] at *) <;> omega)); intro x hx)
    | ((with_reducible refine posE_nil (by rfl) ?_))
    | ((with_reducible refine posE_pos (by decide) ?_))
    | with_reducible refine eqN_dec (by omega) ?_
    | with_reducible first | refine apN_mk (by kernel_rfl) ?_ | refine Z.callZ_in tabOk 15 Try.f32 _ Try.func32 (by kernel_rfl) rfl rfl rfl ?_ | refine Z.callZ_in tabOk 11 Try.f36 _ Try.func36 (by kernel_rfl) rfl rfl rfl ?_ | refine Z.callZ_in tabOk 62 Try.f27 _ Try.func27 (by kernel_rfl) rfl rfl rfl ?_ | refine Z.callZ_in tabOk 25 Try.f44 _ Try.func44 (by kernel_rfl) rfl rfl rfl ?_ | refine Z.callZ_in tabOk 4 Try.f40 _ Try.func40 (by kernel_rfl) rfl rfl rfl ?_ | refine Z.callZ_in tabOk 33 Try.f41 _ Try.func41 (by kernel_rfl) rfl rfl rfl ?_ | refine Z.callZ_in tabOk 28 Try.f42 _ Try.func42 (by kernel_rfl) rfl rfl rfl ?_ | refine Z.callZ_in tabOk 26 Try.f48 _ Try.func48 (by kernel_rfl) rfl rfl rfl ?_ | refine Z.callZ_in tabOk 4 Try.f49 _ Try.func49 (by kernel_rfl) rfl rfl rfl ?_ | refine Z.callZ_in tabOk 19 Try.f52 _ Try.func52 (by kernel_rfl) rfl rfl rfl ?_
    | ((first | (with_reducible apply Z.conZ_mz ?_ (cf) ?_) | (with_reducible apply Z.callZ_mk ?_ (cf) ?_)); (focus ((repeat' (first | exact trivial | exact rfl | exact Z.low_nil | exact Z.low_nil2 | exact low_osl (fun _ => rfl) | (refine Z.low_osln ?_ (fun _ => rfl); (simp only [List.length_map]; done)) | exact low_oslr (fun _ => rfl) | exact Z.low_gslm (by first | rfl | exact Z.kb_some rfl) (fun _ => rfl) | exact .inl rfl | exact .inr ⟨_, rfl⟩ | apply And.intro)); done)))
    | ((first | (with_reducible apply Z.conZ_mz ?_ (plain_con _) ?_) | (with_reducible apply Z.callZ_mk ?_ (plain_con _) ?_)); (rotate_left 1); (focus ((repeat' (first | exact trivial | exact rfl | exact Z.low_nil | exact Z.low_nil2 | exact low_osl (fun _ => rfl) | (refine Z.low_osln ?_ (fun _ => rfl); (simp only [List.length_map]; done)) | exact low_oslr (fun _ => rfl) | exact Z.low_gslm (by first | rfl | exact Z.kb_some rfl) (fun _ => rfl) | exact .inl rfl | exact .inr ⟨_, rfl⟩ | apply And.intro)); done)))
    | ((first | (with_reducible apply Z.conZ_mz ?_ (cloneL_con _ ?_ ?_) ?_) | (with_reducible apply Z.callZ_mk ?_ (cloneL_con _ ?_ ?_) ?_)); (rotate_left 1); (focus ((repeat' (first | exact trivial | exact rfl | exact Z.low_nil | exact Z.low_nil2 | exact low_osl (fun _ => rfl) | (refine Z.low_osln ?_ (fun _ => rfl); (simp only [List.length_map]; done)) | exact low_oslr (fun _ => rfl) | exact Z.low_gslm (by first | rfl | exact Z.kb_some rfl) (fun _ => rfl) | exact .inl rfl | exact .inr ⟨_, rfl⟩ | apply And.intro)); done)); (iterate 2 (focus (first | assumption | omega | ((try simp only [LN] at *); omega)))))
    | ((first | (with_reducible apply Z.conZ_mz ?_ (check_con _ _ ?_) ?_) | (with_reducible apply Z.callZ_mk ?_ (check_con _ _ ?_) ?_)); (rotate_left 2); (focus ((repeat' (first | exact trivial | exact rfl | exact Z.low_nil | exact Z.low_nil2 | exact low_osl (fun _ => rfl) | (refine Z.low_osln ?_ (fun _ => rfl); (simp only [List.length_map]; done)) | exact low_oslr (fun _ => rfl) | exact Z.low_gslm (by first | rfl | exact Z.kb_some rfl) (fun _ => rfl) | exact .inl rfl | exact .inr ⟨_, rfl⟩ | apply And.intro)); done)); (iterate 1 (focus (first | assumption | omega | ((try simp only [LN] at *); omega)))))
    | ((with_reducible refine eqN_mk2 ?_ ?_); (focus (exact Z.kb_some rfl)))
    | ((with_reducible apply ex_and); exact rfl)
    | ((with_reducible refine Z.rngN.mk ?_); (try subst hlb))
    | ((with_reducible refine Z.CallZ.yl ?_); refine Z.yield_rule tabOk _ _ rfl rfl rfl rfl ?_)
    | ((with_reducible refine Z.CallZ.yl ?_); subst hlb; refine Z.yield_rule tabOk _ _ rfl rfl rfl rfl ?_)
    | ((with_reducible refine Z.RangeZ.red ?_); (refine Z.range_rule [(2, _), (4, _), (8, _), (10, _), (11, _), (35, _)] rfl ⟨rfl, rfl, rfl, rfl, rfl, rfl, trivial⟩ rfl rfl ?_); intro lb hlb)
    | ((with_reducible refine Z.RangeZ.red ?_); (refine Z.range_rule [(2, _), (3, _), (10, _)] rfl ⟨rfl, rfl, rfl, trivial⟩ rfl rfl ?_); intro lb hlb)
    | with_reducible first | refine Z.drawZ_rule tabOk mixOk ?_ | refine Z.apZ_mk (by kernel_rfl) ?_
    | ((with_reducible refine Z.ConZ.red ?_); (try subst hlb); (apply Z.conZ_all); (focus (repeat (first | exact Z.FK.nil | (apply Z.FK.keep; exact rfl)))); (focus rfl); (focus rfl); (focus (repeat (first | exact trivial | (refine ⟨(fun o ho => (by first | (cases ho; rfl) | (cases ho; exact Z.inL_map fun _ => rfl) | (cases ho; exact Z.inL_mapr fun _ => rfl) | exact Z.inL_gB ho fun _ => rfl)), ?_⟩)))))
    | ((refine ⟨rfl, ?_, rfl⟩); (focus (repeat (first | exact Z.DK.nil | apply Z.DK.cons))))
    | (focus (exact (rfl : Nat.ble _ _ = true))))
  all_goals (try (conv => whnf))
  all_goals try (show Nat.ble _ _ = true; rfl)
  all_goals first
    | ((first | (with_reducible apply Z.retF1) | (with_reducible apply Z.retF2) | (with_reducible apply Z.retF0)); (focus (exact rfl)); (repeat' (first | exact trivial | (with_reducible apply Z.frz_one) | (with_reducible apply Z.frz_agg) | (with_reducible apply Z.fq_int) | (with_reducible apply Z.fq_bool) | (exact Z.frz_nil) | (exact Z.frz_osl0 rfl rfl rfl) | (with_reducible apply Z.fq_nil) | (with_reducible apply Z.fq_ro) | ((with_reducible apply Z.fq_gsl); (focus (first | rfl | exact Z.isB_map _ | exact Z.gB_snoc.symm)); (focus (exact fun _ => rfl))) | ((with_reducible apply Z.fq_osl); (focus (exact rfl)); (focus (first | exact rfl | (simp only [List.length_map, Nat.zero_add]; done) | ((try simp only [LN] at *) <;> omega))); (focus (exact fun _ => rfl))) | ((with_reducible apply Z.fq_src); (focus (exact rfl)); (focus (first | exact rfl | (simp only [List.length_map, Nat.zero_add]; done) | ((try simp only [LN] at *) <;> omega))); (focus (exact fun _ => rfl))) | exact rfl | ((apply Z.fq_osl); (focus (exact rfl)); (focus (first | exact rfl | (simp only [List.length_map, Nat.zero_add]; done) | ((try simp only [LN] at *) <;> omega))); (focus (exact fun _ => rfl))) | ((apply Z.fq_src); (focus (exact rfl)); (focus (first | exact rfl | (simp only [List.length_map, Nat.zero_add]; done) | ((try simp only [LN] at *) <;> omega))); (focus (exact fun _ => rfl))) | (apply Z.fq_ro) | (apply Z.fq_int) | (apply Z.fq_bool) | apply And.intro)); (all_goals (try exact (fun _ => none))); all_goals (first | rfl | (rw [hk]; rfl)))
    | (exfalso; simp_all; done)
    | (fail)

theorem rel_none (keep number : Int) (l : List Kp) (hl : l.length ≤ 16) (hk : okS keep l = true) (hne : l ≠ []) (ha : anyN number l = false) : Con Try.prog 17 [.agg [.v (.int .i64 keep), .ro false 3 (l.map eK)], .one (.v (.int .u64 number))] (fun rx rK rt => rx = .tup [.agg [.v (.int .i64 0), .ro true 3 ((([] : List Kp)).map eK)], .one (.ro true 1 ((([] : List Int)).map eU)), .one (.v (.int .i64 4))] ∧ rK = [] ∧ rt = 0) := by
  refine Z.con_ofF tabOk 13 Try.f17 _ Try.func17 (by kernel_rfl) rfl rfl rfl rfl ?_
  have cf := find_n keep number l (by omega) ha
  repeat' ((conv => whnf); first
    | with_reducible first | refine spB_t ?_
    | ((with_reducible apply spB_cong); (focus (simp only [beq_self_eq_true, bne_self_eq_false, Bool.true_bne, Bool.false_bne, Bool.bne_true, Bool.bne_false, Bool.true_beq, Bool.false_beq, Bool.not_true, Bool.not_false, Bool.not_not, Int.reduceBEq, Int.reduceBNe, Int.reduceLE, Int.reduceLT, Int.reduceEq, decide_true, decide_false, hk, cond_true]; rfl)))
    | with_reducible first | refine spB_yes (by decide) ?_ | refine spB_no (by decide) ?_ | refine spB_f ?_ | refine spB_not ?_ | refine spB_yes (by assumption) ?_ | refine spB_no (by assumption) ?_
    | (with_reducible refine spB_dec ?_ ?_ <;> intro _ <;> (try (exfalso; first | contradiction | omega | (simp only [LN] at *; omega))))
    | (with_reducible refine spB_beq ?_ ?_ <;> intro _ <;> (try (exfalso; first | contradiction | omega | (simp only [LN] at *; omega))))
    | (with_reducible refine spB_bne ?_ ?_ <;> intro _ <;> (try (exfalso; first | contradiction | omega | (simp only [LN] at *; omega))))
    | (with_reducible refine spB_mk ?_ ?_ <;> intro _ <;> (try (exfalso; first | contradiction | omega | (simp only [LN] at *; omega))))
    | ((with_reducible refine Z.callZ_cap ?_); intro capv hcapv)
    | ((with_reducible refine posE_pos ?_ ?_); (focus ((try simp only [LN] at *) <;> omega)))
    | ((with_reducible refine posE_nil ?_ ?_); (focus rfl))
    | ((with_reducible apply rowN_mk); (focus rfl))
    | ((with_reducible apply ixN_lit); (focus (exact rfl)); (focus (exact rfl)))
    | ((with_reducible apply ixN_litp); (focus (exact rfl)); (focus ((try simp only [LN] at *) <;> omega)))
    | ((with_reducible refine eqN_mk2 ?_ ?_); (focus rfl))
    | ((with_reducible refine posN_mk2 ?_ ?_); (focus (first | decide | ((try simp only [LN] at *) <;> omega))))
    | ((with_reducible refine apdE_r ?_); (with_reducible refine aprN.mk ⟨_, rfl, ?_⟩ ?_ ?_ ?_ ?_); (focus ((try simp only [LN] at *) <;> omega)); (focus (first | rfl | (simp; done) | ((try simp only [LN] at *) <;> omega))); (focus (first | exact one_all (by rfl) | exact one_map (fun _ => rfl) | exact one_map2 (fun _ => rfl) | exact one_drop (fun _ => rfl))); (focus ((try simp only [LN] at *) <;> omega)))
    | with_reducible first | refine apdE_n ?_
    | ((with_reducible refine slE_a ?_ ?_); (focus ((try simp only [LN] at *) <;> omega)))
    | ((with_reducible refine slE_b ?_ ?_); (focus ((try simp only [LN] at *) <;> omega)))
    | ((with_reducible refine slE_split ?_ ?_ ?_); (focus ((try simp only [LN] at *) <;> omega)); (all_goals intro _))
    | ((with_reducible apply sl3N_mk); (focus (exact rfl)); (focus (exact rfl)); (focus (exact rfl)); (focus ((try simp only [LN] at *) <;> omega)); (focus ((try simp only [LN] at *) <;> omega)); (focus ((try simp only [LN] at *) <;> omega)); (focus ((try simp only [LN] at *) <;> omega)))
    | ((with_reducible refine clrN_mk ?_ ?_ ?_); (focus ((try simp only [LN] at *) <;> omega)); (focus rfl))
    | ((with_reducible refine apdN.mk ?_ ?_ ?_ ?_ ?_ ?_); (focus (first | rfl | (simp; done))); (focus (first | exact one_all (by rfl) | exact one_map (fun _ => rfl) | exact one_map2 (fun _ => rfl))); (focus ((try simp only [LN] at *) <;> omega)); (focus ((try simp only [LN] at *) <;> omega)); (focus ((try simp only [LN] at *) <;> omega)))
    | with_reducible refine wr_i64 (by first | omega | (simp only [LN] at *; omega)) ?_
    | with_reducible refine wr_u64 (by omega) ?_
    | with_reducible refine wr_u8 (by omega) ?_
    | with_reducible refine wr_u32 (by omega) ?_
    | with_reducible first | refine wr_mk _ rfl ?_
    | ((with_reducible refine ixN_nat ?_ ?_); (focus ((try simp only [LN] at *) <;> omega)))
    | ((with_reducible refine rowN_map ?_ ?_); (focus ((try simp only [LN] at *) <;> omega)); intro x hx)
    | ((with_reducible refine posE_nil (by rfl) ?_))
    | ((with_reducible refine posE_pos (by decide) ?_))
    | with_reducible refine eqN_dec (by omega) ?_
    | with_reducible first | refine apN_mk (by kernel_rfl) ?_ | refine Z.callZ_in tabOk 15 Try.f32 _ Try.func32 (by kernel_rfl) rfl rfl rfl ?_ | refine Z.callZ_in tabOk 11 Try.f36 _ Try.func36 (by kernel_rfl) rfl rfl rfl ?_ | refine Z.callZ_in tabOk 62 Try.f27 _ Try.func27 (by kernel_rfl) rfl rfl rfl ?_ | refine Z.callZ_in tabOk 25 Try.f44 _ Try.func44 (by kernel_rfl) rfl rfl rfl ?_ | refine Z.callZ_in tabOk 4 Try.f40 _ Try.func40 (by kernel_rfl) rfl rfl rfl ?_ | refine Z.callZ_in tabOk 33 Try.f41 _ Try.func41 (by kernel_rfl) rfl rfl rfl ?_ | refine Z.callZ_in tabOk 28 Try.f42 _ Try.func42 (by kernel_rfl) rfl rfl rfl ?_ | refine Z.callZ_in tabOk 26 Try.f48 _ Try.func48 (by kernel_rfl) rfl rfl rfl ?_ | refine Z.callZ_in tabOk 4 Try.f49 _ Try.func49 (by kernel_rfl) rfl rfl rfl ?_ | refine Z.callZ_in tabOk 19 Try.f52 _ Try.func52 (by kernel_rfl) rfl rfl rfl ?_
    | ((first | (with_reducible apply Z.conZ_mz ?_ (cf) ?_) | (with_reducible apply Z.callZ_mk ?_ (cf) ?_)); (focus ((repeat' (first | exact trivial | exact rfl | exact Z.low_nil | exact Z.low_nil2 | exact low_osl (fun _ => rfl) | (refine Z.low_osln ?_ (fun _ => rfl); (simp only [List.length_map]; done)) | exact low_oslr (fun _ => rfl) | exact Z.low_gslm (by first | rfl | exact Z.kb_some rfl) (fun _ => rfl) | exact .inl rfl | exact .inr ⟨_, rfl⟩ | apply And.intro)); done)))
    | ((first | (with_reducible apply Z.conZ_mz ?_ (plain_con _) ?_) | (with_reducible apply Z.callZ_mk ?_ (plain_con _) ?_)); (rotate_left 1); (focus ((repeat' (first | exact trivial | exact rfl | exact Z.low_nil | exact Z.low_nil2 | exact low_osl (fun _ => rfl) | (refine Z.low_osln ?_ (fun _ => rfl); (simp only [List.length_map]; done)) | exact low_oslr (fun _ => rfl) | exact Z.low_gslm (by first | rfl | exact Z.kb_some rfl) (fun _ => rfl) | exact .inl rfl | exact .inr ⟨_, rfl⟩ | apply And.intro)); done)))
    | ((first | (with_reducible apply Z.conZ_mz ?_ (cloneL_con _ ?_ ?_) ?_) | (with_reducible apply Z.callZ_mk ?_ (cloneL_con _ ?_ ?_) ?_)); (rotate_left 1); (focus ((repeat' (first | exact trivial | exact rfl | exact Z.low_nil | exact Z.low_nil2 | exact low_osl (fun _ => rfl) | (refine Z.low_osln ?_ (fun _ => rfl); (simp only [List.length_map]; done)) | exact low_oslr (fun _ => rfl) | exact Z.low_gslm (by first | rfl | exact Z.kb_some rfl) (fun _ => rfl) | exact .inl rfl | exact .inr ⟨_, rfl⟩ | apply And.intro)); done)); (iterate 2 (focus (first | assumption | omega | ((try simp only [LN] at *); omega)))))
    | ((first | (with_reducible apply Z.conZ_mz ?_ (check_con _ _ ?_) ?_) | (with_reducible apply Z.callZ_mk ?_ (check_con _ _ ?_) ?_)); (rotate_left 2); (focus ((repeat' (first | exact trivial | exact rfl | exact Z.low_nil | exact Z.low_nil2 | exact low_osl (fun _ => rfl) | (refine Z.low_osln ?_ (fun _ => rfl); (simp only [List.length_map]; done)) | exact low_oslr (fun _ => rfl) | exact Z.low_gslm (by first | rfl | exact Z.kb_some rfl) (fun _ => rfl) | exact .inl rfl | exact .inr ⟨_, rfl⟩ | apply And.intro)); done)); (iterate 1 (focus (first | assumption | omega | ((try simp only [LN] at *); omega)))))
    | ((with_reducible refine eqN_mk2 ?_ ?_); (focus (exact Z.kb_some rfl)))
    | ((with_reducible apply ex_and); exact rfl)
    | ((with_reducible refine Z.rngN.mk ?_); (try subst hlb))
    | ((with_reducible refine Z.CallZ.yl ?_); refine Z.yield_rule tabOk _ _ rfl rfl rfl rfl ?_)
    | ((with_reducible refine Z.CallZ.yl ?_); subst hlb; refine Z.yield_rule tabOk _ _ rfl rfl rfl rfl ?_)
    | ((with_reducible refine Z.RangeZ.red ?_); (refine Z.range_rule [(2, _), (4, _), (8, _), (10, _), (11, _), (35, _)] rfl ⟨rfl, rfl, rfl, rfl, rfl, rfl, trivial⟩ rfl rfl ?_); intro lb hlb)
    | ((with_reducible refine Z.RangeZ.red ?_); (refine Z.range_rule [(2, _), (3, _), (10, _)] rfl ⟨rfl, rfl, rfl, trivial⟩ rfl rfl ?_); intro lb hlb)
    | with_reducible first | refine Z.drawZ_rule tabOk mixOk ?_ | refine Z.apZ_mk (by kernel_rfl) ?_
    | ((with_reducible refine Z.ConZ.red ?_); (try subst hlb); (apply Z.conZ_all); (focus (repeat (first | exact Z.FK.nil | (apply Z.FK.keep; exact rfl)))); (focus rfl); (focus rfl); (focus (repeat (first | exact trivial | (refine ⟨(fun o ho => (by first | (cases ho; rfl) | (cases ho; exact Z.inL_map fun _ => rfl) | (cases ho; exact Z.inL_mapr fun _ => rfl) | exact Z.inL_gB ho fun _ => rfl)), ?_⟩)))))
    | ((refine ⟨rfl, ?_, rfl⟩); (focus (repeat (first | exact Z.DK.nil | apply Z.DK.cons))))
    | (focus (exact (rfl : Nat.ble _ _ = true))))
  all_goals (try (conv => whnf))
  all_goals try (show Nat.ble _ _ = true; rfl)
  all_goals first
    | ((first | (with_reducible apply Z.retF1) | (with_reducible apply Z.retF2) | (with_reducible apply Z.retF0)); (focus (exact rfl)); (repeat' (first | exact trivial | (with_reducible apply Z.frz_one) | (with_reducible apply Z.frz_agg) | (with_reducible apply Z.fq_int) | (with_reducible apply Z.fq_bool) | (exact Z.frz_nil) | (exact Z.frz_osl0 rfl rfl rfl) | (with_reducible apply Z.fq_nil) | (with_reducible apply Z.fq_ro) | ((with_reducible apply Z.fq_gsl); (focus (first | rfl | exact Z.isB_map _ | exact Z.gB_snoc.symm)); (focus (exact fun _ => rfl))) | ((with_reducible apply Z.fq_osl); (focus (exact rfl)); (focus (first | exact rfl | (simp only [List.length_map, Nat.zero_add]; done) | ((try simp only [LN] at *) <;> omega))); (focus (exact fun _ => rfl))) | ((with_reducible apply Z.fq_src); (focus (exact rfl)); (focus (first | exact rfl | (simp only [List.length_map, Nat.zero_add]; done) | ((try simp only [LN] at *) <;> omega))); (focus (exact fun _ => rfl))) | exact rfl | ((apply Z.fq_osl); (focus (exact rfl)); (focus (first | exact rfl | (simp only [List.length_map, Nat.zero_add]; done) | ((try simp only [LN] at *) <;> omega))); (focus (exact fun _ => rfl))) | ((apply Z.fq_src); (focus (exact rfl)); (focus (first | exact rfl | (simp only [List.length_map, Nat.zero_add]; done) | ((try simp only [LN] at *) <;> omega))); (focus (exact fun _ => rfl))) | (apply Z.fq_ro) | (apply Z.fq_int) | (apply Z.fq_bool) | apply And.intro)); (all_goals (try exact (fun _ => none))); all_goals (first | rfl | (rw [hk]; rfl)))
    | (exfalso; simp_all; done)
    | (fail)

theorem rel_no (keep number : Int) (l : List Kp) (i : Nat) (q : Kp) (hl : l.length ≤ 16) (hk : okS keep l = true) (hne : l ≠ []) (ha : anyN number l = true) (hi : idxN number l = i) (hq : l[i]? = some q) (hs : q.save = false) : Con Try.prog 17 [.agg [.v (.int .i64 keep), .ro false 3 (l.map eK)], .one (.v (.int .u64 number))] (fun rx rK rt => rx = .tup [.agg [.v (.int .i64 0), .ro true 3 ((([] : List Kp)).map eK)], .one (.ro true 1 ((([] : List Int)).map eU)), .one (.v (.int .i64 2))] ∧ rK = [] ∧ rt = 0) := by
  refine Z.con_ofF tabOk 13 Try.f17 _ Try.func17 (by kernel_rfl) rfl rfl rfl rfl ?_
  have hil : i < l.length := (List.getElem?_eq_some_iff.1 hq).1
  have cf := find_t keep number l (by omega) i hi ha
  repeat' ((conv => whnf); first
    | with_reducible first | refine spB_t ?_
    | ((with_reducible apply spB_cong); (focus (simp only [beq_self_eq_true, bne_self_eq_false, Bool.true_bne, Bool.false_bne, Bool.bne_true, Bool.bne_false, Bool.true_beq, Bool.false_beq, Bool.not_true, Bool.not_false, Bool.not_not, Int.reduceBEq, Int.reduceBNe, Int.reduceLE, Int.reduceLT, Int.reduceEq, decide_true, decide_false, hk, cond_true, hs]; rfl)))
    | with_reducible first | refine spB_yes (by decide) ?_ | refine spB_no (by decide) ?_ | refine spB_f ?_ | refine spB_not ?_ | refine spB_yes (by assumption) ?_ | refine spB_no (by assumption) ?_
    | (with_reducible refine spB_dec ?_ ?_ <;> intro _ <;> (try (exfalso; first | contradiction | omega | (simp only [LN] at *; omega))))
    | (with_reducible refine spB_beq ?_ ?_ <;> intro _ <;> (try (exfalso; first | contradiction | omega | (simp only [LN] at *; omega))))
    | (with_reducible refine spB_bne ?_ ?_ <;> intro _ <;> (try (exfalso; first | contradiction | omega | (simp only [LN] at *; omega))))
    | (with_reducible refine spB_mk ?_ ?_ <;> intro _ <;> (try (exfalso; first | contradiction | omega | (simp only [LN] at *; omega))))
    | ((with_reducible refine Z.callZ_cap ?_); intro capv hcapv)
    | ((with_reducible refine rowN_mk (cK q) ?_ ?_); (focus (exact ren_row hq)))
    | ((with_reducible refine rowN_mk (cK q) ?_ ?_); (focus (show (List.map cK l)[0 + i]? = some (cK q); rw [Nat.zero_add, List.getElem?_map, hq]; rfl)))
    | ((with_reducible refine posE_pos ?_ ?_); (focus ((try simp only [LN] at *) <;> omega)))
    | ((with_reducible refine posE_nil ?_ ?_); (focus rfl))
    | ((with_reducible apply rowN_mk); (focus rfl))
    | ((with_reducible apply ixN_lit); (focus (exact rfl)); (focus (exact rfl)))
    | ((with_reducible apply ixN_litp); (focus (exact rfl)); (focus ((try simp only [LN] at *) <;> omega)))
    | ((with_reducible refine eqN_mk2 ?_ ?_); (focus rfl))
    | ((with_reducible refine posN_mk2 ?_ ?_); (focus (first | decide | ((try simp only [LN] at *) <;> omega))))
    | ((with_reducible refine apdE_r ?_); (with_reducible refine aprN.mk ⟨_, rfl, ?_⟩ ?_ ?_ ?_ ?_); (focus ((try simp only [LN] at *) <;> omega)); (focus (first | rfl | (simp; done) | ((try simp only [LN] at *) <;> omega))); (focus (first | exact one_all (by rfl) | exact one_map (fun _ => rfl) | exact one_map2 (fun _ => rfl) | exact one_drop (fun _ => rfl))); (focus ((try simp only [LN] at *) <;> omega)))
    | with_reducible first | refine apdE_n ?_
    | ((with_reducible refine slE_a ?_ ?_); (focus ((try simp only [LN] at *) <;> omega)))
    | ((with_reducible refine slE_b ?_ ?_); (focus ((try simp only [LN] at *) <;> omega)))
    | ((with_reducible refine slE_split ?_ ?_ ?_); (focus ((try simp only [LN] at *) <;> omega)); (all_goals intro _))
    | ((with_reducible apply sl3N_mk); (focus (exact rfl)); (focus (exact rfl)); (focus (exact rfl)); (focus ((try simp only [LN] at *) <;> omega)); (focus ((try simp only [LN] at *) <;> omega)); (focus ((try simp only [LN] at *) <;> omega)); (focus ((try simp only [LN] at *) <;> omega)))
    | ((with_reducible refine clrN_mk ?_ ?_ ?_); (focus ((try simp only [LN] at *) <;> omega)); (focus rfl))
    | ((with_reducible refine apdN.mk ?_ ?_ ?_ ?_ ?_ ?_); (focus (first | rfl | (simp; done))); (focus (first | exact one_all (by rfl) | exact one_map (fun _ => rfl) | exact one_map2 (fun _ => rfl))); (focus ((try simp only [LN] at *) <;> omega)); (focus ((try simp only [LN] at *) <;> omega)); (focus ((try simp only [LN] at *) <;> omega)))
    | with_reducible refine wr_i64 (by first | omega | (simp only [LN] at *; omega)) ?_
    | with_reducible refine wr_u64 (by omega) ?_
    | with_reducible refine wr_u8 (by omega) ?_
    | with_reducible refine wr_u32 (by omega) ?_
    | with_reducible first | refine wr_mk _ rfl ?_
    | ((with_reducible refine ixN_nat ?_ ?_); (focus ((try simp only [LN] at *) <;> omega)))
    | ((with_reducible refine rowN_map ?_ ?_); (focus ((try simp only [LN] at *) <;> omega)); intro x hx)
    | ((with_reducible refine posE_nil (by rfl) ?_))
    | ((with_reducible refine posE_pos (by decide) ?_))
    | with_reducible refine eqN_dec (by omega) ?_
    | with_reducible first | refine apN_mk (by kernel_rfl) ?_ | refine Z.callZ_in tabOk 15 Try.f32 _ Try.func32 (by kernel_rfl) rfl rfl rfl ?_ | refine Z.callZ_in tabOk 11 Try.f36 _ Try.func36 (by kernel_rfl) rfl rfl rfl ?_ | refine Z.callZ_in tabOk 62 Try.f27 _ Try.func27 (by kernel_rfl) rfl rfl rfl ?_ | refine Z.callZ_in tabOk 25 Try.f44 _ Try.func44 (by kernel_rfl) rfl rfl rfl ?_ | refine Z.callZ_in tabOk 4 Try.f40 _ Try.func40 (by kernel_rfl) rfl rfl rfl ?_ | refine Z.callZ_in tabOk 33 Try.f41 _ Try.func41 (by kernel_rfl) rfl rfl rfl ?_ | refine Z.callZ_in tabOk 28 Try.f42 _ Try.func42 (by kernel_rfl) rfl rfl rfl ?_ | refine Z.callZ_in tabOk 26 Try.f48 _ Try.func48 (by kernel_rfl) rfl rfl rfl ?_ | refine Z.callZ_in tabOk 4 Try.f49 _ Try.func49 (by kernel_rfl) rfl rfl rfl ?_ | refine Z.callZ_in tabOk 19 Try.f52 _ Try.func52 (by kernel_rfl) rfl rfl rfl ?_
    | ((first | (with_reducible apply Z.conZ_mz ?_ (cf) ?_) | (with_reducible apply Z.callZ_mk ?_ (cf) ?_)); (focus ((repeat' (first | exact trivial | exact rfl | exact Z.low_nil | exact Z.low_nil2 | exact low_osl (fun _ => rfl) | (refine Z.low_osln ?_ (fun _ => rfl); (simp only [List.length_map]; done)) | exact low_oslr (fun _ => rfl) | exact Z.low_gslm (by first | rfl | exact Z.kb_some rfl) (fun _ => rfl) | exact .inl rfl | exact .inr ⟨_, rfl⟩ | apply And.intro)); done)))
    | ((first | (with_reducible apply Z.conZ_mz ?_ (plain_con _) ?_) | (with_reducible apply Z.callZ_mk ?_ (plain_con _) ?_)); (rotate_left 1); (focus ((repeat' (first | exact trivial | exact rfl | exact Z.low_nil | exact Z.low_nil2 | exact low_osl (fun _ => rfl) | (refine Z.low_osln ?_ (fun _ => rfl); (simp only [List.length_map]; done)) | exact low_oslr (fun _ => rfl) | exact Z.low_gslm (by first | rfl | exact Z.kb_some rfl) (fun _ => rfl) | exact .inl rfl | exact .inr ⟨_, rfl⟩ | apply And.intro)); done)))
    | ((first | (with_reducible apply Z.conZ_mz ?_ (cloneL_con _ ?_ ?_) ?_) | (with_reducible apply Z.callZ_mk ?_ (cloneL_con _ ?_ ?_) ?_)); (rotate_left 1); (focus ((repeat' (first | exact trivial | exact rfl | exact Z.low_nil | exact Z.low_nil2 | exact low_osl (fun _ => rfl) | (refine Z.low_osln ?_ (fun _ => rfl); (simp only [List.length_map]; done)) | exact low_oslr (fun _ => rfl) | exact Z.low_gslm (by first | rfl | exact Z.kb_some rfl) (fun _ => rfl) | exact .inl rfl | exact .inr ⟨_, rfl⟩ | apply And.intro)); done)); (iterate 2 (focus (first | assumption | omega | ((try simp only [LN] at *); omega)))))
    | ((first | (with_reducible apply Z.conZ_mz ?_ (check_con _ _ ?_) ?_) | (with_reducible apply Z.callZ_mk ?_ (check_con _ _ ?_) ?_)); (rotate_left 2); (focus ((repeat' (first | exact trivial | exact rfl | exact Z.low_nil | exact Z.low_nil2 | exact low_osl (fun _ => rfl) | (refine Z.low_osln ?_ (fun _ => rfl); (simp only [List.length_map]; done)) | exact low_oslr (fun _ => rfl) | exact Z.low_gslm (by first | rfl | exact Z.kb_some rfl) (fun _ => rfl) | exact .inl rfl | exact .inr ⟨_, rfl⟩ | apply And.intro)); done)); (iterate 1 (focus (first | assumption | omega | ((try simp only [LN] at *); omega)))))
    | ((with_reducible refine eqN_mk2 ?_ ?_); (focus (exact Z.kb_some rfl)))
    | ((with_reducible apply ex_and); exact rfl)
    | ((with_reducible refine Z.rngN.mk ?_); (try subst hlb))
    | ((with_reducible refine Z.CallZ.yl ?_); refine Z.yield_rule tabOk _ _ rfl rfl rfl rfl ?_)
    | ((with_reducible refine Z.CallZ.yl ?_); subst hlb; refine Z.yield_rule tabOk _ _ rfl rfl rfl rfl ?_)
    | ((with_reducible refine Z.RangeZ.red ?_); (refine Z.range_rule [(2, _), (4, _), (8, _), (10, _), (11, _), (35, _)] rfl ⟨rfl, rfl, rfl, rfl, rfl, rfl, trivial⟩ rfl rfl ?_); intro lb hlb)
    | ((with_reducible refine Z.RangeZ.red ?_); (refine Z.range_rule [(2, _), (3, _), (10, _)] rfl ⟨rfl, rfl, rfl, trivial⟩ rfl rfl ?_); intro lb hlb)
    | with_reducible first | refine Z.drawZ_rule tabOk mixOk ?_ | refine Z.apZ_mk (by kernel_rfl) ?_
    | ((with_reducible refine Z.ConZ.red ?_); (try subst hlb); (apply Z.conZ_all); (focus (repeat (first | exact Z.FK.nil | (apply Z.FK.keep; exact rfl)))); (focus rfl); (focus rfl); (focus (repeat (first | exact trivial | (refine ⟨(fun o ho => (by first | (cases ho; rfl) | (cases ho; exact Z.inL_map fun _ => rfl) | (cases ho; exact Z.inL_mapr fun _ => rfl) | exact Z.inL_gB ho fun _ => rfl)), ?_⟩)))))
    | ((refine ⟨rfl, ?_, rfl⟩); (focus (repeat (first | exact Z.DK.nil | apply Z.DK.cons))))
    | (focus (exact (rfl : Nat.ble _ _ = true))))
  all_goals (try (conv => whnf))
  all_goals try (show Nat.ble _ _ = true; rfl)
  all_goals first
    | ((first | (with_reducible apply Z.retF1) | (with_reducible apply Z.retF2) | (with_reducible apply Z.retF0)); (focus (exact rfl)); (repeat' (first | exact trivial | (with_reducible apply Z.frz_one) | (with_reducible apply Z.frz_agg) | (with_reducible apply Z.fq_int) | (with_reducible apply Z.fq_bool) | (exact Z.frz_nil) | (exact Z.frz_osl0 rfl rfl rfl) | (with_reducible apply Z.fq_nil) | (with_reducible apply Z.fq_ro) | ((with_reducible apply Z.fq_gsl); (focus (first | rfl | exact Z.isB_map _ | exact Z.gB_snoc.symm)); (focus (exact fun _ => rfl))) | ((with_reducible apply Z.fq_osl); (focus (exact rfl)); (focus (first | exact rfl | (simp only [List.length_map, Nat.zero_add]; done) | ((try simp only [LN] at *) <;> omega))); (focus (exact fun _ => rfl))) | ((with_reducible apply Z.fq_src); (focus (exact rfl)); (focus (first | exact rfl | (simp only [List.length_map, Nat.zero_add]; done) | ((try simp only [LN] at *) <;> omega))); (focus (exact fun _ => rfl))) | exact rfl | ((apply Z.fq_osl); (focus (exact rfl)); (focus (first | exact rfl | (simp only [List.length_map, Nat.zero_add]; done) | ((try simp only [LN] at *) <;> omega))); (focus (exact fun _ => rfl))) | ((apply Z.fq_src); (focus (exact rfl)); (focus (first | exact rfl | (simp only [List.length_map, Nat.zero_add]; done) | ((try simp only [LN] at *) <;> omega))); (focus (exact fun _ => rfl))) | (apply Z.fq_ro) | (apply Z.fq_int) | (apply Z.fq_bool) | apply And.intro)); (all_goals (try exact (fun _ => none))); all_goals (first | rfl | (rw [hk]; rfl)))
    | (exfalso; simp_all; done)
    | (fail)

theorem rel_emp (keep number : Int) (hk : okS keep [] = true) : Con Try.prog 17 [.agg [.v (.int .i64 keep), .ro false 3 (([] : List Kp).map eK)], .one (.v (.int .u64 number))] (fun rx rK rt => rx = .tup [.agg [.v (.int .i64 0), .ro true 3 ((([] : List Kp)).map eK)], .one (.ro true 1 ((([] : List Int)).map eU)), .one (.v (.int .i64 4))] ∧ rK = [] ∧ rt = 0) := by
  refine Z.con_ofF tabOk 13 Try.f17 _ Try.func17 (by kernel_rfl) rfl rfl rfl rfl ?_
  have cf := find_n keep number [] (Nat.zero_le _) rfl
  repeat' ((conv => whnf); first
    | with_reducible first | refine spB_t ?_
    | ((with_reducible apply spB_cong); (focus (simp only [beq_self_eq_true, bne_self_eq_false, Bool.true_bne, Bool.false_bne, Bool.bne_true, Bool.bne_false, Bool.true_beq, Bool.false_beq, Bool.not_true, Bool.not_false, Bool.not_not, Int.reduceBEq, Int.reduceBNe, Int.reduceLE, Int.reduceLT, Int.reduceEq, decide_true, decide_false, hk, cond_true]; rfl)))
    | with_reducible first | refine spB_yes (by decide) ?_ | refine spB_no (by decide) ?_ | refine spB_f ?_ | refine spB_not ?_ | refine spB_yes (by assumption) ?_ | refine spB_no (by assumption) ?_
    | (with_reducible refine spB_dec ?_ ?_ <;> intro _ <;> (try (exfalso; first | contradiction | omega | (simp only [LN] at *; omega))))
    | (with_reducible refine spB_beq ?_ ?_ <;> intro _ <;> (try (exfalso; first | contradiction | omega | (simp only [LN] at *; omega))))
    | (with_reducible refine spB_bne ?_ ?_ <;> intro _ <;> (try (exfalso; first | contradiction | omega | (simp only [LN] at *; omega))))
    | (with_reducible refine spB_mk ?_ ?_ <;> intro _ <;> (try (exfalso; first | contradiction | omega | (simp only [LN] at *; omega))))
    | ((with_reducible refine Z.callZ_cap ?_); intro capv hcapv)
    | ((with_reducible refine posE_pos ?_ ?_); (focus ((try simp only [LN] at *) <;> omega)))
    | ((with_reducible refine posE_nil ?_ ?_); (focus rfl))
    | ((with_reducible apply rowN_mk); (focus rfl))
    | ((with_reducible apply ixN_lit); (focus (exact rfl)); (focus (exact rfl)))
    | ((with_reducible apply ixN_litp); (focus (exact rfl)); (focus ((try simp only [LN] at *) <;> omega)))
    | ((with_reducible refine eqN_mk2 ?_ ?_); (focus rfl))
    | ((with_reducible refine posN_mk2 ?_ ?_); (focus (first | decide | ((try simp only [LN] at *) <;> omega))))
    | ((with_reducible refine apdE_r ?_); (with_reducible refine aprN.mk ⟨_, rfl, ?_⟩ ?_ ?_ ?_ ?_); (focus ((try simp only [LN] at *) <;> omega)); (focus (first | rfl | (simp; done) | ((try simp only [LN] at *) <;> omega))); (focus (first | exact one_all (by rfl) | exact one_map (fun _ => rfl) | exact one_map2 (fun _ => rfl) | exact one_drop (fun _ => rfl))); (focus ((try simp only [LN] at *) <;> omega)))
    | with_reducible first | refine apdE_n ?_
    | ((with_reducible refine slE_a ?_ ?_); (focus ((try simp only [LN] at *) <;> omega)))
    | ((with_reducible refine slE_b ?_ ?_); (focus ((try simp only [LN] at *) <;> omega)))
    | ((with_reducible refine slE_split ?_ ?_ ?_); (focus ((try simp only [LN] at *) <;> omega)); (all_goals intro _))
    | ((with_reducible apply sl3N_mk); (focus (exact rfl)); (focus (exact rfl)); (focus (exact rfl)); (focus ((try simp only [LN] at *) <;> omega)); (focus ((try simp only [LN] at *) <;> omega)); (focus ((try simp only [LN] at *) <;> omega)); (focus ((try simp only [LN] at *) <;> omega)))
    | ((with_reducible refine clrN_mk ?_ ?_ ?_); (focus ((try simp only [LN] at *) <;> omega)); (focus rfl))
    | ((with_reducible refine apdN.mk ?_ ?_ ?_ ?_ ?_ ?_); (focus (first | rfl | (simp; done))); (focus (first | exact one_all (by rfl) | exact one_map (fun _ => rfl) | exact one_map2 (fun _ => rfl))); (focus ((try simp only [LN] at *) <;> omega)); (focus ((try simp only [LN] at *) <;> omega)); (focus ((try simp only [LN] at *) <;> omega)))
    | with_reducible refine wr_i64 (by first | omega | (simp only [LN] at *; omega)) ?_
    | with_reducible refine wr_u64 (by omega) ?_
    | with_reducible refine wr_u8 (by omega) ?_
    | with_reducible refine wr_u32 (by omega) ?_
    | with_reducible first | refine wr_mk _ rfl ?_
    | ((with_reducible refine ixN_nat ?_ ?_); (focus ((try simp only [LN] at *) <;> omega)))
    | ((with_reducible refine rowN_map ?_ ?_); (focus ((try simp only [LN] at *) <;> omega)); intro x hx)
    | ((with_reducible refine posE_nil (by rfl) ?_))
    | ((with_reducible refine posE_pos (by decide) ?_))
    | with_reducible refine eqN_dec (by omega) ?_
    | with_reducible first | refine apN_mk (by kernel_rfl) ?_ | refine Z.callZ_in tabOk 15 Try.f32 _ Try.func32 (by kernel_rfl) rfl rfl rfl ?_ | refine Z.callZ_in tabOk 11 Try.f36 _ Try.func36 (by kernel_rfl) rfl rfl rfl ?_ | refine Z.callZ_in tabOk 62 Try.f27 _ Try.func27 (by kernel_rfl) rfl rfl rfl ?_ | refine Z.callZ_in tabOk 25 Try.f44 _ Try.func44 (by kernel_rfl) rfl rfl rfl ?_ | refine Z.callZ_in tabOk 4 Try.f40 _ Try.func40 (by kernel_rfl) rfl rfl rfl ?_ | refine Z.callZ_in tabOk 33 Try.f41 _ Try.func41 (by kernel_rfl) rfl rfl rfl ?_ | refine Z.callZ_in tabOk 28 Try.f42 _ Try.func42 (by kernel_rfl) rfl rfl rfl ?_ | refine Z.callZ_in tabOk 26 Try.f48 _ Try.func48 (by kernel_rfl) rfl rfl rfl ?_ | refine Z.callZ_in tabOk 4 Try.f49 _ Try.func49 (by kernel_rfl) rfl rfl rfl ?_ | refine Z.callZ_in tabOk 19 Try.f52 _ Try.func52 (by kernel_rfl) rfl rfl rfl ?_
    | ((first | (with_reducible apply Z.conZ_mz ?_ (cf) ?_) | (with_reducible apply Z.callZ_mk ?_ (cf) ?_) | (with_reducible apply Z.conZ_mz ?_ (cloneE_con) ?_) | (with_reducible apply Z.callZ_mk ?_ (cloneE_con) ?_)); (focus ((repeat' (first | exact trivial | exact rfl | exact Z.low_nil | exact Z.low_nil2 | exact low_osl (fun _ => rfl) | (refine Z.low_osln ?_ (fun _ => rfl); (simp only [List.length_map]; done)) | exact low_oslr (fun _ => rfl) | exact Z.low_gslm (by first | rfl | exact Z.kb_some rfl) (fun _ => rfl) | exact .inl rfl | exact .inr ⟨_, rfl⟩ | apply And.intro)); done)))
    | ((first | (with_reducible apply Z.conZ_mz ?_ (plain_con _) ?_) | (with_reducible apply Z.callZ_mk ?_ (plain_con _) ?_)); (rotate_left 1); (focus ((repeat' (first | exact trivial | exact rfl | exact Z.low_nil | exact Z.low_nil2 | exact low_osl (fun _ => rfl) | (refine Z.low_osln ?_ (fun _ => rfl); (simp only [List.length_map]; done)) | exact low_oslr (fun _ => rfl) | exact Z.low_gslm (by first | rfl | exact Z.kb_some rfl) (fun _ => rfl) | exact .inl rfl | exact .inr ⟨_, rfl⟩ | apply And.intro)); done)))
    | ((first | (with_reducible apply Z.conZ_mz ?_ (check_con _ _ ?_) ?_) | (with_reducible apply Z.callZ_mk ?_ (check_con _ _ ?_) ?_)); (rotate_left 2); (focus ((repeat' (first | exact trivial | exact rfl | exact Z.low_nil | exact Z.low_nil2 | exact low_osl (fun _ => rfl) | (refine Z.low_osln ?_ (fun _ => rfl); (simp only [List.length_map]; done)) | exact low_oslr (fun _ => rfl) | exact Z.low_gslm (by first | rfl | exact Z.kb_some rfl) (fun _ => rfl) | exact .inl rfl | exact .inr ⟨_, rfl⟩ | apply And.intro)); done)); (iterate 1 (focus (first | assumption | omega | ((try simp only [LN] at *); omega)))))
    | ((with_reducible refine eqN_mk2 ?_ ?_); (focus (exact Z.kb_some rfl)))
    | ((with_reducible apply ex_and); exact rfl)
    | ((with_reducible refine Z.rngN.mk ?_); (try subst hlb))
    | ((with_reducible refine Z.CallZ.yl ?_); refine Z.yield_rule tabOk _ _ rfl rfl rfl rfl ?_)
    | ((with_reducible refine Z.CallZ.yl ?_); subst hlb; refine Z.yield_rule tabOk _ _ rfl rfl rfl rfl ?_)
    | ((with_reducible refine Z.RangeZ.red ?_); (refine Z.range_rule [(2, _), (4, _), (8, _), (10, _), (11, _), (35, _)] rfl ⟨rfl, rfl, rfl, rfl, rfl, rfl, trivial⟩ rfl rfl ?_); intro lb hlb)
    | ((with_reducible refine Z.RangeZ.red ?_); (refine Z.range_rule [(2, _), (3, _), (10, _)] rfl ⟨rfl, rfl, rfl, trivial⟩ rfl rfl ?_); intro lb hlb)
    | with_reducible first | refine Z.drawZ_rule tabOk mixOk ?_ | refine Z.apZ_mk (by kernel_rfl) ?_
    | ((with_reducible refine Z.ConZ.red ?_); (try subst hlb); (apply Z.conZ_all); (focus (repeat (first | exact Z.FK.nil | (apply Z.FK.keep; exact rfl)))); (focus rfl); (focus rfl); (focus (repeat (first | exact trivial | (refine ⟨(fun o ho => (by first | (cases ho; rfl) | (cases ho; exact Z.inL_map fun _ => rfl) | (cases ho; exact Z.inL_mapr fun _ => rfl) | exact Z.inL_gB ho fun _ => rfl)), ?_⟩)))))
    | ((refine ⟨rfl, ?_, rfl⟩); (focus (repeat (first | exact Z.DK.nil | apply Z.DK.cons))))
    | (focus (exact (rfl : Nat.ble _ _ = true))))
  all_goals (try (conv => whnf))
  all_goals try (show Nat.ble _ _ = true; rfl)
  all_goals first
    | ((first | (with_reducible apply Z.retF1) | (with_reducible apply Z.retF2) | (with_reducible apply Z.retF0)); (focus (exact rfl)); (repeat' (first | exact trivial | (with_reducible apply Z.frz_one) | (with_reducible apply Z.frz_agg) | (with_reducible apply Z.fq_int) | (with_reducible apply Z.fq_bool) | (exact Z.frz_nil) | (exact Z.frz_osl0 rfl rfl rfl) | (with_reducible apply Z.fq_nil) | (with_reducible apply Z.fq_ro) | ((with_reducible apply Z.fq_gsl); (focus (first | rfl | exact Z.isB_map _ | exact Z.gB_snoc.symm)); (focus (exact fun _ => rfl))) | ((with_reducible apply Z.fq_osl); (focus (exact rfl)); (focus (first | exact rfl | (simp only [List.length_map, Nat.zero_add]; done) | ((try simp only [LN] at *) <;> omega))); (focus (exact fun _ => rfl))) | ((with_reducible apply Z.fq_src); (focus (exact rfl)); (focus (first | exact rfl | (simp only [List.length_map, Nat.zero_add]; done) | ((try simp only [LN] at *) <;> omega))); (focus (exact fun _ => rfl))) | exact rfl | ((apply Z.fq_osl); (focus (exact rfl)); (focus (first | exact rfl | (simp only [List.length_map, Nat.zero_add]; done) | ((try simp only [LN] at *) <;> omega))); (focus (exact fun _ => rfl))) | ((apply Z.fq_src); (focus (exact rfl)); (focus (first | exact rfl | (simp only [List.length_map, Nat.zero_add]; done) | ((try simp only [LN] at *) <;> omega))); (focus (exact fun _ => rfl))) | (apply Z.fq_ro) | (apply Z.fq_int) | (apply Z.fq_bool) | apply And.intro)); (all_goals (try exact (fun _ => none))); all_goals (first | rfl | (rw [hk]; rfl)))
    | (exfalso; simp_all; done)
    | (fail)

end Go.Proofs.Ytnlcmncfbiognaa
