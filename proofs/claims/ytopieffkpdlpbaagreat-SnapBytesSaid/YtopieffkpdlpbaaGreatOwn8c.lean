import Derived.Test.YtopieffkpdlpbaaGreatOwn8
set_option linter.unusedVariables false
set_option linter.unusedSimpArgs false
namespace Go.Proofs.YtopieffkpdlpbaaGreat
open Go Go.RowKit Wx
set_option maxHeartbeats 40000000
open Tab
theorem sdec_s0   : Con Tryz.prog 17 [.one (.ro false 1 (([] : List Int).map eB))] (fun rx rK rt => rx = .tup [.agg [.v (.int .i64 zeroS.op), .v (.int .i64 zeroS.ix), .v (.int .i64 zeroS.w), .v (.bool zeroS.en), .ro true 4 (zeroS.rows.map Tab.eK), .v (.int .i64 zeroS.o0), .v (.int .i64 zeroS.o1), .v (.int .i64 zeroS.o2), .v (.int .i64 zeroS.o3), .v (.int .i64 zeroS.o4), .v (.int .i64 zeroS.o5), .v (.int .i64 zeroS.o6), .v (.int .i64 zeroS.o7), .ro true 3 (zeroS.txs.map eN)], .one (.v (.int .i64 7))] ∧ rK = [] ∧ rt = 0) := by
 refine Z.con_ofF tabOk 89 Tryz.f17 _ Tryz.func17 (by kernel_rfl) rfl rfl rfl rfl ?_
 have ccp := copied_con ([] : List Int) (by simp)
 have cp := putO16_con [] 0 (by simp) ⟨by decide, by decide⟩
 repeat' ((conv => whnf); first
  | with_reducible first | refine spB_t ?_
  | ((with_reducible apply spB_cong); (focus (simp only [splQ, Int.reduceBEq, Int.reduceBNe]; rfl)))
  | with_reducible first | refine spB_yes (by decide) ?_ | refine spB_no (by decide) ?_
  | ((with_reducible refine apdE_n ?_); (with_reducible refine apdN.mk ?_ ?_ ?_ ?_ ?_ ?_); (focus (first | rfl)); (focus (first | exact one_all (by rfl))); (focus (first | exact Nat.le_of_ble_eq_true rfl)); (iterate 2 (focus (first | exact Nat.le_of_ble_eq_true rfl))))
  | with_reducible refine wr_i64 (by first | omega | (simp only [LN] at *; omega)) ?_
  | with_reducible refine wr_u8 (by omega) ?_
  | with_reducible first | refine wr_mk _ rfl ?_
  | with_reducible first | refine Z.callZ_in tabOk 8 Tryz.f42 _ Tryz.func42 (by kernel_rfl) rfl rfl rfl ?_ | refine Z.callZ_in tabOk 6 Tryz.f43 _ Tryz.func43 (by kernel_rfl) rfl rfl rfl ?_ | refine Z.callZ_in tabOk 14 Tryz.f44 _ Tryz.func44 (by kernel_rfl) rfl rfl rfl ?_ | refine Z.callZ_in tabOk 10 Tryz.f80 _ Tryz.func80 (by kernel_rfl) rfl rfl rfl ?_ | refine Z.callZ_in tabOk 58 Tryz.f103 _ Tryz.func103 (by kernel_rfl) rfl rfl rfl ?_ | refine Z.callZ_in tabOk 6 Tryz.f81 _ Tryz.func81 (by kernel_rfl) rfl rfl rfl ?_ | refine Z.callZ_in tabOk 10 Tryz.f82 _ Tryz.func82 (by kernel_rfl) rfl rfl rfl ?_
  | ((first | (with_reducible refine Z.callZ_mk ?_ (ccp) ?_) | (with_reducible refine Z.callZ_mk ?_ (cp) ?_)); (focus ((repeat' (first | exact trivial | exact rfl | exact Z.low_nil2 | apply And.intro)); done)))
  | ((with_reducible apply ex_and); exact rfl)
  | fail)
 all_goals (try (conv => whnf))
 all_goals try first | (show Nat.ble _ _ = true; rfl) | (exfalso; rename_i hz; cases hz; done) | (exfalso; (try simp only [LN] at *) <;> omega)
 all_goals (refine Z.loopZ_unroll tabOk 9 ?_)
 repeat' ((conv => whnf); first
  | with_reducible first | refine spB_t ?_
  | ((with_reducible apply spB_cong); (focus (simp only [splQ, Int.reduceBEq, Int.reduceBNe]; rfl)))
  | with_reducible first | refine spB_yes (by decide) ?_ | refine spB_no (by decide) ?_
  | ((with_reducible apply ixN_lit); (focus rfl); (focus rfl))
  | with_reducible refine wr_i64 (by first | omega | (simp only [LN] at *; omega)) ?_
  | with_reducible refine wr_u8 (by omega) ?_
  | with_reducible first | refine Z.callZ_in tabOk 6 Tryz.f43 _ Tryz.func43 (by kernel_rfl) rfl rfl rfl ?_ | refine Z.callZ_in tabOk 10 Tryz.f80 _ Tryz.func80 (by kernel_rfl) rfl rfl rfl ?_ | refine Z.callZ_in tabOk 58 Tryz.f103 _ Tryz.func103 (by kernel_rfl) rfl rfl rfl ?_
  | ((with_reducible apply ex_and); exact rfl)
  | fail)
 all_goals (try (conv => whnf))
 all_goals try first | (show Nat.ble _ _ = true; rfl) | (exfalso; rename_i hz; cases hz; done) | (exfalso; (try simp only [LN] at *) <;> omega)
 all_goals (refine Z.loopZ_unroll tabOk 1 ?_)
 repeat' ((conv => whnf); first
  | with_reducible first | refine spB_t ?_
  | ((with_reducible apply spB_cong); (focus (simp only [splQ, Int.reduceBEq, Int.reduceBNe]; rfl)))
  | with_reducible first | refine spB_no (by decide) ?_
  | with_reducible first | refine Z.callZ_in tabOk 10 Tryz.f46 _ Tryz.func46 (by kernel_rfl) rfl rfl rfl ?_
  | ((with_reducible apply ex_and); exact rfl)
  | fail)
 all_goals (try (conv => whnf))
 all_goals try first | (show Nat.ble _ _ = true; rfl) | (exfalso; rename_i hz; cases hz; done) | (exfalso; (try simp only [LN] at *) <;> omega)
 all_goals first
  | ((first | (with_reducible apply Z.retF2)); (focus rfl); (repeat' (first | exact trivial | (with_reducible apply Z.frz_one) | (with_reducible apply Z.frz_agg) | (with_reducible apply Z.fq_int) | (with_reducible apply Z.fq_bool) | (exact Z.frz_nil) | exact rfl | apply And.intro)); (all_goals (try exact (fun _ => none))); all_goals (first | (simp; done)))
  | fail
theorem sdec_s1 (t0 : Int) (hB : isB [t0]) : Con Tryz.prog 17 [.one (.ro false 1 (([t0] : List Int).map eB))] (fun rx rK rt => rx = .tup [.agg [.v (.int .i64 zeroS.op), .v (.int .i64 zeroS.ix), .v (.int .i64 zeroS.w), .v (.bool zeroS.en), .ro true 4 (zeroS.rows.map Tab.eK), .v (.int .i64 zeroS.o0), .v (.int .i64 zeroS.o1), .v (.int .i64 zeroS.o2), .v (.int .i64 zeroS.o3), .v (.int .i64 zeroS.o4), .v (.int .i64 zeroS.o5), .v (.int .i64 zeroS.o6), .v (.int .i64 zeroS.o7), .ro true 3 (zeroS.txs.map eN)], .one (.v (.int .i64 7))] ∧ rK = [] ∧ rt = 0) := by
 refine Z.con_ofF tabOk 89 Tryz.f17 _ Tryz.func17 (by kernel_rfl) rfl rfl rfl rfl ?_
 have ccp := copied_con ([t0] : List Int) (by simp)
 have hb0 := hB t0 (by simp)
 have cp := putO16_con [] 0 (by simp) ⟨by decide, by decide⟩
 repeat' ((conv => whnf); first
  | with_reducible first | refine spB_t ?_
  | ((with_reducible apply spB_cong); (focus (simp only [splQ, Int.reduceBEq, Int.reduceBNe]; rfl)))
  | with_reducible first | refine spB_no (by decide) ?_
  | (with_reducible refine spB_dec ?_ ?_ <;> intro _ <;> (try (exfalso; (first | (rename_i hz; simp at hz; done)))))
  | ((refine sl3N_mk 0 1 1 rfl rfl rfl ?_ ?_ ?_ ?_ ?_); (iterate 4 (focus (first | exact .inl rfl | ((try simp only [LN] at *) <;> omega)))))
  | ((with_reducible refine Z.slN_lo 1 ?_ ?_ ?_); (focus rfl); (focus ((try simp only [LN] at *) <;> omega)))
  | (refine loopZ_unr1 tabOk rfl ?_)
  | ((with_reducible refine wr_shl8 ?_ ?_); (focus omega))
  | ((with_reducible refine wr_or0 ?_ ?_); (focus omega))
  | with_reducible first | refine rowN_mk _ rfl ?_
  | ((with_reducible refine apdE_n ?_); (with_reducible refine apdN.mk ?_ ?_ ?_ ?_ ?_ ?_); (focus (first | rfl)); (focus (first | exact one_all (by rfl))); (focus (first | exact Nat.le_of_ble_eq_true rfl)); (iterate 2 (focus (first | exact Nat.le_of_ble_eq_true rfl))))
  | ((with_reducible apply ixN_lit); (focus rfl); (focus rfl))
  | ((with_reducible refine eqN_mk2 ?_ ?_); (focus rfl))
  | with_reducible refine wr_i64 (by first | omega | (simp only [LN] at *; omega)) ?_
  | with_reducible refine wr_u64 (by omega) ?_
  | with_reducible refine wr_u8 (by omega) ?_
  | with_reducible first | refine wr_mk _ rfl ?_
  | with_reducible first | refine Z.callZ_in tabOk 18 Tryz.f104 _ Tryz.func104 (by kernel_rfl) rfl rfl rfl ?_ | refine Z.callZ_in tabOk 8 Tryz.f42 _ Tryz.func42 (by kernel_rfl) rfl rfl rfl ?_ | refine Z.callZ_in tabOk 6 Tryz.f43 _ Tryz.func43 (by kernel_rfl) rfl rfl rfl ?_ | refine Z.callZ_in tabOk 14 Tryz.f44 _ Tryz.func44 (by kernel_rfl) rfl rfl rfl ?_ | refine Z.callZ_in tabOk 10 Tryz.f80 _ Tryz.func80 (by kernel_rfl) rfl rfl rfl ?_ | refine Z.callZ_in tabOk 58 Tryz.f103 _ Tryz.func103 (by kernel_rfl) rfl rfl rfl ?_ | refine Z.callZ_in tabOk 6 Tryz.f81 _ Tryz.func81 (by kernel_rfl) rfl rfl rfl ?_ | refine Z.callZ_in tabOk 10 Tryz.f82 _ Tryz.func82 (by kernel_rfl) rfl rfl rfl ?_
  | ((first | (with_reducible refine Z.callZ_mk ?_ (ccp) ?_) | (with_reducible refine Z.callZ_mk ?_ (cp) ?_)); (focus ((repeat' (first | exact trivial | exact rfl | exact Z.low_nil2 | apply And.intro)); done)))
  | ((with_reducible apply ex_and); exact rfl)
  | with_reducible first | refine Z.drawZ_rule tabOk mixOk ?_ | refine Z.apZ_mk (by kernel_rfl) ?_
  | fail)
 all_goals (try (conv => whnf))
 all_goals try first | (show Nat.ble _ _ = true; rfl) | (exfalso; rename_i hz; cases hz; done) | (exfalso; (try simp only [LN] at *) <;> omega)
 all_goals (refine Z.loopZ_unroll tabOk 9 ?_)
 repeat' ((conv => whnf); first
  | with_reducible first | refine spB_t ?_
  | ((with_reducible apply spB_cong); (focus (simp only [splQ, Int.reduceBEq, Int.reduceBNe]; rfl)))
  | with_reducible first | refine spB_yes (by decide) ?_ | refine spB_no (by decide) ?_
  | ((with_reducible apply ixN_lit); (focus rfl); (focus rfl))
  | with_reducible refine wr_i64 (by first | omega | (simp only [LN] at *; omega)) ?_
  | with_reducible refine wr_u8 (by omega) ?_
  | with_reducible first | refine Z.callZ_in tabOk 6 Tryz.f43 _ Tryz.func43 (by kernel_rfl) rfl rfl rfl ?_ | refine Z.callZ_in tabOk 10 Tryz.f80 _ Tryz.func80 (by kernel_rfl) rfl rfl rfl ?_ | refine Z.callZ_in tabOk 58 Tryz.f103 _ Tryz.func103 (by kernel_rfl) rfl rfl rfl ?_
  | ((with_reducible apply ex_and); exact rfl)
  | fail)
 all_goals (try (conv => whnf))
 all_goals try first | (show Nat.ble _ _ = true; rfl) | (exfalso; rename_i hz; cases hz; done) | (exfalso; (try simp only [LN] at *) <;> omega)
 all_goals (refine Z.loopZ_unroll tabOk 1 ?_)
 repeat' ((conv => whnf); first
  | with_reducible first | refine spB_t ?_
  | ((with_reducible apply spB_cong); (focus (simp only [splQ, Int.reduceBEq, Int.reduceBNe]; rfl)))
  | with_reducible first | refine spB_no (by decide) ?_
  | with_reducible first | refine Z.callZ_in tabOk 10 Tryz.f46 _ Tryz.func46 (by kernel_rfl) rfl rfl rfl ?_
  | ((with_reducible apply ex_and); exact rfl)
  | fail)
 all_goals (try (conv => whnf))
 all_goals try first | (show Nat.ble _ _ = true; rfl) | (exfalso; rename_i hz; cases hz; done) | (exfalso; (try simp only [LN] at *) <;> omega)
 all_goals first
  | ((first | (with_reducible apply Z.retF2)); (focus rfl); (repeat' (first | exact trivial | (with_reducible apply Z.frz_one) | (with_reducible apply Z.frz_agg) | (with_reducible apply Z.fq_int) | (with_reducible apply Z.fq_bool) | (exact Z.frz_nil) | exact rfl | apply And.intro)); (all_goals (try exact (fun _ => none))); all_goals (first | (simp; done)))
  | fail
theorem sdec_s2 (t0 t1 : Int) (hB : isB [t0, t1]) : Con Tryz.prog 17 [.one (.ro false 1 (([t0, t1] : List Int).map eB))] (fun rx rK rt => rx = .tup [.agg [.v (.int .i64 zeroS.op), .v (.int .i64 zeroS.ix), .v (.int .i64 zeroS.w), .v (.bool zeroS.en), .ro true 4 (zeroS.rows.map Tab.eK), .v (.int .i64 zeroS.o0), .v (.int .i64 zeroS.o1), .v (.int .i64 zeroS.o2), .v (.int .i64 zeroS.o3), .v (.int .i64 zeroS.o4), .v (.int .i64 zeroS.o5), .v (.int .i64 zeroS.o6), .v (.int .i64 zeroS.o7), .ro true 3 (zeroS.txs.map eN)], .one (.v (.int .i64 7))] ∧ rK = [] ∧ rt = 0) := by
 refine Z.con_ofF tabOk 89 Tryz.f17 _ Tryz.func17 (by kernel_rfl) rfl rfl rfl rfl ?_
 have ccp := copied_con ([t0, t1] : List Int) (by simp)
 have hb0 := hB t0 (by simp)
 have hb1 := hB t1 (by simp)
 have cp := putO16_con [] 0 (by simp) ⟨by decide, by decide⟩
 repeat' ((conv => whnf); first
  | with_reducible first | refine spB_t ?_
  | ((with_reducible apply spB_cong); (focus (simp only [splQ, Int.reduceBEq, Int.reduceBNe]; rfl)))
  | with_reducible first | refine spB_no (by decide) ?_
  | (with_reducible refine spB_dec ?_ ?_ <;> intro _ <;> (try (exfalso; (first | (rename_i hz; simp at hz; done)))))
  | ((refine sl3N_mk 0 1 1 rfl rfl rfl ?_ ?_ ?_ ?_ ?_); (iterate 4 (focus (first | exact .inl rfl | ((try simp only [LN] at *) <;> omega)))))
  | ((with_reducible refine Z.slN_lo 1 ?_ ?_ ?_); (focus rfl); (focus ((try simp only [LN] at *) <;> omega)))
  | (refine loopZ_unr1 tabOk rfl ?_)
  | ((with_reducible refine wr_shl8 ?_ ?_); (focus omega))
  | ((with_reducible refine wr_or0 ?_ ?_); (focus omega))
  | with_reducible first | refine rowN_mk _ rfl ?_
  | ((with_reducible refine apdE_n ?_); (with_reducible refine apdN.mk ?_ ?_ ?_ ?_ ?_ ?_); (focus (first | rfl)); (focus (first | exact one_all (by rfl))); (focus (first | exact Nat.le_of_ble_eq_true rfl)); (iterate 2 (focus (first | exact Nat.le_of_ble_eq_true rfl))))
  | ((with_reducible apply ixN_lit); (focus rfl); (focus rfl))
  | ((with_reducible refine eqN_mk2 ?_ ?_); (focus rfl))
  | with_reducible refine wr_i64 (by first | omega | (simp only [LN] at *; omega)) ?_
  | with_reducible refine wr_u64 (by omega) ?_
  | with_reducible refine wr_u8 (by omega) ?_
  | with_reducible first | refine wr_mk _ rfl ?_
  | with_reducible first | refine Z.callZ_in tabOk 18 Tryz.f104 _ Tryz.func104 (by kernel_rfl) rfl rfl rfl ?_ | refine Z.callZ_in tabOk 8 Tryz.f42 _ Tryz.func42 (by kernel_rfl) rfl rfl rfl ?_ | refine Z.callZ_in tabOk 6 Tryz.f43 _ Tryz.func43 (by kernel_rfl) rfl rfl rfl ?_ | refine Z.callZ_in tabOk 14 Tryz.f44 _ Tryz.func44 (by kernel_rfl) rfl rfl rfl ?_ | refine Z.callZ_in tabOk 10 Tryz.f80 _ Tryz.func80 (by kernel_rfl) rfl rfl rfl ?_ | refine Z.callZ_in tabOk 58 Tryz.f103 _ Tryz.func103 (by kernel_rfl) rfl rfl rfl ?_ | refine Z.callZ_in tabOk 6 Tryz.f81 _ Tryz.func81 (by kernel_rfl) rfl rfl rfl ?_ | refine Z.callZ_in tabOk 10 Tryz.f82 _ Tryz.func82 (by kernel_rfl) rfl rfl rfl ?_
  | ((first | (with_reducible refine Z.callZ_mk ?_ (ccp) ?_) | (with_reducible refine Z.callZ_mk ?_ (cp) ?_)); (focus ((repeat' (first | exact trivial | exact rfl | exact Z.low_nil2 | apply And.intro)); done)))
  | ((with_reducible apply ex_and); exact rfl)
  | with_reducible first | refine Z.drawZ_rule tabOk mixOk ?_ | refine Z.apZ_mk (by kernel_rfl) ?_
  | fail)
 all_goals (try (conv => whnf))
 all_goals try first | (show Nat.ble _ _ = true; rfl) | (exfalso; rename_i hz; cases hz; done) | (exfalso; (try simp only [LN] at *) <;> omega)
 all_goals (refine Z.loopZ_unroll tabOk 9 ?_)
 repeat' ((conv => whnf); first
  | with_reducible first | refine spB_t ?_
  | ((with_reducible apply spB_cong); (focus (simp only [splQ, Int.reduceBEq, Int.reduceBNe]; rfl)))
  | with_reducible first | refine spB_yes (by decide) ?_ | refine spB_no (by decide) ?_
  | ((with_reducible apply ixN_lit); (focus rfl); (focus rfl))
  | with_reducible refine wr_i64 (by first | omega | (simp only [LN] at *; omega)) ?_
  | with_reducible refine wr_u8 (by omega) ?_
  | with_reducible first | refine Z.callZ_in tabOk 6 Tryz.f43 _ Tryz.func43 (by kernel_rfl) rfl rfl rfl ?_ | refine Z.callZ_in tabOk 10 Tryz.f80 _ Tryz.func80 (by kernel_rfl) rfl rfl rfl ?_ | refine Z.callZ_in tabOk 58 Tryz.f103 _ Tryz.func103 (by kernel_rfl) rfl rfl rfl ?_
  | ((with_reducible apply ex_and); exact rfl)
  | fail)
 all_goals (try (conv => whnf))
 all_goals try first | (show Nat.ble _ _ = true; rfl) | (exfalso; rename_i hz; cases hz; done) | (exfalso; (try simp only [LN] at *) <;> omega)
 all_goals (refine Z.loopZ_unroll tabOk 1 ?_)
 repeat' ((conv => whnf); first
  | with_reducible first | refine spB_t ?_
  | ((with_reducible apply spB_cong); (focus (simp only [splQ, Int.reduceBEq, Int.reduceBNe]; rfl)))
  | with_reducible first | refine spB_no (by decide) ?_
  | with_reducible first | refine Z.callZ_in tabOk 10 Tryz.f46 _ Tryz.func46 (by kernel_rfl) rfl rfl rfl ?_
  | ((with_reducible apply ex_and); exact rfl)
  | fail)
 all_goals (try (conv => whnf))
 all_goals try first | (show Nat.ble _ _ = true; rfl) | (exfalso; rename_i hz; cases hz; done) | (exfalso; (try simp only [LN] at *) <;> omega)
 all_goals first
  | ((first | (with_reducible apply Z.retF2)); (focus rfl); (repeat' (first | exact trivial | (with_reducible apply Z.frz_one) | (with_reducible apply Z.frz_agg) | (with_reducible apply Z.fq_int) | (with_reducible apply Z.fq_bool) | (exact Z.frz_nil) | exact rfl | apply And.intro)); (all_goals (try exact (fun _ => none))); all_goals (first | (simp; done)))
  | fail
theorem sdec_s3 (t0 t1 t2 : Int) (hB : isB [t0, t1, t2]) : Con Tryz.prog 17 [.one (.ro false 1 (([t0, t1, t2] : List Int).map eB))] (fun rx rK rt => rx = .tup [.agg [.v (.int .i64 zeroS.op), .v (.int .i64 zeroS.ix), .v (.int .i64 zeroS.w), .v (.bool zeroS.en), .ro true 4 (zeroS.rows.map Tab.eK), .v (.int .i64 zeroS.o0), .v (.int .i64 zeroS.o1), .v (.int .i64 zeroS.o2), .v (.int .i64 zeroS.o3), .v (.int .i64 zeroS.o4), .v (.int .i64 zeroS.o5), .v (.int .i64 zeroS.o6), .v (.int .i64 zeroS.o7), .ro true 3 (zeroS.txs.map eN)], .one (.v (.int .i64 7))] ∧ rK = [] ∧ rt = 0) := by
 refine Z.con_ofF tabOk 89 Tryz.f17 _ Tryz.func17 (by kernel_rfl) rfl rfl rfl rfl ?_
 have ccp := copied_con ([t0, t1, t2] : List Int) (by simp)
 have hb0 := hB t0 (by simp)
 have hb1 := hB t1 (by simp)
 have hb2 := hB t2 (by simp)
 have cp := putO16_con [] 0 (by simp) ⟨by decide, by decide⟩
 repeat' ((conv => whnf); first
  | with_reducible first | refine spB_t ?_
  | ((with_reducible apply spB_cong); (focus (simp only [splQ, Int.reduceBEq, Int.reduceBNe]; rfl)))
  | with_reducible first | refine spB_no (by decide) ?_
  | (with_reducible refine spB_dec ?_ ?_ <;> intro _ <;> (try (exfalso; (first | (rename_i hz; simp at hz; done)))))
  | ((refine sl3N_mk 0 1 1 rfl rfl rfl ?_ ?_ ?_ ?_ ?_); (iterate 4 (focus (first | exact .inl rfl | ((try simp only [LN] at *) <;> omega)))))
  | ((with_reducible refine Z.slN_lo 1 ?_ ?_ ?_); (focus rfl); (focus ((try simp only [LN] at *) <;> omega)))
  | (refine loopZ_unr1 tabOk rfl ?_)
  | ((with_reducible refine wr_shl8 ?_ ?_); (focus omega))
  | ((with_reducible refine wr_or0 ?_ ?_); (focus omega))
  | with_reducible first | refine rowN_mk _ rfl ?_
  | ((with_reducible refine apdE_n ?_); (with_reducible refine apdN.mk ?_ ?_ ?_ ?_ ?_ ?_); (focus (first | rfl)); (focus (first | exact one_all (by rfl))); (focus (first | exact Nat.le_of_ble_eq_true rfl)); (iterate 2 (focus (first | exact Nat.le_of_ble_eq_true rfl))))
  | ((with_reducible apply ixN_lit); (focus rfl); (focus rfl))
  | ((with_reducible refine eqN_mk2 ?_ ?_); (focus rfl))
  | with_reducible refine wr_i64 (by first | omega | (simp only [LN] at *; omega)) ?_
  | with_reducible refine wr_u64 (by omega) ?_
  | with_reducible refine wr_u8 (by omega) ?_
  | with_reducible first | refine wr_mk _ rfl ?_
  | with_reducible first | refine Z.callZ_in tabOk 18 Tryz.f104 _ Tryz.func104 (by kernel_rfl) rfl rfl rfl ?_ | refine Z.callZ_in tabOk 8 Tryz.f42 _ Tryz.func42 (by kernel_rfl) rfl rfl rfl ?_ | refine Z.callZ_in tabOk 6 Tryz.f43 _ Tryz.func43 (by kernel_rfl) rfl rfl rfl ?_ | refine Z.callZ_in tabOk 14 Tryz.f44 _ Tryz.func44 (by kernel_rfl) rfl rfl rfl ?_ | refine Z.callZ_in tabOk 10 Tryz.f80 _ Tryz.func80 (by kernel_rfl) rfl rfl rfl ?_ | refine Z.callZ_in tabOk 58 Tryz.f103 _ Tryz.func103 (by kernel_rfl) rfl rfl rfl ?_ | refine Z.callZ_in tabOk 6 Tryz.f81 _ Tryz.func81 (by kernel_rfl) rfl rfl rfl ?_ | refine Z.callZ_in tabOk 10 Tryz.f82 _ Tryz.func82 (by kernel_rfl) rfl rfl rfl ?_
  | ((first | (with_reducible refine Z.callZ_mk ?_ (ccp) ?_) | (with_reducible refine Z.callZ_mk ?_ (cp) ?_)); (focus ((repeat' (first | exact trivial | exact rfl | exact Z.low_nil2 | apply And.intro)); done)))
  | ((with_reducible apply ex_and); exact rfl)
  | with_reducible first | refine Z.drawZ_rule tabOk mixOk ?_ | refine Z.apZ_mk (by kernel_rfl) ?_
  | fail)
 all_goals (try (conv => whnf))
 all_goals try first | (show Nat.ble _ _ = true; rfl) | (exfalso; rename_i hz; cases hz; done) | (exfalso; (try simp only [LN] at *) <;> omega)
 all_goals (refine Z.loopZ_unroll tabOk 9 ?_)
 repeat' ((conv => whnf); first
  | with_reducible first | refine spB_t ?_
  | ((with_reducible apply spB_cong); (focus (simp only [splQ, Int.reduceBEq, Int.reduceBNe]; rfl)))
  | with_reducible first | refine spB_yes (by decide) ?_ | refine spB_no (by decide) ?_
  | ((with_reducible apply ixN_lit); (focus rfl); (focus rfl))
  | with_reducible refine wr_i64 (by first | omega | (simp only [LN] at *; omega)) ?_
  | with_reducible refine wr_u8 (by omega) ?_
  | with_reducible first | refine Z.callZ_in tabOk 6 Tryz.f43 _ Tryz.func43 (by kernel_rfl) rfl rfl rfl ?_ | refine Z.callZ_in tabOk 10 Tryz.f80 _ Tryz.func80 (by kernel_rfl) rfl rfl rfl ?_ | refine Z.callZ_in tabOk 58 Tryz.f103 _ Tryz.func103 (by kernel_rfl) rfl rfl rfl ?_
  | ((with_reducible apply ex_and); exact rfl)
  | fail)
 all_goals (try (conv => whnf))
 all_goals try first | (show Nat.ble _ _ = true; rfl) | (exfalso; rename_i hz; cases hz; done) | (exfalso; (try simp only [LN] at *) <;> omega)
 all_goals (refine Z.loopZ_unroll tabOk 1 ?_)
 repeat' ((conv => whnf); first
  | with_reducible first | refine spB_t ?_
  | ((with_reducible apply spB_cong); (focus (simp only [splQ, Int.reduceBEq, Int.reduceBNe]; rfl)))
  | with_reducible first | refine spB_no (by decide) ?_
  | with_reducible first | refine Z.callZ_in tabOk 10 Tryz.f46 _ Tryz.func46 (by kernel_rfl) rfl rfl rfl ?_
  | ((with_reducible apply ex_and); exact rfl)
  | fail)
 all_goals (try (conv => whnf))
 all_goals try first | (show Nat.ble _ _ = true; rfl) | (exfalso; rename_i hz; cases hz; done) | (exfalso; (try simp only [LN] at *) <;> omega)
 all_goals first
  | ((first | (with_reducible apply Z.retF2)); (focus rfl); (repeat' (first | exact trivial | (with_reducible apply Z.frz_one) | (with_reducible apply Z.frz_agg) | (with_reducible apply Z.fq_int) | (with_reducible apply Z.fq_bool) | (exact Z.frz_nil) | exact rfl | apply And.intro)); (all_goals (try exact (fun _ => none))); all_goals (first | (simp; done)))
  | fail
theorem sdec_s4 (t0 t1 t2 t3 : Int) (hB : isB [t0, t1, t2, t3]) : Con Tryz.prog 17 [.one (.ro false 1 (([t0, t1, t2, t3] : List Int).map eB))] (fun rx rK rt => rx = .tup [.agg [.v (.int .i64 zeroS.op), .v (.int .i64 zeroS.ix), .v (.int .i64 zeroS.w), .v (.bool zeroS.en), .ro true 4 (zeroS.rows.map Tab.eK), .v (.int .i64 zeroS.o0), .v (.int .i64 zeroS.o1), .v (.int .i64 zeroS.o2), .v (.int .i64 zeroS.o3), .v (.int .i64 zeroS.o4), .v (.int .i64 zeroS.o5), .v (.int .i64 zeroS.o6), .v (.int .i64 zeroS.o7), .ro true 3 (zeroS.txs.map eN)], .one (.v (.int .i64 7))] ∧ rK = [] ∧ rt = 0) := by
 refine Z.con_ofF tabOk 89 Tryz.f17 _ Tryz.func17 (by kernel_rfl) rfl rfl rfl rfl ?_
 have ccp := copied_con ([t0, t1, t2, t3] : List Int) (by simp)
 have hb0 := hB t0 (by simp)
 have hb1 := hB t1 (by simp)
 have hb2 := hB t2 (by simp)
 have hb3 := hB t3 (by simp)
 have cp := putO16_con [] 0 (by simp) ⟨by decide, by decide⟩
 repeat' ((conv => whnf); first
  | with_reducible first | refine spB_t ?_
  | ((with_reducible apply spB_cong); (focus (simp only [splQ, Int.reduceBEq, Int.reduceBNe]; rfl)))
  | with_reducible first | refine spB_no (by decide) ?_
  | (with_reducible refine spB_dec ?_ ?_ <;> intro _ <;> (try (exfalso; (first | (rename_i hz; simp at hz; done)))))
  | ((refine sl3N_mk 0 1 1 rfl rfl rfl ?_ ?_ ?_ ?_ ?_); (iterate 4 (focus (first | exact .inl rfl | ((try simp only [LN] at *) <;> omega)))))
  | ((with_reducible refine Z.slN_lo 1 ?_ ?_ ?_); (focus rfl); (focus ((try simp only [LN] at *) <;> omega)))
  | (refine loopZ_unr1 tabOk rfl ?_)
  | ((with_reducible refine wr_shl8 ?_ ?_); (focus omega))
  | ((with_reducible refine wr_or0 ?_ ?_); (focus omega))
  | with_reducible first | refine rowN_mk _ rfl ?_
  | ((with_reducible refine apdE_n ?_); (with_reducible refine apdN.mk ?_ ?_ ?_ ?_ ?_ ?_); (focus (first | rfl)); (focus (first | exact one_all (by rfl))); (focus (first | exact Nat.le_of_ble_eq_true rfl)); (iterate 2 (focus (first | exact Nat.le_of_ble_eq_true rfl))))
  | ((with_reducible apply ixN_lit); (focus rfl); (focus rfl))
  | ((with_reducible refine eqN_mk2 ?_ ?_); (focus rfl))
  | with_reducible refine wr_i64 (by first | omega | (simp only [LN] at *; omega)) ?_
  | with_reducible refine wr_u64 (by omega) ?_
  | with_reducible first | refine wr_mk _ rfl ?_
  | with_reducible first | refine Z.callZ_in tabOk 18 Tryz.f104 _ Tryz.func104 (by kernel_rfl) rfl rfl rfl ?_ | refine Z.callZ_in tabOk 8 Tryz.f42 _ Tryz.func42 (by kernel_rfl) rfl rfl rfl ?_ | refine Z.callZ_in tabOk 6 Tryz.f43 _ Tryz.func43 (by kernel_rfl) rfl rfl rfl ?_ | refine Z.callZ_in tabOk 14 Tryz.f44 _ Tryz.func44 (by kernel_rfl) rfl rfl rfl ?_ | refine Z.callZ_in tabOk 10 Tryz.f80 _ Tryz.func80 (by kernel_rfl) rfl rfl rfl ?_ | refine Z.callZ_in tabOk 58 Tryz.f103 _ Tryz.func103 (by kernel_rfl) rfl rfl rfl ?_ | refine Z.callZ_in tabOk 6 Tryz.f81 _ Tryz.func81 (by kernel_rfl) rfl rfl rfl ?_ | refine Z.callZ_in tabOk 10 Tryz.f82 _ Tryz.func82 (by kernel_rfl) rfl rfl rfl ?_
  | ((first | (with_reducible refine Z.callZ_mk ?_ (ccp) ?_) | (with_reducible refine Z.callZ_mk ?_ (cp) ?_)); (focus ((repeat' (first | exact trivial | exact rfl | exact Z.low_nil2 | apply And.intro)); done)))
  | ((with_reducible apply ex_and); exact rfl)
  | with_reducible first | refine Z.drawZ_rule tabOk mixOk ?_ | refine Z.apZ_mk (by kernel_rfl) ?_
  | fail)
 all_goals (try (conv => whnf))
 all_goals try first | (show Nat.ble _ _ = true; rfl) | (exfalso; rename_i hz; cases hz; done) | (exfalso; (try simp only [LN] at *) <;> omega)
 all_goals (refine Z.loopZ_unroll tabOk 9 ?_)
 repeat' ((conv => whnf); first
  | with_reducible first | refine spB_t ?_
  | ((with_reducible apply spB_cong); (focus (simp only [splQ, Int.reduceBEq, Int.reduceBNe]; rfl)))
  | with_reducible first | refine spB_yes (by decide) ?_ | refine spB_no (by decide) ?_
  | ((with_reducible apply ixN_lit); (focus rfl); (focus rfl))
  | with_reducible refine wr_i64 (by first | omega | (simp only [LN] at *; omega)) ?_
  | with_reducible refine wr_u8 (by omega) ?_
  | with_reducible first | refine Z.callZ_in tabOk 6 Tryz.f43 _ Tryz.func43 (by kernel_rfl) rfl rfl rfl ?_ | refine Z.callZ_in tabOk 10 Tryz.f80 _ Tryz.func80 (by kernel_rfl) rfl rfl rfl ?_ | refine Z.callZ_in tabOk 58 Tryz.f103 _ Tryz.func103 (by kernel_rfl) rfl rfl rfl ?_
  | ((with_reducible apply ex_and); exact rfl)
  | fail)
 all_goals (try (conv => whnf))
 all_goals try first | (show Nat.ble _ _ = true; rfl) | (exfalso; rename_i hz; cases hz; done) | (exfalso; (try simp only [LN] at *) <;> omega)
 all_goals (refine Z.loopZ_unroll tabOk 1 ?_)
 repeat' ((conv => whnf); first
  | with_reducible first | refine spB_t ?_
  | ((with_reducible apply spB_cong); (focus (simp only [splQ, Int.reduceBEq, Int.reduceBNe]; rfl)))
  | with_reducible first | refine spB_no (by decide) ?_
  | with_reducible first | refine Z.callZ_in tabOk 10 Tryz.f46 _ Tryz.func46 (by kernel_rfl) rfl rfl rfl ?_
  | ((with_reducible apply ex_and); exact rfl)
  | fail)
 all_goals (try (conv => whnf))
 all_goals try first | (show Nat.ble _ _ = true; rfl) | (exfalso; rename_i hz; cases hz; done) | (exfalso; (try simp only [LN] at *) <;> omega)
 all_goals first
  | ((first | (with_reducible apply Z.retF2)); (focus rfl); (repeat' (first | exact trivial | (with_reducible apply Z.frz_one) | (with_reducible apply Z.frz_agg) | (with_reducible apply Z.fq_int) | (with_reducible apply Z.fq_bool) | (exact Z.frz_nil) | exact rfl | apply And.intro)); (all_goals (try exact (fun _ => none))); all_goals (first | (simp; done)))
  | fail
theorem sdec_s5 (t0 t1 t2 t3 t4 : Int) (hB : isB [t0, t1, t2, t3, t4]) : Con Tryz.prog 17 [.one (.ro false 1 (([t0, t1, t2, t3, t4] : List Int).map eB))] (fun rx rK rt => rx = .tup [.agg [.v (.int .i64 zeroS.op), .v (.int .i64 zeroS.ix), .v (.int .i64 zeroS.w), .v (.bool zeroS.en), .ro true 4 (zeroS.rows.map Tab.eK), .v (.int .i64 zeroS.o0), .v (.int .i64 zeroS.o1), .v (.int .i64 zeroS.o2), .v (.int .i64 zeroS.o3), .v (.int .i64 zeroS.o4), .v (.int .i64 zeroS.o5), .v (.int .i64 zeroS.o6), .v (.int .i64 zeroS.o7), .ro true 3 (zeroS.txs.map eN)], .one (.v (.int .i64 7))] ∧ rK = [] ∧ rt = 0) := by
 refine Z.con_ofF tabOk 89 Tryz.f17 _ Tryz.func17 (by kernel_rfl) rfl rfl rfl rfl ?_
 have ccp := copied_con ([t0, t1, t2, t3, t4] : List Int) (by simp)
 have hb0 := hB t0 (by simp)
 have hb1 := hB t1 (by simp)
 have hb2 := hB t2 (by simp)
 have hb3 := hB t3 (by simp)
 have hb4 := hB t4 (by simp)
 have cp := putO16_con [] 0 (by simp) ⟨by decide, by decide⟩
 repeat' ((conv => whnf); first
  | with_reducible first | refine spB_t ?_
  | ((with_reducible apply spB_cong); (focus (simp only [splQ, Int.reduceBEq, Int.reduceBNe]; rfl)))
  | with_reducible first | refine spB_no (by decide) ?_
  | (with_reducible refine spB_dec ?_ ?_ <;> intro _ <;> (try (exfalso; (first | (rename_i hz; simp at hz; done)))))
  | ((refine sl3N_mk 0 1 1 rfl rfl rfl ?_ ?_ ?_ ?_ ?_); (iterate 4 (focus (first | exact .inl rfl | ((try simp only [LN] at *) <;> omega)))))
  | ((with_reducible refine Z.slN_lo 1 ?_ ?_ ?_); (focus rfl); (focus ((try simp only [LN] at *) <;> omega)))
  | (refine loopZ_unr1 tabOk rfl ?_)
  | ((with_reducible refine wr_shl8 ?_ ?_); (focus omega))
  | ((with_reducible refine wr_or0 ?_ ?_); (focus omega))
  | with_reducible first | refine rowN_mk _ rfl ?_
  | ((with_reducible refine apdE_n ?_); (with_reducible refine apdN.mk ?_ ?_ ?_ ?_ ?_ ?_); (focus (first | rfl)); (focus (first | exact one_all (by rfl))); (focus (first | exact Nat.le_of_ble_eq_true rfl)); (iterate 2 (focus (first | exact Nat.le_of_ble_eq_true rfl))))
  | ((with_reducible apply ixN_lit); (focus rfl); (focus rfl))
  | ((with_reducible refine eqN_mk2 ?_ ?_); (focus rfl))
  | with_reducible refine wr_i64 (by first | omega | (simp only [LN] at *; omega)) ?_
  | with_reducible refine wr_u64 (by omega) ?_
  | with_reducible first | refine wr_mk _ rfl ?_
  | with_reducible first | refine Z.callZ_in tabOk 18 Tryz.f104 _ Tryz.func104 (by kernel_rfl) rfl rfl rfl ?_ | refine Z.callZ_in tabOk 8 Tryz.f42 _ Tryz.func42 (by kernel_rfl) rfl rfl rfl ?_ | refine Z.callZ_in tabOk 6 Tryz.f43 _ Tryz.func43 (by kernel_rfl) rfl rfl rfl ?_ | refine Z.callZ_in tabOk 14 Tryz.f44 _ Tryz.func44 (by kernel_rfl) rfl rfl rfl ?_ | refine Z.callZ_in tabOk 10 Tryz.f80 _ Tryz.func80 (by kernel_rfl) rfl rfl rfl ?_ | refine Z.callZ_in tabOk 58 Tryz.f103 _ Tryz.func103 (by kernel_rfl) rfl rfl rfl ?_ | refine Z.callZ_in tabOk 6 Tryz.f81 _ Tryz.func81 (by kernel_rfl) rfl rfl rfl ?_ | refine Z.callZ_in tabOk 10 Tryz.f82 _ Tryz.func82 (by kernel_rfl) rfl rfl rfl ?_
  | ((first | (with_reducible refine Z.callZ_mk ?_ (ccp) ?_) | (with_reducible refine Z.callZ_mk ?_ (cp) ?_)); (focus ((repeat' (first | exact trivial | exact rfl | exact Z.low_nil2 | apply And.intro)); done)))
  | ((with_reducible apply ex_and); exact rfl)
  | with_reducible first | refine Z.drawZ_rule tabOk mixOk ?_ | refine Z.apZ_mk (by kernel_rfl) ?_
  | fail)
 all_goals (try (conv => whnf))
 all_goals try first | (show Nat.ble _ _ = true; rfl) | (exfalso; rename_i hz; cases hz; done) | (exfalso; (try simp only [LN] at *) <;> omega)
 all_goals (refine Z.loopZ_unroll tabOk 9 ?_)
 repeat' ((conv => whnf); first
  | with_reducible first | refine spB_t ?_
  | ((with_reducible apply spB_cong); (focus (simp only [splQ, Int.reduceBEq, Int.reduceBNe]; rfl)))
  | with_reducible first | refine spB_yes (by decide) ?_ | refine spB_no (by decide) ?_
  | ((with_reducible apply ixN_lit); (focus rfl); (focus rfl))
  | with_reducible refine wr_i64 (by first | omega | (simp only [LN] at *; omega)) ?_
  | with_reducible refine wr_u8 (by omega) ?_
  | with_reducible first | refine Z.callZ_in tabOk 6 Tryz.f43 _ Tryz.func43 (by kernel_rfl) rfl rfl rfl ?_ | refine Z.callZ_in tabOk 10 Tryz.f80 _ Tryz.func80 (by kernel_rfl) rfl rfl rfl ?_ | refine Z.callZ_in tabOk 58 Tryz.f103 _ Tryz.func103 (by kernel_rfl) rfl rfl rfl ?_
  | ((with_reducible apply ex_and); exact rfl)
  | fail)
 all_goals (try (conv => whnf))
 all_goals try first | (show Nat.ble _ _ = true; rfl) | (exfalso; rename_i hz; cases hz; done) | (exfalso; (try simp only [LN] at *) <;> omega)
 all_goals (refine Z.loopZ_unroll tabOk 1 ?_)
 repeat' ((conv => whnf); first
  | with_reducible first | refine spB_t ?_
  | ((with_reducible apply spB_cong); (focus (simp only [splQ, Int.reduceBEq, Int.reduceBNe]; rfl)))
  | with_reducible first | refine spB_no (by decide) ?_
  | with_reducible first | refine Z.callZ_in tabOk 10 Tryz.f46 _ Tryz.func46 (by kernel_rfl) rfl rfl rfl ?_
  | ((with_reducible apply ex_and); exact rfl)
  | fail)
 all_goals (try (conv => whnf))
 all_goals try first | (show Nat.ble _ _ = true; rfl) | (exfalso; rename_i hz; cases hz; done) | (exfalso; (try simp only [LN] at *) <;> omega)
 all_goals first
  | ((first | (with_reducible apply Z.retF2)); (focus rfl); (repeat' (first | exact trivial | (with_reducible apply Z.frz_one) | (with_reducible apply Z.frz_agg) | (with_reducible apply Z.fq_int) | (with_reducible apply Z.fq_bool) | (exact Z.frz_nil) | exact rfl | apply And.intro)); (all_goals (try exact (fun _ => none))); all_goals (first | (simp; done)))
  | fail
theorem sdec_raw (t0 t1 t2 t3 t4 t5 : Int) (r : List Int) (N : Nat) (hB : isB (t0 :: t1 :: t2 :: t3 :: t4 :: t5 :: r)) (hN : numR [t4, t5] = (N : Int)) (hr : r.length < 18 * N) (hl : r.length ≤ 1000000000) : Con Tryz.prog 17 [.one (.ro false 1 ((t0 :: t1 :: t2 :: t3 :: t4 :: t5 :: r).map eB))] (fun rx rK rt => rx = .tup [.agg [.v (.int .i64 zeroS.op), .v (.int .i64 zeroS.ix), .v (.int .i64 zeroS.w), .v (.bool zeroS.en), .ro true 4 (zeroS.rows.map Tab.eK), .v (.int .i64 zeroS.o0), .v (.int .i64 zeroS.o1), .v (.int .i64 zeroS.o2), .v (.int .i64 zeroS.o3), .v (.int .i64 zeroS.o4), .v (.int .i64 zeroS.o5), .v (.int .i64 zeroS.o6), .v (.int .i64 zeroS.o7), .ro true 3 (zeroS.txs.map eN)], .one (.v (.int .i64 7))] ∧ rK = [] ∧ rt = 0) := by
 refine Z.con_ofF tabOk 89 Tryz.f17 _ Tryz.func17 (by kernel_rfl) rfl rfl rfl rfl ?_
 have hb0 := hB t0 (by simp)
 have hb1 := hB t1 (by simp)
 have hb2 := hB t2 (by simp)
 have hb3 := hB t3 (by simp)
 have hb4 := hB t4 (by simp)
 have hb5 := hB t5 (by simp)
 rw [numR2] at hN
 have cp := putO16_con [] (t4 * 256 + t5) (by simp) ⟨by omega, by omega⟩
 have ccp := copied_con (t0 :: t1 :: t2 :: t3 :: t4 :: t5 :: r) (by simp only [List.length_cons]; omega)
 repeat' ((conv => whnf); first
  | with_reducible first | refine spB_t ?_
  | ((with_reducible apply spB_cong); (focus (simp only [splQ, Int.reduceBEq, Int.reduceBNe]; rfl)))
  | with_reducible first | refine spB_yes (by decide) ?_ | refine spB_no (by decide) ?_
  | (with_reducible refine spB_dec ?_ ?_ <;> intro _ <;> (try (exfalso; (first | omega | (simp only [LN] at *; omega)))))
  | ((refine sl3N_mk 0 1 1 rfl rfl rfl ?_ ?_ ?_ ?_ ?_); (iterate 4 (focus (first | exact .inl rfl | ((try simp only [LN] at *) <;> omega)))))
  | ((with_reducible refine Z.slN_lo 1 ?_ ?_ ?_); (focus rfl); (focus ((try simp only [LN] at *) <;> omega)))
  | (refine loopZ_unr1 tabOk rfl ?_)
  | ((with_reducible refine wr_shl8 ?_ ?_); (focus omega))
  | ((with_reducible refine wr_or0 ?_ ?_); (focus omega))
  | with_reducible first | refine rowN_mk _ rfl ?_
  | ((refine sl3N_mk 0 2 2 rfl rfl rfl ?_ ?_ ?_ ?_ ?_); (iterate 4 (focus (first | exact .inl rfl | ((try simp only [LN] at *) <;> omega)))))
  | ((with_reducible refine Z.slN_lo 2 ?_ ?_ ?_); (focus rfl); (focus ((try simp only [LN] at *) <;> omega)))
  | (refine loopZ_unr2 tabOk rfl ?_)
  | ((with_reducible refine apdE_n ?_); (with_reducible refine apdN.mk ?_ ?_ ?_ ?_ ?_ ?_); (focus (first | rfl)); (focus (first | exact one_all (by rfl))); (focus (first | exact Nat.le_of_ble_eq_true rfl)); (iterate 2 (focus (first | exact Nat.le_of_ble_eq_true rfl))))
  | (refine wr_n16 hb4 hb5 ?_)
  | ((with_reducible apply ixN_lit); (focus rfl); (focus rfl))
  | ((with_reducible refine eqN_mk2 ?_ ?_); (focus rfl))
  | with_reducible refine wr_i64 (by first | omega | (simp only [LN] at *; omega)) ?_
  | with_reducible refine wr_u64 (by omega) ?_
  | with_reducible first | refine wr_mk _ rfl ?_
  | with_reducible first | refine Z.callZ_in tabOk 18 Tryz.f104 _ Tryz.func104 (by kernel_rfl) rfl rfl rfl ?_ | refine Z.callZ_in tabOk 8 Tryz.f42 _ Tryz.func42 (by kernel_rfl) rfl rfl rfl ?_ | refine Z.callZ_in tabOk 6 Tryz.f43 _ Tryz.func43 (by kernel_rfl) rfl rfl rfl ?_ | refine Z.callZ_in tabOk 14 Tryz.f44 _ Tryz.func44 (by kernel_rfl) rfl rfl rfl ?_ | refine Z.callZ_in tabOk 10 Tryz.f80 _ Tryz.func80 (by kernel_rfl) rfl rfl rfl ?_ | refine Z.callZ_in tabOk 58 Tryz.f103 _ Tryz.func103 (by kernel_rfl) rfl rfl rfl ?_ | refine Z.callZ_in tabOk 6 Tryz.f81 _ Tryz.func81 (by kernel_rfl) rfl rfl rfl ?_ | refine Z.callZ_in tabOk 10 Tryz.f82 _ Tryz.func82 (by kernel_rfl) rfl rfl rfl ?_
  | ((first | (with_reducible refine Z.callZ_mk ?_ (ccp) ?_) | (with_reducible refine Z.callZ_mk ?_ (cp) ?_)); (focus ((repeat' (first | exact trivial | exact rfl | exact Z.low_nil2 | apply And.intro)); done)))
  | ((with_reducible apply ex_and); exact rfl)
  | with_reducible first | refine Z.drawZ_rule tabOk mixOk ?_ | refine Z.apZ_mk (by kernel_rfl) ?_
  | fail)
 all_goals (try (conv => whnf))
 all_goals try first | (show Nat.ble _ _ = true; rfl) | (exfalso; rename_i hz; cases hz; done) | (exfalso; (try simp only [LN] at *) <;> omega)
 all_goals (refine Z.loopZ_unroll tabOk 9 ?_)
 repeat' ((conv => whnf); first
  | with_reducible first | refine spB_t ?_
  | ((with_reducible apply spB_cong); (focus (simp only [splQ, Int.reduceBEq, Int.reduceBNe]; rfl)))
  | with_reducible first | refine spB_yes (by decide) ?_ | refine spB_no (by decide) ?_
  | ((with_reducible apply ixN_lit); (focus rfl); (focus rfl))
  | with_reducible refine wr_i64 (by first | omega | (simp only [LN] at *; omega)) ?_
  | with_reducible refine wr_u8 (by omega) ?_
  | with_reducible first | refine Z.callZ_in tabOk 6 Tryz.f43 _ Tryz.func43 (by kernel_rfl) rfl rfl rfl ?_ | refine Z.callZ_in tabOk 10 Tryz.f80 _ Tryz.func80 (by kernel_rfl) rfl rfl rfl ?_ | refine Z.callZ_in tabOk 58 Tryz.f103 _ Tryz.func103 (by kernel_rfl) rfl rfl rfl ?_
  | ((with_reducible apply ex_and); exact rfl)
  | fail)
 all_goals (try (conv => whnf))
 all_goals try first | (show Nat.ble _ _ = true; rfl) | (exfalso; rename_i hz; cases hz; done) | (exfalso; (try simp only [LN] at *) <;> omega)
 all_goals (refine Z.loopZ_unroll tabOk 1 ?_)
 repeat' ((conv => whnf); first
  | with_reducible first | refine spB_t ?_
  | ((with_reducible apply spB_cong); (focus (simp only [splQ, Int.reduceBEq, Int.reduceBNe]; rfl)))
  | with_reducible first | refine spB_no (by decide) ?_
  | with_reducible first | refine Z.callZ_in tabOk 10 Tryz.f46 _ Tryz.func46 (by kernel_rfl) rfl rfl rfl ?_
  | ((with_reducible apply ex_and); exact rfl)
  | fail)
 all_goals (try (conv => whnf))
 all_goals try first | (show Nat.ble _ _ = true; rfl) | (exfalso; rename_i hz; cases hz; done) | (exfalso; (try simp only [LN] at *) <;> omega)
 all_goals first
  | ((first | (with_reducible apply Z.retF2)); (focus rfl); (repeat' (first | exact trivial | (with_reducible apply Z.frz_one) | (with_reducible apply Z.frz_agg) | (with_reducible apply Z.fq_int) | (with_reducible apply Z.fq_bool) | (exact Z.frz_nil) | exact rfl | apply And.intro)); (all_goals (try exact (fun _ => none))); all_goals (first | (simp; done)))
  | fail
end Go.Proofs.YtopieffkpdlpbaaGreat
