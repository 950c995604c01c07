import Derived.Test.YtgdkhdooekmfgaaHo3
import Derived.Test.YtgdkhdooekmfgaaHo4
import Derived.Test.YtgdkhdooekmfgaaHp6
namespace Go.Proofs.Ytgdkhdooekmfgaa
open Go Go.RowKit Wx
set_option linter.unusedVariables false
set_option linter.unusedSimpArgs false
set_option maxHeartbeats 4000000
def wantR (kd w tick : Int) (far : Bool) (now span : Int) (l : List Pu) : Hr := bif okH now span l then runR kd w tick far now span l else bad 360
theorem rhear_con (now span w : Int) (l : List Pu) (hk : okH now span l = true) : Con Try.prog 33 [.agg [.v (.int .i64 now), .v (.int .i64 span), .ro false 3 ((l).map eP)], .one (.v (.int .i64 w))] (fun rx rK rt => rx = .tup [.agg [.v (.int .i64 (hearR now span w l).now), .v (.int .i64 (hearR now span w l).span), .ro true 3 (((hearR now span w l).rows).map eP)], .one (.v (.bool (hearR now span w l).came)), .one (.v (.int .i64 (hearR now span w l).err))] ∧ rK = [] ∧ rt = 0) := by
  have hl := okH_len2 hk
  by_cases hw : 1 ≤ w ∧ w ≤ 4
  · cases hx : l[srch w l]? with
    | none =>
      have hi : srch w l = l.length := by
        have h1 := srch_le (t := w) (l := l)
        have h2 := List.getElem?_eq_none_iff.1 hx
        omega
      have h := rhear_e now span w l _ hk hw rfl hi
      unfold hearR insP; rw [decide_eq_true hw, hx]; dsimp only [cond_true]
      rw [hi, List.take_length, List.drop_length]; exact h
    | some x =>
      have hlt := (List.getElem?_eq_some_iff.1 hx).1
      by_cases hn : x.wk = w
      · have h := rhear_t now span w l _ x hk hw rfl hx hn
        unfold hearR; rw [decide_eq_true hw, hx]; dsimp only [cond_true]
        rw [show (x.wk == w) = true from beq_iff_eq.2 hn]; dsimp only [cond_true]; rw [set_split hlt]; exact h
      · have h := rhear_n now span w l _ x hk hw rfl hx hn
        unfold hearR insP; rw [decide_eq_true hw, hx]; dsimp only [cond_true]
        rw [show (x.wk == w) = false from beq_eq_false_iff_ne.2 hn]; exact h
  · have h := rhear_arg now span w l hl hw
    unfold hearR; rw [decide_eq_false hw]; exact h
theorem want_h (kd w tick : Int) (far : Bool) (now span : Int) (l : List Pu) (hk : okH now span l = true) (R : Hr) (hR : R = (hearR now span w l)) (h0 : kd % 18446744073709551616 % 5 = 0 ∨ kd % 18446744073709551616 % 5 = 1) : Con Try.prog 12 [.agg [.v (.int .i64 kd), .v (.int .i64 w), .v (.int .i64 tick), .v (.bool far)], .agg [.v (.int .i64 now), .v (.int .i64 span), .ro false 3 ((l).map eP)]] (fun rx rK rt => rx = .tup [.agg [.v (.int .i64 R.now), .v (.int .i64 R.span), .ro true 3 (R.rows.map eP)], .one (.v (.bool R.came)), .one (.ro true 1 (R.gone.map eI)), .one (.v (.int .i64 R.err))] ∧ rK = [] ∧ rt = 0) := by
  refine Z.con_ofF tabOk 50 Try.f12 _ Try.func12 (by kernel_rfl) rfl rfl rfl rfl ?_
  have hwn := wrap64 kd
  generalize hW : kd % 18446744073709551616 = W at *
  have hW0 : 0 ≤ W := by omega
  generalize hkk : W % 5 = kk at *
  have hb9 := (okH_all hk).1
  have hl4 := okH_len2 hk
  have cr := right_con now span l (by omega)
  rw [hk] at cr
  have c1 := rhear_con now span w l hk
  have hg : (hearR now span w l).gone = [] := by unfold hearR; cases decide (1 ≤ w ∧ w ≤ 4) <;> simp only [cond_true, cond_false, bad] <;> cases l[srch w l]? <;> simp only [] <;> (first | rfl | (rename_i x; cases (x.wk == w) <;> rfl))
  generalize (hearR now span w l) = R9 at *
  subst hR
  rw [hg]
  repeat' ((conv => whnf); first
    | ((with_reducible apply spB_cong); (focus (simp only [beq_self_eq_true, bne_self_eq_false, Bool.true_bne, Bool.false_bne, Bool.bne_true, Bool.bne_false, Bool.true_beq, Bool.false_beq, Bool.not_true, Bool.not_false, Bool.not_not, Int.reduceBEq, Int.reduceBNe, Int.reduceLE, Int.reduceLT, Int.reduceEq, decide_true, decide_false]; rfl)))
    | with_reducible first | refine spB_yes (by decide) ?_ | refine spB_no (by decide) ?_ | refine spB_f ?_ | refine spB_not ?_ | refine spB_yes (by assumption) ?_ | refine spB_no (by assumption) ?_
    | (with_reducible refine spB_beq ?_ ?_ <;> intro _ <;> (try (exfalso; first | contradiction | omega | (rename_i hz; exact hz (by simp; done)) | (simp only [LN] at *; omega))))
    | with_reducible first | refine wr_mk _ hwn ?_
    | ((with_reducible refine vN_to kk ?_ ?_); (focus (rw [Int.tmod_eq_emod_of_nonneg hW0, hkk])))
    | with_reducible refine nzN_mk (by omega) ?_
    | ((first | (with_reducible refine Z.conZ_mz ?_ (cr) ?_) | (with_reducible refine Z.callZ_mk ?_ (cr) ?_) | (with_reducible refine Z.conZ_mz ?_ (c1) ?_) | (with_reducible refine Z.callZ_mk ?_ (c1) ?_)); (focus ((repeat' (first | exact trivial | exact rfl | exact Z.low_nil | exact Z.low_nil2 | exact low_osl (fun _ => rfl) | (refine Z.low_osln ?_ (fun _ => rfl); (simp only [List.length_map]; done)) | exact low_oslr (fun _ => rfl) | exact Z.low_gslm (by first | rfl | exact Z.kb_some rfl) (fun _ => rfl) | exact .inl rfl | exact .inr ⟨_, rfl⟩ | apply And.intro)); done)))
    | (focus (exact (rfl : Nat.ble _ _ = true))))
  all_goals (try (conv => whnf))
  all_goals try (show Nat.ble _ _ = true; rfl)
  all_goals first
    | ((first | (with_reducible apply Z.retF1) | (with_reducible apply Z.retF2) | (with_reducible apply Z.retF0)); (focus (exact rfl)); (repeat' (first | exact trivial | (with_reducible apply Z.frz_one) | (with_reducible apply Z.frz_agg) | (with_reducible apply Z.fq_int) | (with_reducible apply Z.fq_bool) | (exact Z.frz_nil) | (exact Z.frz_osl0 rfl rfl rfl) | (with_reducible apply Z.fq_nil) | (with_reducible apply Z.fq_ro) | ((with_reducible apply Z.fq_gsl); (focus (first | rfl | exact Z.isB_map _ | exact Z.gB_snoc.symm)); (focus (exact fun _ => rfl))) | ((with_reducible apply Z.fq_osl); (focus (exact rfl)); (focus (first | exact rfl | (simp only [List.length_map, Nat.zero_add]; done) | ((try simp only [LN] at *) <;> omega))); (focus (exact fun _ => rfl))) | ((with_reducible apply Z.fq_src); (focus (exact rfl)); (focus (first | exact rfl | (simp only [List.length_map, Nat.zero_add]; done) | ((try simp only [LN] at *) <;> omega))); (focus (exact fun _ => rfl))) | exact rfl | ((apply Z.fq_osl); (focus (exact rfl)); (focus (first | exact rfl | (simp only [List.length_map, Nat.zero_add]; done) | ((try simp only [LN] at *) <;> omega))); (focus (exact fun _ => rfl))) | ((apply Z.fq_src); (focus (exact rfl)); (focus (first | exact rfl | (simp only [List.length_map, Nat.zero_add]; done) | ((try simp only [LN] at *) <;> omega))); (focus (exact fun _ => rfl))) | (apply Z.fq_ro) | (apply Z.fq_int) | (apply Z.fq_bool) | apply And.intro)); (all_goals (try exact (fun _ => none))); all_goals (first | rfl | (simp; done)))
    | (exfalso; simp_all; done)
    | (exfalso; omega)
    | (fail)

theorem want_d (kd w tick : Int) (far : Bool) (now span : Int) (l : List Pu) (hk : okH now span l = true) (R : Hr) (hR : R = (dropR now span w l)) (h0 : ¬ (kd % 18446744073709551616 % 5 = 0 ∨ kd % 18446744073709551616 % 5 = 1)) (h2 : ¬ (kd % 18446744073709551616 % 5 = 2 ∨ kd % 18446744073709551616 % 5 = 3)) : Con Try.prog 12 [.agg [.v (.int .i64 kd), .v (.int .i64 w), .v (.int .i64 tick), .v (.bool far)], .agg [.v (.int .i64 now), .v (.int .i64 span), .ro false 3 ((l).map eP)]] (fun rx rK rt => rx = .tup [.agg [.v (.int .i64 R.now), .v (.int .i64 R.span), .ro true 3 (R.rows.map eP)], .one (.v (.bool R.came)), .one (.ro true 1 (R.gone.map eI)), .one (.v (.int .i64 R.err))] ∧ rK = [] ∧ rt = 0) := by
  refine Z.con_ofF tabOk 50 Try.f12 _ Try.func12 (by kernel_rfl) rfl rfl rfl rfl ?_
  have hwn := wrap64 kd
  generalize hW : kd % 18446744073709551616 = W at *
  have hW0 : 0 ≤ W := by omega
  generalize hkk : W % 5 = kk at *
  have hb9 := (okH_all hk).1
  have hl4 := okH_len2 hk
  have cr := right_con now span l (by omega)
  rw [hk] at cr
  have c1 := rdrop_con now span w l hk
  have hg : (dropR now span w l).gone = [] ∧ (dropR now span w l).came = false := by unfold dropR; cases thereW w l <;> exact ⟨rfl, rfl⟩
  generalize (dropR now span w l) = R9 at *
  subst hR
  rw [hg.1, hg.2]
  repeat' ((conv => whnf); first
    | ((with_reducible apply spB_cong); (focus (simp only [beq_self_eq_true, bne_self_eq_false, Bool.true_bne, Bool.false_bne, Bool.bne_true, Bool.bne_false, Bool.true_beq, Bool.false_beq, Bool.not_true, Bool.not_false, Bool.not_not, Int.reduceBEq, Int.reduceBNe, Int.reduceLE, Int.reduceLT, Int.reduceEq, decide_true, decide_false]; rfl)))
    | with_reducible first | refine spB_yes (by decide) ?_ | refine spB_no (by decide) ?_ | refine spB_f ?_ | refine spB_not ?_ | refine spB_yes (by assumption) ?_ | refine spB_no (by assumption) ?_
    | (with_reducible refine spB_beq ?_ ?_ <;> intro _ <;> (try (exfalso; first | contradiction | omega | (rename_i hz; exact hz (by simp; done)) | (simp only [LN] at *; omega))))
    | with_reducible first | refine wr_mk _ hwn ?_
    | ((with_reducible refine vN_to kk ?_ ?_); (focus (rw [Int.tmod_eq_emod_of_nonneg hW0, hkk])))
    | with_reducible refine nzN_mk (by omega) ?_
    | ((first | (with_reducible refine Z.conZ_mz ?_ (cr) ?_) | (with_reducible refine Z.callZ_mk ?_ (cr) ?_) | (with_reducible refine Z.conZ_mz ?_ (c1) ?_) | (with_reducible refine Z.callZ_mk ?_ (c1) ?_)); (focus ((repeat' (first | exact trivial | exact rfl | exact Z.low_nil | exact Z.low_nil2 | exact low_osl (fun _ => rfl) | (refine Z.low_osln ?_ (fun _ => rfl); (simp only [List.length_map]; done)) | exact low_oslr (fun _ => rfl) | exact Z.low_gslm (by first | rfl | exact Z.kb_some rfl) (fun _ => rfl) | exact .inl rfl | exact .inr ⟨_, rfl⟩ | apply And.intro)); done)))
    | (focus (exact (rfl : Nat.ble _ _ = true))))
  all_goals (try (conv => whnf))
  all_goals try (show Nat.ble _ _ = true; rfl)
  all_goals first
    | ((first | (with_reducible apply Z.retF1) | (with_reducible apply Z.retF2) | (with_reducible apply Z.retF0)); (focus (exact rfl)); (repeat' (first | exact trivial | (with_reducible apply Z.frz_one) | (with_reducible apply Z.frz_agg) | (with_reducible apply Z.fq_int) | (with_reducible apply Z.fq_bool) | (exact Z.frz_nil) | (exact Z.frz_osl0 rfl rfl rfl) | (with_reducible apply Z.fq_nil) | (with_reducible apply Z.fq_ro) | ((with_reducible apply Z.fq_gsl); (focus (first | rfl | exact Z.isB_map _ | exact Z.gB_snoc.symm)); (focus (exact fun _ => rfl))) | ((with_reducible apply Z.fq_osl); (focus (exact rfl)); (focus (first | exact rfl | (simp only [List.length_map, Nat.zero_add]; done) | ((try simp only [LN] at *) <;> omega))); (focus (exact fun _ => rfl))) | ((with_reducible apply Z.fq_src); (focus (exact rfl)); (focus (first | exact rfl | (simp only [List.length_map, Nat.zero_add]; done) | ((try simp only [LN] at *) <;> omega))); (focus (exact fun _ => rfl))) | exact rfl | ((apply Z.fq_osl); (focus (exact rfl)); (focus (first | exact rfl | (simp only [List.length_map, Nat.zero_add]; done) | ((try simp only [LN] at *) <;> omega))); (focus (exact fun _ => rfl))) | ((apply Z.fq_src); (focus (exact rfl)); (focus (first | exact rfl | (simp only [List.length_map, Nat.zero_add]; done) | ((try simp only [LN] at *) <;> omega))); (focus (exact fun _ => rfl))) | (apply Z.fq_ro) | (apply Z.fq_int) | (apply Z.fq_bool) | apply And.intro)); (all_goals (try exact (fun _ => none))); all_goals (first | rfl | (simp; done)))
    | (exfalso; simp_all; done)
    | (exfalso; omega)
    | (fail)

theorem want_pt (kd w tick : Int) (now span : Int) (l : List Pu) (hk : okH now span l = true) (R : Hr) (hR : R = (passR now span (tick) l)) (h2 : kd % 18446744073709551616 % 5 = 2 ∨ kd % 18446744073709551616 % 5 = 3) : Con Try.prog 12 [.agg [.v (.int .i64 kd), .v (.int .i64 w), .v (.int .i64 tick), .v (.bool true)], .agg [.v (.int .i64 now), .v (.int .i64 span), .ro false 3 ((l).map eP)]] (fun rx rK rt => rx = .tup [.agg [.v (.int .i64 R.now), .v (.int .i64 R.span), .ro true 3 (R.rows.map eP)], .one (.v (.bool R.came)), .one (.ro true 1 (R.gone.map eI)), .one (.v (.int .i64 R.err))] ∧ rK = [] ∧ rt = 0) := by
  refine Z.con_ofF tabOk 50 Try.f12 _ Try.func12 (by kernel_rfl) rfl rfl rfl rfl ?_
  have hwn := wrap64 kd
  generalize hW : kd % 18446744073709551616 = W at *
  have hW0 : 0 ≤ W := by omega
  generalize hkk : W % 5 = kk at *
  have hb9 := (okH_all hk).1
  have hl4 := okH_len2 hk
  have cr := right_con now span l (by omega)
  rw [hk] at cr
  have htm := tm200 tick
  have c1 := rpass_con now span (tick) l hk
  have hg : (passR now span (tick) l).came = false := by unfold passR; cases decide (now ≤ tick ∧ tick ≤ 1099511627776) <;> rfl
  generalize (passR now span (tick) l) = R9 at *
  subst hR
  rw [hg]
  repeat' ((conv => whnf); first
    | with_reducible first | refine spB_t ?_
    | ((with_reducible apply spB_cong); (focus (simp only [beq_self_eq_true, bne_self_eq_false, Bool.true_bne, Bool.false_bne, Bool.bne_true, Bool.bne_false, Bool.true_beq, Bool.false_beq, Bool.not_true, Bool.not_false, Bool.not_not, Int.reduceBEq, Int.reduceBNe, Int.reduceLE, Int.reduceLT, Int.reduceEq, decide_true, decide_false]; rfl)))
    | with_reducible first | refine spB_yes (by decide) ?_ | refine spB_no (by decide) ?_ | refine spB_f ?_ | refine spB_not ?_ | refine spB_yes (by assumption) ?_ | refine spB_no (by assumption) ?_
    | (with_reducible refine spB_beq ?_ ?_ <;> intro _ <;> (try (exfalso; first | contradiction | omega | (rename_i hz; exact hz (by simp; done)) | (simp only [LN] at *; omega))))
    | with_reducible first | refine wr_mk _ hwn ?_
    | ((with_reducible refine vN_to kk ?_ ?_); (focus (rw [Int.tmod_eq_emod_of_nonneg hW0, hkk])))
    | with_reducible refine nzN_mk (by omega) ?_
    | with_reducible first | refine apN_mk (by kernel_rfl) ?_ | refine Z.callZ_in tabOk 15 Try.f31 _ Try.func31 (by kernel_rfl) rfl rfl rfl ?_
    | ((first | (with_reducible refine Z.conZ_mz ?_ (cr) ?_) | (with_reducible refine Z.callZ_mk ?_ (cr) ?_) | (with_reducible refine Z.conZ_mz ?_ (c1) ?_) | (with_reducible refine Z.callZ_mk ?_ (c1) ?_)); (focus ((repeat' (first | exact trivial | exact rfl | exact Z.low_nil | exact Z.low_nil2 | exact low_osl (fun _ => rfl) | (refine Z.low_osln ?_ (fun _ => rfl); (simp only [List.length_map]; done)) | exact low_oslr (fun _ => rfl) | exact Z.low_gslm (by first | rfl | exact Z.kb_some rfl) (fun _ => rfl) | exact .inl rfl | exact .inr ⟨_, rfl⟩ | apply And.intro)); done)))
    | ((with_reducible apply ex_and); exact rfl)
    | with_reducible first | refine Z.drawZ_rule tabOk mixOk ?_ | refine Z.apZ_mk (by kernel_rfl) ?_
    | ((with_reducible refine Z.ConZ.red ?_); (try subst hlb); (apply Z.conZ_all); (focus (repeat (first | exact Z.FK.nil | (apply Z.FK.keep; exact rfl)))); (focus rfl); (focus rfl); (focus (repeat (first | exact trivial | (refine ⟨(fun o ho => (by first | (cases ho; rfl) | (cases ho; exact Z.inL_map fun _ => rfl) | (cases ho; exact Z.inL_mapr fun _ => rfl) | exact Z.inL_gB ho fun _ => rfl)), ?_⟩)))))
    | ((refine ⟨rfl, ?_, rfl⟩); (focus (repeat (first | exact Z.DK.nil | apply Z.DK.cons))))
    | (focus (exact (rfl : Nat.ble _ _ = true))))
  all_goals (try (conv => whnf))
  all_goals try (show Nat.ble _ _ = true; rfl)
  all_goals first
    | ((first | (with_reducible apply Z.retF1) | (with_reducible apply Z.retF2) | (with_reducible apply Z.retF0)); (focus (exact rfl)); (repeat' (first | exact trivial | (with_reducible apply Z.frz_one) | (with_reducible apply Z.frz_agg) | (with_reducible apply Z.fq_int) | (with_reducible apply Z.fq_bool) | (exact Z.frz_nil) | (exact Z.frz_osl0 rfl rfl rfl) | (with_reducible apply Z.fq_nil) | (with_reducible apply Z.fq_ro) | ((with_reducible apply Z.fq_gsl); (focus (first | rfl | exact Z.isB_map _ | exact Z.gB_snoc.symm)); (focus (exact fun _ => rfl))) | ((with_reducible apply Z.fq_osl); (focus (exact rfl)); (focus (first | exact rfl | (simp only [List.length_map, Nat.zero_add]; done) | ((try simp only [LN] at *) <;> omega))); (focus (exact fun _ => rfl))) | ((with_reducible apply Z.fq_src); (focus (exact rfl)); (focus (first | exact rfl | (simp only [List.length_map, Nat.zero_add]; done) | ((try simp only [LN] at *) <;> omega))); (focus (exact fun _ => rfl))) | exact rfl | ((apply Z.fq_osl); (focus (exact rfl)); (focus (first | exact rfl | (simp only [List.length_map, Nat.zero_add]; done) | ((try simp only [LN] at *) <;> omega))); (focus (exact fun _ => rfl))) | ((apply Z.fq_src); (focus (exact rfl)); (focus (first | exact rfl | (simp only [List.length_map, Nat.zero_add]; done) | ((try simp only [LN] at *) <;> omega))); (focus (exact fun _ => rfl))) | (apply Z.fq_ro) | (apply Z.fq_int) | (apply Z.fq_bool) | apply And.intro)); (all_goals (try exact (fun _ => none))); all_goals (first | rfl | (simp; done)))
    | (exfalso; simp_all; done)
    | (exfalso; omega)
    | (fail)

theorem want_pf (kd w tick : Int) (now span : Int) (l : List Pu) (hk : okH now span l = true) (R : Hr) (hR : R = (passR now span (now + tick.tmod 200) l)) (h2 : kd % 18446744073709551616 % 5 = 2 ∨ kd % 18446744073709551616 % 5 = 3) : Con Try.prog 12 [.agg [.v (.int .i64 kd), .v (.int .i64 w), .v (.int .i64 tick), .v (.bool false)], .agg [.v (.int .i64 now), .v (.int .i64 span), .ro false 3 ((l).map eP)]] (fun rx rK rt => rx = .tup [.agg [.v (.int .i64 R.now), .v (.int .i64 R.span), .ro true 3 (R.rows.map eP)], .one (.v (.bool R.came)), .one (.ro true 1 (R.gone.map eI)), .one (.v (.int .i64 R.err))] ∧ rK = [] ∧ rt = 0) := by
  refine Z.con_ofF tabOk 50 Try.f12 _ Try.func12 (by kernel_rfl) rfl rfl rfl rfl ?_
  have hwn := wrap64 kd
  generalize hW : kd % 18446744073709551616 = W at *
  have hW0 : 0 ≤ W := by omega
  generalize hkk : W % 5 = kk at *
  have hb9 := (okH_all hk).1
  have hl4 := okH_len2 hk
  have cr := right_con now span l (by omega)
  rw [hk] at cr
  have htm := tm200 tick
  have c1 := rpass_con now span (now + tick.tmod 200) l hk
  have hg : (passR now span (now + tick.tmod 200) l).came = false := by unfold passR; cases decide (now ≤ now + tick.tmod 200 ∧ now + tick.tmod 200 ≤ 1099511627776) <;> rfl
  generalize (passR now span (now + tick.tmod 200) l) = R9 at *
  subst hR
  rw [hg]
  repeat' ((conv => whnf); first
    | ((with_reducible apply spB_cong); (focus (simp only [beq_self_eq_true, bne_self_eq_false, Bool.true_bne, Bool.false_bne, Bool.bne_true, Bool.bne_false, Bool.true_beq, Bool.false_beq, Bool.not_true, Bool.not_false, Bool.not_not, Int.reduceBEq, Int.reduceBNe, Int.reduceLE, Int.reduceLT, Int.reduceEq, decide_true, decide_false]; rfl)))
    | with_reducible first | refine spB_yes (by decide) ?_ | refine spB_no (by decide) ?_ | refine spB_f ?_ | refine spB_not ?_ | refine spB_yes (by assumption) ?_ | refine spB_no (by assumption) ?_
    | (with_reducible refine spB_beq ?_ ?_ <;> intro _ <;> (try (exfalso; first | contradiction | omega | (rename_i hz; exact hz (by simp; done)) | (simp only [LN] at *; omega))))
    | with_reducible first | refine wr_mk _ hwn ?_
    | ((with_reducible refine vN_to kk ?_ ?_); (focus (rw [Int.tmod_eq_emod_of_nonneg hW0, hkk])))
    | ((with_reducible refine vN_to (tick.tmod 200) ?_ ?_); (focus rfl))
    | with_reducible refine wr_i64 (by first | omega | (simp only [LN] at *; omega)) ?_
    | with_reducible refine nzN_mk (by omega) ?_
    | with_reducible first | refine apN_mk (by kernel_rfl) ?_ | refine Z.callZ_in tabOk 15 Try.f31 _ Try.func31 (by kernel_rfl) rfl rfl rfl ?_
    | ((first | (with_reducible refine Z.conZ_mz ?_ (cr) ?_) | (with_reducible refine Z.callZ_mk ?_ (cr) ?_) | (with_reducible refine Z.conZ_mz ?_ (c1) ?_) | (with_reducible refine Z.callZ_mk ?_ (c1) ?_)); (focus ((repeat' (first | exact trivial | exact rfl | exact Z.low_nil | exact Z.low_nil2 | exact low_osl (fun _ => rfl) | (refine Z.low_osln ?_ (fun _ => rfl); (simp only [List.length_map]; done)) | exact low_oslr (fun _ => rfl) | exact Z.low_gslm (by first | rfl | exact Z.kb_some rfl) (fun _ => rfl) | exact .inl rfl | exact .inr ⟨_, rfl⟩ | apply And.intro)); done)))
    | ((with_reducible apply ex_and); exact rfl)
    | with_reducible first | refine Z.drawZ_rule tabOk mixOk ?_ | refine Z.apZ_mk (by kernel_rfl) ?_
    | ((with_reducible refine Z.ConZ.red ?_); (try subst hlb); (apply Z.conZ_all); (focus (repeat (first | exact Z.FK.nil | (apply Z.FK.keep; exact rfl)))); (focus rfl); (focus rfl); (focus (repeat (first | exact trivial | (refine ⟨(fun o ho => (by first | (cases ho; rfl) | (cases ho; exact Z.inL_map fun _ => rfl) | (cases ho; exact Z.inL_mapr fun _ => rfl) | exact Z.inL_gB ho fun _ => rfl)), ?_⟩)))))
    | ((refine ⟨rfl, ?_, rfl⟩); (focus (repeat (first | exact Z.DK.nil | apply Z.DK.cons))))
    | (focus (exact (rfl : Nat.ble _ _ = true))))
  all_goals (try (conv => whnf))
  all_goals try (show Nat.ble _ _ = true; rfl)
  all_goals first
    | ((first | (with_reducible apply Z.retF1) | (with_reducible apply Z.retF2) | (with_reducible apply Z.retF0)); (focus (exact rfl)); (repeat' (first | exact trivial | (with_reducible apply Z.frz_one) | (with_reducible apply Z.frz_agg) | (with_reducible apply Z.fq_int) | (with_reducible apply Z.fq_bool) | (exact Z.frz_nil) | (exact Z.frz_osl0 rfl rfl rfl) | (with_reducible apply Z.fq_nil) | (with_reducible apply Z.fq_ro) | ((with_reducible apply Z.fq_gsl); (focus (first | rfl | exact Z.isB_map _ | exact Z.gB_snoc.symm)); (focus (exact fun _ => rfl))) | ((with_reducible apply Z.fq_osl); (focus (exact rfl)); (focus (first | exact rfl | (simp only [List.length_map, Nat.zero_add]; done) | ((try simp only [LN] at *) <;> omega))); (focus (exact fun _ => rfl))) | ((with_reducible apply Z.fq_src); (focus (exact rfl)); (focus (first | exact rfl | (simp only [List.length_map, Nat.zero_add]; done) | ((try simp only [LN] at *) <;> omega))); (focus (exact fun _ => rfl))) | exact rfl | ((apply Z.fq_osl); (focus (exact rfl)); (focus (first | exact rfl | (simp only [List.length_map, Nat.zero_add]; done) | ((try simp only [LN] at *) <;> omega))); (focus (exact fun _ => rfl))) | ((apply Z.fq_src); (focus (exact rfl)); (focus (first | exact rfl | (simp only [List.length_map, Nat.zero_add]; done) | ((try simp only [LN] at *) <;> omega))); (focus (exact fun _ => rfl))) | (apply Z.fq_ro) | (apply Z.fq_int) | (apply Z.fq_bool) | apply And.intro)); (all_goals (try exact (fun _ => none))); all_goals (first | rfl | (simp; done)))
    | (exfalso; simp_all; done)
    | (exfalso; omega)
    | (fail)

theorem want_bad (kd w tick : Int) (far : Bool) (now span : Int) (l : List Pu) (hl : l.length ≤ 9223372036854775807) (hk : okH now span l = false) : Con Try.prog 12 [.agg [.v (.int .i64 kd), .v (.int .i64 w), .v (.int .i64 tick), .v (.bool far)], .agg [.v (.int .i64 now), .v (.int .i64 span), .ro false 3 ((l).map eP)]] (fun rx rK rt => rx = .tup [.agg [.v (.int .i64 (bad 360).now), .v (.int .i64 (bad 360).span), .ro true 3 ((bad 360).rows.map eP)], .one (.v (.bool (bad 360).came)), .one (.ro true 1 ((bad 360).gone.map eI)), .one (.v (.int .i64 (bad 360).err))] ∧ rK = [] ∧ rt = 0) := by
  refine Z.con_ofF tabOk 50 Try.f12 _ Try.func12 (by kernel_rfl) rfl rfl rfl rfl ?_
  have cr := right_con now span l hl
  rw [hk] at cr
  repeat' ((conv => whnf); first
    | with_reducible first | refine spB_t ?_
    | ((with_reducible apply spB_cong); (focus (simp only [beq_self_eq_true, bne_self_eq_false, Bool.true_bne, Bool.false_bne, Bool.bne_true, Bool.bne_false, Bool.true_beq, Bool.false_beq, Bool.not_true, Bool.not_false, Bool.not_not, Int.reduceBEq, Int.reduceBNe, Int.reduceLE, Int.reduceLT, Int.reduceEq, decide_true, decide_false]; rfl)))
    | ((first | (with_reducible refine Z.conZ_mz ?_ (cr) ?_) | (with_reducible refine Z.callZ_mk ?_ (cr) ?_)); (focus ((repeat' (first | exact trivial | exact rfl | exact Z.low_nil | exact Z.low_nil2 | exact low_osl (fun _ => rfl) | (refine Z.low_osln ?_ (fun _ => rfl); (simp only [List.length_map]; done)) | exact low_oslr (fun _ => rfl) | exact Z.low_gslm (by first | rfl | exact Z.kb_some rfl) (fun _ => rfl) | exact .inl rfl | exact .inr ⟨_, rfl⟩ | apply And.intro)); done)))
    | (focus (exact (rfl : Nat.ble _ _ = true))))
  all_goals (try (conv => whnf))
  all_goals first
    | ((first | (with_reducible apply Z.retF1) | (with_reducible apply Z.retF2) | (with_reducible apply Z.retF0)); (focus (exact rfl)); (repeat' (first | exact trivial | (with_reducible apply Z.frz_one) | (with_reducible apply Z.frz_agg) | (with_reducible apply Z.fq_int) | (with_reducible apply Z.fq_bool) | (exact Z.frz_nil) | (exact Z.frz_osl0 rfl rfl rfl) | (with_reducible apply Z.fq_nil) | (with_reducible apply Z.fq_ro) | ((with_reducible apply Z.fq_gsl); (focus (first | rfl | exact Z.isB_map _ | exact Z.gB_snoc.symm)); (focus (exact fun _ => rfl))) | ((with_reducible apply Z.fq_osl); (focus (exact rfl)); (focus (first | exact rfl | (simp only [List.length_map, Nat.zero_add]; done) | ((try simp only [LN] at *) <;> omega))); (focus (exact fun _ => rfl))) | ((with_reducible apply Z.fq_src); (focus (exact rfl)); (focus (first | exact rfl | (simp only [List.length_map, Nat.zero_add]; done) | ((try simp only [LN] at *) <;> omega))); (focus (exact fun _ => rfl))) | exact rfl | ((apply Z.fq_osl); (focus (exact rfl)); (focus (first | exact rfl | (simp only [List.length_map, Nat.zero_add]; done) | ((try simp only [LN] at *) <;> omega))); (focus (exact fun _ => rfl))) | ((apply Z.fq_src); (focus (exact rfl)); (focus (first | exact rfl | (simp only [List.length_map, Nat.zero_add]; done) | ((try simp only [LN] at *) <;> omega))); (focus (exact fun _ => rfl))) | (apply Z.fq_ro) | (apply Z.fq_int) | (apply Z.fq_bool) | apply And.intro)); (all_goals (try exact (fun _ => none))); all_goals (rfl))
    | (exfalso; simp_all; done)
    | (fail)

theorem want_con (kd w tick : Int) (far : Bool) (now span : Int) (l : List Pu) (hl : l.length ≤ 9223372036854775807) : Con Try.prog 12 [.agg [.v (.int .i64 kd), .v (.int .i64 w), .v (.int .i64 tick), .v (.bool far)], .agg [.v (.int .i64 now), .v (.int .i64 span), .ro false 3 ((l).map eP)]] (fun rx rK rt => rx = .tup [.agg [.v (.int .i64 (wantR kd w tick far now span l).now), .v (.int .i64 (wantR kd w tick far now span l).span), .ro true 3 ((wantR kd w tick far now span l).rows.map eP)], .one (.v (.bool (wantR kd w tick far now span l).came)), .one (.ro true 1 ((wantR kd w tick far now span l).gone.map eI)), .one (.v (.int .i64 (wantR kd w tick far now span l).err))] ∧ rK = [] ∧ rt = 0) := by
  unfold wantR
  cases hk : okH now span l with
  | false => exact want_bad kd w tick far now span l hl hk
  | true =>
    dsimp only [cond_true]
    unfold runR
    by_cases h0 : kd % 18446744073709551616 % 5 = 0 ∨ kd % 18446744073709551616 % 5 = 1
    · rw [decide_eq_true h0]; exact want_h kd w tick far now span l hk _ rfl h0
    · rw [decide_eq_false h0]
      by_cases h2 : kd % 18446744073709551616 % 5 = 2 ∨ kd % 18446744073709551616 % 5 = 3
      · rw [decide_eq_true h2]
        cases far
        · exact want_pf kd w tick now span l hk _ rfl h2
        · exact want_pt kd w tick now span l hk _ rfl h2
      · rw [decide_eq_false h2]; exact want_d kd w tick far now span l hk _ rfl h0 h2
theorem hear_bad (now span w : Int) (l : List Pu) (hl : l.length ≤ 9223372036854775807) (hk : okH now span l = false) : Con Try.prog 24 [.agg [.v (.int .i64 now), .v (.int .i64 span), .ro false 3 ((l).map eP)], .one (.v (.int .i64 w))] (fun rx rK rt => rx = .tup [.agg [.v (.int .i64 0), .v (.int .i64 0), .ro true 3 ((([] : List Pu)).map eP)], .one (.v (.bool false)), .one (.v (.int .i64 360))] ∧ rK = [] ∧ rt = 0) := by
  refine Z.con_ofF tabOk 19 Try.f24 _ Try.func24 (by kernel_rfl) rfl rfl rfl rfl ?_
  repeat' ((conv => whnf); first
    | with_reducible first | refine spB_t ?_
    | ((with_reducible apply spB_cong); (focus (simp only [beq_self_eq_true, bne_self_eq_false, Bool.true_bne, Bool.false_bne, Bool.bne_true, Bool.bne_false, Bool.true_beq, Bool.false_beq, Bool.not_true, Bool.not_false, Bool.not_not, Int.reduceBEq, Int.reduceBNe, Int.reduceLE, Int.reduceLT, Int.reduceEq, decide_true, decide_false, hk]; rfl)))
    | with_reducible first | refine apN_mk (by kernel_rfl) ?_ | refine Z.callZ_in tabOk 29 Try.f39 _ Try.func39 (by kernel_rfl) rfl rfl rfl ?_ | refine Z.callZ_in tabOk 55 Try.f40 _ Try.func40 (by kernel_rfl) rfl rfl rfl ?_ | refine Z.callZ_in tabOk 95 Try.f42 _ Try.func42 (by kernel_rfl) rfl rfl rfl ?_ | refine Z.callZ_in tabOk 10 Try.f57 _ Try.func57 (by kernel_rfl) rfl rfl rfl ?_ | refine Z.callZ_in tabOk 14 Try.f70 _ Try.func70 (by kernel_rfl) rfl rfl rfl ?_ | refine Z.callZ_in tabOk 28 Try.f76 _ Try.func76 (by kernel_rfl) rfl rfl rfl ?_
    | ((first | (with_reducible apply Z.conZ_mz ?_ (mayBe_con _ _ _ ?_) ?_) | (with_reducible apply Z.callZ_mk ?_ (mayBe_con _ _ _ ?_) ?_)); (rotate_left 3); (focus ((repeat' (first | exact trivial | exact rfl | exact Z.low_nil | exact Z.low_nil2 | exact low_osl (fun _ => rfl) | (refine Z.low_osln ?_ (fun _ => rfl); (simp only [List.length_map]; done)) | exact low_oslr (fun _ => rfl) | exact Z.low_gslm (by first | rfl | exact Z.kb_some rfl) (fun _ => rfl) | exact .inl rfl | exact .inr ⟨_, rfl⟩ | apply And.intro)); done)); (iterate 1 (focus (first | assumption | omega | ((try simp only [LN] at *); omega)))))
    | ((with_reducible apply ex_and); exact rfl)
    | with_reducible first | refine Z.drawZ_rule tabOk mixOk ?_ | refine Z.apZ_mk (by kernel_rfl) ?_
    | (focus (exact (rfl : Nat.ble _ _ = true))))
  all_goals (try (conv => whnf))
  all_goals try (show Nat.ble _ _ = true; rfl)
  all_goals first
    | ((first | (with_reducible apply Z.retF1) | (with_reducible apply Z.retF2) | (with_reducible apply Z.retF0)); (focus (exact rfl)); (repeat' (first | exact trivial | (with_reducible apply Z.frz_one) | (with_reducible apply Z.frz_agg) | (with_reducible apply Z.fq_int) | (with_reducible apply Z.fq_bool) | (exact Z.frz_nil) | (exact Z.frz_osl0 rfl rfl rfl) | (with_reducible apply Z.fq_nil) | (with_reducible apply Z.fq_ro) | ((with_reducible apply Z.fq_gsl); (focus (first | rfl | exact Z.isB_map _ | exact Z.gB_snoc.symm)); (focus (exact fun _ => rfl))) | ((with_reducible apply Z.fq_osl); (focus (exact rfl)); (focus (first | exact rfl | (simp only [List.length_map, Nat.zero_add]; done) | ((try simp only [LN] at *) <;> omega))); (focus (exact fun _ => rfl))) | ((with_reducible apply Z.fq_src); (focus (exact rfl)); (focus (first | exact rfl | (simp only [List.length_map, Nat.zero_add]; done) | ((try simp only [LN] at *) <;> omega))); (focus (exact fun _ => rfl))) | exact rfl | ((apply Z.fq_osl); (focus (exact rfl)); (focus (first | exact rfl | (simp only [List.length_map, Nat.zero_add]; done) | ((try simp only [LN] at *) <;> omega))); (focus (exact fun _ => rfl))) | ((apply Z.fq_src); (focus (exact rfl)); (focus (first | exact rfl | (simp only [List.length_map, Nat.zero_add]; done) | ((try simp only [LN] at *) <;> omega))); (focus (exact fun _ => rfl))) | (apply Z.fq_ro) | (apply Z.fq_int) | (apply Z.fq_bool) | apply And.intro)); (all_goals (try exact (fun _ => none))); all_goals (first | rfl | (rw [hk]; rfl)))
    | (exfalso; simp_all; done)
    | (fail)

theorem drop_bad (now span w : Int) (l : List Pu) (hl : l.length ≤ 9223372036854775807) (hk : okH now span l = false) : Con Try.prog 32 [.agg [.v (.int .i64 now), .v (.int .i64 span), .ro false 3 ((l).map eP)], .one (.v (.int .i64 w))] (fun rx rK rt => rx = .tup [.agg [.v (.int .i64 0), .v (.int .i64 0), .ro true 3 ((([] : List Pu)).map eP)], .one (.v (.int .i64 360))] ∧ rK = [] ∧ rt = 0) := by
  refine Z.con_ofF tabOk 11 Try.f32 _ Try.func32 (by kernel_rfl) rfl rfl rfl rfl ?_
  repeat' ((conv => whnf); first
    | with_reducible first | refine spB_t ?_
    | ((with_reducible apply spB_cong); (focus (simp only [beq_self_eq_true, bne_self_eq_false, Bool.true_bne, Bool.false_bne, Bool.bne_true, Bool.bne_false, Bool.true_beq, Bool.false_beq, Bool.not_true, Bool.not_false, Bool.not_not, Int.reduceBEq, Int.reduceBNe, Int.reduceLE, Int.reduceLT, Int.reduceEq, decide_true, decide_false, hk]; rfl)))
    | with_reducible first | refine apN_mk (by kernel_rfl) ?_ | refine Z.callZ_in tabOk 29 Try.f39 _ Try.func39 (by kernel_rfl) rfl rfl rfl ?_ | refine Z.callZ_in tabOk 27 Try.f50 _ Try.func50 (by kernel_rfl) rfl rfl rfl ?_ | refine Z.callZ_in tabOk 33 Try.f51 _ Try.func51 (by kernel_rfl) rfl rfl rfl ?_
    | ((first | (with_reducible apply Z.conZ_mz ?_ (mayBe_con _ _ _ ?_) ?_) | (with_reducible apply Z.callZ_mk ?_ (mayBe_con _ _ _ ?_) ?_)); (rotate_left 3); (focus ((repeat' (first | exact trivial | exact rfl | exact Z.low_nil | exact Z.low_nil2 | exact low_osl (fun _ => rfl) | (refine Z.low_osln ?_ (fun _ => rfl); (simp only [List.length_map]; done)) | exact low_oslr (fun _ => rfl) | exact Z.low_gslm (by first | rfl | exact Z.kb_some rfl) (fun _ => rfl) | exact .inl rfl | exact .inr ⟨_, rfl⟩ | apply And.intro)); done)); (iterate 1 (focus (first | assumption | omega | ((try simp only [LN] at *); omega)))))
    | ((with_reducible apply ex_and); exact rfl)
    | (focus (exact (rfl : Nat.ble _ _ = true))))
  all_goals (try (conv => whnf))
  all_goals try (show Nat.ble _ _ = true; rfl)
  all_goals first
    | ((first | (with_reducible apply Z.retF1) | (with_reducible apply Z.retF2) | (with_reducible apply Z.retF0)); (focus (exact rfl)); (repeat' (first | exact trivial | (with_reducible apply Z.frz_one) | (with_reducible apply Z.frz_agg) | (with_reducible apply Z.fq_int) | (with_reducible apply Z.fq_bool) | (exact Z.frz_nil) | (exact Z.frz_osl0 rfl rfl rfl) | (with_reducible apply Z.fq_nil) | (with_reducible apply Z.fq_ro) | ((with_reducible apply Z.fq_gsl); (focus (first | rfl | exact Z.isB_map _ | exact Z.gB_snoc.symm)); (focus (exact fun _ => rfl))) | ((with_reducible apply Z.fq_osl); (focus (exact rfl)); (focus (first | exact rfl | (simp only [List.length_map, Nat.zero_add]; done) | ((try simp only [LN] at *) <;> omega))); (focus (exact fun _ => rfl))) | ((with_reducible apply Z.fq_src); (focus (exact rfl)); (focus (first | exact rfl | (simp only [List.length_map, Nat.zero_add]; done) | ((try simp only [LN] at *) <;> omega))); (focus (exact fun _ => rfl))) | exact rfl | ((apply Z.fq_osl); (focus (exact rfl)); (focus (first | exact rfl | (simp only [List.length_map, Nat.zero_add]; done) | ((try simp only [LN] at *) <;> omega))); (focus (exact fun _ => rfl))) | ((apply Z.fq_src); (focus (exact rfl)); (focus (first | exact rfl | (simp only [List.length_map, Nat.zero_add]; done) | ((try simp only [LN] at *) <;> omega))); (focus (exact fun _ => rfl))) | (apply Z.fq_ro) | (apply Z.fq_int) | (apply Z.fq_bool) | apply And.intro)); (all_goals (try exact (fun _ => none))); all_goals (first | rfl | (rw [hk]; rfl)))
    | (exfalso; simp_all; done)
    | (fail)

theorem pass_bad (now span to : Int) (l : List Pu) (hl : l.length ≤ 9223372036854775807) (hk : okH now span l = false) : Con Try.prog 26 [.agg [.v (.int .i64 now), .v (.int .i64 span), .ro false 3 ((l).map eP)], .one (.v (.int .i64 to))] (fun rx rK rt => rx = .tup [.agg [.v (.int .i64 0), .v (.int .i64 0), .ro true 3 ((([] : List Pu)).map eP)], .one (.ro true 1 ((([] : List Int)).map eI)), .one (.v (.int .i64 360))] ∧ rK = [] ∧ rt = 0) := by
  refine Z.con_ofF tabOk 19 Try.f26 _ Try.func26 (by kernel_rfl) rfl rfl rfl rfl ?_
  repeat' ((conv => whnf); first
    | with_reducible first | refine spB_t ?_
    | ((with_reducible apply spB_cong); (focus (simp only [beq_self_eq_true, bne_self_eq_false, Bool.true_bne, Bool.false_bne, Bool.bne_true, Bool.bne_false, Bool.true_beq, Bool.false_beq, Bool.not_true, Bool.not_false, Bool.not_not, Int.reduceBEq, Int.reduceBNe, Int.reduceLE, Int.reduceLT, Int.reduceEq, decide_true, decide_false, hk]; rfl)))
    | with_reducible first | refine apN_mk (by kernel_rfl) ?_ | refine Z.callZ_in tabOk 29 Try.f39 _ Try.func39 (by kernel_rfl) rfl rfl rfl ?_ | refine Z.callZ_in tabOk 41 Try.f43 _ Try.func43 (by kernel_rfl) rfl rfl rfl ?_ | refine Z.callZ_in tabOk 6 Try.f44 _ Try.func44 (by kernel_rfl) rfl rfl rfl ?_ | refine Z.callZ_in tabOk 31 Try.f58 _ Try.func58 (by kernel_rfl) rfl rfl rfl ?_ | refine Z.callZ_in tabOk 10 Try.f38 _ Try.func38 (by kernel_rfl) rfl rfl rfl ?_
    | ((first | (with_reducible apply Z.conZ_mz ?_ (mayBe_con _ _ _ ?_) ?_) | (with_reducible apply Z.callZ_mk ?_ (mayBe_con _ _ _ ?_) ?_)); (rotate_left 3); (focus ((repeat' (first | exact trivial | exact rfl | exact Z.low_nil | exact Z.low_nil2 | exact low_osl (fun _ => rfl) | (refine Z.low_osln ?_ (fun _ => rfl); (simp only [List.length_map]; done)) | exact low_oslr (fun _ => rfl) | exact Z.low_gslm (by first | rfl | exact Z.kb_some rfl) (fun _ => rfl) | exact .inl rfl | exact .inr ⟨_, rfl⟩ | apply And.intro)); done)); (iterate 1 (focus (first | assumption | omega | ((try simp only [LN] at *); omega)))))
    | ((with_reducible apply ex_and); exact rfl)
    | with_reducible first | refine Z.drawZ_rule tabOk mixOk ?_ | refine Z.apZ_mk (by kernel_rfl) ?_
    | (focus (exact (rfl : Nat.ble _ _ = true))))
  all_goals (try (conv => whnf))
  all_goals try (show Nat.ble _ _ = true; rfl)
  all_goals first
    | ((first | (with_reducible apply Z.retF1) | (with_reducible apply Z.retF2) | (with_reducible apply Z.retF0)); (focus (exact rfl)); (repeat' (first | exact trivial | (with_reducible apply Z.frz_one) | (with_reducible apply Z.frz_agg) | (with_reducible apply Z.fq_int) | (with_reducible apply Z.fq_bool) | (exact Z.frz_nil) | (exact Z.frz_osl0 rfl rfl rfl) | (with_reducible apply Z.fq_nil) | (with_reducible apply Z.fq_ro) | ((with_reducible apply Z.fq_gsl); (focus (first | rfl | exact Z.isB_map _ | exact Z.gB_snoc.symm)); (focus (exact fun _ => rfl))) | ((with_reducible apply Z.fq_osl); (focus (exact rfl)); (focus (first | exact rfl | (simp only [List.length_map, Nat.zero_add]; done) | ((try simp only [LN] at *) <;> omega))); (focus (exact fun _ => rfl))) | ((with_reducible apply Z.fq_src); (focus (exact rfl)); (focus (first | exact rfl | (simp only [List.length_map, Nat.zero_add]; done) | ((try simp only [LN] at *) <;> omega))); (focus (exact fun _ => rfl))) | exact rfl | ((apply Z.fq_osl); (focus (exact rfl)); (focus (first | exact rfl | (simp only [List.length_map, Nat.zero_add]; done) | ((try simp only [LN] at *) <;> omega))); (focus (exact fun _ => rfl))) | ((apply Z.fq_src); (focus (exact rfl)); (focus (first | exact rfl | (simp only [List.length_map, Nat.zero_add]; done) | ((try simp only [LN] at *) <;> omega))); (focus (exact fun _ => rfl))) | (apply Z.fq_ro) | (apply Z.fq_int) | (apply Z.fq_bool) | apply And.intro)); (all_goals (try exact (fun _ => none))); all_goals (first | rfl | (rw [hk]; rfl)))
    | (exfalso; simp_all; done)
    | (fail)

theorem run_bad (kd w tick : Int) (far : Bool) (now span : Int) (l : List Pu) (hl : l.length ≤ 9223372036854775807) (hk : okH now span l = false) : Con Try.prog 11 [.agg [.v (.int .i64 kd), .v (.int .i64 w), .v (.int .i64 tick), .v (.bool far)], .agg [.v (.int .i64 now), .v (.int .i64 span), .ro false 3 ((l).map eP)]] (fun rx rK rt => rx = .tup [.agg [.v (.int .i64 (bad 360).now), .v (.int .i64 (bad 360).span), .ro true 3 ((bad 360).rows.map eP)], .one (.v (.bool (bad 360).came)), .one (.ro true 1 ((bad 360).gone.map eI)), .one (.v (.int .i64 (bad 360).err))] ∧ rK = [] ∧ rt = 0) := by
  refine Z.con_ofF tabOk 46 Try.f11 _ Try.func11 (by kernel_rfl) rfl rfl rfl rfl ?_
  have hwn := wrap64 kd
  generalize hW : kd % 18446744073709551616 = W at *
  have hW0 : 0 ≤ W := by omega
  generalize hkk : W % 5 = kk at *
  cases far
  · skip
    repeat' ((conv => whnf); first
      | with_reducible first | refine spB_yes (by decide) ?_ | refine spB_no (by decide) ?_ | refine spB_f ?_ | refine spB_not ?_ | refine spB_yes (by assumption) ?_ | refine spB_no (by assumption) ?_
      | (with_reducible refine spB_beq ?_ ?_ <;> intro _ <;> (try (exfalso; first | contradiction | omega | (rename_i hz; exact hz (by simp; done)) | (simp only [LN] at *; omega))))
      | with_reducible first | refine wr_mk _ hwn ?_
      | ((with_reducible refine vN_to kk ?_ ?_); (focus (rw [Int.tmod_eq_emod_of_nonneg hW0, hkk])))
      | ((with_reducible refine vN_to (tick.tmod 200) ?_ ?_); (focus rfl))
      | with_reducible first | refine wr_mk _ rfl ?_
      | with_reducible refine nzN_mk (by omega) ?_
      | with_reducible first | refine apN_mk (by kernel_rfl) ?_ | refine Z.callZ_in tabOk 15 Try.f31 _ Try.func31 (by kernel_rfl) rfl rfl rfl ?_
      | ((first | (with_reducible apply Z.conZ_mz ?_ (hear_bad _ _ _ _ ?_ ?_) ?_) | (with_reducible apply Z.callZ_mk ?_ (hear_bad _ _ _ _ ?_ ?_) ?_) | (with_reducible apply Z.conZ_mz ?_ (pass_bad _ _ _ _ ?_ ?_) ?_) | (with_reducible apply Z.callZ_mk ?_ (pass_bad _ _ _ _ ?_ ?_) ?_) | (with_reducible apply Z.conZ_mz ?_ (drop_bad _ _ _ _ ?_ ?_) ?_) | (with_reducible apply Z.callZ_mk ?_ (drop_bad _ _ _ _ ?_ ?_) ?_)); (rotate_left 4); (focus ((repeat' (first | exact trivial | exact rfl | exact Z.low_nil | exact Z.low_nil2 | exact low_osl (fun _ => rfl) | (refine Z.low_osln ?_ (fun _ => rfl); (simp only [List.length_map]; done)) | exact low_oslr (fun _ => rfl) | exact Z.low_gslm (by first | rfl | exact Z.kb_some rfl) (fun _ => rfl) | exact .inl rfl | exact .inr ⟨_, rfl⟩ | apply And.intro)); done)); (iterate 2 (focus (first | assumption | omega | ((try simp only [LN] at *); omega)))))
      | ((with_reducible apply ex_and); exact rfl)
      | with_reducible first | refine Z.drawZ_rule tabOk mixOk ?_ | refine Z.apZ_mk (by kernel_rfl) ?_
      | ((with_reducible refine Z.ConZ.red ?_); (try subst hlb); (apply Z.conZ_all); (focus (repeat (first | exact Z.FK.nil | (apply Z.FK.keep; exact rfl)))); (focus rfl); (focus rfl); (focus (repeat (first | exact trivial | (refine ⟨(fun o ho => (by first | (cases ho; rfl) | (cases ho; exact Z.inL_map fun _ => rfl) | (cases ho; exact Z.inL_mapr fun _ => rfl) | exact Z.inL_gB ho fun _ => rfl)), ?_⟩)))))
      | ((refine ⟨rfl, ?_, rfl⟩); (focus (repeat (first | exact Z.DK.nil | apply Z.DK.cons))))
      | (focus (exact (rfl : Nat.ble _ _ = true))))
    all_goals (try (conv => whnf))
    all_goals try (show Nat.ble _ _ = true; rfl)
    all_goals first
      | ((first | (with_reducible apply Z.retF1) | (with_reducible apply Z.retF2) | (with_reducible apply Z.retF0)); (focus (exact rfl)); (repeat' (first | exact trivial | (with_reducible apply Z.frz_one) | (with_reducible apply Z.frz_agg) | (with_reducible apply Z.fq_int) | (with_reducible apply Z.fq_bool) | (exact Z.frz_nil) | (exact Z.frz_osl0 rfl rfl rfl) | (with_reducible apply Z.fq_nil) | (with_reducible apply Z.fq_ro) | ((with_reducible apply Z.fq_gsl); (focus (first | rfl | exact Z.isB_map _ | exact Z.gB_snoc.symm)); (focus (exact fun _ => rfl))) | ((with_reducible apply Z.fq_osl); (focus (exact rfl)); (focus (first | exact rfl | (simp only [List.length_map, Nat.zero_add]; done) | ((try simp only [LN] at *) <;> omega))); (focus (exact fun _ => rfl))) | ((with_reducible apply Z.fq_src); (focus (exact rfl)); (focus (first | exact rfl | (simp only [List.length_map, Nat.zero_add]; done) | ((try simp only [LN] at *) <;> omega))); (focus (exact fun _ => rfl))) | exact rfl | ((apply Z.fq_osl); (focus (exact rfl)); (focus (first | exact rfl | (simp only [List.length_map, Nat.zero_add]; done) | ((try simp only [LN] at *) <;> omega))); (focus (exact fun _ => rfl))) | ((apply Z.fq_src); (focus (exact rfl)); (focus (first | exact rfl | (simp only [List.length_map, Nat.zero_add]; done) | ((try simp only [LN] at *) <;> omega))); (focus (exact fun _ => rfl))) | (apply Z.fq_ro) | (apply Z.fq_int) | (apply Z.fq_bool) | apply And.intro)); (all_goals (try exact (fun _ => none))); all_goals (rfl))
      | (exfalso; simp_all; done)
      | (exfalso; omega)
      | (fail)
  · skip
    repeat' ((conv => whnf); first
      | with_reducible first | refine spB_t ?_
      | (with_reducible refine spB_beq ?_ ?_ <;> intro _ <;> (try (exfalso; first | contradiction | omega | (rename_i hz; exact hz (by simp; done)) | (simp only [LN] at *; omega))))
      | with_reducible first | refine wr_mk _ hwn ?_
      | ((with_reducible refine vN_to kk ?_ ?_); (focus (rw [Int.tmod_eq_emod_of_nonneg hW0, hkk])))
      | with_reducible refine nzN_mk (by omega) ?_
      | with_reducible first | refine apN_mk (by kernel_rfl) ?_ | refine Z.callZ_in tabOk 15 Try.f31 _ Try.func31 (by kernel_rfl) rfl rfl rfl ?_
      | ((first | (with_reducible apply Z.conZ_mz ?_ (hear_bad _ _ _ _ ?_ ?_) ?_) | (with_reducible apply Z.callZ_mk ?_ (hear_bad _ _ _ _ ?_ ?_) ?_) | (with_reducible apply Z.conZ_mz ?_ (pass_bad _ _ _ _ ?_ ?_) ?_) | (with_reducible apply Z.callZ_mk ?_ (pass_bad _ _ _ _ ?_ ?_) ?_) | (with_reducible apply Z.conZ_mz ?_ (drop_bad _ _ _ _ ?_ ?_) ?_) | (with_reducible apply Z.callZ_mk ?_ (drop_bad _ _ _ _ ?_ ?_) ?_)); (rotate_left 4); (focus ((repeat' (first | exact trivial | exact rfl | exact Z.low_nil | exact Z.low_nil2 | exact low_osl (fun _ => rfl) | (refine Z.low_osln ?_ (fun _ => rfl); (simp only [List.length_map]; done)) | exact low_oslr (fun _ => rfl) | exact Z.low_gslm (by first | rfl | exact Z.kb_some rfl) (fun _ => rfl) | exact .inl rfl | exact .inr ⟨_, rfl⟩ | apply And.intro)); done)); (iterate 2 (focus (first | assumption | omega | ((try simp only [LN] at *); omega)))))
      | ((with_reducible apply ex_and); exact rfl)
      | with_reducible first | refine Z.drawZ_rule tabOk mixOk ?_ | refine Z.apZ_mk (by kernel_rfl) ?_
      | ((with_reducible refine Z.ConZ.red ?_); (try subst hlb); (apply Z.conZ_all); (focus (repeat (first | exact Z.FK.nil | (apply Z.FK.keep; exact rfl)))); (focus rfl); (focus rfl); (focus (repeat (first | exact trivial | (refine ⟨(fun o ho => (by first | (cases ho; rfl) | (cases ho; exact Z.inL_map fun _ => rfl) | (cases ho; exact Z.inL_mapr fun _ => rfl) | exact Z.inL_gB ho fun _ => rfl)), ?_⟩)))))
      | ((refine ⟨rfl, ?_, rfl⟩); (focus (repeat (first | exact Z.DK.nil | apply Z.DK.cons))))
      | (focus (exact (rfl : Nat.ble _ _ = true))))
    all_goals (try (conv => whnf))
    all_goals try (show Nat.ble _ _ = true; rfl)
    all_goals first
      | ((first | (with_reducible apply Z.retF1) | (with_reducible apply Z.retF2) | (with_reducible apply Z.retF0)); (focus (exact rfl)); (repeat' (first | exact trivial | (with_reducible apply Z.frz_one) | (with_reducible apply Z.frz_agg) | (with_reducible apply Z.fq_int) | (with_reducible apply Z.fq_bool) | (exact Z.frz_nil) | (exact Z.frz_osl0 rfl rfl rfl) | (with_reducible apply Z.fq_nil) | (with_reducible apply Z.fq_ro) | ((with_reducible apply Z.fq_gsl); (focus (first | rfl | exact Z.isB_map _ | exact Z.gB_snoc.symm)); (focus (exact fun _ => rfl))) | ((with_reducible apply Z.fq_osl); (focus (exact rfl)); (focus (first | exact rfl | (simp only [List.length_map, Nat.zero_add]; done) | ((try simp only [LN] at *) <;> omega))); (focus (exact fun _ => rfl))) | ((with_reducible apply Z.fq_src); (focus (exact rfl)); (focus (first | exact rfl | (simp only [List.length_map, Nat.zero_add]; done) | ((try simp only [LN] at *) <;> omega))); (focus (exact fun _ => rfl))) | exact rfl | ((apply Z.fq_osl); (focus (exact rfl)); (focus (first | exact rfl | (simp only [List.length_map, Nat.zero_add]; done) | ((try simp only [LN] at *) <;> omega))); (focus (exact fun _ => rfl))) | ((apply Z.fq_src); (focus (exact rfl)); (focus (first | exact rfl | (simp only [List.length_map, Nat.zero_add]; done) | ((try simp only [LN] at *) <;> omega))); (focus (exact fun _ => rfl))) | (apply Z.fq_ro) | (apply Z.fq_int) | (apply Z.fq_bool) | apply And.intro)); (all_goals (try exact (fun _ => none))); all_goals (rfl))
      | (exfalso; simp_all; done)
      | (exfalso; omega)
      | (fail)

end Go.Proofs.Ytgdkhdooekmfgaa
