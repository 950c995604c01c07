import Derived.Test.YtgdkhdooekmfgaaHp2
namespace Go.Proofs.Ytgdkhdooekmfgaa
open Go Go.RowKit Wx
set_option linter.unusedVariables false
set_option linter.unusedSimpArgs false
set_option maxHeartbeats 4000000
theorem del_R {l : List Pu} {i m : Nat} {R : List (List Ce)} {W : List (List Ce)} (h : R = l.map cP) (hi : i < l.length) (hm : m = l.length) : List.take (i - 0 + (m - (i + 1))) (lay (lay R (i - 0) (List.take (m - (i + 1)) (List.drop (0 + (i + 1)) R))) (0 + (l.length - 1)) W) = (l.eraseIdx i).map cP := by subst h; exact Z.del_rows hi hm
theorem del_E {l : List Pu} {i : Nat} {R : List (List Ce)} {W : List (List Ce)} (h : R = l.map cP) (hi : i + 1 = l.length) : List.take (i - 0 + 0) (lay (lay R (i - 0) []) (0 + (l.length - 1)) W) = (l.eraseIdx i).map cP := by subst h; exact Z.del_end hi
theorem le_lay {l : List Pu} {q m : Nat} {R S : List (List Ce)} (h : R = l.map cP) (hq : q + S.length ≤ l.length) (hm : m ≤ l.length) : m ≤ (lay R q S).length := by
  subst h; rw [lay_length (by rw [List.length_map]; exact hq), List.length_map]; exact hm
theorem drop_none (now span w : Int) (l : List Pu) (hl : l.length ≤ 4) (hk : okH now span l = true) (ht : thereW w l = false) : Con Try.prog 32 [.agg [.v (.int .i64 now), .v (.int .i64 span), .ro false 3 ((l).map eP)], .one (.v (.int .i64 w))] (fun rx rK rt => rx = .tup [.agg [.v (.int .i64 0), .v (.int .i64 0), .ro true 3 ((([] : List Pu)).map eP)], .one (.v (.int .i64 4))] ∧ rK = [] ∧ rt = 0) := by
  refine Z.con_ofF tabOk 11 Try.f32 _ Try.func32 (by kernel_rfl) rfl rfl rfl rfl ?_
  obtain ⟨hok1, hok2, hok3⟩ := okH_all hk
  have cf := find_con now span w l (by omega) hok2
  rw [ht] at cf
  repeat' ((conv => whnf); first
    | with_reducible first | refine spB_t ?_
    | ((with_reducible apply spB_cong); (focus (simp only [beq_self_eq_true, bne_self_eq_false, Bool.true_bne, Bool.false_bne, Bool.bne_true, Bool.bne_false, Bool.true_beq, Bool.false_beq, Bool.not_true, Bool.not_false, Bool.not_not, Int.reduceBEq, Int.reduceBNe, Int.reduceLE, Int.reduceLT, Int.reduceEq, decide_true, decide_false, hk]; rfl)))
    | with_reducible first | refine spB_yes (by decide) ?_ | refine spB_no (by decide) ?_ | refine spB_f ?_ | refine spB_not ?_ | refine spB_yes (by assumption) ?_ | refine spB_no (by assumption) ?_
    | ((first | (with_reducible refine Z.conZ_mz ?_ (cf) ?_) | (with_reducible refine Z.callZ_mk ?_ (cf) ?_)); (focus (exact ⟨⟨rfl, rfl, low_copy (by exact Z.lay_copy (by simp) (Nat.le_min.2 ⟨by simp, by simp⟩) (fun _ => rfl)) (by simp), trivial⟩, rfl, trivial⟩)))
    | ((with_reducible refine cpyN.mk ?_ ?_ ?_ ?_); (focus (first | rfl | (simp; done))); (focus (first | exact one_all (by rfl) | exact one_map (fun _ => rfl) | exact one_map2 (fun _ => rfl))); (focus ((try simp only [LN] at *) <;> omega)))
    | with_reducible first | refine apN_mk (by kernel_rfl) ?_ | refine Z.callZ_in tabOk 29 Try.f39 _ Try.func39 (by kernel_rfl) rfl rfl rfl ?_ | refine Z.callZ_in tabOk 27 Try.f50 _ Try.func50 (by kernel_rfl) rfl rfl rfl ?_ | refine Z.callZ_in tabOk 33 Try.f51 _ Try.func51 (by kernel_rfl) rfl rfl rfl ?_
    | ((first | (with_reducible apply Z.conZ_mz ?_ (mayBe_con _ _ _ ?_) ?_) | (with_reducible apply Z.callZ_mk ?_ (mayBe_con _ _ _ ?_) ?_)); (rotate_left 3); (focus ((repeat' (first | exact trivial | exact rfl | exact Z.low_nil | exact Z.low_nil2 | exact low_osl (fun _ => rfl) | (refine Z.low_osln ?_ (fun _ => rfl); (simp only [List.length_map]; done)) | exact low_oslr (fun _ => rfl) | exact Z.low_gslm (by first | rfl | exact Z.kb_some rfl) (fun _ => rfl) | exact .inl rfl | exact .inr ⟨_, rfl⟩ | apply And.intro)); done)); (iterate 1 (focus (first | assumption | omega | ((try simp only [LN] at *); omega)))))
    | ((with_reducible apply ex_and); exact rfl)
    | ((with_reducible refine Z.mkN_nat ?_ ?_ ?_ ?_); (focus ((try simp only [LN] at *) <;> omega)); (focus ((try simp only [LN] at *) <;> omega)); (focus ((try simp only [LN] at *) <;> omega)))
    | with_reducible first | refine Z.drawZ_rule tabOk mixOk ?_ | refine Z.apZ_mk (by kernel_rfl) ?_)
  all_goals (try (conv => whnf))
  all_goals try (show Nat.ble _ _ = true; rfl)
  all_goals first
    | ((first | (with_reducible apply Z.retF1) | (with_reducible apply Z.retF2) | (with_reducible apply Z.retF0)); (focus (exact rfl)); (repeat' (first | exact trivial | (with_reducible apply Z.frz_one) | (with_reducible apply Z.frz_agg) | (with_reducible apply Z.fq_int) | (with_reducible apply Z.fq_bool) | (exact Z.frz_nil) | (exact Z.frz_osl0 rfl rfl rfl) | (with_reducible apply Z.fq_nil) | (with_reducible apply Z.fq_ro) | ((with_reducible apply Z.fq_gsl); (focus (first | rfl | exact Z.isB_map _ | exact Z.gB_snoc.symm)); (focus (exact fun _ => rfl))) | ((with_reducible apply Z.fq_osl); (focus (exact rfl)); (focus (first | exact rfl | (simp only [List.length_map, Nat.zero_add]; done) | ((try simp only [LN] at *) <;> omega))); (focus (exact fun _ => rfl))) | ((with_reducible apply Z.fq_src); (focus (exact rfl)); (focus (first | exact rfl | (simp only [List.length_map, Nat.zero_add]; done) | ((try simp only [LN] at *) <;> omega))); (focus (exact fun _ => rfl))) | exact rfl | ((apply Z.fq_osl); (focus (exact rfl)); (focus (first | exact rfl | (simp only [List.length_map, Nat.zero_add]; done) | ((try simp only [LN] at *) <;> omega))); (focus (exact fun _ => rfl))) | ((apply Z.fq_src); (focus (exact rfl)); (focus (first | exact rfl | (simp only [List.length_map, Nat.zero_add]; done) | ((try simp only [LN] at *) <;> omega))); (focus (exact fun _ => rfl))) | (apply Z.fq_ro) | (apply Z.fq_int) | (apply Z.fq_bool) | apply And.intro)); (all_goals (try exact (fun _ => none))); all_goals (rfl))
    | (exfalso; simp_all; done)
    | (fail)

theorem drop_t1 (now span w : Int) (l : List Pu) (i : Nat) (hl : l.length ≤ 4) (hk : okH now span l = true) (ht : thereW w l = true) (hi : srch w l = i) (hil : i + 1 < l.length) : Con Try.prog 32 [.agg [.v (.int .i64 now), .v (.int .i64 span), .ro false 3 ((l).map eP)], .one (.v (.int .i64 w))] (fun rx rK rt => rx = .tup [.agg [.v (.int .i64 now), .v (.int .i64 span), .ro true 3 ((l.eraseIdx i).map eP)], .one (.v (.int .i64 0))] ∧ rK = [] ∧ rt = 0) := by
  refine Z.con_ofF tabOk 11 Try.f32 _ Try.func32 (by kernel_rfl) rfl rfl rfl rfl ?_
  obtain ⟨hok1, hok2, hok3⟩ := okH_all hk
  have cf := find_con now span w l (by omega) hok2
  rw [ht, hi] at cf
  repeat' ((conv => whnf); first
    | ((with_reducible apply spB_cong); (focus (simp only [beq_self_eq_true, bne_self_eq_false, Bool.true_bne, Bool.false_bne, Bool.bne_true, Bool.bne_false, Bool.true_beq, Bool.false_beq, Bool.not_true, Bool.not_false, Bool.not_not, Int.reduceBEq, Int.reduceBNe, Int.reduceLE, Int.reduceLT, Int.reduceEq, decide_true, decide_false, hk]; rfl)))
    | with_reducible first | refine spB_yes (by decide) ?_ | refine spB_no (by decide) ?_ | refine spB_f ?_ | refine spB_not ?_ | refine spB_yes (by assumption) ?_ | refine spB_no (by assumption) ?_
    | (with_reducible refine spB_beq ?_ ?_ <;> intro _ <;> (try (exfalso; first | contradiction | omega | (rename_i hz; exact hz (by simp; done)) | (simp only [LN] at *; omega))))
    | ((first | (with_reducible refine Z.conZ_mz ?_ (cf) ?_) | (with_reducible refine Z.callZ_mk ?_ (cf) ?_)); (focus (exact ⟨⟨rfl, rfl, low_copy (by exact Z.lay_copy (by simp) (Nat.le_min.2 ⟨by simp, by simp⟩) (fun _ => rfl)) (by simp), trivial⟩, rfl, trivial⟩)))
    | ((with_reducible refine slN_hi (i) ?_ ?_ ?_); (focus rfl); (focus ((try simp only [LN] at *) <;> omega)))
    | ((with_reducible refine Z.slN_lo (i + 1) ?_ ?_ ?_); (focus rfl); (focus ((try simp only [LN] at *) <;> omega)))
    | ((with_reducible refine Z.slN_lhc (l.length - 1) l.length ?_ ?_ ?_ ?_ ?_); (iterate 3 (focus ((try simp only [LN] at *) <;> omega))); (focus (exact ⟨_, rfl, by (try simp only [LN] at *) <;> omega⟩)))
    | ((with_reducible refine apdE_r ?_); (with_reducible refine aprN.mk ⟨_, rfl, ?_⟩ ?_ ?_ ?_ ?_); (focus ((try simp only [LN] at *) <;> omega)); (focus (exact len_src (by exact Z.lay_copy (by simp) (Nat.le_min.2 ⟨by simp, by simp⟩) (fun _ => rfl)) (by (try simp only [LN] at *) <;> omega))); (focus (exact one_src (by exact Z.lay_copy (by simp) (Nat.le_min.2 ⟨by simp, by simp⟩) (fun _ => rfl)))); (focus (exact le_copy (by exact Z.lay_copy (by simp) (Nat.le_min.2 ⟨by simp, by simp⟩) (fun _ => rfl)) (by (try simp only [LN] at *) <;> omega))))
    | ((with_reducible refine clrN_mk ?_ ?_ ?_); (focus (exact le_lay (by exact Z.lay_copy (by simp) (Nat.le_min.2 ⟨by simp, by simp⟩) (fun _ => rfl)) (by first | (rw [len_src (by exact Z.lay_copy (by simp) (Nat.le_min.2 ⟨by simp, by simp⟩) (fun _ => rfl)) (by (try simp only [LN] at *) <;> omega)]; (try simp only [LN] at *) <;> omega) | ((try simp only [LN] at *) <;> omega)) (by (try simp only [LN] at *) <;> omega))); (focus rfl))
    | ((with_reducible refine slE_a ?_ ?_); (focus ((try simp only [LN] at *) <;> omega)))
    | ((with_reducible apply sl3N_mk); (focus (exact rfl)); (focus (exact rfl)); (focus (exact rfl)); (focus ((try simp only [LN] at *) <;> omega)); (focus ((try simp only [LN] at *) <;> omega)); (focus ((try simp only [LN] at *) <;> omega)); (focus ((try simp only [LN] at *) <;> omega)))
    | ((with_reducible refine cpyN.mk ?_ ?_ ?_ ?_); (focus (first | rfl | (simp; done))); (focus (first | exact one_all (by rfl) | exact one_map (fun _ => rfl) | exact one_map2 (fun _ => rfl))); (focus ((try simp only [LN] at *) <;> omega)))
    | with_reducible refine wr_i64 (by first | omega | (simp only [LN] at *; omega)) ?_
    | with_reducible first | refine apN_mk (by kernel_rfl) ?_ | refine Z.callZ_in tabOk 29 Try.f39 _ Try.func39 (by kernel_rfl) rfl rfl rfl ?_ | refine Z.callZ_in tabOk 27 Try.f50 _ Try.func50 (by kernel_rfl) rfl rfl rfl ?_ | refine Z.callZ_in tabOk 33 Try.f51 _ Try.func51 (by kernel_rfl) rfl rfl rfl ?_
    | ((first | (with_reducible apply Z.conZ_mz ?_ (mayBe_con _ _ _ ?_) ?_) | (with_reducible apply Z.callZ_mk ?_ (mayBe_con _ _ _ ?_) ?_)); (rotate_left 3); (focus ((repeat' (first | exact trivial | exact rfl | exact Z.low_nil | exact Z.low_nil2 | exact low_osl (fun _ => rfl) | (refine Z.low_osln ?_ (fun _ => rfl); (simp only [List.length_map]; done)) | exact low_oslr (fun _ => rfl) | exact Z.low_gslm (by first | rfl | exact Z.kb_some rfl) (fun _ => rfl) | exact .inl rfl | exact .inr ⟨_, rfl⟩ | apply And.intro)); done)); (iterate 1 (focus (first | assumption | omega | ((try simp only [LN] at *); omega)))))
    | ((with_reducible apply ex_and); exact rfl)
    | ((with_reducible refine Z.mkN_nat ?_ ?_ ?_ ?_); (focus ((try simp only [LN] at *) <;> omega)); (focus ((try simp only [LN] at *) <;> omega)); (focus ((try simp only [LN] at *) <;> omega)))
    | with_reducible first | refine Z.drawZ_rule tabOk mixOk ?_ | refine Z.apZ_mk (by kernel_rfl) ?_)
  all_goals (try (conv => whnf))
  all_goals try (show Nat.ble _ _ = true; rfl)
  all_goals first
    | (refine Z.retF2 [.agg [.v (.int .i64 now), .v (.int .i64 span), .osl 5 0 (i - 0 + ((l.map eP).length - (i + 1))) (some (l.map eP).length)], .one (.v (.int .i64 0))] (by rfl) ⟨⟨rfl, rfl, (Z.frz_oslw (l := l.eraseIdx i) (f := cP) (ty := 37) (bx := false) (by rfl) (by rw [List.length_eraseIdx, if_pos (by omega)]; (try simp only [LN] at *) <;> omega) (del_R (by exact Z.lay_copy (by simp) (Nat.le_min.2 ⟨by simp, by simp⟩) (fun _ => rfl)) (by omega) (by simp)) (fun _ => rfl)), trivial⟩, rfl, trivial⟩)
    | (exfalso; simp_all; done)
    | (fail)

theorem drop_t2 (now span w : Int) (l : List Pu) (i : Nat) (hl : l.length ≤ 4) (hk : okH now span l = true) (ht : thereW w l = true) (hi : srch w l = i) (hil : i + 1 = l.length) : Con Try.prog 32 [.agg [.v (.int .i64 now), .v (.int .i64 span), .ro false 3 ((l).map eP)], .one (.v (.int .i64 w))] (fun rx rK rt => rx = .tup [.agg [.v (.int .i64 now), .v (.int .i64 span), .ro true 3 ((l.eraseIdx i).map eP)], .one (.v (.int .i64 0))] ∧ rK = [] ∧ rt = 0) := by
  refine Z.con_ofF tabOk 11 Try.f32 _ Try.func32 (by kernel_rfl) rfl rfl rfl rfl ?_
  obtain ⟨hok1, hok2, hok3⟩ := okH_all hk
  have cf := find_con now span w l (by omega) hok2
  rw [ht, hi] at cf
  repeat' ((conv => whnf); first
    | ((with_reducible apply spB_cong); (focus (simp only [beq_self_eq_true, bne_self_eq_false, Bool.true_bne, Bool.false_bne, Bool.bne_true, Bool.bne_false, Bool.true_beq, Bool.false_beq, Bool.not_true, Bool.not_false, Bool.not_not, Int.reduceBEq, Int.reduceBNe, Int.reduceLE, Int.reduceLT, Int.reduceEq, decide_true, decide_false, hk]; rfl)))
    | with_reducible first | refine spB_yes (by decide) ?_ | refine spB_no (by decide) ?_ | refine spB_f ?_ | refine spB_not ?_ | refine spB_yes (by assumption) ?_ | refine spB_no (by assumption) ?_
    | (with_reducible refine spB_beq ?_ ?_ <;> intro _ <;> (try (exfalso; first | contradiction | omega | (rename_i hz; exact hz (by simp; done)) | (simp only [LN] at *; omega))))
    | ((first | (with_reducible refine Z.conZ_mz ?_ (cf) ?_) | (with_reducible refine Z.callZ_mk ?_ (cf) ?_)); (focus (exact ⟨⟨rfl, rfl, low_copy (by exact Z.lay_copy (by simp) (Nat.le_min.2 ⟨by simp, by simp⟩) (fun _ => rfl)) (by simp), trivial⟩, rfl, trivial⟩)))
    | ((with_reducible refine slN_hi (i) ?_ ?_ ?_); (focus rfl); (focus ((try simp only [LN] at *) <;> omega)))
    | ((with_reducible refine Z.slN_lo (i + 1) ?_ ?_ ?_); (focus rfl); (focus ((try simp only [LN] at *) <;> omega)))
    | ((with_reducible refine Z.slN_lhc (l.length - 1) l.length ?_ ?_ ?_ ?_ ?_); (iterate 3 (focus ((try simp only [LN] at *) <;> omega))); (focus (exact ⟨_, rfl, by (try simp only [LN] at *) <;> omega⟩)))
    | ((with_reducible refine apdE_r ?_); (with_reducible refine aprN.mk ⟨_, rfl, ?_⟩ ?_ ?_ ?_ ?_); (focus ((try simp only [LN] at *) <;> omega)); (focus rfl); (focus (exact one_all (by rfl))); (focus (exact le_copy (by exact Z.lay_copy (by simp) (Nat.le_min.2 ⟨by simp, by simp⟩) (fun _ => rfl)) (by (try simp only [LN] at *) <;> omega))))
    | ((with_reducible refine clrN_mk ?_ ?_ ?_); (focus (exact le_lay (by exact Z.lay_copy (by simp) (Nat.le_min.2 ⟨by simp, by simp⟩) (fun _ => rfl)) (by first | (rw [len_src (by exact Z.lay_copy (by simp) (Nat.le_min.2 ⟨by simp, by simp⟩) (fun _ => rfl)) (by (try simp only [LN] at *) <;> omega)]; (try simp only [LN] at *) <;> omega) | ((try simp only [LN] at *) <;> omega)) (by (try simp only [LN] at *) <;> omega))); (focus rfl))
    | ((with_reducible refine slE_a ?_ ?_); (focus ((try simp only [LN] at *) <;> omega)))
    | ((with_reducible refine slE_b ?_ ?_); (focus ((try simp only [LN] at *) <;> omega)))
    | ((with_reducible apply sl3N_mk); (focus (exact rfl)); (focus (exact rfl)); (focus (exact rfl)); (focus ((try simp only [LN] at *) <;> omega)); (focus ((try simp only [LN] at *) <;> omega)); (focus ((try simp only [LN] at *) <;> omega)); (focus ((try simp only [LN] at *) <;> omega)))
    | ((with_reducible refine cpyN.mk ?_ ?_ ?_ ?_); (focus (first | rfl | (simp; done))); (focus (first | exact one_all (by rfl) | exact one_map (fun _ => rfl) | exact one_map2 (fun _ => rfl))); (focus ((try simp only [LN] at *) <;> omega)))
    | with_reducible refine wr_i64 (by first | omega | (simp only [LN] at *; omega)) ?_
    | with_reducible first | refine apN_mk (by kernel_rfl) ?_ | refine Z.callZ_in tabOk 29 Try.f39 _ Try.func39 (by kernel_rfl) rfl rfl rfl ?_ | refine Z.callZ_in tabOk 27 Try.f50 _ Try.func50 (by kernel_rfl) rfl rfl rfl ?_ | refine Z.callZ_in tabOk 33 Try.f51 _ Try.func51 (by kernel_rfl) rfl rfl rfl ?_
    | ((first | (with_reducible apply Z.conZ_mz ?_ (mayBe_con _ _ _ ?_) ?_) | (with_reducible apply Z.callZ_mk ?_ (mayBe_con _ _ _ ?_) ?_)); (rotate_left 3); (focus ((repeat' (first | exact trivial | exact rfl | exact Z.low_nil | exact Z.low_nil2 | exact low_osl (fun _ => rfl) | (refine Z.low_osln ?_ (fun _ => rfl); (simp only [List.length_map]; done)) | exact low_oslr (fun _ => rfl) | exact Z.low_gslm (by first | rfl | exact Z.kb_some rfl) (fun _ => rfl) | exact .inl rfl | exact .inr ⟨_, rfl⟩ | apply And.intro)); done)); (iterate 1 (focus (first | assumption | omega | ((try simp only [LN] at *); omega)))))
    | ((with_reducible apply ex_and); exact rfl)
    | ((with_reducible refine Z.mkN_nat ?_ ?_ ?_ ?_); (focus ((try simp only [LN] at *) <;> omega)); (focus ((try simp only [LN] at *) <;> omega)); (focus ((try simp only [LN] at *) <;> omega)))
    | with_reducible first | refine Z.drawZ_rule tabOk mixOk ?_ | refine Z.apZ_mk (by kernel_rfl) ?_)
  all_goals (try (conv => whnf))
  all_goals try (show Nat.ble _ _ = true; rfl)
  all_goals first
    | (refine Z.retF2 [.agg [.v (.int .i64 now), .v (.int .i64 span), .osl 5 0 (i - 0 + 0) (some (l.map eP).length)], .one (.v (.int .i64 0))] (by rfl) ⟨⟨rfl, rfl, (Z.frz_oslw (l := l.eraseIdx i) (f := cP) (ty := 37) (bx := false) (by rfl) (by rw [List.length_eraseIdx, if_pos (by omega)]; (try simp only [LN] at *) <;> omega) (del_E (by exact Z.lay_copy (by simp) (Nat.le_min.2 ⟨by simp, by simp⟩) (fun _ => rfl)) hil) (fun _ => rfl)), trivial⟩, rfl, trivial⟩)
    | (exfalso; simp_all; done)
    | (fail)

end Go.Proofs.Ytgdkhdooekmfgaa
