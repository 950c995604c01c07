import Derived.Test.YtaafippakgofiaaNa7
namespace Go.Proofs.Ytaafippakgofiaa
open Go Go.RowKit Wx
set_option linter.unusedVariables false
set_option linter.unusedSimpArgs false
set_option maxHeartbeats 4000000
def prc (num : Int) (ps : List Pc) : Pc := (ps[srch num ps]?).getD ⟨0, 0, 0, []⟩
theorem prc_eq {num : Int} {ps : List Pc} {x : Pc} (h : ps[srch num ps]? = some x) : prc num ps = x := by unfold prc; rw [h]; rfl
theorem srch_mem {ps : List Pc} {p : Pc} (hs : srt ps) (hp : p ∈ ps) : ps[srch p.num ps]? = some p := by
  obtain ⟨i, hi⟩ := List.getElem?_of_mem hp
  have hl := (List.getElem?_eq_some_iff.1 hi).1
  rw [srch_eq (i := i) (by omega) (fun k x hk hx => hs k i x p hk hx hi) (fun x hx => by rw [hi] at hx; cases hx; exact Int.le_refl _)]
  exact hi
theorem for_mem {node x : Int} {ps : List Pc} {h : Nat} (hs : srt ps) (hx : (forL node ps)[h]? = some x) : (∃ p, ps[srch x ps]? = some p ∧ p.num = x) ∧ (prc x ps).to = node := by
  have := List.mem_of_getElem? hx
  unfold forL at this
  obtain ⟨p, hp, rfl⟩ := List.mem_map.1 this
  obtain ⟨h1, h2⟩ := List.mem_filter.1 hp
  have h3 := srch_mem hs h1
  exact ⟨⟨p, h3, rfl⟩, by rw [prc_eq h3]; simpa using h2⟩
theorem come_d (sent num : Int) (ps : List Pc) (hl : ps.length ≤ 100) (hb : ∀ p ∈ ps, p.bs.length ≤ 30001) (hk : okN sent ps = true) (hp : ∃ p, ps[srch num ps]? = some p ∧ p.num = num) : Con Try.prog 24 [.agg [.v (.int .u64 sent), .ro false 4 (ps.map eP)], .one (.v (.int .u64 num)), .one (.v (.bool true))] (fun rx rK rt => rx = .tup [.agg [.v (.int .u64 sent), .ro true 4 (ps.map eP)], .agg [.v (.int .u64 (prc num ps).num), .v (.int .i64 (prc num ps).fr), .v (.int .i64 (prc num ps).to), .ro true 1 ((prc num ps).bs.map eB)], .one (.v (.int .i64 0))] ∧ rK = [] ∧ rt = 0) := by
  obtain ⟨p, h1, h2⟩ := hp
  rw [prc_eq h1]
  exact come_t sent num ps p hl hb hk h1 h2
def cnt (j : Int) (ps : List Pc) : Nat := (ps.filter (fun p => decide (p.to < j))).length
theorem cnt_le (j : Int) (ps : List Pc) : cnt j ps ≤ ps.length := List.length_filter_le _ _
theorem cnt_step (j : Int) : ∀ ps : List Pc, cnt (j + 1) ps = cnt j ps + (forL j ps).length
  | [] => rfl
  | p :: ps => by
    have := cnt_step j ps
    unfold cnt forL at this ⊢
    simp only [List.filter_cons, List.length_map] at this ⊢
    by_cases h1 : p.to < j
    · rw [if_pos (by simp; omega), if_pos (by simpa using h1), if_neg (by simp; omega)]; simp only [List.length_cons]; omega
    · by_cases h2 : p.to = j
      · rw [if_pos (by simp; omega), if_neg (by simpa using h1), if_pos (by simpa using h2)]; simp only [List.length_cons]; omega
      · rw [if_neg (by simp; omega), if_neg (by simpa using h1), if_neg (by simpa using h2)]; omega
theorem okL_to {sent : Int} : ∀ {ps : List Pc} {last : Int}, okL sent last ps = true → ∀ p ∈ ps, 1 ≤ p.to ∧ p.to ≤ 7
  | [], _, _, p, h => by simp at h
  | q :: ps, last, h, p, hp => by
    simp only [okL, okP, Bool.and_eq_true, decide_eq_true_eq] at h
    rcases List.mem_cons.1 hp with rfl | hp
    · exact h.1.2.2.2.1
    · exact okL_to h.2 p hp
theorem okN_to {sent : Int} {ps : List Pc} (h : okN sent ps = true) : ∀ p ∈ ps, 1 ≤ p.to ∧ p.to ≤ 7 := by
  unfold okN at h; simp only [Bool.and_eq_true] at h; exact okL_to h.2
theorem cnt_zero {ps : List Pc} (h : ∀ p ∈ ps, 1 ≤ p.to ∧ p.to ≤ 7) : cnt 0 ps = 0 := by
  unfold cnt; rw [List.length_eq_zero_iff, List.filter_eq_nil_iff]; intro p hp; have := h p hp; simp; omega
theorem cnt_all {ps : List Pc} (h : ∀ p ∈ ps, 1 ≤ p.to ∧ p.to ≤ 7) : cnt 9 ps = ps.length := by
  unfold cnt; rw [List.filter_eq_self.2]; intro p hp; have := h p hp; simp; omega
def pix (k : Int) (ps : List Pc) : Nat := (max k 0 % (ps.length : Int)).toNat
theorem pix_lt {k : Int} {ps : List Pc} (h : ps ≠ []) : pix k ps < ps.length := by
  have h1 : 0 < ps.length := List.length_pos_iff.2 h
  have h2 := Int.emod_lt_of_pos (max k 0) (show (0 : Int) < ps.length by omega)
  have h3 := Int.emod_nonneg (max k 0) (show (ps.length : Int) ≠ 0 by omega)
  unfold pix; omega
theorem pick_none (sent k : Int) (hk : okN sent [] = true) : Con Try.prog 16 [.agg [.v (.int .u64 sent), .ro false 4 (([] : List Pc).map eP)], .one (.v (.int .i64 k))] (fun rx rK rt => rx = .tup [.one (.v (.int .u64 0)), .one (.v (.bool false))] ∧ rK = [] ∧ rt = 0) := by
  refine Z.con_ofF tabOk 26 Try.f16 _ Try.func16 (by kernel_rfl) rfl rfl rfl rfl ?_
  repeat' ((conv => whnf); first
    | with_reducible first | refine spB_t ?_
    | ((with_reducible apply spB_cong); (focus (simp only [beq_self_eq_true, bne_self_eq_false, Bool.true_bne, Bool.false_bne, Bool.bne_true, Bool.bne_false, Bool.true_beq, Bool.false_beq, Bool.not_true, Bool.not_false, Bool.not_not, Int.reduceBEq, Int.reduceBNe, Int.reduceLE, Int.reduceLT, Int.reduceEq, decide_true, decide_false]; rfl)))
    | with_reducible first | refine spB_yes (by decide) ?_ | refine spB_no (by decide) ?_ | refine spB_f ?_ | refine spB_not ?_ | refine spB_yes (by assumption) ?_ | refine spB_no (by assumption) ?_
    | (with_reducible refine spB_dec ?_ ?_ <;> intro _ <;> (try (exfalso; first | contradiction | omega | (rename_i hz; with_reducible exact absurd rfl hz))))
    | (with_reducible refine spB_beq ?_ ?_ <;> intro _ <;> (try (exfalso; first | contradiction | omega | (rename_i hz; with_reducible exact absurd rfl hz))))
    | (with_reducible refine spB_bne ?_ ?_ <;> intro _ <;> (try (exfalso; first | contradiction | omega | (rename_i hz; with_reducible exact absurd rfl hz))))
    | (with_reducible refine spB_mk ?_ ?_ <;> intro _ <;> (try (exfalso; first | contradiction | omega | (rename_i hz; with_reducible exact absurd rfl hz))))
    | ((with_reducible apply rowN_mk); (focus rfl))
    | ((with_reducible apply ixN_lit); (focus (exact rfl)); (focus (exact rfl)))
    | ((with_reducible apply ixN_litp); (focus (exact rfl)); (focus ((try simp only [LN] at *) <;> omega)))
    | ((with_reducible refine eqN_mk2 ?_ ?_); (focus rfl))
    | with_reducible refine wr_i64 (by first | omega | (simp only [LN] at *; omega)) ?_
    | with_reducible refine wr_u64 (by omega) ?_
    | with_reducible first | refine wr_mk _ rfl ?_
    | ((with_reducible refine ixN_nat ?_ ?_); (focus ((try simp only [LN] at *) <;> omega)))
    | ((with_reducible refine rowN_map ?_ ?_); (focus ((try simp only [LN] at *) <;> omega)); intro x hx)
    | with_reducible refine vN_mod (by omega) ?_
    | with_reducible first | refine vN_mk ?_
    | with_reducible refine nzN_mk (by omega) ?_
    | with_reducible refine eqN_dec (by omega) ?_
    | with_reducible first | refine apN_mk (by kernel_rfl) ?_
    | ((first | (with_reducible apply Z.conZ_mz ?_ (mayBe_con _ _ ?_) ?_) | (with_reducible apply Z.callZ_mk ?_ (mayBe_con _ _ ?_) ?_)); (rotate_left 2); (focus ((repeat' (first | exact trivial | exact rfl | exact Z.low_nil | exact low_osl (fun _ => rfl) | (refine Z.low_osln ?_ (fun _ => rfl); (simp only [List.length_map]; done)) | exact low_oslr (fun _ => rfl) | exact Z.low_gslm (by first | rfl | exact Z.kb_some rfl) (fun _ => rfl) | exact .inl rfl | exact .inr ⟨_, rfl⟩ | apply And.intro)); done)); (iterate 1 (focus (first | assumption | omega | ((try simp only [LN] at *); omega)))))
    | ((with_reducible refine eqN_mk2 ?_ ?_); (focus (exact Z.kb_some rfl)))
    | ((with_reducible apply ex_and); exact rfl)
    | with_reducible first | refine Z.drawZ_rule tabOk mixOk ?_ | refine Z.apZ_mk (by kernel_rfl) ?_
    | ((with_reducible refine Z.ConZ.red ?_); (try subst hlb); (apply Z.conZ_all); (focus (repeat (first | exact Z.FK.nil | (apply Z.FK.keep; exact rfl)))); (focus rfl); (focus rfl); (focus (repeat (first | exact trivial | (refine ⟨(fun o ho => (by first | (cases ho; rfl) | (cases ho; exact Z.inL_map fun _ => rfl) | exact Z.inL_gB ho fun _ => rfl)), ?_⟩)))))
    | ((refine ⟨rfl, ?_, rfl⟩); (focus (repeat (first | exact Z.DK.nil | apply Z.DK.cons))))
    | (focus (exact (rfl : Nat.ble _ _ = true))))
  all_goals (try (conv => whnf))
  all_goals first
    | ((first | (with_reducible apply Z.retF1) | (with_reducible apply Z.retF2) | (with_reducible apply Z.retF0)); (focus (exact rfl)); (repeat' (first | exact trivial | (with_reducible apply Z.frz_one) | (with_reducible apply Z.frz_agg) | (with_reducible apply Z.fq_int) | (with_reducible apply Z.fq_bool) | (exact Z.frz_nil) | (exact Z.frz_osl0 rfl rfl rfl) | (with_reducible apply Z.fq_nil) | (with_reducible apply Z.fq_ro) | ((with_reducible apply Z.fq_gsl); (focus (first | rfl | exact Z.isB_map _ | exact Z.gB_snoc.symm)); (focus (exact fun _ => rfl))) | ((with_reducible apply Z.fq_osl); (focus (exact rfl)); (focus (first | exact rfl | (simp only [List.length_map, Nat.zero_add]; done) | ((try simp only [LN] at *) <;> omega))); (focus (exact fun _ => rfl))) | ((with_reducible apply Z.fq_src); (focus (exact rfl)); (focus (first | exact rfl | (simp only [List.length_map, Nat.zero_add]; done) | ((try simp only [LN] at *) <;> omega))); (focus (exact fun _ => rfl))) | exact rfl | ((apply Z.fq_osl); (focus (exact rfl)); (focus (first | exact rfl | (simp only [List.length_map, Nat.zero_add]; done) | ((try simp only [LN] at *) <;> omega))); (focus (exact fun _ => rfl))) | ((apply Z.fq_src); (focus (exact rfl)); (focus (first | exact rfl | (simp only [List.length_map, Nat.zero_add]; done) | ((try simp only [LN] at *) <;> omega))); (focus (exact fun _ => rfl))) | (apply Z.fq_ro) | (apply Z.fq_int) | (apply Z.fq_bool) | apply And.intro)); (all_goals (try exact (fun _ => none))); all_goals (rfl))
    | (exfalso; simp_all; done)
    | (fail)

theorem pick_some (sent k : Int) (ps : List Pc) (x : Pc) (hl : ps.length ≤ 100) (hk : okN sent ps = true) (hx : ps[pix k ps]? = some x) : Con Try.prog 16 [.agg [.v (.int .u64 sent), .ro false 4 (ps.map eP)], .one (.v (.int .i64 k))] (fun rx rK rt => rx = .tup [.one (.v (.int .u64 x.num)), .one (.v (.bool true))] ∧ rK = [] ∧ rt = 0) := by
  refine Z.con_ofF tabOk 26 Try.f16 _ Try.func16 (by kernel_rfl) rfl rfl rfl rfl ?_
  have hpl : pix k ps < ps.length := (List.getElem?_eq_some_iff.1 hx).1
  repeat' ((conv => whnf); first
    | with_reducible first | refine spB_t ?_
    | ((with_reducible apply spB_cong); (focus (simp only [beq_self_eq_true, bne_self_eq_false, Bool.true_bne, Bool.false_bne, Bool.bne_true, Bool.bne_false, Bool.true_beq, Bool.false_beq, Bool.not_true, Bool.not_false, Bool.not_not, Int.reduceBEq, Int.reduceBNe, Int.reduceLE, Int.reduceLT, Int.reduceEq, decide_true, decide_false]; rfl)))
    | with_reducible first | refine spB_yes (by decide) ?_ | refine spB_no (by decide) ?_ | refine spB_f ?_ | refine spB_not ?_ | refine spB_yes (by assumption) ?_ | refine spB_no (by assumption) ?_
    | (with_reducible refine spB_dec ?_ ?_ <;> intro _ <;> (try (exfalso; first | contradiction | omega | (simp_all; done))))
    | (with_reducible refine spB_beq ?_ ?_ <;> intro _ <;> (try (exfalso; first | contradiction | omega | (simp_all; done))))
    | (with_reducible refine spB_bne ?_ ?_ <;> intro _ <;> (try (exfalso; first | contradiction | omega | (simp_all; done))))
    | (with_reducible refine spB_mk ?_ ?_ <;> intro _ <;> (try (exfalso; first | contradiction | omega | (simp_all; done))))
    | ((with_reducible refine vN_to ((pix k ps : Nat) : Int) ?_ ?_); (focus (rw [List.length_map, Int.tmod_eq_emod_of_nonneg (by omega)]; unfold pix; rw [Int.toNat_of_nonneg (Int.emod_nonneg _ (by omega))])))
    | with_reducible first | refine Z.rowN_known hx ?_
    | ((with_reducible apply rowN_mk); (focus rfl))
    | ((with_reducible apply ixN_lit); (focus (exact rfl)); (focus (exact rfl)))
    | ((with_reducible apply ixN_litp); (focus (exact rfl)); (focus ((try simp only [LN] at *) <;> omega)))
    | ((with_reducible refine eqN_mk2 ?_ ?_); (focus rfl))
    | with_reducible refine wr_i64 (by first | omega | (simp only [LN] at *; omega)) ?_
    | with_reducible refine wr_u64 (by omega) ?_
    | with_reducible first | refine wr_mk _ rfl ?_
    | ((with_reducible refine ixN_nat ?_ ?_); (focus ((try simp only [LN] at *) <;> omega)))
    | ((with_reducible refine rowN_map ?_ ?_); (focus ((try simp only [LN] at *) <;> omega)); intro x hx)
    | with_reducible refine vN_mod (by omega) ?_
    | with_reducible first | refine vN_mk ?_
    | with_reducible refine nzN_mk (by omega) ?_
    | with_reducible refine eqN_dec (by omega) ?_
    | with_reducible first | refine apN_mk (by kernel_rfl) ?_
    | ((first | (with_reducible apply Z.conZ_mz ?_ (mayBe_con _ _ ?_) ?_) | (with_reducible apply Z.callZ_mk ?_ (mayBe_con _ _ ?_) ?_)); (rotate_left 2); (focus ((repeat' (first | exact trivial | exact rfl | exact Z.low_nil | exact low_osl (fun _ => rfl) | (refine Z.low_osln ?_ (fun _ => rfl); (simp only [List.length_map]; done)) | exact low_oslr (fun _ => rfl) | exact Z.low_gslm (by first | rfl | exact Z.kb_some rfl) (fun _ => rfl) | exact .inl rfl | exact .inr ⟨_, rfl⟩ | apply And.intro)); done)); (iterate 1 (focus (first | assumption | omega | ((try simp only [LN] at *); omega)))))
    | ((with_reducible refine eqN_mk2 ?_ ?_); (focus (exact Z.kb_some rfl)))
    | ((with_reducible apply ex_and); exact rfl)
    | with_reducible first | refine Z.drawZ_rule tabOk mixOk ?_ | refine Z.apZ_mk (by kernel_rfl) ?_
    | ((with_reducible refine Z.ConZ.red ?_); (try subst hlb); (apply Z.conZ_all); (focus (repeat (first | exact Z.FK.nil | (apply Z.FK.keep; exact rfl)))); (focus rfl); (focus rfl); (focus (repeat (first | exact trivial | (refine ⟨(fun o ho => (by first | (cases ho; rfl) | (cases ho; exact Z.inL_map fun _ => rfl) | exact Z.inL_gB ho fun _ => rfl)), ?_⟩)))))
    | ((refine ⟨rfl, ?_, rfl⟩); (focus (repeat (first | exact Z.DK.nil | apply Z.DK.cons))))
    | (focus (exact (rfl : Nat.ble _ _ = true))))
  all_goals (try (conv => whnf))
  all_goals first
    | ((first | (with_reducible apply Z.retF1) | (with_reducible apply Z.retF2) | (with_reducible apply Z.retF0)); (focus (exact rfl)); (repeat' (first | exact trivial | (with_reducible apply Z.frz_one) | (with_reducible apply Z.frz_agg) | (with_reducible apply Z.fq_int) | (with_reducible apply Z.fq_bool) | (exact Z.frz_nil) | (exact Z.frz_osl0 rfl rfl rfl) | (with_reducible apply Z.fq_nil) | (with_reducible apply Z.fq_ro) | ((with_reducible apply Z.fq_gsl); (focus (first | rfl | exact Z.isB_map _ | exact Z.gB_snoc.symm)); (focus (exact fun _ => rfl))) | ((with_reducible apply Z.fq_osl); (focus (exact rfl)); (focus (first | exact rfl | (simp only [List.length_map, Nat.zero_add]; done) | ((try simp only [LN] at *) <;> omega))); (focus (exact fun _ => rfl))) | ((with_reducible apply Z.fq_src); (focus (exact rfl)); (focus (first | exact rfl | (simp only [List.length_map, Nat.zero_add]; done) | ((try simp only [LN] at *) <;> omega))); (focus (exact fun _ => rfl))) | exact rfl | ((apply Z.fq_osl); (focus (exact rfl)); (focus (first | exact rfl | (simp only [List.length_map, Nat.zero_add]; done) | ((try simp only [LN] at *) <;> omega))); (focus (exact fun _ => rfl))) | ((apply Z.fq_src); (focus (exact rfl)); (focus (first | exact rfl | (simp only [List.length_map, Nat.zero_add]; done) | ((try simp only [LN] at *) <;> omega))); (focus (exact fun _ => rfl))) | (apply Z.fq_ro) | (apply Z.fq_int) | (apply Z.fq_bool) | apply And.intro)); (all_goals (try exact (fun _ => none))); all_goals (rfl))
    | (exfalso; simp_all; done)
    | (fail)

end Go.Proofs.Ytaafippakgofiaa
