import Derived.Test.YtgdkhdooekmfgaaHt1
namespace Go.Proofs.Ytgdkhdooekmfgaa
open Go Go.RowKit Wx
set_option linter.unusedVariables false
set_option linter.unusedSimpArgs false
set_option maxHeartbeats 4000000
theorem pass_conT (now span to : Int) (l : List Pu) (hk : okH now span l = true) : Con Try.prog 26 [.agg [.v (.int .i64 now), .v (.int .i64 span), .ro false 3 ((l).map eP)], .one (.v (.int .i64 to))] (fun rx rK rt => rx = .tup [.agg [.v (.int .i64 (passR now span to l).now), .v (.int .i64 (passR now span to l).span), .ro true 3 (((passR now span to l).rows).map eP)], .one (.ro true 1 (((passR now span to l).gone).map eI)), .one (.v (.int .i64 (passR now span to l).err))] ∧ rK = [] ∧ rt = 0) := by
  have hl := okH_len2 hk
  by_cases ht : now ≤ to ∧ to ≤ 1099511627776
  · have h := pass_t now span to l hl hk ht
    unfold passR; rw [decide_eq_true ht]; exact h
  · have h := pass_arg now span to l hl hk ht
    unfold passR; rw [decide_eq_false ht]; exact h
theorem gone_len (t span : Int) (l : List Pu) : (goneP t span l).length ≤ l.length := by unfold goneP; rw [List.length_map]; exact List.length_filter_le _ _
theorem pw_take1 (l : List Int) : (l.take 1).Pairwise (· ≤ ·) := by
  cases l with
  | nil => simp
  | cons a l => simp
theorem split_at {l : List Int} {i : Nat} {x : Int} (h : l[i]? = some x) : l = l.take i ++ x :: l.drop (i + 1) := by
  rw [← drop_cons h, List.take_append_drop]
theorem ins_perm {S : List Int} {j : Nat} {x : Int} {R : List Int} : (insS S j x ++ R).Perm (S ++ x :: R) := by
  unfold insS
  have h : (S.take j ++ x :: S.drop j).Perm (x :: S) := by
    have := (List.perm_middle (a := x) (l₁ := S.take j) (l₂ := S.drop j))
    rw [List.take_append_drop] at this; exact this
  exact (h.append_right R).trans (List.perm_middle (a := x) (l₁ := S) (l₂ := R)).symm
theorem ins_len {S : List Int} {j : Nat} {x : Int} : (insS S j x).length = S.length + 1 := by unfold insS; simp; omega
theorem ins_swap {S R : List Int} {j : Nat} {x y : Int} (hy : S[j]? = some y) : (((insS S (j + 1) x ++ R).map cI).set (0 + (j + 1)) (cI y)).set (0 + j) (cI x) = (insS S j x ++ R).map cI := by
  have hj := (List.getElem?_eq_some_iff.1 hy).1
  rw [Nat.zero_add, Nat.zero_add, ← List.map_set, ← List.map_set]
  congr 1
  have e1 : insS S (j + 1) x ++ R = S.take j ++ y :: x :: (S.drop (j + 1) ++ R) := by unfold insS; rw [take_snoc hy]; simp
  have e2 : insS S j x ++ R = S.take j ++ x :: y :: (S.drop (j + 1) ++ R) := by unfold insS; rw [drop_cons hy]; simp
  have hl : (S.take j).length = j := by simp; omega
  rw [e1, e2, List.set_append_right _ _ (by omega), List.set_append_right _ _ (by omega), hl, show j + 1 - j = 1 by omega, Nat.sub_self]
  rfl
theorem ins_at1 {S R : List Int} {j : Nat} {x : Int} (h : j ≤ S.length) : (insS S j x ++ R)[j]? = some x := by
  unfold insS
  rw [List.append_assoc, List.getElem?_append_right (by simp; omega), show j - (S.take j).length = 0 by simp; omega]; rfl
theorem ins_at0 {S R : List Int} {j : Nat} {x y : Int} (hy : S[j]? = some y) : (insS S (j + 1) x ++ R)[j]? = some y := by
  have hj := (List.getElem?_eq_some_iff.1 hy).1
  unfold insS
  rw [List.append_assoc, List.getElem?_append_left (by simp; omega), List.getElem?_take_of_lt (by omega)]; exact hy
theorem set_row {l : List Int} {k : Nat} {c : List Ce} {y : Int} (h : l[k]? = some y) : ((l.map cI).set (0 + (k + 1)) c)[0 + k]? = some (cI y) := by
  rw [Nat.zero_add, Nat.zero_add, List.getElem?_set_ne (by omega), List.getElem?_map, h]; rfl
theorem ins_take {S R : List Int} {i j : Nat} {x : Int} (hSl : S.length = i) : (insS S j x ++ R).take (i + 1) = insS S j x := List.take_left' (by rw [ins_len, hSl])
theorem drop_gt {S : List Int} {j : Nat} {x y : Int} (hy : S[j]? = some y) (h : ∀ z ∈ S.drop (j + 1), x < z) (hxy : x < y) : ∀ z ∈ S.drop j, x < z := fun z hz => by
  rw [drop_cons hy] at hz
  rcases List.mem_cons.1 hz with rfl | hz
  · exact hxy
  · exact h z hz
theorem hearttwice_con (now span a b : Int) (L : List Pu) (hl : L.length ≤ 9223372036854775807) : Con Try.prog 7 [.agg [.v (.int .i64 now), .v (.int .i64 span), .ro false 3 ((L).map eP)], .one (.v (.int .i64 a)), .one (.v (.int .i64 b))] (fun rx rK rt => rx = .val (.bool true) ∧ rK = [] ∧ rt = 0) := by
  refine Z.con_ofF tabOk 124 Try.f7 _ Try.func7 (by kernel_rfl) rfl rfl rfl rfl ?_
  have cs := short_con now span L hl
  cases hk : okH now span (L.take 5)
  · have ck := check_f now span (L.take 5) (by rw [List.length_take]; omega) hk
    repeat' ((conv => whnf); first
      | with_reducible first | refine spB_t ?_
      | ((with_reducible apply spB_cong); (focus (simp only [beq_self_eq_true, bne_self_eq_false, Bool.true_bne, Bool.false_bne, Bool.bne_true, Bool.bne_false, Bool.true_beq, Bool.false_beq, Bool.not_true, Bool.not_false, Bool.not_not, Int.reduceBEq, Int.reduceBNe, Int.reduceLE, Int.reduceLT, Int.reduceEq, decide_true, decide_false]; rfl)))
      | with_reducible first | refine spB_yes (by decide) ?_ | refine spB_no (by decide) ?_ | refine spB_f ?_ | refine spB_not ?_ | refine spB_yes (by assumption) ?_ | refine spB_no (by assumption) ?_
      | ((first | (with_reducible refine Z.conZ_mz ?_ (wakes_con) ?_) | (with_reducible refine Z.callZ_mk ?_ (wakes_con) ?_) | (with_reducible refine Z.conZ_mz ?_ (cs) ?_) | (with_reducible refine Z.callZ_mk ?_ (cs) ?_) | (with_reducible refine Z.conZ_mz ?_ (ck) ?_) | (with_reducible refine Z.callZ_mk ?_ (ck) ?_)); (focus ((repeat' (first | exact trivial | exact rfl | exact Z.low_nil | exact Z.low_nil2 | exact low_osl (fun _ => rfl) | (refine Z.low_osln ?_ (fun _ => rfl); (simp only [List.length_map]; done)) | exact low_oslr (fun _ => rfl) | exact Z.low_gslm (by first | rfl | exact Z.kb_some rfl) (fun _ => rfl) | exact .inl rfl | exact .inr ⟨_, rfl⟩ | apply And.intro)); done)))
      | (focus (exact (rfl : Nat.ble _ _ = true))))
    all_goals (try (conv => whnf))
    all_goals first
      | ((first | (with_reducible apply Z.retF1) | (with_reducible apply Z.retF2) | (with_reducible apply Z.retF0)); (focus (exact rfl)); (repeat' (first | exact trivial | (with_reducible apply Z.frz_one) | (with_reducible apply Z.frz_agg) | (with_reducible apply Z.fq_int) | (with_reducible apply Z.fq_bool) | (exact Z.frz_nil) | (exact Z.frz_osl0 rfl rfl rfl) | (with_reducible apply Z.fq_nil) | (with_reducible apply Z.fq_ro) | ((with_reducible apply Z.fq_gsl); (focus (first | rfl | exact Z.isB_map _ | exact Z.gB_snoc.symm)); (focus (exact fun _ => rfl))) | ((with_reducible apply Z.fq_osl); (focus (exact rfl)); (focus (first | exact rfl | (simp only [List.length_map, Nat.zero_add]; done) | ((try simp only [LN] at *) <;> omega))); (focus (exact fun _ => rfl))) | ((with_reducible apply Z.fq_src); (focus (exact rfl)); (focus (first | exact rfl | (simp only [List.length_map, Nat.zero_add]; done) | ((try simp only [LN] at *) <;> omega))); (focus (exact fun _ => rfl))) | exact rfl | ((apply Z.fq_osl); (focus (exact rfl)); (focus (first | exact rfl | (simp only [List.length_map, Nat.zero_add]; done) | ((try simp only [LN] at *) <;> omega))); (focus (exact fun _ => rfl))) | ((apply Z.fq_src); (focus (exact rfl)); (focus (first | exact rfl | (simp only [List.length_map, Nat.zero_add]; done) | ((try simp only [LN] at *) <;> omega))); (focus (exact fun _ => rfl))) | (apply Z.fq_ro) | (apply Z.fq_int) | (apply Z.fq_bool) | apply And.intro)); (all_goals (try exact (fun _ => none))); all_goals (rfl))
      | (exfalso; simp_all; done)
      | (fail)
  have ck := check_t now span (L.take 5) (by rw [List.length_take]; omega) hk
  generalize L.take 5 = l at *
  obtain ⟨hok1, hok2, hok3⟩ := okH_all hk
  have hl4 := okH_len2 hk
  have ta := tm200' a
  have tb := tm200' b
  have na := nn200 a
  have nb := nn200 b
  generalize hA : (a.tmod 200 + 200).tmod 200 = a9 at *
  generalize hB : (b.tmod 200 + 200).tmod 200 = b9 at *
  by_cases h2 : now + a9 + b9 ≤ 1099511627776
  rotate_left
  · have c1 := pass_conT now span (now + a9) l hk
    have c2 := pass_arg now span (now + a9 + b9) l hl4 hk (by omega)
    generalize passR now span (now + a9) l = R1 at *
    repeat' ((conv => whnf); first
      | with_reducible first | refine spB_t ?_
      | ((with_reducible apply spB_cong); (focus (simp only [beq_self_eq_true, bne_self_eq_false, Bool.true_bne, Bool.false_bne, Bool.bne_true, Bool.bne_false, Bool.true_beq, Bool.false_beq, Bool.not_true, Bool.not_false, Bool.not_not, Int.reduceBEq, Int.reduceBNe, Int.reduceLE, Int.reduceLT, Int.reduceEq, decide_true, decide_false]; rfl)))
      | with_reducible first | refine spB_yes (by decide) ?_ | refine spB_no (by decide) ?_ | refine spB_f ?_ | refine spB_not ?_ | refine spB_yes (by assumption) ?_ | refine spB_no (by assumption) ?_
      | ((with_reducible refine vN_to (a.tmod 200) ?_ ?_); (focus rfl))
      | ((with_reducible refine vN_to a9 ?_ ?_); (focus (exact hA)))
      | ((with_reducible refine vN_to (b.tmod 200) ?_ ?_); (focus rfl))
      | ((with_reducible refine vN_to b9 ?_ ?_); (focus (exact hB)))
      | with_reducible refine wr_i64 (by first | omega | (simp only [LN] at *; omega)) ?_
      | with_reducible refine nzN_mk (by omega) ?_
      | ((first | (with_reducible refine Z.conZ_mz ?_ (wakes_con) ?_) | (with_reducible refine Z.callZ_mk ?_ (wakes_con) ?_) | (with_reducible refine Z.conZ_mz ?_ (cs) ?_) | (with_reducible refine Z.callZ_mk ?_ (cs) ?_) | (with_reducible refine Z.conZ_mz ?_ (ck) ?_) | (with_reducible refine Z.callZ_mk ?_ (ck) ?_)); (focus ((repeat' (first | exact trivial | exact rfl | exact Z.low_nil | exact Z.low_nil2 | exact low_osl (fun _ => rfl) | (refine Z.low_osln ?_ (fun _ => rfl); (simp only [List.length_map]; done)) | exact low_oslr (fun _ => rfl) | exact Z.low_gslm (by first | rfl | exact Z.kb_some rfl) (fun _ => rfl) | exact .inl rfl | exact .inr ⟨_, rfl⟩ | apply And.intro)); done)))
      | ((first | (with_reducible refine Z.conZ_mz ?_ (c1) ?_) | (with_reducible refine Z.callZ_mk ?_ (c1) ?_)); (focus ((repeat' (first | exact trivial | exact rfl | exact Z.low_nil | exact Z.low_nil2 | exact low_osl (fun _ => rfl) | (refine Z.low_osln ?_ (fun _ => rfl); (simp only [List.length_map]; done)) | exact low_oslr (fun _ => rfl) | exact Z.low_gslm (by first | rfl | exact Z.kb_some rfl) (fun _ => rfl) | exact .inl rfl | exact .inr ⟨_, rfl⟩ | apply And.intro)); done)))
      | ((first | (with_reducible refine Z.conZ_mz ?_ (c2) ?_) | (with_reducible refine Z.callZ_mk ?_ (c2) ?_)); (focus ((repeat' (first | exact trivial | exact rfl | exact Z.low_nil | exact Z.low_nil2 | exact low_osl (fun _ => rfl) | (refine Z.low_osln ?_ (fun _ => rfl); (simp only [List.length_map]; done)) | exact low_oslr (fun _ => rfl) | exact Z.low_gslm (by first | rfl | exact Z.kb_some rfl) (fun _ => rfl) | exact .inl rfl | exact .inr ⟨_, rfl⟩ | apply And.intro)); done)))
      | (focus (exact (rfl : Nat.ble _ _ = true))))
    all_goals (try (conv => whnf))
    all_goals try (show Nat.ble _ _ = true; rfl)
    all_goals first
      | ((first | (with_reducible apply Z.retF1) | (with_reducible apply Z.retF2) | (with_reducible apply Z.retF0)); (focus (exact rfl)); (repeat' (first | exact trivial | (with_reducible apply Z.frz_one) | (with_reducible apply Z.frz_agg) | (with_reducible apply Z.fq_int) | (with_reducible apply Z.fq_bool) | (exact Z.frz_nil) | (exact Z.frz_osl0 rfl rfl rfl) | (with_reducible apply Z.fq_nil) | (with_reducible apply Z.fq_ro) | ((with_reducible apply Z.fq_gsl); (focus (first | rfl | exact Z.isB_map _ | exact Z.gB_snoc.symm)); (focus (exact fun _ => rfl))) | ((with_reducible apply Z.fq_osl); (focus (exact rfl)); (focus (first | exact rfl | (simp only [List.length_map, Nat.zero_add]; done) | ((try simp only [LN] at *) <;> omega))); (focus (exact fun _ => rfl))) | ((with_reducible apply Z.fq_src); (focus (exact rfl)); (focus (first | exact rfl | (simp only [List.length_map, Nat.zero_add]; done) | ((try simp only [LN] at *) <;> omega))); (focus (exact fun _ => rfl))) | exact rfl | ((apply Z.fq_osl); (focus (exact rfl)); (focus (first | exact rfl | (simp only [List.length_map, Nat.zero_add]; done) | ((try simp only [LN] at *) <;> omega))); (focus (exact fun _ => rfl))) | ((apply Z.fq_src); (focus (exact rfl)); (focus (first | exact rfl | (simp only [List.length_map, Nat.zero_add]; done) | ((try simp only [LN] at *) <;> omega))); (focus (exact fun _ => rfl))) | (apply Z.fq_ro) | (apply Z.fq_int) | (apply Z.fq_bool) | apply And.intro)); (all_goals (try exact (fun _ => none))); all_goals (first | rfl | exact decide_eq_true (by omega) | (simp; omega)))
      | (exfalso; simp_all; done)
      | (exfalso; (try simp only [LN] at *) <;> omega)
      | (fail)
  have hk1 := (goes_pass (kd := 0) (w := 0) hk (to := now + a9) (by omega)).1
  have c1 := pass_t now span (now + a9) l hl4 hk (by omega)
  have c2 := pass_t now span (now + a9 + b9) l hl4 hk (by omega)
  have c3 := pass_t (now + a9) span (now + a9 + b9) (l.map (passP (now + a9) span)) (by simpa using hl4) hk1 (by omega)
  have hmm : (l.map (passP (now + a9) span)).map (passP (now + a9 + b9) span) = l.map (passP (now + a9 + b9) span) := by rw [List.map_map]; exact List.map_congr_left fun p _ => pass_pass (by omega)
  rw [hmm] at c3
  have hperm := gone_perm (t1 := now + a9) (t2 := now + a9 + b9) (span := span) (by omega) l
  have hrs := gone_srt (t := now + a9 + b9) (span := span) hok2
  have hrl := gone_len (now + a9 + b9) span l
  have hdue := due_iff (span := span) (t := now + a9 + b9) (l := l)
  have cd := due_con now span l hk
  have hml : (l.map (passP (now + a9 + b9) span)).length ≤ 4 := by simpa using hl4
  clear hmm hk1
  generalize goneP (now + a9) span l = p at *
  generalize goneP (now + a9 + b9) span (l.map (passP (now + a9) span)) = q at *
  generalize goneP (now + a9 + b9) span l = r at *
  generalize l.map (passP (now + a9) span) = l1 at *
  generalize l.map (passP (now + a9 + b9) span) = l2 at *
  generalize dueF span l = D at *
  have hlen : p.length + q.length = r.length := by have := hperm.length_eq; simpa using this
  by_cases h0 : p.length + q.length = 0
  · have hp0 : p = [] := List.eq_nil_of_length_eq_zero (by omega)
    have hq0 : q = [] := List.eq_nil_of_length_eq_zero (by omega)
    have hr0 : r = [] := List.eq_nil_of_length_eq_zero (by omega)
    subst hp0 hq0 hr0
    have ce := eqs_con [] [] (Nat.zero_le _)
    have cl := len0_con
    have hno : ∀ d, D = some d → now + a9 + b9 < d := fun d hd => by
      rcases Int.lt_or_le (now + a9 + b9) d with h | h
      · exact h
      · exact absurd rfl (hdue.2 ⟨d, hd, h⟩)
    cases D with
    | none =>
      repeat' ((conv => whnf); first
        | ((with_reducible apply spB_cong); (focus (simp only [beq_self_eq_true, bne_self_eq_false, Bool.true_bne, Bool.false_bne, Bool.bne_true, Bool.bne_false, Bool.true_beq, Bool.false_beq, Bool.not_true, Bool.not_false, Bool.not_not, Int.reduceBEq, Int.reduceBNe, Int.reduceLE, Int.reduceLT, Int.reduceEq, decide_true, decide_false]; rfl)))
        | with_reducible first | refine spB_yes (by decide) ?_ | refine spB_no (by decide) ?_ | refine spB_f ?_ | refine spB_not ?_ | refine spB_yes (by assumption) ?_ | refine spB_no (by assumption) ?_
        | ((with_reducible refine vN_to (a.tmod 200) ?_ ?_); (focus rfl))
        | ((with_reducible refine vN_to a9 ?_ ?_); (focus (exact hA)))
        | ((with_reducible refine vN_to (b.tmod 200) ?_ ?_); (focus rfl))
        | ((with_reducible refine vN_to b9 ?_ ?_); (focus (exact hB)))
        | with_reducible first | refine Z.loopZ_unroll tabOk 3 ?_
        | ((with_reducible refine posE_nil ?_ ?_); (focus rfl))
        | ((with_reducible apply rowN_mk); (focus rfl))
        | ((with_reducible apply ixN_lit); (focus (exact rfl)); (focus (exact rfl)))
        | with_reducible refine wr_i64 (by first | omega | (simp only [LN] at *; omega)) ?_
        | with_reducible refine wr_u64 (by omega) ?_
        | with_reducible refine nzN_mk (by omega) ?_
        | with_reducible first | refine apN_mk (by kernel_rfl) ?_ | refine Z.callZ_in tabOk 36 Try.f27 _ Try.func27 (by kernel_rfl) rfl rfl rfl ?_ | refine Z.callZ_in tabOk 11 Try.f28 _ Try.func28 (by kernel_rfl) rfl rfl rfl ?_ | refine Z.callZ_in tabOk 134 Try.f46 _ Try.func46 (by kernel_rfl) rfl rfl rfl ?_ | refine Z.callZ_in tabOk 17 Try.f49 _ Try.func49 (by kernel_rfl) rfl rfl rfl ?_ | refine Z.callZ_in tabOk 49 Try.f59 _ Try.func59 (by kernel_rfl) rfl rfl rfl ?_ | refine Z.callZ_in tabOk 56 Try.f60 _ Try.func60 (by kernel_rfl) rfl rfl rfl ?_ | refine Z.callZ_in tabOk 65 Try.f61 _ Try.func61 (by kernel_rfl) rfl rfl rfl ?_ | refine Z.callZ_in tabOk 57 Try.f62 _ Try.func62 (by kernel_rfl) rfl rfl rfl ?_ | refine Z.callZ_in tabOk 32 Try.f63 _ Try.func63 (by kernel_rfl) rfl rfl rfl ?_ | refine Z.callZ_in tabOk 133 Try.f64 _ Try.func64 (by kernel_rfl) rfl rfl rfl ?_ | refine Z.callZ_in tabOk 84 Try.f65 _ Try.func65 (by kernel_rfl) rfl rfl rfl ?_ | refine Z.callZ_in tabOk 168 Try.f66 _ Try.func66 (by kernel_rfl) rfl rfl rfl ?_ | refine Z.callZ_in tabOk 6 Try.f69 _ Try.func69 (by kernel_rfl) rfl rfl rfl ?_ | refine Z.callZ_in tabOk 15 Try.f74 _ Try.func74 (by kernel_rfl) rfl rfl rfl ?_ | refine Z.callZ_in tabOk 36 Try.f75 _ Try.func75 (by kernel_rfl) rfl rfl rfl ?_ | refine Z.callZ_in tabOk 28 Try.f77 _ Try.func77 (by kernel_rfl) rfl rfl rfl ?_ | refine Z.callZ_in tabOk 7 Try.f72 _ Try.func72 (by kernel_rfl) rfl rfl rfl ?_ | refine Z.callZ_in tabOk 33 Try.f73 _ Try.func73 (by kernel_rfl) rfl rfl rfl ?_ | refine Z.callZ_in tabOk 76 Try.f71 _ Try.func71 (by kernel_rfl) rfl rfl rfl ?_ | refine Z.callZ_in tabOk 27 Try.f45 _ Try.func45 (by kernel_rfl) rfl rfl rfl ?_
        | ((first | (with_reducible refine Z.conZ_mz ?_ (wakes_con) ?_) | (with_reducible refine Z.callZ_mk ?_ (wakes_con) ?_) | (with_reducible refine Z.conZ_mz ?_ (cs) ?_) | (with_reducible refine Z.callZ_mk ?_ (cs) ?_) | (with_reducible refine Z.conZ_mz ?_ (ck) ?_) | (with_reducible refine Z.callZ_mk ?_ (ck) ?_) | (with_reducible refine Z.conZ_mz ?_ (cd) ?_) | (with_reducible refine Z.callZ_mk ?_ (cd) ?_) | (with_reducible refine Z.conZ_mz ?_ (ce) ?_) | (with_reducible refine Z.callZ_mk ?_ (ce) ?_) | (with_reducible refine Z.conZ_mz ?_ (cl) ?_) | (with_reducible refine Z.callZ_mk ?_ (cl) ?_)); (focus ((repeat' (first | exact trivial | exact rfl | exact Z.low_nil | exact Z.low_nil2 | exact low_osl (fun _ => rfl) | (refine Z.low_osln ?_ (fun _ => rfl); (simp only [List.length_map]; done)) | exact low_oslr (fun _ => rfl) | exact Z.low_gslm (by first | rfl | exact Z.kb_some rfl) (fun _ => rfl) | exact .inl rfl | exact .inr ⟨_, rfl⟩ | apply And.intro)); done)))
        | ((first | (with_reducible apply Z.conZ_mz ?_ (hsame_con _ _ _ _ _ _ ?_) ?_) | (with_reducible apply Z.callZ_mk ?_ (hsame_con _ _ _ _ _ _ ?_) ?_)); (rotate_left 6); (focus ((repeat' (first | exact trivial | exact rfl | exact Z.low_nil | exact Z.low_nil2 | exact low_osl (fun _ => rfl) | (refine Z.low_osln ?_ (fun _ => rfl); (simp only [List.length_map]; done)) | exact low_oslr (fun _ => rfl) | exact Z.low_gslm (by first | rfl | exact Z.kb_some rfl) (fun _ => rfl) | exact .inl rfl | exact .inr ⟨_, rfl⟩ | apply And.intro)); done)); (iterate 1 (focus (first | assumption | omega | ((try simp only [LN] at *); omega)))))
        | ((first | (with_reducible refine Z.conZ_mz ?_ (c1) ?_) | (with_reducible refine Z.callZ_mk ?_ (c1) ?_)); (focus ((repeat' (first | exact trivial | exact rfl | exact Z.low_nil | exact Z.low_nil2 | exact low_osl (fun _ => rfl) | (refine Z.low_osln ?_ (fun _ => rfl); (simp only [List.length_map]; done)) | exact low_oslr (fun _ => rfl) | exact Z.low_gslm (by first | rfl | exact Z.kb_some rfl) (fun _ => rfl) | exact .inl rfl | exact .inr ⟨_, rfl⟩ | apply And.intro)); done)))
        | ((first | (with_reducible refine Z.conZ_mz ?_ (c2) ?_) | (with_reducible refine Z.callZ_mk ?_ (c2) ?_)); (focus ((repeat' (first | exact trivial | exact rfl | exact Z.low_nil | exact Z.low_nil2 | exact low_osl (fun _ => rfl) | (refine Z.low_osln ?_ (fun _ => rfl); (simp only [List.length_map]; done)) | exact low_oslr (fun _ => rfl) | exact Z.low_gslm (by first | rfl | exact Z.kb_some rfl) (fun _ => rfl) | exact .inl rfl | exact .inr ⟨_, rfl⟩ | apply And.intro)); done)))
        | ((first | (with_reducible refine Z.conZ_mz ?_ (c3) ?_) | (with_reducible refine Z.callZ_mk ?_ (c3) ?_)); (focus ((repeat' (first | exact trivial | exact rfl | exact Z.low_nil | exact Z.low_nil2 | exact low_osl (fun _ => rfl) | (refine Z.low_osln ?_ (fun _ => rfl); (simp only [List.length_map]; done)) | exact low_oslr (fun _ => rfl) | exact Z.low_gslm (by first | rfl | exact Z.kb_some rfl) (fun _ => rfl) | exact .inl rfl | exact .inr ⟨_, rfl⟩ | apply And.intro)); done)))
        | ((with_reducible apply ex_and); exact rfl)
        | (focus (exact (rfl : Nat.ble _ _ = true))))
      all_goals (try (conv => whnf))
      all_goals try (show Nat.ble _ _ = true; rfl)
      all_goals first
        | ((first | (with_reducible apply Z.retF1) | (with_reducible apply Z.retF2) | (with_reducible apply Z.retF0)); (focus (exact rfl)); (repeat' (first | exact trivial | (with_reducible apply Z.frz_one) | (with_reducible apply Z.frz_agg) | (with_reducible apply Z.fq_int) | (with_reducible apply Z.fq_bool) | (exact Z.frz_nil) | (exact Z.frz_osl0 rfl rfl rfl) | (with_reducible apply Z.fq_nil) | (with_reducible apply Z.fq_ro) | ((with_reducible apply Z.fq_gsl); (focus (first | rfl | exact Z.isB_map _ | exact Z.gB_snoc.symm)); (focus (exact fun _ => rfl))) | ((with_reducible apply Z.fq_osl); (focus (exact rfl)); (focus (first | exact rfl | (simp only [List.length_map, Nat.zero_add]; done) | ((try simp only [LN] at *) <;> omega))); (focus (exact fun _ => rfl))) | ((with_reducible apply Z.fq_src); (focus (exact rfl)); (focus (first | exact rfl | (simp only [List.length_map, Nat.zero_add]; done) | ((try simp only [LN] at *) <;> omega))); (focus (exact fun _ => rfl))) | exact rfl | ((apply Z.fq_osl); (focus (exact rfl)); (focus (first | exact rfl | (simp only [List.length_map, Nat.zero_add]; done) | ((try simp only [LN] at *) <;> omega))); (focus (exact fun _ => rfl))) | ((apply Z.fq_src); (focus (exact rfl)); (focus (first | exact rfl | (simp only [List.length_map, Nat.zero_add]; done) | ((try simp only [LN] at *) <;> omega))); (focus (exact fun _ => rfl))) | (apply Z.fq_ro) | (apply Z.fq_int) | (apply Z.fq_bool) | apply And.intro)); (all_goals (try exact (fun _ => none))); all_goals (first | rfl | (simp; done) | (simp; omega)))
        | (exfalso; simp_all; done)
        | (exfalso; (try simp only [LN] at *) <;> omega)
        | (fail)
    | some d =>
      have hd9 := hno d rfl
      repeat' ((conv => whnf); first
        | with_reducible first | refine spB_t ?_
        | ((with_reducible apply spB_cong); (focus (simp only [beq_self_eq_true, bne_self_eq_false, Bool.true_bne, Bool.false_bne, Bool.bne_true, Bool.bne_false, Bool.true_beq, Bool.false_beq, Bool.not_true, Bool.not_false, Bool.not_not, Int.reduceBEq, Int.reduceBNe, Int.reduceLE, Int.reduceLT, Int.reduceEq, decide_true, decide_false]; rfl)))
        | with_reducible first | refine spB_yes (by decide) ?_ | refine spB_no (by decide) ?_ | refine spB_f ?_ | refine spB_not ?_ | refine spB_yes (by assumption) ?_ | refine spB_no (by assumption) ?_
        | (with_reducible refine spB_mk ?_ ?_ <;> intro _ <;> (try (exfalso; first | contradiction | omega | (rename_i hz; exact hz (by simp; done)) | (simp only [LN] at *; omega))))
        | ((with_reducible refine vN_to (a.tmod 200) ?_ ?_); (focus rfl))
        | ((with_reducible refine vN_to a9 ?_ ?_); (focus (exact hA)))
        | ((with_reducible refine vN_to (b.tmod 200) ?_ ?_); (focus rfl))
        | ((with_reducible refine vN_to b9 ?_ ?_); (focus (exact hB)))
        | with_reducible first | refine Z.loopZ_unroll tabOk 3 ?_
        | ((with_reducible refine posE_nil ?_ ?_); (focus rfl))
        | ((with_reducible apply rowN_mk); (focus rfl))
        | ((with_reducible apply ixN_lit); (focus (exact rfl)); (focus (exact rfl)))
        | with_reducible refine wr_i64 (by first | omega | (simp only [LN] at *; omega)) ?_
        | with_reducible refine wr_u64 (by omega) ?_
        | with_reducible refine nzN_mk (by omega) ?_
        | with_reducible first | refine apN_mk (by kernel_rfl) ?_ | refine Z.callZ_in tabOk 36 Try.f27 _ Try.func27 (by kernel_rfl) rfl rfl rfl ?_ | refine Z.callZ_in tabOk 11 Try.f28 _ Try.func28 (by kernel_rfl) rfl rfl rfl ?_ | refine Z.callZ_in tabOk 134 Try.f46 _ Try.func46 (by kernel_rfl) rfl rfl rfl ?_ | refine Z.callZ_in tabOk 17 Try.f49 _ Try.func49 (by kernel_rfl) rfl rfl rfl ?_ | refine Z.callZ_in tabOk 49 Try.f59 _ Try.func59 (by kernel_rfl) rfl rfl rfl ?_ | refine Z.callZ_in tabOk 56 Try.f60 _ Try.func60 (by kernel_rfl) rfl rfl rfl ?_ | refine Z.callZ_in tabOk 65 Try.f61 _ Try.func61 (by kernel_rfl) rfl rfl rfl ?_ | refine Z.callZ_in tabOk 57 Try.f62 _ Try.func62 (by kernel_rfl) rfl rfl rfl ?_ | refine Z.callZ_in tabOk 32 Try.f63 _ Try.func63 (by kernel_rfl) rfl rfl rfl ?_ | refine Z.callZ_in tabOk 133 Try.f64 _ Try.func64 (by kernel_rfl) rfl rfl rfl ?_ | refine Z.callZ_in tabOk 84 Try.f65 _ Try.func65 (by kernel_rfl) rfl rfl rfl ?_ | refine Z.callZ_in tabOk 168 Try.f66 _ Try.func66 (by kernel_rfl) rfl rfl rfl ?_ | refine Z.callZ_in tabOk 6 Try.f69 _ Try.func69 (by kernel_rfl) rfl rfl rfl ?_ | refine Z.callZ_in tabOk 15 Try.f74 _ Try.func74 (by kernel_rfl) rfl rfl rfl ?_ | refine Z.callZ_in tabOk 36 Try.f75 _ Try.func75 (by kernel_rfl) rfl rfl rfl ?_ | refine Z.callZ_in tabOk 28 Try.f77 _ Try.func77 (by kernel_rfl) rfl rfl rfl ?_ | refine Z.callZ_in tabOk 7 Try.f72 _ Try.func72 (by kernel_rfl) rfl rfl rfl ?_ | refine Z.callZ_in tabOk 33 Try.f73 _ Try.func73 (by kernel_rfl) rfl rfl rfl ?_ | refine Z.callZ_in tabOk 76 Try.f71 _ Try.func71 (by kernel_rfl) rfl rfl rfl ?_ | refine Z.callZ_in tabOk 27 Try.f45 _ Try.func45 (by kernel_rfl) rfl rfl rfl ?_
        | ((first | (with_reducible refine Z.conZ_mz ?_ (wakes_con) ?_) | (with_reducible refine Z.callZ_mk ?_ (wakes_con) ?_) | (with_reducible refine Z.conZ_mz ?_ (cs) ?_) | (with_reducible refine Z.callZ_mk ?_ (cs) ?_) | (with_reducible refine Z.conZ_mz ?_ (ck) ?_) | (with_reducible refine Z.callZ_mk ?_ (ck) ?_) | (with_reducible refine Z.conZ_mz ?_ (cd) ?_) | (with_reducible refine Z.callZ_mk ?_ (cd) ?_) | (with_reducible refine Z.conZ_mz ?_ (ce) ?_) | (with_reducible refine Z.callZ_mk ?_ (ce) ?_) | (with_reducible refine Z.conZ_mz ?_ (cl) ?_) | (with_reducible refine Z.callZ_mk ?_ (cl) ?_)); (focus ((repeat' (first | exact trivial | exact rfl | exact Z.low_nil | exact Z.low_nil2 | exact low_osl (fun _ => rfl) | (refine Z.low_osln ?_ (fun _ => rfl); (simp only [List.length_map]; done)) | exact low_oslr (fun _ => rfl) | exact Z.low_gslm (by first | rfl | exact Z.kb_some rfl) (fun _ => rfl) | exact .inl rfl | exact .inr ⟨_, rfl⟩ | apply And.intro)); done)))
        | ((first | (with_reducible apply Z.conZ_mz ?_ (hsame_con _ _ _ _ _ _ ?_) ?_) | (with_reducible apply Z.callZ_mk ?_ (hsame_con _ _ _ _ _ _ ?_) ?_)); (rotate_left 6); (focus ((repeat' (first | exact trivial | exact rfl | exact Z.low_nil | exact Z.low_nil2 | exact low_osl (fun _ => rfl) | (refine Z.low_osln ?_ (fun _ => rfl); (simp only [List.length_map]; done)) | exact low_oslr (fun _ => rfl) | exact Z.low_gslm (by first | rfl | exact Z.kb_some rfl) (fun _ => rfl) | exact .inl rfl | exact .inr ⟨_, rfl⟩ | apply And.intro)); done)); (iterate 1 (focus (first | assumption | omega | ((try simp only [LN] at *); omega)))))
        | ((first | (with_reducible refine Z.conZ_mz ?_ (c1) ?_) | (with_reducible refine Z.callZ_mk ?_ (c1) ?_)); (focus ((repeat' (first | exact trivial | exact rfl | exact Z.low_nil | exact Z.low_nil2 | exact low_osl (fun _ => rfl) | (refine Z.low_osln ?_ (fun _ => rfl); (simp only [List.length_map]; done)) | exact low_oslr (fun _ => rfl) | exact Z.low_gslm (by first | rfl | exact Z.kb_some rfl) (fun _ => rfl) | exact .inl rfl | exact .inr ⟨_, rfl⟩ | apply And.intro)); done)))
        | ((first | (with_reducible refine Z.conZ_mz ?_ (c2) ?_) | (with_reducible refine Z.callZ_mk ?_ (c2) ?_)); (focus ((repeat' (first | exact trivial | exact rfl | exact Z.low_nil | exact Z.low_nil2 | exact low_osl (fun _ => rfl) | (refine Z.low_osln ?_ (fun _ => rfl); (simp only [List.length_map]; done)) | exact low_oslr (fun _ => rfl) | exact Z.low_gslm (by first | rfl | exact Z.kb_some rfl) (fun _ => rfl) | exact .inl rfl | exact .inr ⟨_, rfl⟩ | apply And.intro)); done)))
        | ((first | (with_reducible refine Z.conZ_mz ?_ (c3) ?_) | (with_reducible refine Z.callZ_mk ?_ (c3) ?_)); (focus ((repeat' (first | exact trivial | exact rfl | exact Z.low_nil | exact Z.low_nil2 | exact low_osl (fun _ => rfl) | (refine Z.low_osln ?_ (fun _ => rfl); (simp only [List.length_map]; done)) | exact low_oslr (fun _ => rfl) | exact Z.low_gslm (by first | rfl | exact Z.kb_some rfl) (fun _ => rfl) | exact .inl rfl | exact .inr ⟨_, rfl⟩ | apply And.intro)); done)))
        | ((with_reducible apply ex_and); exact rfl)
        | (focus (exact (rfl : Nat.ble _ _ = true))))
      all_goals (try (conv => whnf))
      all_goals try (show Nat.ble _ _ = true; rfl)
      all_goals first
        | ((first | (with_reducible apply Z.retF1) | (with_reducible apply Z.retF2) | (with_reducible apply Z.retF0)); (focus (exact rfl)); (repeat' (first | exact trivial | (with_reducible apply Z.frz_one) | (with_reducible apply Z.frz_agg) | (with_reducible apply Z.fq_int) | (with_reducible apply Z.fq_bool) | (exact Z.frz_nil) | (exact Z.frz_osl0 rfl rfl rfl) | (with_reducible apply Z.fq_nil) | (with_reducible apply Z.fq_ro) | ((with_reducible apply Z.fq_gsl); (focus (first | rfl | exact Z.isB_map _ | exact Z.gB_snoc.symm)); (focus (exact fun _ => rfl))) | ((with_reducible apply Z.fq_osl); (focus (exact rfl)); (focus (first | exact rfl | (simp only [List.length_map, Nat.zero_add]; done) | ((try simp only [LN] at *) <;> omega))); (focus (exact fun _ => rfl))) | ((with_reducible apply Z.fq_src); (focus (exact rfl)); (focus (first | exact rfl | (simp only [List.length_map, Nat.zero_add]; done) | ((try simp only [LN] at *) <;> omega))); (focus (exact fun _ => rfl))) | exact rfl | ((apply Z.fq_osl); (focus (exact rfl)); (focus (first | exact rfl | (simp only [List.length_map, Nat.zero_add]; done) | ((try simp only [LN] at *) <;> omega))); (focus (exact fun _ => rfl))) | ((apply Z.fq_src); (focus (exact rfl)); (focus (first | exact rfl | (simp only [List.length_map, Nat.zero_add]; done) | ((try simp only [LN] at *) <;> omega))); (focus (exact fun _ => rfl))) | (apply Z.fq_ro) | (apply Z.fq_int) | (apply Z.fq_bool) | apply And.intro)); (all_goals (try exact (fun _ => none))); all_goals (first | rfl | (simp; done) | (simp; omega)))
        | (exfalso; simp_all; done)
        | (exfalso; (try simp only [LN] at *) <;> omega)
        | (fail)
  have cc := concat_con p q (by omega) (by omega) (by omega)
  obtain ⟨lv, cl⟩ := len_con (((p ++ q).length : Nat) : Int) (Int.natCast_nonneg _) (by rw [List.length_append]; omega)
  have hpq : (p ++ q).length = r.length := by rw [List.length_append]; exact hlen
  repeat' ((conv => whnf); first
    | ((with_reducible apply spB_cong); (focus (simp only [beq_self_eq_true, bne_self_eq_false, Bool.true_bne, Bool.false_bne, Bool.bne_true, Bool.bne_false, Bool.true_beq, Bool.false_beq, Bool.not_true, Bool.not_false, Bool.not_not, Int.reduceBEq, Int.reduceBNe, Int.reduceLE, Int.reduceLT, Int.reduceEq, decide_true, decide_false]; rfl)))
    | with_reducible first | refine spB_yes (by decide) ?_ | refine spB_no (by decide) ?_ | refine spB_f ?_ | refine spB_not ?_ | refine spB_yes (by assumption) ?_ | refine spB_no (by assumption) ?_
    | ((with_reducible refine vN_to (a.tmod 200) ?_ ?_); (focus rfl))
    | ((with_reducible refine vN_to a9 ?_ ?_); (focus (exact hA)))
    | ((with_reducible refine vN_to (b.tmod 200) ?_ ?_); (focus rfl))
    | ((with_reducible refine vN_to b9 ?_ ?_); (focus (exact hB)))
    | ((first | (with_reducible refine Z.conZ_mz ?_ (cc) ?_) | (with_reducible refine Z.callZ_mk ?_ (cc) ?_)); (focus (exact ⟨⟨_, rfl, rfl, rfl⟩, trivial⟩)))
    | with_reducible refine wr_i64 (by first | omega | (simp only [LN] at *; omega)) ?_
    | with_reducible refine wr_u64 (by omega) ?_
    | with_reducible refine nzN_mk (by omega) ?_
    | with_reducible first | refine apN_mk (by kernel_rfl) ?_ | refine Z.callZ_in tabOk 11 Try.f28 _ Try.func28 (by kernel_rfl) rfl rfl rfl ?_ | refine Z.callZ_in tabOk 134 Try.f46 _ Try.func46 (by kernel_rfl) rfl rfl rfl ?_ | refine Z.callZ_in tabOk 17 Try.f49 _ Try.func49 (by kernel_rfl) rfl rfl rfl ?_ | refine Z.callZ_in tabOk 49 Try.f59 _ Try.func59 (by kernel_rfl) rfl rfl rfl ?_ | refine Z.callZ_in tabOk 56 Try.f60 _ Try.func60 (by kernel_rfl) rfl rfl rfl ?_ | refine Z.callZ_in tabOk 65 Try.f61 _ Try.func61 (by kernel_rfl) rfl rfl rfl ?_ | refine Z.callZ_in tabOk 57 Try.f62 _ Try.func62 (by kernel_rfl) rfl rfl rfl ?_ | refine Z.callZ_in tabOk 32 Try.f63 _ Try.func63 (by kernel_rfl) rfl rfl rfl ?_ | refine Z.callZ_in tabOk 133 Try.f64 _ Try.func64 (by kernel_rfl) rfl rfl rfl ?_ | refine Z.callZ_in tabOk 84 Try.f65 _ Try.func65 (by kernel_rfl) rfl rfl rfl ?_ | refine Z.callZ_in tabOk 168 Try.f66 _ Try.func66 (by kernel_rfl) rfl rfl rfl ?_ | refine Z.callZ_in tabOk 6 Try.f69 _ Try.func69 (by kernel_rfl) rfl rfl rfl ?_ | refine Z.callZ_in tabOk 15 Try.f74 _ Try.func74 (by kernel_rfl) rfl rfl rfl ?_ | refine Z.callZ_in tabOk 36 Try.f75 _ Try.func75 (by kernel_rfl) rfl rfl rfl ?_ | refine Z.callZ_in tabOk 28 Try.f77 _ Try.func77 (by kernel_rfl) rfl rfl rfl ?_ | refine Z.callZ_in tabOk 7 Try.f72 _ Try.func72 (by kernel_rfl) rfl rfl rfl ?_ | refine Z.callZ_in tabOk 33 Try.f73 _ Try.func73 (by kernel_rfl) rfl rfl rfl ?_ | refine Z.callZ_in tabOk 76 Try.f71 _ Try.func71 (by kernel_rfl) rfl rfl rfl ?_
    | ((first | (with_reducible refine Z.conZ_mz ?_ (wakes_con) ?_) | (with_reducible refine Z.callZ_mk ?_ (wakes_con) ?_) | (with_reducible refine Z.conZ_mz ?_ (cs) ?_) | (with_reducible refine Z.callZ_mk ?_ (cs) ?_) | (with_reducible refine Z.conZ_mz ?_ (ck) ?_) | (with_reducible refine Z.callZ_mk ?_ (ck) ?_) | (with_reducible refine Z.conZ_mz ?_ (cd) ?_) | (with_reducible refine Z.callZ_mk ?_ (cd) ?_) | (with_reducible refine Z.conZ_mz ?_ (cl) ?_) | (with_reducible refine Z.callZ_mk ?_ (cl) ?_)); (focus ((repeat' (first | exact trivial | exact rfl | exact Z.low_nil | exact Z.low_nil2 | exact low_osl (fun _ => rfl) | (refine Z.low_osln ?_ (fun _ => rfl); (simp only [List.length_map]; done)) | exact low_oslr (fun _ => rfl) | exact Z.low_gslm (by first | rfl | exact Z.kb_some rfl) (fun _ => rfl) | exact .inl rfl | exact .inr ⟨_, rfl⟩ | apply And.intro)); done)))
    | ((first | (with_reducible apply Z.conZ_mz ?_ (hsame_con _ _ _ _ _ _ ?_) ?_) | (with_reducible apply Z.callZ_mk ?_ (hsame_con _ _ _ _ _ _ ?_) ?_)); (rotate_left 6); (focus ((repeat' (first | exact trivial | exact rfl | exact Z.low_nil | exact Z.low_nil2 | exact low_osl (fun _ => rfl) | (refine Z.low_osln ?_ (fun _ => rfl); (simp only [List.length_map]; done)) | exact low_oslr (fun _ => rfl) | exact Z.low_gslm (by first | rfl | exact Z.kb_some rfl) (fun _ => rfl) | exact .inl rfl | exact .inr ⟨_, rfl⟩ | apply And.intro)); done)); (iterate 1 (focus (first | assumption | omega | ((try simp only [LN] at *); omega)))))
    | ((first | (with_reducible refine Z.conZ_mz ?_ (c1) ?_) | (with_reducible refine Z.callZ_mk ?_ (c1) ?_)); (focus ((repeat' (first | exact trivial | exact rfl | exact Z.low_nil | exact Z.low_nil2 | exact low_osl (fun _ => rfl) | (refine Z.low_osln ?_ (fun _ => rfl); (simp only [List.length_map]; done)) | exact low_oslr (fun _ => rfl) | exact Z.low_gslm (by first | rfl | exact Z.kb_some rfl) (fun _ => rfl) | exact .inl rfl | exact .inr ⟨_, rfl⟩ | apply And.intro)); done)))
    | ((first | (with_reducible refine Z.conZ_mz ?_ (c2) ?_) | (with_reducible refine Z.callZ_mk ?_ (c2) ?_)); (focus ((repeat' (first | exact trivial | exact rfl | exact Z.low_nil | exact Z.low_nil2 | exact low_osl (fun _ => rfl) | (refine Z.low_osln ?_ (fun _ => rfl); (simp only [List.length_map]; done)) | exact low_oslr (fun _ => rfl) | exact Z.low_gslm (by first | rfl | exact Z.kb_some rfl) (fun _ => rfl) | exact .inl rfl | exact .inr ⟨_, rfl⟩ | apply And.intro)); done)))
    | ((first | (with_reducible refine Z.conZ_mz ?_ (c3) ?_) | (with_reducible refine Z.callZ_mk ?_ (c3) ?_)); (focus ((repeat' (first | exact trivial | exact rfl | exact Z.low_nil | exact Z.low_nil2 | exact low_osl (fun _ => rfl) | (refine Z.low_osln ?_ (fun _ => rfl); (simp only [List.length_map]; done)) | exact low_oslr (fun _ => rfl) | exact Z.low_gslm (by first | rfl | exact Z.kb_some rfl) (fun _ => rfl) | exact .inl rfl | exact .inr ⟨_, rfl⟩ | apply And.intro)); done)))
    | (focus (exact (rfl : Nat.ble _ _ = true))))
  all_goals (try (conv => whnf))
  all_goals try (show Nat.ble _ _ = true; rfl)
  all_goals try (exfalso; simp_all; done)
  refine Z.loopZ_unroll tabOk 1 ?_
  repeat' ((conv => whnf); first
    | (with_reducible refine spB_dec ?_ ?_ <;> intro _ <;> (try (exfalso; first | contradiction | omega | (rename_i hz; exact hz (by simp; done)) | (simp only [LN] at *; omega))))
    | with_reducible refine wr_i64 (by first | omega | (simp only [LN] at *; omega)) ?_
    | with_reducible first | refine apN_mk (by kernel_rfl) ?_ | refine Z.callZ_in tabOk 11 Try.f28 _ Try.func28 (by kernel_rfl) rfl rfl rfl ?_ | refine Z.callZ_in tabOk 134 Try.f46 _ Try.func46 (by kernel_rfl) rfl rfl rfl ?_ | refine Z.callZ_in tabOk 17 Try.f49 _ Try.func49 (by kernel_rfl) rfl rfl rfl ?_ | refine Z.callZ_in tabOk 49 Try.f59 _ Try.func59 (by kernel_rfl) rfl rfl rfl ?_ | refine Z.callZ_in tabOk 56 Try.f60 _ Try.func60 (by kernel_rfl) rfl rfl rfl ?_ | refine Z.callZ_in tabOk 65 Try.f61 _ Try.func61 (by kernel_rfl) rfl rfl rfl ?_ | refine Z.callZ_in tabOk 57 Try.f62 _ Try.func62 (by kernel_rfl) rfl rfl rfl ?_ | refine Z.callZ_in tabOk 32 Try.f63 _ Try.func63 (by kernel_rfl) rfl rfl rfl ?_ | refine Z.callZ_in tabOk 133 Try.f64 _ Try.func64 (by kernel_rfl) rfl rfl rfl ?_ | refine Z.callZ_in tabOk 84 Try.f65 _ Try.func65 (by kernel_rfl) rfl rfl rfl ?_ | refine Z.callZ_in tabOk 168 Try.f66 _ Try.func66 (by kernel_rfl) rfl rfl rfl ?_ | refine Z.callZ_in tabOk 6 Try.f69 _ Try.func69 (by kernel_rfl) rfl rfl rfl ?_ | refine Z.callZ_in tabOk 15 Try.f74 _ Try.func74 (by kernel_rfl) rfl rfl rfl ?_ | refine Z.callZ_in tabOk 36 Try.f75 _ Try.func75 (by kernel_rfl) rfl rfl rfl ?_ | refine Z.callZ_in tabOk 28 Try.f77 _ Try.func77 (by kernel_rfl) rfl rfl rfl ?_ | refine Z.callZ_in tabOk 7 Try.f72 _ Try.func72 (by kernel_rfl) rfl rfl rfl ?_ | refine Z.callZ_in tabOk 33 Try.f73 _ Try.func73 (by kernel_rfl) rfl rfl rfl ?_ | refine Z.callZ_in tabOk 76 Try.f71 _ Try.func71 (by kernel_rfl) rfl rfl rfl ?_
    | (focus (exact (rfl : Nat.ble _ _ = true))))
  all_goals (try (conv => whnf))
  all_goals try (show Nat.ble _ _ = true; rfl)
  all_goals try (exfalso; simp_all; done)
  all_goals try (exfalso; (try simp only [LN] at *) <;> omega)
  refine Z.loopK tabOk (fun zq : Nat × List Int => [(6, .val (.int .i64 (zq.1 : Int)))]) (fun zq : Nat × List Int => ([(6, some (Z.Ob.b ⟨(zq.2).map cI, 1, 3, false⟩))] : Z.Kr)) (fun zq => 1 ≤ zq.1 ∧ zq.1 ≤ (p ++ q).length ∧ (zq.2).Perm (p ++ q) ∧ ((zq.2).take zq.1).Pairwise (· ≤ ·)) (fun zq => (p ++ q).length - zq.1) (1, p ++ q) 7 [(0, _), (1, _), (2, _)] ⟨rfl, rfl, rfl, trivial⟩ [(0, some _), (1, some _), (2, some _), (3, some _), (4, some _), (5, some _)] ⟨rfl, rfl, rfl, rfl, rfl, rfl, trivial⟩ ?_ ?_ rfl rfl ⟨Nat.le_refl _, by rw [List.length_append]; omega, List.Perm.refl _, pw_take1 _⟩ ?_
  · repeat' (first | exact trivial | apply And.intro | exact ⟨_, rfl, rfl⟩ | exact ⟨_, rfl, Z.Imp.refl _⟩ | exact ⟨_, rfl, Z.Imp.nilg _⟩ | exact ⟨_, rfl, Z.Imp.nilr _ _⟩)
  · repeat' (first | exact trivial | (intro b hb; cases hb; done) | exact (fun b hb => ⟨b, hb, Z.ImpO.refl b⟩) | (intro b hb; cases hb; refine ⟨_, rfl, ⟨rfl, rfl, rfl⟩, ?_⟩; (repeat' (first | exact trivial | apply And.intro | exact Z.Imp.refl _ | exact Z.Imp.nilg _ | exact Z.Imp.nilr _ _)); done) | (intro b hb; cases hb; refine ⟨_, rfl, ⟨rfl, rfl, rfl⟩, Z.imp_eq ?_⟩; first | rfl | exact ren_map (fun _ => rfl) | exact (ren_map (fun _ => rfl)).symm; done) | apply And.intro)
  rintro ⟨i, cur⟩ HINV
  dsimp only at HINV ⊢
  obtain ⟨HI1, HI, HP, HS⟩ := HINV
  have hcl : cur.length = p.length + q.length := by rw [HP.length_eq, List.length_append]
  rw [List.length_append] at HI
  repeat' ((conv => whnf); first
    | (with_reducible refine spB_dec ?_ ?_ <;> intro _ <;> (try (exfalso; first | contradiction | omega | (rename_i hz; exact hz (by simp; done)) | (simp only [LN] at *; omega))))
    | ((with_reducible apply ex_and); exact rfl)
    | (focus (exact (rfl : Nat.ble _ _ = true))))
  all_goals (try (conv => whnf))
  all_goals try (show Nat.ble _ _ = true; rfl)
  all_goals try (exfalso; simp_all; done)
  all_goals try (exfalso; (try simp only [LN] at *) <;> omega)
  rotate_left
  · have hin : i = (p ++ q).length := by rw [List.length_append]; omega
    rw [hin, List.take_of_length_le (by omega)] at HS
    have hcr : cur = r := perm_eq (HP.trans hperm) HS hrs
    subst hcr
    have ce := eqs_con cur cur (by omega)
    have hne : cur ≠ [] := fun h => by subst h; simp at hcl; omega
    obtain ⟨d, rfl, hd⟩ := hdue.1 hne
    have hA1 : ((cur.map eI).length : Int) > 0 := by rw [List.length_map]; omega
    repeat' ((conv => whnf); first
      | with_reducible first | refine spB_t ?_
      | ((with_reducible apply spB_cong); (focus (simp only [beq_self_eq_true, bne_self_eq_false, Bool.true_bne, Bool.false_bne, Bool.bne_true, Bool.bne_false, Bool.true_beq, Bool.false_beq, Bool.not_true, Bool.not_false, Bool.not_not, Int.reduceBEq, Int.reduceBNe, Int.reduceLE, Int.reduceLT, Int.reduceEq, decide_true, decide_false]; rfl)))
      | with_reducible first | refine spB_yes (by decide) ?_ | refine spB_no (by decide) ?_ | refine spB_f ?_ | refine spB_not ?_ | refine spB_yes (by assumption) ?_ | refine spB_no (by assumption) ?_
      | (with_reducible refine spB_mk ?_ ?_ <;> intro _ <;> (try (exfalso; first | contradiction | omega | (rename_i hz; exact hz (by simp; done)) | (simp only [LN] at *; omega))))
      | ((first | (with_reducible refine Z.conZ_mz ?_ (ce) ?_) | (with_reducible refine Z.callZ_mk ?_ (ce) ?_)); (focus (refine ⟨Z.low_osln hpq (fun _ => rfl), ⟨rfl, trivial⟩⟩)))
      | with_reducible refine wr_i64 (by first | omega | (simp only [LN] at *; omega)) ?_
      | ((first | (with_reducible refine Z.conZ_mz ?_ (wakes_con) ?_) | (with_reducible refine Z.callZ_mk ?_ (wakes_con) ?_) | (with_reducible refine Z.conZ_mz ?_ (cs) ?_) | (with_reducible refine Z.callZ_mk ?_ (cs) ?_) | (with_reducible refine Z.conZ_mz ?_ (ck) ?_) | (with_reducible refine Z.callZ_mk ?_ (ck) ?_) | (with_reducible refine Z.conZ_mz ?_ (cd) ?_) | (with_reducible refine Z.callZ_mk ?_ (cd) ?_) | (with_reducible refine Z.conZ_mz ?_ (cl) ?_) | (with_reducible refine Z.callZ_mk ?_ (cl) ?_)); (focus ((repeat' (first | exact trivial | exact rfl | exact Z.low_nil | exact Z.low_nil2 | exact low_osl (fun _ => rfl) | (refine Z.low_osln ?_ (fun _ => rfl); (simp only [List.length_map]; done)) | exact low_oslr (fun _ => rfl) | exact Z.low_gslm (by first | rfl | exact Z.kb_some rfl) (fun _ => rfl) | exact .inl rfl | exact .inr ⟨_, rfl⟩ | apply And.intro)); done)))
      | (focus (exact (rfl : Nat.ble _ _ = true))))
    all_goals (try (conv => whnf))
    all_goals try (show Nat.ble _ _ = true; rfl)
    all_goals first
      | (exfalso; rename_i hz; cases hz; done)
      | ((first | (with_reducible apply Z.retF1) | (with_reducible apply Z.retF2) | (with_reducible apply Z.retF0)); (focus (exact rfl)); (repeat' (first | exact trivial | (with_reducible apply Z.frz_one) | (with_reducible apply Z.frz_agg) | (with_reducible apply Z.fq_int) | (with_reducible apply Z.fq_bool) | (exact Z.frz_nil) | (exact Z.frz_osl0 rfl rfl rfl) | (with_reducible apply Z.fq_nil) | (with_reducible apply Z.fq_ro) | ((with_reducible apply Z.fq_gsl); (focus (first | rfl | exact Z.isB_map _ | exact Z.gB_snoc.symm)); (focus (exact fun _ => rfl))) | ((with_reducible apply Z.fq_osl); (focus (exact rfl)); (focus (first | exact rfl | (simp only [List.length_map, Nat.zero_add]; done) | ((try simp only [LN] at *) <;> omega))); (focus (exact fun _ => rfl))) | ((with_reducible apply Z.fq_src); (focus (exact rfl)); (focus (first | exact rfl | (simp only [List.length_map, Nat.zero_add]; done) | ((try simp only [LN] at *) <;> omega))); (focus (exact fun _ => rfl))) | exact rfl | ((apply Z.fq_osl); (focus (exact rfl)); (focus (first | exact rfl | (simp only [List.length_map, Nat.zero_add]; done) | ((try simp only [LN] at *) <;> omega))); (focus (exact fun _ => rfl))) | ((apply Z.fq_src); (focus (exact rfl)); (focus (first | exact rfl | (simp only [List.length_map, Nat.zero_add]; done) | ((try simp only [LN] at *) <;> omega))); (focus (exact fun _ => rfl))) | (apply Z.fq_ro) | (apply Z.fq_int) | (apply Z.fq_bool) | apply And.intro)); (all_goals (try exact (fun _ => none))); all_goals (first | rfl | (rw [decide_eq_true hA1, decide_eq_true (show now + a9 + b9 ≥ (some d).getD 0 from hd)]; rfl)))
      | (fail)
  obtain ⟨x, hx⟩ := getElem?_some' (xs := cur) (i := i) (by omega)
  have hsp := split_at hx
  have hSl : (cur.take i).length = i := by rw [List.length_take]; omega
  have hRl : (cur.drop (i + 1)).length = cur.length - (i + 1) := List.length_drop
  have hi0 : cur = insS (cur.take i) i x ++ cur.drop (i + 1) := by rw [insS, List.take_of_length_le (by omega), List.drop_of_length_le (by omega), List.append_assoc]; exact hsp
  have hSP : ((cur.take i) ++ x :: cur.drop (i + 1)).Perm (p ++ q) := by rw [← hsp]; exact HP
  generalize cur.take i = S at *
  generalize cur.drop (i + 1) = R at *
  refine Z.loopK tabOk (fun zq : Nat => [(7, .val (.int .i64 (zq : Int)))]) (fun zq : Nat => ([(6, some (Z.Ob.b ⟨(insS S zq x ++ R).map cI, 1, 3, false⟩))] : Z.Kr)) (fun zq => zq ≤ i ∧ ∀ y ∈ S.drop zq, x < y) (fun zq => zq) i 7 [(0, _), (1, _), (2, _), (6, _)] ⟨rfl, rfl, rfl, rfl, trivial⟩ [(0, some _), (1, some _), (2, some _), (3, some _), (4, some _), (5, some _)] ⟨rfl, rfl, rfl, rfl, rfl, rfl, trivial⟩ ?_ ?_ rfl rfl ⟨Nat.le_refl _, fun y hy => by rw [List.drop_of_length_le (by omega)] at hy; simp at hy⟩ ?_
  · repeat' (first | exact trivial | apply And.intro | exact ⟨_, rfl, rfl⟩ | exact ⟨_, rfl, Z.Imp.refl _⟩ | exact ⟨_, rfl, Z.Imp.nilg _⟩ | exact ⟨_, rfl, Z.Imp.nilr _ _⟩)
  · repeat' (first | exact trivial | (intro b hb; cases hb; done) | exact (fun b hb => ⟨b, hb, Z.ImpO.refl b⟩) | (intro b hb; cases hb; refine ⟨_, rfl, ⟨rfl, rfl, rfl⟩, ?_⟩; (repeat' (first | exact trivial | apply And.intro | exact Z.Imp.refl _ | exact Z.Imp.nilg _ | exact Z.Imp.nilr _ _)); done) | (intro b hb; cases hb; refine ⟨_, rfl, ⟨rfl, rfl, rfl⟩, Z.imp_eq ?_⟩; first | rfl | (rw [hi0]; done) | (rw [← hi0]; done); done) | apply And.intro)
  rintro j HINV
  dsimp only at HINV ⊢
  obtain ⟨HJ, HG⟩ := HINV
  cases j with
  | zero =>
    repeat' ((conv => whnf); first
      | with_reducible first | refine spB_yes (by decide) ?_ | refine spB_no (by decide) ?_ | refine spB_f ?_ | refine spB_not ?_ | refine spB_yes (by assumption) ?_ | refine spB_no (by assumption) ?_
      | with_reducible refine wr_i64 (by first | omega | (simp only [LN] at *; omega)) ?_
      | with_reducible first | refine Z.drawZ_rule tabOk mixOk ?_ | refine Z.apZ_mk (by kernel_rfl) ?_
      | (focus (exact (rfl : Nat.ble _ _ = true))))
    all_goals (try (conv => whnf))
    all_goals try (show Nat.ble _ _ = true; rfl)
    all_goals try (exfalso; (try simp only [LN] at *) <;> omega)
    all_goals first
      | ((refine Z.rndK ((i + 1, insS S 0 x ++ R)) (fun s => [0, 1, 2, 3, 4, 5, 6]) rfl rfl rfl rfl ?_ ?_ ?_ ?_); (focus (repeat' (first | exact trivial | exact rfl | (rw [List.map_append]; exact rfl) | apply And.intro))); (focus (repeat' (first | exact trivial | (intro b hb; cases hb; rfl) | (intro b hb; cases hb; subst hlb; rfl) | (intro b hb; cases hb; rw [List.map_append]; rfl) | (intro b hb; cases hb; done) | exact Z.blk_sub rfl rfl (ren_map fun _ => rfl) | exact Z.blk_sub rfl rfl (Z.ren_app (ren_map fun _ => rfl) (ren_map fun _ => rfl)) | exact Z.blk_sub rfl (by first | (rw [List.map_append]; rfl) | (rw [List.map_set]; rfl) | simp only [List.map_append, List.map_cons, List.map_nil, List.map_set]) (ren_map fun _ => rfl) | exact Z.gB_sub rfl rfl (ren_map fun _ => rfl) | exact Z.gB_sub' rfl (by first | rfl | (rw [List.map_append]; rfl) | simp only [List.map_append, List.map_cons, List.map_nil]) (ren_map fun _ => rfl) | apply And.intro))); (focus (refine ⟨by omega, by rw [List.length_append]; omega, ins_perm.trans hSP, ?_⟩; (try dsimp only); rw [ins_take hSl]; exact ins_sorted HS (fun z hz h => absurd h (by omega)) HG (by omega))); (dsimp only; rw [List.length_append]; omega))
      | (fail)
  | succ k =>
    obtain ⟨y, hy⟩ := getElem?_some' (xs := S) (i := k) (by omega)
    have hA1 : (insS S (k + 1) x ++ R)[k + 1]? = some x := ins_at1 (by omega)
    have hA0 : (insS S (k + 1) x ++ R)[k]? = some y := ins_at0 hy
    have hwk : IntKind.i64.wrap (((k + 1 : Nat) : Int) - 1) = (k : Int) := by rw [show ((k + 1 : Nat) : Int) - 1 = (k : Int) by omega]; exact IntWalk.i64_in _ (by omega)
    have hIl : (insS S (k + 1) x ++ R).length = p.length + q.length := by rw [List.length_append, ins_len]; omega
    repeat' ((conv => whnf); first
      | with_reducible first | refine spB_t ?_
      | ((with_reducible apply spB_cong); (focus (simp only [beq_self_eq_true, bne_self_eq_false, Bool.true_bne, Bool.false_bne, Bool.bne_true, Bool.bne_false, Bool.true_beq, Bool.false_beq, Bool.not_true, Bool.not_false, Bool.not_not, Int.reduceBEq, Int.reduceBNe, Int.reduceLE, Int.reduceLT, Int.reduceEq, decide_true, decide_false]; rfl)))
      | with_reducible first | refine spB_yes (by decide) ?_ | refine spB_no (by decide) ?_ | refine spB_f ?_ | refine spB_not ?_ | refine spB_yes (by assumption) ?_ | refine spB_no (by assumption) ?_
      | (with_reducible refine spB_dec ?_ ?_ <;> intro _ <;> (try (exfalso; first | contradiction | omega | (rename_i hz; exact hz (by simp; done)) | (simp only [LN] at *; omega))))
      | with_reducible first | refine wr_mk _ hwk ?_
      | ((with_reducible refine rowN_mk (cI y) ?_ ?_); (focus (exact set_row hA0)))
      | ((with_reducible refine Z.rowN_known2 hA1 ?_ ?_); (focus omega))
      | ((with_reducible refine Z.rowN_known2 hA0 ?_ ?_); (focus omega))
      | ((with_reducible refine ixN_mk k ?_ ?_ ?_); (focus omega); (focus ((try simp only [LN] at *) <;> omega)))
      | ((with_reducible apply ixN_litp); (focus (exact rfl)); (focus ((try simp only [LN] at *) <;> omega)))
      | with_reducible refine wr_i64 (by first | omega | (simp only [LN] at *; omega)) ?_
      | with_reducible first | refine apN_mk (by kernel_rfl) ?_ | refine Z.callZ_in tabOk 11 Try.f28 _ Try.func28 (by kernel_rfl) rfl rfl rfl ?_ | refine Z.callZ_in tabOk 134 Try.f46 _ Try.func46 (by kernel_rfl) rfl rfl rfl ?_ | refine Z.callZ_in tabOk 17 Try.f49 _ Try.func49 (by kernel_rfl) rfl rfl rfl ?_ | refine Z.callZ_in tabOk 49 Try.f59 _ Try.func59 (by kernel_rfl) rfl rfl rfl ?_ | refine Z.callZ_in tabOk 56 Try.f60 _ Try.func60 (by kernel_rfl) rfl rfl rfl ?_ | refine Z.callZ_in tabOk 65 Try.f61 _ Try.func61 (by kernel_rfl) rfl rfl rfl ?_ | refine Z.callZ_in tabOk 57 Try.f62 _ Try.func62 (by kernel_rfl) rfl rfl rfl ?_ | refine Z.callZ_in tabOk 32 Try.f63 _ Try.func63 (by kernel_rfl) rfl rfl rfl ?_ | refine Z.callZ_in tabOk 133 Try.f64 _ Try.func64 (by kernel_rfl) rfl rfl rfl ?_ | refine Z.callZ_in tabOk 84 Try.f65 _ Try.func65 (by kernel_rfl) rfl rfl rfl ?_ | refine Z.callZ_in tabOk 168 Try.f66 _ Try.func66 (by kernel_rfl) rfl rfl rfl ?_ | refine Z.callZ_in tabOk 6 Try.f69 _ Try.func69 (by kernel_rfl) rfl rfl rfl ?_ | refine Z.callZ_in tabOk 15 Try.f74 _ Try.func74 (by kernel_rfl) rfl rfl rfl ?_ | refine Z.callZ_in tabOk 36 Try.f75 _ Try.func75 (by kernel_rfl) rfl rfl rfl ?_ | refine Z.callZ_in tabOk 28 Try.f77 _ Try.func77 (by kernel_rfl) rfl rfl rfl ?_ | refine Z.callZ_in tabOk 7 Try.f72 _ Try.func72 (by kernel_rfl) rfl rfl rfl ?_ | refine Z.callZ_in tabOk 33 Try.f73 _ Try.func73 (by kernel_rfl) rfl rfl rfl ?_ | refine Z.callZ_in tabOk 76 Try.f71 _ Try.func71 (by kernel_rfl) rfl rfl rfl ?_
      | ((with_reducible apply ex_and); exact rfl)
      | with_reducible first | refine Z.drawZ_rule tabOk mixOk ?_ | refine Z.apZ_mk (by kernel_rfl) ?_
      | ((with_reducible refine Z.ConZ.red ?_); (try subst hlb); (apply Z.conZ_all); (focus (repeat (first | exact Z.FK.nil | (apply Z.FK.keep; exact rfl)))); (focus rfl); (focus rfl); (focus (repeat (first | exact trivial | (refine ⟨(fun o ho => (by first | (cases ho; rfl) | (cases ho; exact Z.inL_map fun _ => rfl) | (cases ho; exact Z.inL_mapr fun _ => rfl) | exact Z.inL_gB ho fun _ => rfl)), ?_⟩)))))
      | ((refine ⟨rfl, ?_, rfl⟩); (focus (repeat (first | exact Z.DK.nil | apply Z.DK.cons))))
      | (focus (exact (rfl : Nat.ble _ _ = true))))
    all_goals (try (conv => whnf))
    all_goals try (show Nat.ble _ _ = true; rfl)
    all_goals try (exfalso; (try simp only [LN] at *) <;> omega)
    all_goals first
      | ((refine Z.rndK (k) (fun s => [0, 1, 2, 3, 4, 5, 6]) rfl rfl rfl rfl ?_ ?_ ?_ ?_); (focus (repeat' (first | exact trivial | exact Z.blk_sub rfl (ins_swap hy) (ren_map fun _ => rfl) | exact rfl | (rw [List.map_append]; exact rfl) | apply And.intro))); (focus (repeat' (first | exact trivial | exact Z.blk_sub rfl (ins_swap hy) (ren_map fun _ => rfl) | (intro b hb; cases hb; rfl) | (intro b hb; cases hb; subst hlb; rfl) | (intro b hb; cases hb; rw [List.map_append]; rfl) | (intro b hb; cases hb; done) | exact Z.blk_sub rfl rfl (ren_map fun _ => rfl) | exact Z.blk_sub rfl rfl (Z.ren_app (ren_map fun _ => rfl) (ren_map fun _ => rfl)) | exact Z.blk_sub rfl (by first | (rw [List.map_append]; rfl) | (rw [List.map_set]; rfl) | simp only [List.map_append, List.map_cons, List.map_nil, List.map_set]) (ren_map fun _ => rfl) | exact Z.gB_sub rfl rfl (ren_map fun _ => rfl) | exact Z.gB_sub' rfl (by first | rfl | (rw [List.map_append]; rfl) | simp only [List.map_append, List.map_cons, List.map_nil]) (ren_map fun _ => rfl) | apply And.intro))); (focus (refine ⟨by omega, drop_gt hy HG (by assumption)⟩)); omega)
      | ((refine Z.rndK ((i + 1, insS S (k + 1) x ++ R)) (fun s => [0, 1, 2, 3, 4, 5, 6]) rfl rfl rfl rfl ?_ ?_ ?_ ?_); (focus (repeat' (first | exact trivial | exact rfl | (rw [List.map_append]; exact rfl) | apply And.intro))); (focus (repeat' (first | exact trivial | (intro b hb; cases hb; rfl) | (intro b hb; cases hb; subst hlb; rfl) | (intro b hb; cases hb; rw [List.map_append]; rfl) | (intro b hb; cases hb; done) | exact Z.blk_sub rfl rfl (ren_map fun _ => rfl) | exact Z.blk_sub rfl rfl (Z.ren_app (ren_map fun _ => rfl) (ren_map fun _ => rfl)) | exact Z.blk_sub rfl (by first | (rw [List.map_append]; rfl) | (rw [List.map_set]; rfl) | simp only [List.map_append, List.map_cons, List.map_nil, List.map_set]) (ren_map fun _ => rfl) | exact Z.gB_sub rfl rfl (ren_map fun _ => rfl) | exact Z.gB_sub' rfl (by first | rfl | (rw [List.map_append]; rfl) | simp only [List.map_append, List.map_cons, List.map_nil]) (ren_map fun _ => rfl) | apply And.intro))); (focus (refine ⟨by omega, by rw [List.length_append]; omega, ins_perm.trans hSP, ?_⟩; (try dsimp only); rw [ins_take hSl]; exact ins_sorted HS (fun z hz _ => by simp only [Nat.add_sub_cancel] at hz; rw [hy] at hz; cases hz; omega) HG (by omega))); (dsimp only; rw [List.length_append]; omega))
      | (fail)

end Go.Proofs.Ytgdkhdooekmfgaa
