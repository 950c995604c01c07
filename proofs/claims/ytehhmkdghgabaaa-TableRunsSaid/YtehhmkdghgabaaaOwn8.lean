import Derived.Test.YtehhmkdghgabaaaOwn7
import Derived.Test.YtehhmkdghgabaaaLib5
import Derived.Test.YtehhmkdghgabaaaOwn6
import Derived.Test.YtehhmkdghgabaaaRows
namespace Go.Proofs.Ytehhmkdghgabaaa
open Go Go.RowKit Wx
set_option linter.unusedVariables false
set_option linter.unusedSimpArgs false
set_option maxHeartbeats 4000000
theorem trun_own1 (o : Opr) (l : List Kc) (rs : List Rcd) (hi : o.ins.length ≤ 9223372036854775807) (hl : l.length ≤ 1000) (hcnt : okC l) (hrs : rs.length ≤ 40) (hok : tabR l = true) (hle : l ≠ []) (h0 : (rT o l [] rs).2.2 = 0) (hne : (rT o l [] rs).1 ≠ []) : Con Try.prog 31 [.agg [.v (.int .i64 o.t), .v (.int .i64 o.w), .ro false 1 (o.ins.map Ops.eI), .v (.int .i64 o.a), .v (.int .i64 o.b)], .agg [.ro false 4 (l.map eK)], .one (.ro false 3 (rs.map eR))] (ownD (rT o l [] rs).1 (rT o l [] rs).2.1) := by
  refine Z.con_ofZ tabOk 54 Try.f31 _ Try.func31 (by kernel_rfl) rfl rfl rfl rfl ?_
  have cc := check_con l (by omega)
  rw [hok] at cc
  simp only [cond_true] at cc
  have hl2 := tab_len hok
  have cw := clonek_con l (by omega) hle
  repeat' ((conv => whnf); first
    | ((with_reducible apply spB_cong); (focus (simp only [beq_self_eq_true, bne_self_eq_false, Bool.true_bne, Bool.false_bne, Bool.bne_true, Bool.bne_false, Bool.true_beq, Bool.false_beq, Bool.not_true, Bool.not_false, Bool.not_not, Int.reduceBEq, Int.reduceBNe, Int.reduceLE, Int.reduceLT, Int.reduceEq, decide_true, decide_false]; rfl)))
    | with_reducible first | refine spB_no (by decide) ?_
    | (with_reducible refine spB_dec ?_ ?_ <;> intro _ <;> (try (exfalso; first | contradiction | omega | (rename_i hz; refine hz ?_; simp; done) | (rename_i hz; simp at hz; done) | (simp only [LN] at *; omega))))
    | ((first | (with_reducible refine Z.callZ_mk ?_ (cc) ?_) | (with_reducible refine Z.callZ_mk ?_ (cw) ?_)); (focus ((repeat' (first | exact trivial | exact rfl | apply And.intro)); done)))
    | fail)
  all_goals (try (conv => whnf))
  all_goals try (show Nat.ble _ _ = true; rfl)
  all_goals try (exfalso; rename_i hz; cases hz; done)
  all_goals try (exfalso; (try simp only [LN] at *) <;> omega)
  refine Z.loopK tabOk (fun zq : Nat × Option (List Kc × List Kc) × List Rcd => [(32, .val (.int .i64 (zq.1 : Int))), (11, .c (.gsl 5 (zq.2.2.map cR)))]) (fun zq : Nat × Option (List Kc × List Kc) × List Rcd => ([(0, some (Z.Ob.b ⟨[[.v (.int .i64 o.t), .v (.int .i64 o.w), .ro false 1 (o.ins.map Ops.eI), .v (.int .i64 o.a), .v (.int .i64 o.b)]], 5, 25, true⟩)), (4, some (Z.Ob.b ⟨[[wC 3 zq.2.1]], 1, 30, true⟩)), (3, wB zq.2.1), (5, (gB 3 39 (zq.2.2.map cR)).map Z.Ob.b)] : Z.Kr)) (fun zq => zq.1 ≤ rs.length ∧ zq.2.2.length ≤ zq.1 ∧ (tabR (wL zq.2.1) = true ∧ okC (wL zq.2.1)) ∧ wOk zq.2.1 ∧ rT o l [] rs = rT o (wL zq.2.1) zq.2.2 (rs.drop zq.1)) (fun zq => rs.length - zq.1) (0, some (l, []), []) 6 [(3, _), (6, _), (10, _), (30, _), (31, _)] ⟨rfl, rfl, rfl, rfl, rfl, trivial⟩ [(1, some _), (2, some _)] ⟨rfl, rfl, trivial⟩ ?_ ?_ rfl rfl ⟨Nat.zero_le _, Nat.zero_le _, ⟨hok, hcnt⟩, hle, rfl⟩ ?_
  · repeat' (first | exact trivial | apply And.intro | exact ⟨_, rfl, Z.Imp.refl _⟩ | exact ⟨_, rfl, Z.Imp.nilg _⟩)
  · repeat' (first | exact trivial | (intro b hb; cases hb; done) | exact (fun b hb => ⟨b, hb, Z.ImpO.refl b⟩) | (intro b hb; cases hb; refine ⟨_, rfl, ⟨rfl, rfl, rfl⟩, Z.imp_eq ?_⟩; first | rfl | (rw [List.append_nil]; first | rfl | exact ren_cK) | exact (ren_cK.trans (by rw [List.append_nil])); done) | apply And.intro)
  rintro ⟨i, w, acc⟩ HINV
  (try dsimp only at HINV); (try dsimp only)
  obtain ⟨HI, HA, ⟨HT, HC⟩, HW, HR⟩ := HINV
  have hnl := tab_len HT
  by_cases hi2 : i < rs.length
  · obtain ⟨x, hx⟩ := getElem?_some' (xs := rs) (i := i) hi2
    have cd := do_con o (wL w) x hi (by omega) HT HC
    have cdo := do_own o (wL w) x hi (by omega) HT HC
    have hat := rT_at (o := o) (l := wL w) (acc := acc) hx
    have hdl := dT_len (o := o) (l := wL w) (r := x)
    have hdo := dT_ok (o := o) (r := x) HT HC
    have hde := dT_err (o := o) (l := wL w) (r := x)
    generalize dT o (wL w) x = D at *
    obtain ⟨n2, O, e⟩ := D
    dsimp only [dOut] at cd cdo hat hdl hdo hde
    have he : e = 0 := by
      refine Decidable.byContradiction fun h => ?_
      rw [if_neg h] at hat
      rw [HR, hat] at h0
      exact h h0
    subst he
    rw [if_pos rfl] at hat
    have hdo := hdo rfl
    have cdo := cdo rfl
    rcases O with _ | ⟨y, _ | ⟨z, O⟩⟩
    rotate_right 1
    · exact absurd hdl (by simp)
    all_goals (
      rcases w with _ | ⟨R, tl⟩
      all_goals (
        by_cases hn2 : n2 = []
        · subst hn2
          repeat' ((conv => whnf); first
            | ((with_reducible apply spB_cong); (focus (simp only [beq_self_eq_true, bne_self_eq_false, Bool.true_bne, Bool.false_bne, Bool.bne_true, Bool.bne_false, Bool.true_beq, Bool.false_beq, Bool.not_true, Bool.not_false, Bool.not_not, Int.reduceBEq, Int.reduceBNe, Int.reduceLE, Int.reduceLT, Int.reduceEq, decide_true, decide_false]; rfl)))
            | with_reducible first | refine spB_no (by decide) ?_
            | (with_reducible refine spB_dec ?_ ?_ <;> intro _ <;> (try (exfalso; first | contradiction | omega | (rename_i hz; refine hz ?_; simp; done) | (rename_i hz; simp at hz; done) | (simp only [LN] at *; omega))))
            | with_reducible first | refine Z.rowN_known hx ?_
            | ((with_reducible refine posE_pos ?_ ?_); (focus ((try simp only [LN] at *) <;> omega)))
            | ((with_reducible refine posE_nil ?_ ?_); (focus rfl))
            | ((with_reducible apply ixN_litp); (focus (exact rfl)); (focus ((try simp only [LN] at *) <;> omega)))
            | ((with_reducible refine apdN.mk ?_ ?_ ?_ ?_ ?_ ?_); (focus (first | rfl)); (focus (first | exact one_all (by rfl))); (focus ((try simp only [LN] at *) <;> omega)); (focus ((try simp only [LN] at *) <;> omega)); (focus ((try simp only [LN] at *) <;> omega)))
            | with_reducible refine wr_i64 (by first | omega | (simp only [LN] at *; omega)) ?_
            | ((first | (with_reducible refine Z.callZ_mk ?_ (cd) ?_)); (focus ((repeat' (first | exact trivial | exact low_tlK (tl := tl) rfl (by first | rfl | exact ren_cK | exact ren_cK.trans ren_cK) rfl | exact rfl | apply And.intro)); done)))
            | ((with_reducible refine eqN_mk2 ?_ ?_); (focus (exact Z.kb_some rfl)))
            | fail)
          all_goals (try (conv => whnf))
          all_goals try (show Nat.ble _ _ = true; rfl)
          all_goals try (exfalso; rename_i hz; cases hz; done)
          all_goals try (exfalso; (try simp only [LN] at *) <;> omega)
          all_goals first
            | ((refine Z.rndK ((i + 1, none, acc)) (fun s => [0, 1, 2, 77, 4, s.idAt 11]) rfl rfl rfl rfl ?_ ?_ ?_ ?_); (focus (repeat' (first | exact trivial | exact rfl | apply And.intro))); (focus (repeat' (first | exact trivial | (intro b hb; cases hb; rfl) | (intro b hb; cases hb; done) | exact Z.gB_sub rfl rfl (ren_map fun _ => rfl) | apply And.intro))); (focus (exact ⟨by (try dsimp only); omega, by (try dsimp only); (try simp only [List.length_append, List.length_singleton]); omega, hdo, trivial, by (try dsimp only); rw [HR, hat]; simp⟩)); ((try dsimp only); omega))
            | ((refine Z.rndK ((i + 1, none, acc ++ [y])) (fun s => [0, 1, 2, 77, 4, s.idAt 11]) rfl rfl rfl rfl ?_ ?_ ?_ ?_); (focus (repeat' (first | exact trivial | exact rfl | (rw [List.map_append (f := cR)]; exact rfl) | apply And.intro))); (focus (repeat' (first | exact trivial | (intro b hb; cases hb; rfl) | (intro b hb; cases hb; done) | exact Z.gB_sub' rfl (by first | rfl | (rw [List.map_append]; rfl) | simp only [List.map_append, List.map_cons, List.map_nil]) (ren_map fun _ => rfl) | apply And.intro))); (focus (exact ⟨by (try dsimp only); omega, by (try dsimp only); (try simp only [List.length_append, List.length_singleton]); omega, hdo, trivial, by (try dsimp only); rw [HR, hat]⟩)); ((try dsimp only); omega))
            | fail
        have cdo := cdo hn2
        repeat' ((conv => whnf); first
          | ((with_reducible apply spB_cong); (focus (simp only [beq_self_eq_true, bne_self_eq_false, Bool.true_bne, Bool.false_bne, Bool.bne_true, Bool.bne_false, Bool.true_beq, Bool.false_beq, Bool.not_true, Bool.not_false, Bool.not_not, Int.reduceBEq, Int.reduceBNe, Int.reduceLE, Int.reduceLT, Int.reduceEq, decide_true, decide_false]; rfl)))
          | with_reducible first | refine spB_no (by decide) ?_
          | (with_reducible refine spB_dec ?_ ?_ <;> intro _ <;> (try (exfalso; first | contradiction | omega | (rename_i hz; refine hz ?_; simp; done) | (rename_i hz; simp at hz; done) | (simp only [LN] at *; omega))))
          | with_reducible first | refine Z.rowN_known hx ?_
          | ((with_reducible refine Z.callZ_con ?_ (cdo) ?_); (focus ((repeat' (first | exact trivial | exact low_tlK (tl := tl) rfl (by first | rfl | exact ren_cK | exact ren_cK.trans ren_cK) rfl | exact rfl | apply And.intro)); done)); (rintro _ _ _ ⟨tl9, rfl, rfl, rfl⟩))
          | ((with_reducible refine posE_pos ?_ ?_); (focus ((try simp only [LN] at *) <;> omega)))
          | ((with_reducible refine posE_nil ?_ ?_); (focus rfl))
          | ((with_reducible apply ixN_litp); (focus (exact rfl)); (focus ((try simp only [LN] at *) <;> omega)))
          | ((with_reducible refine apdN.mk ?_ ?_ ?_ ?_ ?_ ?_); (focus (first | rfl)); (focus (first | exact one_all (by rfl))); (focus ((try simp only [LN] at *) <;> omega)); (focus ((try simp only [LN] at *) <;> omega)); (focus ((try simp only [LN] at *) <;> omega)))
          | with_reducible refine wr_i64 (by first | omega | (simp only [LN] at *; omega)) ?_
          | ((with_reducible refine eqN_mk2 ?_ ?_); (focus (exact Z.kb_some rfl)))
          | fail)
        all_goals (try (conv => whnf))
        all_goals try (show Nat.ble _ _ = true; rfl)
        all_goals try (exfalso; rename_i hz; cases hz; done)
        all_goals try (exfalso; (try simp only [LN] at *) <;> omega)
        all_goals first
          | ((refine Z.rndK ((i + 1, some (n2, tl9), acc)) (fun s => [0, 1, 2, s.idIn 4 0, 4, s.idAt 11]) rfl rfl rfl rfl ?_ ?_ ?_ ?_); (focus (repeat' (first | exact trivial | exact rfl | apply And.intro))); (focus (repeat' (first | exact trivial | exact Z.blk_sub rfl (by first | rfl | exact ren_cK) ren_cK | (intro b hb; cases hb; rfl) | exact Z.gB_sub rfl rfl (ren_map fun _ => rfl) | apply And.intro))); (focus (exact ⟨by (try dsimp only); omega, by (try dsimp only); (try simp only [List.length_append, List.length_singleton]); omega, hdo, hn2, by (try dsimp only); rw [HR, hat]; simp⟩)); ((try dsimp only); omega))
          | ((refine Z.rndK ((i + 1, some (n2, tl9), acc ++ [y])) (fun s => [0, 1, 2, s.idIn 4 0, 4, s.idAt 11]) rfl rfl rfl rfl ?_ ?_ ?_ ?_); (focus (repeat' (first | exact trivial | exact rfl | (rw [List.map_append (f := cR)]; exact rfl) | apply And.intro))); (focus (repeat' (first | exact trivial | exact Z.blk_sub rfl (by first | rfl | exact ren_cK) ren_cK | (intro b hb; cases hb; rfl) | exact Z.gB_sub' rfl (by first | rfl | (rw [List.map_append]; rfl) | simp only [List.map_append, List.map_cons, List.map_nil]) (ren_map fun _ => rfl) | apply And.intro))); (focus (exact ⟨by (try dsimp only); omega, by (try dsimp only); (try simp only [List.length_append, List.length_singleton]); omega, hdo, hn2, by (try dsimp only); rw [HR, hat]⟩)); ((try dsimp only); omega))
          | fail))
  have hil : i = rs.length := by omega
  subst hil
  rw [List.drop_length] at HR
  simp only [rT] at HR
  rw [HR] at hne ⊢
  rcases w with _ | ⟨R, tl⟩
  · exact absurd rfl hne
  dsimp only [wL] at hne ⊢
  repeat' ((conv => whnf); first
    | (with_reducible refine spB_dec ?_ ?_ <;> intro _ <;> (try (exfalso; first | contradiction | omega | (rename_i hz; refine hz ?_; simp; done) | (rename_i hz; simp at hz; done) | (simp only [LN] at *; omega))))
    | fail)
  all_goals (try (conv => whnf))
  all_goals try (show Nat.ble _ _ = true; rfl)
  all_goals try (exfalso; rename_i hz; cases hz; done)
  all_goals try (exfalso; (try simp only [LN] at *) <;> omega)
  all_goals first
    | (refine ret_stp (Stp.fzg 7 5 (acc.map cR) rfl 3 39 (by show Z.isB ((gB _ _ _).map Z.Ob.b) = _; exact Z.isB_map _) (acc.map eR) (by simp only [List.map_map]; rfl) (Nat.zero_le _)) ?_; refine ret1b 3 (.tup [.agg [.osl 0 0 R.length none], .one (.ro true 3 (acc.map eR)), .one (.v (.int .i64 0))]) ((R ++ tl).map cK) 4 74 false _ rfl rfl rfl (by first | rfl | exact ren_cK) ren_cK rfl (own_map fun _ => rfl) ⟨tl, rfl, rfl, rfl⟩)
    | fail
end Go.Proofs.Ytehhmkdghgabaaa
namespace Go.Proofs.Ytehhmkdghgabaaa
open Go Go.RowKit Wx
set_option linter.unusedVariables false
set_option linter.unusedSimpArgs false
set_option maxHeartbeats 4000000
theorem runT_err {o : Opr} {l : List Kc} {rs : List Rcd} (h : (runT o l rs).2.2 ≠ 0) : (runT o l rs).1 = [] := by
  have key : ∀ (rs : List Rcd) (l : List Kc) (acc : List Rcd), (rT o l acc rs).2.2 ≠ 0 → (rT o l acc rs).1 = [] := by
    intro rs
    induction rs with
    | nil => intro l acc h; exact absurd rfl h
    | cons r rs ih =>
      intro l acc h
      unfold rT at h ⊢
      split
      · rename_i h0; rw [if_pos h0] at h; exact ih _ _ h
      · rfl
  unfold runT at *
  split
  · rfl
  · rename_i h1
    rw [if_neg h1] at h
    split
    · rfl
    · rename_i h2; rw [if_neg h2] at h; exact key _ _ _ h
theorem runT_len {o : Opr} {l : List Kc} {rs : List Rcd} (hc : okC l) : (runT o l rs).1.length ≤ 256 := by
  have key : ∀ (rs : List Rcd) (l : List Kc) (acc : List Rcd), tabR l = true → okC l → (rT o l acc rs).1.length ≤ 256 := by
    intro rs
    induction rs with
    | nil => intro l acc h _; exact tab_len h
    | cons r rs ih =>
      intro l acc h hc
      unfold rT
      split
      · rename_i h0; exact ih _ _ (dT_ok h hc h0).1 (dT_ok h hc h0).2
      · simp
  unfold runT
  split
  · simp
  · rename_i h1
    split
    · simp
    · exact key _ _ _ (by simpa using h1) hc
theorem runT_out {o : Opr} {l : List Kc} {rs : List Rcd} : (runT o l rs).2.1.length ≤ 40 := by
  have key : ∀ (rs : List Rcd) (l : List Kc) (acc : List Rcd), (rT o l acc rs).2.1.length ≤ acc.length + rs.length := by
    intro rs
    induction rs with
    | nil => intro l acc; exact Nat.le_refl _
    | cons r rs ih =>
      intro l acc
      unfold rT
      split
      · refine Nat.le_trans (ih _ _) ?_
        have := dT_len (o := o) (l := l) (r := r)
        simp only [List.length_append, List.length_cons]; omega
      · simp
  unfold runT
  split
  · simp
  · split
    · simp
    · rename_i h2; have := key rs l []; simp at this; omega
theorem doT_len {o : Opr} {l : List Kc} {r : Rcd} (hc : okC l) : (doT o l r).1.length ≤ 256 := by
  unfold doT
  split
  · simp
  · rename_i h1
    by_cases h0 : (dT o l r).2.2 = 0
    · exact tab_len (dT_ok (by simpa using h1) hc h0).1
    · rw [dT_err h0]; simp
theorem doT_out {o : Opr} {l : List Kc} {r : Rcd} : (doT o l r).2.1.length ≤ 1 := by
  unfold doT
  split
  · simp
  · exact dT_len
theorem trun_own (o : Opr) (l : List Kc) (rs : List Rcd) (hi : o.ins.length ≤ 9223372036854775807) (hl : l.length ≤ 1000) (hcnt : okC l) (h0 : (runT o l rs).2.2 = 0) (hne : (runT o l rs).1 ≠ []) : Con Try.prog 31 [.agg [.v (.int .i64 o.t), .v (.int .i64 o.w), .ro false 1 (o.ins.map Ops.eI), .v (.int .i64 o.a), .v (.int .i64 o.b)], .agg [.ro false 4 (l.map eK)], .one (.ro false 3 (rs.map eR))] (fun rx rK rt => rx = .tup [.agg [.osl 0 0 (runT o l rs).1.length none], .one (.ro true 3 ((runT o l rs).2.1.map eR)), .one (.v (.int .i64 0))] ∧ rK = [(0, some ⟨(runT o l rs).1.map cK, 4, 74, false⟩)] ∧ rt = 1) := by
  have key : Con Try.prog 31 [.agg [.v (.int .i64 o.t), .v (.int .i64 o.w), .ro false 1 (o.ins.map Ops.eI), .v (.int .i64 o.a), .v (.int .i64 o.b)], .agg [.ro false 4 (l.map eK)], .one (.ro false 3 (rs.map eR))] (ownD (runT o l rs).1 (runT o l rs).2.1) := by
    unfold runT at *
    by_cases ht : tabR l = false
    · rw [if_pos ht] at h0; cases h0
    rw [if_neg ht] at h0 hne ⊢
    by_cases h4 : 40 < rs.length
    · rw [if_pos h4] at h0; cases h0
    rw [if_neg h4] at h0 hne ⊢
    by_cases hle : l = []
    · exact trun_own0 o l rs hi hl hcnt (by omega) (by simpa using ht) hle (by subst hle; exact h0) (by subst hle; exact hne)
    · exact trun_own1 o l rs hi hl hcnt (by omega) (by simpa using ht) hle h0 hne
  refine Z.con_cut1 (Ops.con_mono key ?_)
  rintro rx rK rt ⟨tl, h1, h2, h3⟩
  exact ⟨tl.map cK, h1, by rw [h2, List.map_append], h3⟩
theorem rc_eq {x y : Rcd} (h : (x.src == y.src && (x.key == y.key && (x.val == y.val && true))) = true) : x = y := by
  cases x; cases y; simp_all
theorem cut_r (l : List Rcd) (fl : Bool) : List.map (List.map (RT.ce fl)) (List.take ((l.take 41).length - 0) (List.drop 0 (l.map eR))) = (l.take 41).map cR := by
  have e : List.take ((l.take 41).length) l = l.take 41 := List.take_eq_take_iff.2 (by rw [List.length_take]; omega)
  rw [Nat.sub_zero, List.drop_zero, ← List.map_take, List.map_map, e]
  rfl
theorem one_cutR {l : List Rcd} {n m : Nat} {fl : Bool} : ∀ r ∈ List.map (List.map (RT.ce fl)) (List.take n (List.drop m (l.map eR))), ∀ c ∈ r, c.single = true := fun r hr c hc => by
  obtain ⟨t, ht, rfl⟩ := List.mem_map.1 hr
  obtain ⟨z, _, rfl⟩ := List.mem_map.1 (List.mem_of_mem_drop (List.mem_of_mem_take ht))
  simp only [List.map_cons, List.map_nil, List.mem_cons, List.not_mem_nil, or_false] at hc
  rcases hc with rfl | rfl | rfl <;> rfl
end Go.Proofs.Ytehhmkdghgabaaa
namespace Go.Proofs.Ytehhmkdghgabaaa
open Go Go.RowKit Wx
set_option linter.unusedVariables false
set_option linter.unusedSimpArgs false
set_option maxHeartbeats 4000000
theorem fewr_con (l : List Rcd) (hl : l.length ≤ 9223372036854775807) : Con Try.prog 27 [.one (.ro false 3 (l.map eR))] (fun rx rK rt => rx = .c (.ro true 3 ((l.take 41).map eR)) ∧ rK = [] ∧ rt = 0) := by
  refine Z.con_ofF tabOk 10 Try.f27 _ Try.func27 (by kernel_rfl) rfl rfl rfl rfl ?_
  have htl : (l.take 41).length ≤ 41 := by rw [List.length_take]; exact Nat.min_le_left _ _
  have HC := cut_r l
  repeat' ((conv => whnf); first
    | ((with_reducible refine slN_hi ((l.take 41).length) ?_ ?_ ?_); (focus (rw [List.length_take, List.length_map]; omega)); (focus (rw [List.length_take, List.length_map]; omega)))
    | ((with_reducible refine apdE_n ?_); (with_reducible refine apdN.mk ?_ ?_ ?_ ?_ ?_ ?_); (focus (first | (simp; done))); (focus (first | exact one_cutR)); (focus (first | exact Nat.zero_le _)); (iterate 2 (focus ((try simp only [LN] at *) <;> omega))))
    | fail)
  all_goals (try (conv => whnf))
  all_goals try (show Nat.ble _ _ = true; rfl)
  all_goals try (exfalso; rename_i hz; cases hz; done)
  all_goals try (exfalso; (try simp only [LN] at *) <;> omega)
  all_goals first
    | ((first | (with_reducible apply Z.retF1)); (focus (exact rfl)); (repeat' (first | exact trivial | (refine Z.frz_oslw (l := l.take 41) (f := cR) (ty := 39) (bx := false) rfl ?_ ?_ (fun _ => rfl); (focus (first | (simp; done))); (focus (first | exact (congrArg (List.take _) (HC _)).trans (List.take_of_length_le (by simp))))) | (with_reducible apply Z.frz_one) | apply And.intro)); (all_goals (try exact (fun _ => none))); all_goals (first | (simp; done)))
    | fail
theorem samer_con (a b : List Rcd) (hla : a.length ≤ 9223372036854775807)  : Con Try.prog 66 [.one (.ro false 3 (a.map eR)), .one (.ro false 3 (b.map eR))] (fun rx rK rt => rx = .val (.bool (decide (a = b))) ∧ rK = [] ∧ rt = 0) := by
  refine Z.con_ofF tabOk 26 Try.f66 _ Try.func66 (by kernel_rfl) rfl rfl rfl rfl ?_
  repeat' ((conv => whnf); first
    | (with_reducible refine spB_bne ?_ ?_ <;> intro _ <;> (try (exfalso; first | contradiction | omega | (rename_i hz; with_reducible exact absurd rfl hz))))
    | fail)
  all_goals (try (conv => whnf))
  all_goals try ((first | (with_reducible apply Z.retF1)); (focus (exact rfl)); (repeat' (first | exact trivial | (with_reducible apply Z.frz_one) | (with_reducible apply Z.fq_bool) | apply And.intro)); (all_goals (try exact (fun _ => none))); all_goals (exact bool_f (ne_len (by simp only [LN] at *; omega))))
  refine Z.loopK tabOk (fun zq : Nat => [(5, .val (.int .i64 (zq : Int)))]) (fun zq : Nat => ([] : Z.Kr)) (fun zq => zq ≤ a.length ∧ a.length = b.length ∧ a.take zq = b.take zq) (fun zq => a.length - zq) 0 0 [(0, _), (1, _)] ⟨rfl, rfl, trivial⟩ [] trivial ?_ ?_ rfl rfl ⟨Nat.zero_le _, by simp only [LN] at *; omega, rfl⟩ ?_
  · repeat' (first | exact trivial | apply And.intro | exact ⟨_, rfl, Z.Imp.refl _⟩)
  · repeat' (first | exact trivial)
  rintro i HINV
  dsimp only at HINV ⊢
  obtain ⟨HI, HL, HT⟩ := HINV
  repeat' ((conv => whnf); first
    | with_reducible first | refine spB_not ?_
    | (with_reducible refine spB_dec ?_ ?_ <;> intro _ <;> (try (exfalso; first | contradiction | omega | (rename_i hz; with_reducible exact absurd rfl hz))))
    | (with_reducible refine spB_mk ?_ ?_ <;> intro _ <;> (try (exfalso; first | contradiction | omega | (rename_i hz; with_reducible exact absurd rfl hz))))
    | ((with_reducible apply ixN_litp); (focus (exact rfl)); (focus ((try simp only [LN] at *) <;> omega)))
    | with_reducible refine wr_i64 (by first | omega | (simp only [LN] at *; omega)) ?_
    | ((with_reducible refine rowN_map ?_ ?_); (focus ((try simp only [LN] at *) <;> omega)); intro x hx)
    | with_reducible first | refine Z.drawZ_rule tabOk mixOk ?_ | refine Z.apZ_mk (by kernel_rfl) ?_
    | fail)
  all_goals (try (conv => whnf))
  all_goals first
    | ((refine Z.rndK (i + 1) (fun s => []) rfl rfl rfl rfl ?_ ?_ ?_ ?_); (focus (repeat' (first | exact trivial | exact rfl | apply And.intro))); (focus (repeat' (first | exact trivial))); (focus (refine ⟨by simp only [LN] at *; omega, HL, eq_step HT (by assumption) (by assumption) ?_⟩; (first | exact rc_eq (by assumption)))); (try simp only [LN] at *); (try dsimp only); omega)
    | ((first | (with_reducible apply Z.retF1)); (focus (exact rfl)); (repeat' (first | exact trivial | (with_reducible apply Z.frz_one) | (with_reducible apply Z.fq_bool) | apply And.intro)); (all_goals (try exact (fun _ => none))); all_goals (first | exact bool_t (eq_end HL HT (by simp only [LN] at *; omega)) | (refine bool_f (ne_at (by assumption) (by assumption) ?_); intro e; subst e; first | contradiction | (simp_all; done))))
    | fail
theorem samerec_con (a b : List Rcd) (hla : a.length ≤ 9223372036854775807) : Con Try.prog 30 [.one (.ro false 3 (a.map eR)), .one (.ro false 3 (b.map eR))] (fun rx rK rt => rx = .val (.bool (decide (a = b))) ∧ rK = [] ∧ rt = 0) := by
  refine Z.con_ofF tabOk 8 Try.f30 _ Try.func30 (by kernel_rfl) rfl rfl rfl rfl ?_
  have cs := samer_con a b hla
  repeat' ((conv => whnf); first
    | ((first | (with_reducible refine Z.callZ_mk ?_ (cs) ?_)); (focus ((repeat' (first | exact trivial | exact rfl | apply And.intro)); done)))
    | fail)
  all_goals (try (conv => whnf))
  all_goals try (show Nat.ble _ _ = true; rfl)
  all_goals try (exfalso; rename_i hz; cases hz; done)
  all_goals try (exfalso; (try simp only [LN] at *) <;> omega)
  all_goals first
    | ((first | (with_reducible apply Z.retF1)); (focus (exact rfl)); (repeat' (first | exact trivial | exact rfl | apply And.intro)); (all_goals (try exact (fun _ => none))); all_goals (first | (simp; done)))
    | fail
end Go.Proofs.Ytehhmkdghgabaaa
namespace Go.Proofs.Ytehhmkdghgabaaa
open Go Go.RowKit Wx
set_option linter.unusedVariables false
set_option linter.unusedSimpArgs false
set_option maxHeartbeats 4000000
theorem rdo12_con (o : Opr) (l : List Kc) (r : Rcd) (hi : o.ins.length ≤ 9223372036854775807) (hl : l.length ≤ 1000) (hcnt : okC l) : Con Try.prog 29 [.agg [.v (.int .i64 o.t), .v (.int .i64 o.w), .ro false 1 (o.ins.map Ops.eI), .v (.int .i64 o.a), .v (.int .i64 o.b)], .agg [.ro false 4 (l.map eK)], .agg [.v (.int .i64 r.src), .v (.int .i64 r.key), .v (.int .i64 r.val)]] (fun rx rK rt => rx = .tup [.agg [.ro true 4 ((doT o l r).1.map eK)], .one (.ro true 3 ((doT o l r).2.1.map eR)), .one (.v (.int .i64 (doT o l r).2.2))] ∧ rK = [] ∧ rt = 0) := by
  refine Z.con_ofF tabOk 61 Try.f29 _ Try.func29 (by kernel_rfl) rfl rfl rfl rfl ?_
  have cc := rcheck_con l (by omega)
  unfold doT
  cases hok : tabR l
  all_goals rw [hok] at cc
  · simp only [if_true]
    repeat' ((conv => whnf); first
      | with_reducible first | refine spB_t ?_
      | ((with_reducible apply spB_cong); (focus (simp only [beq_self_eq_true, bne_self_eq_false, Bool.true_bne, Bool.false_bne, Bool.bne_true, Bool.bne_false, Bool.true_beq, Bool.false_beq, Bool.not_true, Bool.not_false, Bool.not_not, Int.reduceBEq, Int.reduceBNe, Int.reduceLE, Int.reduceLT, Int.reduceEq, decide_true, decide_false]; rfl)))
      | ((first | (with_reducible refine Z.callZ_mk ?_ (cc) ?_)); (focus ((repeat' (first | exact trivial | exact rfl | apply And.intro)); done)))
      | fail)
    all_goals (try (conv => whnf))
    all_goals try (show Nat.ble _ _ = true; rfl)
    all_goals try (exfalso; rename_i hz; cases hz; done)
    all_goals try (exfalso; (try simp only [LN] at *) <;> omega)
    all_goals first
      | ((first | (with_reducible apply Z.retF2)); (focus (exact rfl)); (repeat' (first | exact trivial | (with_reducible apply Z.frz_one) | (with_reducible apply Z.frz_agg) | (with_reducible apply Z.fq_int) | (exact Z.frz_nil) | exact rfl | apply And.intro)); (all_goals (try exact (fun _ => none))); all_goals (first | (simp; done)))
      | fail
  simp only [Bool.true_eq_false, if_false]
  have ck := rrec_con r.src r.key r.val
  unfold dT
  cases hk : keyOk r.src r.key
  all_goals rw [hk] at ck
  · simp only [if_true]
    repeat' ((conv => whnf); first
      | with_reducible first | refine spB_t ?_
      | ((with_reducible apply spB_cong); (focus (simp only [beq_self_eq_true, bne_self_eq_false, Bool.true_bne, Bool.false_bne, Bool.bne_true, Bool.bne_false, Bool.true_beq, Bool.false_beq, Bool.not_true, Bool.not_false, Bool.not_not, Int.reduceBEq, Int.reduceBNe, Int.reduceLE, Int.reduceLT, Int.reduceEq, decide_true, decide_false]; rfl)))
      | with_reducible first | refine spB_no (by decide) ?_
      | ((first | (with_reducible refine Z.callZ_mk ?_ (cc) ?_) | (with_reducible refine Z.callZ_mk ?_ (ck) ?_)); (focus ((repeat' (first | exact trivial | exact rfl | apply And.intro)); done)))
      | fail)
    all_goals (try (conv => whnf))
    all_goals try (show Nat.ble _ _ = true; rfl)
    all_goals try (exfalso; rename_i hz; cases hz; done)
    all_goals try (exfalso; (try simp only [LN] at *) <;> omega)
    all_goals first
      | ((first | (with_reducible apply Z.retF2)); (focus (exact rfl)); (repeat' (first | exact trivial | (with_reducible apply Z.frz_one) | (with_reducible apply Z.frz_agg) | (with_reducible apply Z.fq_int) | (exact Z.frz_nil) | exact rfl | apply And.intro)); (all_goals (try exact (fun _ => none))); all_goals (first | (simp; done)))
      | fail
  simp only [Bool.true_eq_false, if_false]
  have cg := rget_con l r.src r.key r.val (by omega)
  have hgl := getR_le (s := r.src) (k := r.key) hcnt
  generalize getR l r.src r.key = g at *
  have cd := Ops.rdo_con o.t o.w o.a o.b g.1 g.2 r.val o.ins hi hgl
  have hlen := doF_len0 (t := o.t) (w := o.w) (a := o.a) (b := o.b) (c := g.1) (s := g.2) (v := r.val) (ins := o.ins)
  have herr := doF_err (t := o.t) (w := o.w) (a := o.a) (b := o.b) (c := g.1) (s := g.2) (v := r.val) (ins := o.ins)
  generalize Ops.doF o.t o.w o.ins o.a o.b g.1 g.2 r.val = D at *
  obtain ⟨c, O, e⟩ := D
  dsimp only at cd hlen herr ⊢
  by_cases he : e = 0
  rotate_left
  · rw [if_neg he]
    have h9 := herr he
    simp only [Prod.mk.injEq, and_true] at h9
    obtain ⟨rfl, rfl⟩ := h9
    repeat' ((conv => whnf); first
      | ((with_reducible apply spB_cong); (focus (simp only [beq_self_eq_true, bne_self_eq_false, Bool.true_bne, Bool.false_bne, Bool.bne_true, Bool.bne_false, Bool.true_beq, Bool.false_beq, Bool.not_true, Bool.not_false, Bool.not_not, Int.reduceBEq, Int.reduceBNe, Int.reduceLE, Int.reduceLT, Int.reduceEq, decide_true, decide_false]; rfl)))
      | with_reducible first | refine spB_no (by decide) ?_
      | (with_reducible refine spB_bne ?_ ?_ <;> intro _ <;> (try (exfalso; first | contradiction | omega | (rename_i hz; refine hz ?_; simp; done) | (rename_i hz; simp at hz; done) | (simp only [LN] at *; omega))))
      | ((first | (with_reducible refine Z.callZ_mk ?_ (cc) ?_) | (with_reducible refine Z.conZ_mz ?_ (cg) ?_) | (with_reducible refine Z.callZ_mk ?_ (ck) ?_) | (with_reducible refine Z.conZ_mz ?_ (cd) ?_)); (focus ((repeat' (first | exact trivial | exact rfl | apply And.intro)); done)))
      | with_reducible first | refine Z.drawZ_rule tabOk mixOk ?_ | refine Z.apZ_mk (by kernel_rfl) ?_
      | fail)
    all_goals (try (conv => whnf))
    all_goals try (show Nat.ble _ _ = true; rfl)
    all_goals try (exfalso; rename_i hz; cases hz; done)
    all_goals try (exfalso; (try simp only [LN] at *) <;> omega)
    all_goals first
      | ((first | (with_reducible apply Z.retF2)); (focus (exact rfl)); (repeat' (first | exact trivial | (with_reducible apply Z.frz_one) | (with_reducible apply Z.frz_agg) | (exact Z.frz_nil) | exact rfl | apply And.intro)); (all_goals (try exact (fun _ => none))); all_goals (first | (simp; done)))
      | fail
  rw [if_pos he]
  subst he
  have cp := rput_con l r.src r.key r.val c (by omega)
  rw [putD_eq hok] at cp
  rcases O with _ | ⟨y, _ | ⟨z, O⟩⟩
  rotate_right 1
  · exact absurd hlen (by simp)
  all_goals (
    repeat' ((conv => whnf); first
      | ((with_reducible apply spB_cong); (focus (simp only [beq_self_eq_true, bne_self_eq_false, Bool.true_bne, Bool.false_bne, Bool.bne_true, Bool.bne_false, Bool.true_beq, Bool.false_beq, Bool.not_true, Bool.not_false, Bool.not_not, Int.reduceBEq, Int.reduceBNe, Int.reduceLE, Int.reduceLT, Int.reduceEq, decide_true, decide_false]; rfl)))
      | with_reducible first | refine spB_no (by decide) ?_
      | (with_reducible refine spB_dec ?_ ?_ <;> intro _ <;> (try (exfalso; first | contradiction | omega | (rename_i hz; refine hz ?_; simp; done) | (rename_i hz; simp at hz; done) | (simp only [LN] at *; omega))))
      | with_reducible first | refine Z.loopZ_unroll tabOk 3 ?_
      | ((with_reducible refine posE_pos ?_ ?_); (focus ((try simp only [LN] at *) <;> omega)))
      | ((with_reducible apply rowN_mk); (focus rfl))
      | ((with_reducible apply ixN_lit); (focus (exact rfl)); (focus (exact rfl)))
      | ((with_reducible refine apdN.mk ?_ ?_ ?_ ?_ ?_ ?_); (focus (first | rfl)); (focus (first | exact one_all (by rfl))); (focus ((try simp only [LN] at *) <;> omega)); (focus ((try simp only [LN] at *) <;> omega)); (focus ((try simp only [LN] at *) <;> omega)))
      | with_reducible refine wr_i64 (by first | omega | (simp only [LN] at *; omega)) ?_
      | ((first | (with_reducible refine Z.callZ_mk ?_ (cc) ?_) | (with_reducible refine Z.conZ_mz ?_ (cg) ?_) | (with_reducible refine Z.callZ_mk ?_ (ck) ?_) | (with_reducible refine Z.callZ_mk ?_ (cp) ?_) | (with_reducible refine Z.conZ_mz ?_ (cd) ?_)); (focus ((repeat' (first | exact trivial | exact rfl | apply And.intro)); done)))
      | with_reducible first | refine Z.drawZ_rule tabOk mixOk ?_ | refine Z.apZ_mk (by kernel_rfl) ?_
      | fail)
    all_goals (try (conv => whnf)))
  all_goals try (show Nat.ble _ _ = true; rfl)
  all_goals try (exfalso; rename_i hz; cases hz; done)
  all_goals try (exfalso; (try simp only [LN] at *) <;> omega)
  all_goals first
    | ((first | (with_reducible apply Z.retF2)); (focus (exact rfl)); (repeat' (first | exact trivial | (refine Z.fq_gsl (l := [(⟨r.src, r.key, y⟩ : Rcd)]) (f := cR) (g := eR) (sz := 3) (ty := 39) rfl (fun _ => rfl) ?_) | (with_reducible apply Z.frz_one) | (with_reducible apply Z.frz_agg) | (with_reducible apply Z.fq_int) | (exact Z.frz_nil) | exact rfl | apply And.intro)); (all_goals (try exact (fun _ => none))); all_goals (first | (simp; done)))
    | fail
end Go.Proofs.Ytehhmkdghgabaaa
namespace Go.Proofs.Ytehhmkdghgabaaa
open Go Go.RowKit Wx
set_option linter.unusedVariables false
set_option linter.unusedSimpArgs false
set_option maxHeartbeats 4000000
theorem rrun12_con (o : Opr) (l : List Kc) (rs : List Rcd) (hi : o.ins.length ≤ 9223372036854775807) (hl : l.length ≤ 1000) (hcnt : okC l) (hrs : rs.length ≤ 9223372036854775807) : Con Try.prog 32 [.agg [.v (.int .i64 o.t), .v (.int .i64 o.w), .ro false 1 (o.ins.map Ops.eI), .v (.int .i64 o.a), .v (.int .i64 o.b)], .agg [.ro false 4 (l.map eK)], .one (.ro false 3 (rs.map eR))] (fun rx rK rt => rx = .tup [.agg [.ro true 4 ((runT o l rs).1.map eK)], .one (.ro true 3 ((runT o l rs).2.1.map eR)), .one (.v (.int .i64 (runT o l rs).2.2))] ∧ rK = [] ∧ rt = 0) := by
  refine Z.con_ofF tabOk 51 Try.f32 _ Try.func32 (by kernel_rfl) rfl rfl rfl rfl ?_
  have cc := rcheck_con l (by omega)
  unfold runT
  cases hok : tabR l
  all_goals rw [hok] at cc
  · simp only [if_true]
    repeat' ((conv => whnf); first
      | with_reducible first | refine spB_t ?_
      | ((with_reducible apply spB_cong); (focus (simp only [beq_self_eq_true, bne_self_eq_false, Bool.true_bne, Bool.false_bne, Bool.bne_true, Bool.bne_false, Bool.true_beq, Bool.false_beq, Bool.not_true, Bool.not_false, Bool.not_not, Int.reduceBEq, Int.reduceBNe, Int.reduceLE, Int.reduceLT, Int.reduceEq, decide_true, decide_false]; rfl)))
      | ((first | (with_reducible refine Z.callZ_mk ?_ (cc) ?_)); (focus ((repeat' (first | exact trivial | exact rfl | apply And.intro)); done)))
      | fail)
    all_goals (try (conv => whnf))
    all_goals try (show Nat.ble _ _ = true; rfl)
    all_goals try (exfalso; rename_i hz; cases hz; done)
    all_goals try (exfalso; (try simp only [LN] at *) <;> omega)
    all_goals first
      | ((first | (with_reducible apply Z.retF2)); (focus (exact rfl)); (repeat' (first | exact trivial | (with_reducible apply Z.frz_one) | (with_reducible apply Z.frz_agg) | (with_reducible apply Z.fq_int) | (exact Z.frz_nil) | exact rfl | apply And.intro)); (all_goals (try exact (fun _ => none))); all_goals (first | (simp; done)))
      | fail
  simp only [Bool.true_eq_false, if_false]
  have hl2 := tab_len hok
  by_cases h40 : 40 < rs.length
  · rw [if_pos h40]
    repeat' ((conv => whnf); first
      | ((with_reducible apply spB_cong); (focus (simp only [beq_self_eq_true, bne_self_eq_false, Bool.true_bne, Bool.false_bne, Bool.bne_true, Bool.bne_false, Bool.true_beq, Bool.false_beq, Bool.not_true, Bool.not_false, Bool.not_not, Int.reduceBEq, Int.reduceBNe, Int.reduceLE, Int.reduceLT, Int.reduceEq, decide_true, decide_false]; rfl)))
      | with_reducible first | refine spB_no (by decide) ?_
      | (with_reducible refine spB_dec ?_ ?_ <;> intro _ <;> (try (exfalso; first | contradiction | omega | (rename_i hz; refine hz ?_; simp; done) | (rename_i hz; simp at hz; done) | (simp only [LN] at *; omega))))
      | ((first | (with_reducible refine Z.callZ_mk ?_ (cc) ?_)); (focus ((repeat' (first | exact trivial | exact rfl | apply And.intro)); done)))
      | fail)
    all_goals (try (conv => whnf))
    all_goals try (show Nat.ble _ _ = true; rfl)
    all_goals try (exfalso; rename_i hz; cases hz; done)
    all_goals try (exfalso; (try simp only [LN] at *) <;> omega)
    all_goals first
      | ((first | (with_reducible apply Z.retF2)); (focus (exact rfl)); (repeat' (first | exact trivial | (with_reducible apply Z.frz_one) | (with_reducible apply Z.frz_agg) | (with_reducible apply Z.fq_int) | (exact Z.frz_nil) | exact rfl | apply And.intro)); (all_goals (try exact (fun _ => none))); all_goals (first | (simp; done)))
      | fail
  rw [if_neg h40]
  repeat' ((conv => whnf); first
    | ((with_reducible apply spB_cong); (focus (simp only [beq_self_eq_true, bne_self_eq_false, Bool.true_bne, Bool.false_bne, Bool.bne_true, Bool.bne_false, Bool.true_beq, Bool.false_beq, Bool.not_true, Bool.not_false, Bool.not_not, Int.reduceBEq, Int.reduceBNe, Int.reduceLE, Int.reduceLT, Int.reduceEq, decide_true, decide_false]; rfl)))
    | with_reducible first | refine spB_no (by decide) ?_
    | (with_reducible refine spB_dec ?_ ?_ <;> intro _ <;> (try (exfalso; first | contradiction | omega | (rename_i hz; refine hz ?_; simp; done) | (rename_i hz; simp at hz; done) | (simp only [LN] at *; omega))))
    | ((first | (with_reducible refine Z.callZ_mk ?_ (cc) ?_)); (focus ((repeat' (first | exact trivial | exact rfl | apply And.intro)); done)))
    | fail)
  all_goals (try (conv => whnf))
  all_goals try (show Nat.ble _ _ = true; rfl)
  all_goals try (exfalso; rename_i hz; cases hz; done)
  all_goals try (exfalso; (try simp only [LN] at *) <;> omega)
  refine Z.loopK tabOk (fun zq : Nat × List Kc × List Rcd × Bool => [(27, .val (.int .i64 (zq.1 : Int))), (9, .c (.gsl 3 (zq.2.2.1.map cR)))]) (fun zq : Nat × List Kc × List Rcd × Bool => ([(1, some (Z.Ob.b ⟨[[.ro zq.2.2.2 4 (zq.2.1.map eK)]], 1, 30, true⟩)), (3, (gB 3 39 (zq.2.2.1.map cR)).map Z.Ob.b)] : Z.Kr)) (fun zq => zq.1 ≤ rs.length ∧ zq.2.2.1.length ≤ zq.1 ∧ (tabR zq.2.1 = true ∧ okC zq.2.1) ∧ rT o l [] rs = rT o zq.2.1 zq.2.2.1 (rs.drop zq.1)) (fun zq => rs.length - zq.1) (0, l, [], false) 4 [(3, _), (4, _), (6, _), (25, _), (26, _)] ⟨rfl, rfl, rfl, rfl, rfl, trivial⟩ [(0, some _), (2, some _)] ⟨rfl, rfl, trivial⟩ ?_ ?_ rfl rfl ⟨Nat.zero_le _, Nat.zero_le _, ⟨hok, hcnt⟩, rfl⟩ ?_
  · repeat' (first | exact trivial | apply And.intro | exact ⟨_, rfl, Z.Imp.refl _⟩ | exact ⟨_, rfl, Z.Imp.nilg _⟩)
  · repeat' (first | exact trivial | (intro b hb; cases hb; done) | exact (fun b hb => ⟨b, hb, Z.ImpO.refl b⟩) | apply And.intro)
  rintro ⟨i, nx, acc, fl⟩ HINV
  (try dsimp only at HINV); (try dsimp only)
  obtain ⟨HI, HA, ⟨HT, HC⟩, HR⟩ := HINV
  have hnl := tab_len HT
  by_cases hi2 : i < rs.length
  · obtain ⟨x, hx⟩ := getElem?_some' (xs := rs) (i := i) hi2
    have cd := rdo12_con o nx x hi (by omega) HC
    rw [show doT o nx x = dT o nx x by unfold doT; rw [HT]; rfl] at cd
    have hat := rT_at (o := o) (l := nx) (acc := acc) hx
    have hdl := dT_len (o := o) (l := nx) (r := x)
    have hde := dT_err (o := o) (l := nx) (r := x)
    have hdo := dT_ok (o := o) (r := x) HT HC
    generalize dT o nx x = D at *
    obtain ⟨n2, O, e⟩ := D
    dsimp only at cd hat hdl hde hdo
    by_cases he : e = 0
    rotate_left
    · rw [if_neg he] at hat
      have h9 := hde he
      simp only [Prod.mk.injEq, and_true] at h9
      obtain ⟨rfl, rfl⟩ := h9
      rw [HR, hat]
      cases fl
      all_goals (
        repeat' ((conv => whnf); first
          | (with_reducible refine spB_dec ?_ ?_ <;> intro _ <;> (try (exfalso; first | contradiction | omega | (rename_i hz; refine hz ?_; simp; done) | (rename_i hz; simp at hz; done) | (simp only [LN] at *; omega))))
          | (with_reducible refine spB_bne ?_ ?_ <;> intro _ <;> (try (exfalso; first | contradiction | omega | (rename_i hz; refine hz ?_; simp; done) | (rename_i hz; simp at hz; done) | (simp only [LN] at *; omega))))
          | with_reducible first | refine Z.rowN_known hx ?_
          | ((with_reducible apply ixN_litp); (focus (exact rfl)); (focus ((try simp only [LN] at *) <;> omega)))
          | ((first | (with_reducible refine Z.callZ_mk ?_ (cd) ?_)); (focus ((repeat' (first | exact trivial | exact rfl | apply And.intro)); done)))
          | fail)
        all_goals (try (conv => whnf)))
      all_goals try (show Nat.ble _ _ = true; rfl)
      all_goals try (exfalso; rename_i hz; cases hz; done)
      all_goals try (exfalso; (try simp only [LN] at *) <;> omega)
      all_goals first
        | ((first | (with_reducible apply Z.retF2)); (focus (exact rfl)); (repeat' (first | exact trivial | (with_reducible apply Z.frz_one) | (with_reducible apply Z.frz_agg) | (exact Z.frz_nil) | exact rfl | apply And.intro)); (all_goals (try exact (fun _ => none))); all_goals (first | (simp; done)))
        | fail
    subst he
    rw [if_pos rfl] at hat
    rcases O with _ | ⟨y, _ | ⟨z, O⟩⟩
    rotate_right 1
    · exact absurd hdl (by simp)
    all_goals (
      cases fl
      all_goals (
        repeat' ((conv => whnf); first
          | ((with_reducible apply spB_cong); (focus (simp only [beq_self_eq_true, bne_self_eq_false, Bool.true_bne, Bool.false_bne, Bool.bne_true, Bool.bne_false, Bool.true_beq, Bool.false_beq, Bool.not_true, Bool.not_false, Bool.not_not, Int.reduceBEq, Int.reduceBNe, Int.reduceLE, Int.reduceLT, Int.reduceEq, decide_true, decide_false]; rfl)))
          | with_reducible first | refine spB_no (by decide) ?_
          | (with_reducible refine spB_dec ?_ ?_ <;> intro _ <;> (try (exfalso; first | contradiction | omega | (rename_i hz; refine hz ?_; simp; done) | (rename_i hz; simp at hz; done) | (simp only [LN] at *; omega))))
          | with_reducible first | refine Z.rowN_known hx ?_
          | ((with_reducible refine posE_pos ?_ ?_); (focus ((try simp only [LN] at *) <;> omega)))
          | ((with_reducible refine posE_nil ?_ ?_); (focus rfl))
          | ((with_reducible apply ixN_litp); (focus (exact rfl)); (focus ((try simp only [LN] at *) <;> omega)))
          | ((with_reducible refine apdN.mk ?_ ?_ ?_ ?_ ?_ ?_); (focus (first | rfl)); (focus (first | exact one_all (by rfl))); (focus ((try simp only [LN] at *) <;> omega)); (focus ((try simp only [LN] at *) <;> omega)); (focus ((try simp only [LN] at *) <;> omega)))
          | with_reducible refine wr_i64 (by first | omega | (simp only [LN] at *; omega)) ?_
          | ((first | (with_reducible refine Z.callZ_mk ?_ (cd) ?_)); (focus ((repeat' (first | exact trivial | exact rfl | apply And.intro)); done)))
          | ((with_reducible refine eqN_mk2 ?_ ?_); (focus (exact Z.kb_some rfl)))
          | with_reducible first | refine Z.drawZ_rule tabOk mixOk ?_ | refine Z.apZ_mk (by kernel_rfl) ?_
          | fail)
        all_goals (try (conv => whnf))))
    all_goals try (show Nat.ble _ _ = true; rfl)
    all_goals try (exfalso; rename_i hz; cases hz; done)
    all_goals try (exfalso; (try simp only [LN] at *) <;> omega)
    all_goals first
      | ((refine Z.rndK ((i + 1, n2, acc, true)) (fun s => [0, 1, 2, s.idAt 9]) rfl rfl rfl rfl ?_ ?_ ?_ ?_); (focus (repeat' (first | exact trivial | exact rfl | apply And.intro))); (focus (repeat' (first | exact trivial | (intro b hb; cases hb; rfl) | exact Z.gB_sub rfl rfl (ren_map fun _ => rfl) | apply And.intro))); (focus (refine ⟨by (try dsimp only); omega, by (try dsimp only); (try simp only [List.length_append, List.length_singleton]); omega, hdo rfl, by (try dsimp only); rw [HR, hat]; simp⟩)); ((try dsimp only); omega))
      | ((refine Z.rndK ((i + 1, n2, acc ++ [y], true)) (fun s => [0, 1, 2, s.idAt 9]) rfl rfl rfl rfl ?_ ?_ ?_ ?_); (focus (repeat' (first | exact trivial | exact rfl | (rw [List.map_append (f := cR)]; exact rfl) | apply And.intro))); (focus (repeat' (first | exact trivial | (intro b hb; cases hb; rfl) | exact Z.gB_sub' rfl (by first | rfl | (rw [List.map_append]; rfl) | simp only [List.map_append, List.map_cons, List.map_nil]) (ren_map fun _ => rfl) | apply And.intro))); (focus (refine ⟨by (try dsimp only); omega, by (try dsimp only); (try simp only [List.length_append, List.length_singleton]); omega, hdo rfl, by (try dsimp only); rw [HR, hat]⟩)); ((try dsimp only); omega))
      | fail
  have hil : i = rs.length := by omega
  subst hil
  rw [HR, List.drop_length]
  simp only [rT]
  have ccp := copyk_con nx (by omega)
  cases fl
  all_goals (
    repeat' ((conv => whnf); first
      | (with_reducible refine spB_dec ?_ ?_ <;> intro _ <;> (try (exfalso; first | contradiction | omega | (rename_i hz; refine hz ?_; simp; done) | (rename_i hz; simp at hz; done) | (simp only [LN] at *; omega))))
      | ((first | (with_reducible refine Z.callZ_mk ?_ (ccp) ?_)); (focus ((repeat' (first | exact trivial | exact rfl | apply And.intro)); done)))
      | fail)
    all_goals (try (conv => whnf)))
  all_goals try (show Nat.ble _ _ = true; rfl)
  all_goals try (exfalso; rename_i hz; cases hz; done)
  all_goals try (exfalso; (try simp only [LN] at *) <;> omega)
  all_goals first
    | ((first | (with_reducible apply Z.retF2)); (focus (exact rfl)); (repeat' (first | exact trivial | (with_reducible apply Z.frz_one) | (with_reducible apply Z.frz_agg) | (with_reducible apply Z.fq_int) | ((with_reducible apply Z.fq_gsl); (focus (first | exact Z.isB_map _)); (focus (exact fun _ => rfl))) | exact rfl | apply And.intro)); (all_goals (try exact (fun _ => none))); all_goals (first | (simp; done)))
    | fail
end Go.Proofs.Ytehhmkdghgabaaa
namespace Go.Proofs.Ytehhmkdghgabaaa
open Go Go.RowKit Wx
set_option linter.unusedVariables false
set_option linter.unusedSimpArgs false
set_option maxHeartbeats 4000000
def opF (o : Opr) : Opr := ⟨o.t, o.w, o.ins.take 10, o.a, o.b⟩
theorem cut_i (l : List Int) (fl : Bool) : List.map (List.map (RT.ce fl)) (List.take ((l.take 10).length - 0) (List.drop 0 (l.map Ops.eI))) = (l.take 10).map Ops.cI := by
  have e : List.take ((l.take 10).length) l = l.take 10 := List.take_eq_take_iff.2 (by rw [List.length_take]; omega)
  rw [Nat.sub_zero, List.drop_zero, ← List.map_take, List.map_map, e]
  rfl
theorem one_cutI {l : List Int} {n m : Nat} {fl : Bool} : ∀ r ∈ List.map (List.map (RT.ce fl)) (List.take n (List.drop m (l.map Ops.eI))), ∀ c ∈ r, c.single = true := fun r hr c hc => by
  obtain ⟨t, ht, rfl⟩ := List.mem_map.1 hr
  obtain ⟨z, _, rfl⟩ := List.mem_map.1 (List.mem_of_mem_drop (List.mem_of_mem_take ht))
  simp only [List.map_cons, List.map_nil, List.mem_cons, List.not_mem_nil, or_false] at hc
  rcases hc with rfl <;> rfl
end Go.Proofs.Ytehhmkdghgabaaa
namespace Go.Proofs.Ytehhmkdghgabaaa
open Go Go.RowKit Wx
set_option linter.unusedVariables false
set_option linter.unusedSimpArgs false
set_option maxHeartbeats 4000000
theorem opc_con (o : Opr) (hi : o.ins.length ≤ 9223372036854775807) : Con Try.prog 17 [.agg [.v (.int .i64 o.t), .v (.int .i64 o.w), .ro false 1 (o.ins.map Ops.eI), .v (.int .i64 o.a), .v (.int .i64 o.b)]] (fun rx rK rt => rx = .pl (.agg [.v (.int .i64 o.t), .v (.int .i64 o.w), .ro true 1 ((o.ins.take 10).map Ops.eI), .v (.int .i64 o.a), .v (.int .i64 o.b)]) ∧ rK = [] ∧ rt = 0) := by
  refine Z.con_ofF tabOk 14 Try.f17 _ Try.func17 (by kernel_rfl) rfl rfl rfl rfl ?_
  have htl : (o.ins.take 10).length ≤ 10 := by rw [List.length_take]; exact Nat.min_le_left _ _
  have HC := cut_i o.ins
  repeat' ((conv => whnf); first
    | ((with_reducible refine slN_hi ((o.ins.take 10).length) ?_ ?_ ?_); (focus (rw [List.length_take, List.length_map]; omega)); (focus (rw [List.length_take, List.length_map]; omega)))
    | ((with_reducible refine apdE_n ?_); (with_reducible refine apdN.mk ?_ ?_ ?_ ?_ ?_ ?_); (focus (first | (simp; done))); (focus (first | exact one_cutI)); (focus (first | exact Nat.zero_le _)); (iterate 2 (focus ((try simp only [LN] at *) <;> omega))))
    | fail)
  all_goals (try (conv => whnf))
  all_goals try (show Nat.ble _ _ = true; rfl)
  all_goals try (exfalso; rename_i hz; cases hz; done)
  all_goals try (exfalso; (try simp only [LN] at *) <;> omega)
  all_goals first
    | ((first | (with_reducible apply Z.retF1)); (focus (exact rfl)); (repeat' (first | exact trivial | (refine Z.frz_oslw (l := o.ins.take 10) (f := Ops.cI) (ty := 3) (bx := false) rfl ?_ ?_ (fun _ => rfl); (focus (first | (simp; done))); (focus (first | exact (congrArg (List.take _) (HC _)).trans (List.take_of_length_le (by simp))))) | (with_reducible apply Z.frz_agg) | (with_reducible apply Z.fq_int) | exact rfl | apply And.intro)); (all_goals (try exact (fun _ => none))); all_goals (first | (simp; done)))
    | fail
end Go.Proofs.Ytehhmkdghgabaaa
namespace Go.Proofs.Ytehhmkdghgabaaa
open Go Go.RowKit Wx
set_option linter.unusedVariables false
set_option linter.unusedSimpArgs false
set_option maxHeartbeats 4000000
def decR : List Ce → Option Rcd
  | [.v (.int .i64 a), .v (.int .i64 b), .v (.int .i64 c)] => some ⟨a, b, c⟩
  | _ => none
theorem decR_ok (r : List Ce) (x : Rcd) (h : decR r = some x) : r.map RT.of = (eR x).map some := by
  unfold decR at h
  split at h
  · simp only [Option.some.injEq] at h; subst h; rfl
  · cases h
def orc : Y.CallFn := fun c avs K top => match c, avs with
  | .fn g [], [.pl (.agg [.v (.int .i64 t), .v (.int .i64 w), ci, .v (.int .i64 a), .v (.int .i64 b)]), .pl (.agg [.v (.slice none 0 0)]), .pl (.one cr)] => match Nat.beq g 31, Y.rowsD 1 1000 Y.decI64 K.get ci, Y.rowsD 3 1000 decR K.get cr with
    | true, some ins, some rs => some ⟨dOut (runT ⟨t, w, ins, a, b⟩ [] rs), K, top, []⟩
    | _, _, _ => none
  | _, _ => none
theorem orc_sound : Y.CallsOk Try.prog orc := by
  intro c avs K top r h
  unfold orc at h
  split at h
  · rename_i g t w ci a b cr
    split at h
    · have hg : Nat.beq g 31 = true := by assumption
      rename_i ins rs _ h1 h2
      simp only [Option.some.injEq] at h
      subst h
      obtain ⟨g1, g2⟩ := Y.rowsD_low (en := Ops.eI) Y.decI64_ok h1
      obtain ⟨g3, g4⟩ := Y.rowsD_low (en := eR) decR_ok h2
      have := Nat.eq_of_beq_eq_true hg
      subst this
      exact ⟨Y.con_callE (args := [.agg [.v (.int .i64 t), .v (.int .i64 w), .ro false 1 (ins.map Ops.eI), .v (.int .i64 a), .v (.int .i64 b)], .agg [.ro false 4 (([] : List Kc).map eK)], .one (.ro false 3 (rs.map eR))]) ⟨⟨rfl, rfl, g1, rfl, rfl, trivial⟩, ⟨.inr ⟨4, rfl⟩, trivial⟩, g3, trivial⟩ (trun_con ⟨t, w, ins, a, b⟩ [] rs (by dsimp only; omega) (by simp) (fun _ h => nomatch h) (by omega)) rfl, fun _ _ => rfl⟩
    · cases h
  · cases h
theorem wakes_con : Con Try.prog 12 [] (fun x K t => x = .val (.bool true) ∧ K = [] ∧ t = 0) := Y.con_runO ftabOk tabOk mixOk orc_sound 40 12 (by kernel_rfl) (by kernel_rfl)
end Go.Proofs.Ytehhmkdghgabaaa
namespace Go.Proofs.Ytehhmkdghgabaaa
open Go Go.RowKit Wx
set_option linter.unusedVariables false
set_option linter.unusedSimpArgs false
set_option maxHeartbeats 4000000
theorem loopQ3 {P : Program} {n m : Nat} {rd : Option Nat} {s : Z.S} {c : Code} {Q : Exit → Z.S → Prop} {s9 : Z.S} (h : ∀ Q0 : Exit → Z.S → Prop, Q0 (.exit 0) s9 → Z.LoopZ P n m rd c s Q0) (k : Q (.exit 0) s9) : Z.LoopZ P n m rd c s Q := h Q k
end Go.Proofs.Ytehhmkdghgabaaa
namespace Go.Proofs.Ytehhmkdghgabaaa
open Go Go.RowKit Wx
set_option linter.unusedVariables false
set_option linter.unusedSimpArgs false
set_option maxHeartbeats 4000000
theorem tableruns_con (o : Opr) (x : List Kc) (l : List Rcd) (hi : o.ins.length ≤ 9223372036854775807) (hx : x.length ≤ 9223372036854775807) (hcx : okC x) (hl : l.length ≤ 9223372036854775807) : Con Try.prog 5 [.agg [.v (.int .i64 o.t), .v (.int .i64 o.w), .ro false 1 (o.ins.map Ops.eI), .v (.int .i64 o.a), .v (.int .i64 o.b)], .agg [.ro false 4 (x.map eK)], .one (.ro false 3 (l.map eR))] (fun rx rK rt => rx = .val (.bool true) ∧ rK = [] ∧ rt = 0) := by
  refine Z.con_ofF tabOk 127 Try.f5 _ Try.func5 (by kernel_rfl) rfl rfl rfl rfl ?_
  have co := opc_con o hi
  have hoi : (opF o).ins.length ≤ 9223372036854775807 := Nat.le_trans (show (o.ins.take 10).length ≤ 10 by rw [List.length_take]; exact Nat.min_le_left _ _) (by decide)
  have cs := short_con x hx
  have hL9 : (x.take 257).length ≤ 257 := by rw [List.length_take]; exact Nat.min_le_left _ _
  have hT : okC (x.take 257) := fun y hy => hcx y (List.mem_of_mem_take hy)
  generalize x.take 257 = T at *
  have cfw := fewr_con l hl
  have hr9 : (l.take 41).length ≤ 41 := by rw [List.length_take]; exact Nat.min_le_left _ _
  generalize l.take 41 = rs at *
  have m2 := rsame_con T T (by omega)
  rw [decide_eq_true (rfl : T = T)] at m2
  repeat' ((conv => whnf); first
    | ((with_reducible apply spB_cong); (focus (simp only [beq_self_eq_true, bne_self_eq_false, Bool.true_bne, Bool.false_bne, Bool.bne_true, Bool.bne_false, Bool.true_beq, Bool.false_beq, Bool.not_true, Bool.not_false, Bool.not_not, Int.reduceBEq, Int.reduceBNe, Int.reduceLE, Int.reduceLT, Int.reduceEq, decide_true, decide_false]; rfl)))
    | with_reducible first | refine spB_no (by decide) ?_
    | ((first | (with_reducible refine Z.callZ_mk ?_ (wakes_con) ?_) | (with_reducible refine Z.conZ_mz ?_ (cs) ?_) | (with_reducible refine Z.conZ_mz ?_ (cfw) ?_)); (focus ((repeat' (first | exact trivial | exact rfl | apply And.intro)); done)))
    | with_reducible first | refine Z.drawZ_rule tabOk mixOk ?_ | refine Z.apZ_mk (by kernel_rfl) ?_
    | fail)
  all_goals (try (conv => whnf))
  all_goals try (show Nat.ble _ _ = true; rfl)
  all_goals try (exfalso; rename_i hz; cases hz; done)
  all_goals try (exfalso; (try simp only [LN] at *) <;> omega)
  refine Z.loopK tabOk (fun zq : Nat => [(34, .val (.int .i64 (zq : Int)))]) (fun zq : Nat => ([(0, some (Z.Ob.b ⟨[[.v (.int .i64 o.t), .v (.int .i64 o.w), .ro false 1 (o.ins.map Ops.eI), .v (.int .i64 o.a), .v (.int .i64 o.b)]], 5, 25, true⟩)), (2, some (Z.Ob.b ⟨[[.ro true 4 (T.map eK)]], 1, 30, true⟩)), (3, some (Z.Ob.b ⟨[[.ro true 4 (T.map eK)]], 1, 30, true⟩))] : Z.Kr)) (fun zq => zq ≤ rs.length) (fun zq => rs.length - zq) 0 4 [(2, _), (3, _), (7, _), (8, _), (9, _), (32, _), (33, _)] ⟨rfl, rfl, rfl, rfl, rfl, rfl, rfl, trivial⟩ [] trivial ?_ ?_ rfl rfl (Nat.zero_le _) ?_
  · repeat' (first | exact trivial | apply And.intro | exact ⟨_, rfl, Z.Imp.refl _⟩)
  · repeat' (first | exact trivial | exact (fun b hb => ⟨b, hb, Z.ImpO.refl b⟩) | apply And.intro)
  rintro i HINV
  (try dsimp only at HINV); (try dsimp only)
  by_cases hi2 : i < rs.length ∧ i ≠ 6
  · obtain ⟨hi2, hi6⟩ := hi2
    obtain ⟨r, hr⟩ := getElem?_some' (xs := rs) (i := i) hi2
    have cdo := tdo_con (opF o) T r hoi (by omega) hT
    have crd := rdo12_con (opF o) T r hoi (by omega) hT
    have h7 := doT_len (o := opF o) (l := T) (r := r) hT
    have h8 := doT_out (o := opF o) (l := T) (r := r)
    generalize doT (opF o) T r = D at *
    obtain ⟨R, O, e⟩ := D
    unfold opF at cdo crd
    dsimp only at cdo crd h7 h8
    have m1 := rsame_con R R (by omega)
    rw [decide_eq_true (rfl : R = R)] at m1
    have s1 := samerec_con O O (by omega)
    rw [decide_eq_true (rfl : O = O)] at s1
    repeat' ((conv => whnf); first
      | ((with_reducible apply spB_cong); (focus (simp only [beq_self_eq_true, bne_self_eq_false, Bool.true_bne, Bool.false_bne, Bool.bne_true, Bool.bne_false, Bool.true_beq, Bool.false_beq, Bool.not_true, Bool.not_false, Bool.not_not, Int.reduceBEq, Int.reduceBNe, Int.reduceLE, Int.reduceLT, Int.reduceEq, decide_true, decide_false]; rfl)))
      | with_reducible first | refine spB_no (by decide) ?_
      | (with_reducible refine spB_dec ?_ ?_ <;> intro _ <;> (try (exfalso; first | contradiction | omega | (rename_i hz; refine hz ?_; simp; done) | (rename_i hz; simp at hz; done) | (simp only [LN] at *; omega))))
      | (with_reducible refine spB_beq ?_ ?_ <;> intro _ <;> (try (exfalso; first | contradiction | omega | (rename_i hz; refine hz ?_; simp; done) | (rename_i hz; simp at hz; done) | (simp only [LN] at *; omega))))
      | with_reducible first | refine Z.rowN_known hr ?_
      | ((with_reducible apply ixN_litp); (focus (exact rfl)); (focus ((try simp only [LN] at *) <;> omega)))
      | with_reducible refine wr_i64 (by first | omega | (simp only [LN] at *; omega)) ?_
      | ((first | (with_reducible refine Z.conZ_mz ?_ (co) ?_) | (with_reducible refine Z.conZ_mz ?_ (cdo) ?_) | (with_reducible refine Z.conZ_mz ?_ (crd) ?_) | (with_reducible refine Z.callZ_mk ?_ (s1) ?_)); (focus ((repeat' (first | exact trivial | exact rfl | apply And.intro)); done)))
      | ((first | (with_reducible refine Z.callZ_mk ?_ (m1) ?_)); (focus ((repeat' (first | exact trivial | exact rfl | apply And.intro)); done)))
      | ((first | (with_reducible refine Z.callZ_mk ?_ (m2) ?_)); (focus ((repeat' (first | exact trivial | exact rfl | apply And.intro)); done)))
      | with_reducible first | refine Z.drawZ_rule tabOk mixOk ?_ | refine Z.apZ_mk (by kernel_rfl) ?_
      | fail)
    all_goals (try (conv => whnf))
    all_goals try (show Nat.ble _ _ = true; rfl)
    all_goals try (exfalso; rename_i hz; cases hz; done)
    all_goals try (exfalso; (try simp only [LN] at *) <;> omega)
    all_goals first
      | ((refine Z.rndK ((i + 1)) (fun s => [0, 1, 2, 3]) rfl rfl rfl rfl ?_ ?_ ?_ ?_); (focus (repeat' (first | exact trivial | exact rfl | apply And.intro))); (focus (repeat' (first | exact trivial | (intro b hb; cases hb; rfl) | apply And.intro))); (focus (((try dsimp only); omega))); ((try dsimp only); omega))
      | fail
  have crun := trun_con (opF o) T rs hoi (by omega) hT (by omega)
  have cown := trun_own (opF o) T rs hoi (by omega) hT
  have crr := rrun12_con (opF o) T rs hoi (by omega) hT (by omega)
  have h7 := runT_len (o := opF o) (l := T) (rs := rs) hT
  have h8 := runT_out (o := opF o) (l := T) (rs := rs)
  have h9 := runT_err (o := opF o) (l := T) (rs := rs)
  generalize runT (opF o) T rs = D at *
  obtain ⟨R, O, e⟩ := D
  unfold opF at crun cown crr
  dsimp only at crun cown crr h7 h8 h9
  have m1 := rsame_con R R (by omega)
  rw [decide_eq_true (rfl : R = R)] at m1
  have s1 := samerec_con O O (by omega)
  rw [decide_eq_true (rfl : O = O)] at s1
  have s2 := samerec_con rs rs (by omega)
  rw [decide_eq_true (rfl : rs = rs)] at s2
  have hx6 : (i = 6 ∧ i < rs.length) ∨ i = rs.length := by omega
  by_cases hR : R = []
  · clear cown
    subst hR
    rcases hx6 with ⟨rfl, h6⟩ | rfl
    · obtain ⟨r, hr⟩ := getElem?_some' (xs := rs) (i := 6) h6
      repeat' ((conv => whnf); first
        | ((with_reducible apply spB_cong); (focus (simp only [beq_self_eq_true, bne_self_eq_false, Bool.true_bne, Bool.false_bne, Bool.bne_true, Bool.bne_false, Bool.true_beq, Bool.false_beq, Bool.not_true, Bool.not_false, Bool.not_not, Int.reduceBEq, Int.reduceBNe, Int.reduceLE, Int.reduceLT, Int.reduceEq, decide_true, decide_false]; rfl)))
        | with_reducible first | refine spB_yes (by decide) ?_ | refine spB_no (by decide) ?_
        | (with_reducible refine spB_dec ?_ ?_ <;> intro _ <;> (try (exfalso; first | contradiction | omega | (rename_i hz; refine hz ?_; simp; done) | (rename_i hz; simp at hz; done) | (simp only [LN] at *; omega))))
        | with_reducible first | refine Z.rowN_known hr ?_ | refine Z.loopZ_unroll tabOk 1 ?_
        | ((with_reducible apply ixN_litp); (focus (exact rfl)); (focus ((try simp only [LN] at *) <;> omega)))
        | with_reducible first | refine Z.callZ_in tabOk 16 Try.f26 _ Try.func26 (by kernel_rfl) rfl rfl rfl ?_
        | ((first | (with_reducible refine Z.conZ_mz ?_ (co) ?_) | (with_reducible refine Z.conZ_mz ?_ (cfw) ?_) | (with_reducible refine Z.callZ_mk ?_ (cfw) ?_) | (with_reducible refine Z.conZ_mz ?_ (crun) ?_) | (with_reducible refine Z.conZ_mz ?_ (crr) ?_)); (focus ((repeat' (first | exact trivial | exact rfl | apply And.intro)); done)))
        | ((first | (with_reducible refine Z.callZ_mk ?_ (m1) ?_)); (focus ((repeat' (first | exact trivial | exact rfl | apply And.intro)); done)))
        | ((first | (with_reducible refine Z.callZ_mk ?_ (m2) ?_)); (focus ((repeat' (first | exact trivial | exact rfl | apply And.intro)); done)))
        | ((first | (with_reducible refine Z.callZ_mk ?_ (s1) ?_)); (focus ((repeat' (first | exact trivial | exact rfl | apply And.intro)); done)))
        | ((first | (with_reducible refine Z.callZ_mk ?_ (s2) ?_)); (focus ((repeat' (first | exact trivial | exact rfl | apply And.intro)); done)))
        | ((with_reducible apply ex_and); exact rfl)
        | with_reducible first | refine Z.drawZ_rule tabOk mixOk ?_ | refine Z.apZ_mk (by kernel_rfl) ?_
        | fail)
      all_goals (try (conv => whnf))
      all_goals try (show Nat.ble _ _ = true; rfl)
      all_goals try (exfalso; rename_i hz; cases hz; done)
      all_goals try (exfalso; (try simp only [LN] at *) <;> omega)
      all_goals first
        | ((first | (with_reducible apply Z.retF1)); (focus (exact rfl)); (repeat' (first | exact trivial | exact rfl | apply And.intro)); (all_goals (try exact (fun _ => none))); all_goals (first | (simp; done)))
        | fail
    · skip
      repeat' ((conv => whnf); first
        | ((with_reducible apply spB_cong); (focus (simp only [beq_self_eq_true, bne_self_eq_false, Bool.true_bne, Bool.false_bne, Bool.bne_true, Bool.bne_false, Bool.true_beq, Bool.false_beq, Bool.not_true, Bool.not_false, Bool.not_not, Int.reduceBEq, Int.reduceBNe, Int.reduceLE, Int.reduceLT, Int.reduceEq, decide_true, decide_false]; rfl)))
        | with_reducible first | refine spB_no (by decide) ?_
        | (with_reducible refine spB_dec ?_ ?_ <;> intro _ <;> (try (exfalso; first | contradiction | omega | (rename_i hz; refine hz ?_; simp; done) | (rename_i hz; simp at hz; done) | (simp only [LN] at *; omega))))
        | with_reducible first | refine Z.loopZ_unroll tabOk 1 ?_
        | with_reducible first | refine Z.callZ_in tabOk 16 Try.f26 _ Try.func26 (by kernel_rfl) rfl rfl rfl ?_
        | ((first | (with_reducible refine Z.conZ_mz ?_ (co) ?_) | (with_reducible refine Z.conZ_mz ?_ (cfw) ?_) | (with_reducible refine Z.callZ_mk ?_ (cfw) ?_) | (with_reducible refine Z.conZ_mz ?_ (crun) ?_) | (with_reducible refine Z.conZ_mz ?_ (crr) ?_)); (focus ((repeat' (first | exact trivial | exact rfl | apply And.intro)); done)))
        | ((first | (with_reducible refine Z.callZ_mk ?_ (m1) ?_)); (focus ((repeat' (first | exact trivial | exact rfl | apply And.intro)); done)))
        | ((first | (with_reducible refine Z.callZ_mk ?_ (m2) ?_)); (focus ((repeat' (first | exact trivial | exact rfl | apply And.intro)); done)))
        | ((first | (with_reducible refine Z.callZ_mk ?_ (s1) ?_)); (focus ((repeat' (first | exact trivial | exact rfl | apply And.intro)); done)))
        | ((first | (with_reducible refine Z.callZ_mk ?_ (s2) ?_)); (focus ((repeat' (first | exact trivial | exact rfl | apply And.intro)); done)))
        | ((with_reducible apply ex_and); exact rfl)
        | with_reducible first | refine Z.drawZ_rule tabOk mixOk ?_ | refine Z.apZ_mk (by kernel_rfl) ?_
        | fail)
      all_goals (try (conv => whnf))
      all_goals try (show Nat.ble _ _ = true; rfl)
      all_goals try (exfalso; rename_i hz; cases hz; done)
      all_goals try (exfalso; (try simp only [LN] at *) <;> omega)
      all_goals first
        | ((first | (with_reducible apply Z.retF1)); (focus (exact rfl)); (repeat' (first | exact trivial | exact rfl | apply And.intro)); (all_goals (try exact (fun _ => none))); all_goals (first | (simp; done)))
        | fail
  have he : e = 0 := Decidable.byContradiction fun h => hR (h9 h)
  subst he
  have cown := cown rfl hR
  clear crun
  rcases hx6 with ⟨rfl, h6⟩ | rfl
  · obtain ⟨r, hr⟩ := getElem?_some' (xs := rs) (i := 6) h6
    repeat' ((conv => whnf); first
      | ((with_reducible apply spB_cong); (focus (simp only [beq_self_eq_true, bne_self_eq_false, Bool.true_bne, Bool.false_bne, Bool.bne_true, Bool.bne_false, Bool.true_beq, Bool.false_beq, Bool.not_true, Bool.not_false, Bool.not_not, Int.reduceBEq, Int.reduceBNe, Int.reduceLE, Int.reduceLT, Int.reduceEq, decide_true, decide_false]; rfl)))
      | with_reducible first | refine spB_yes (by decide) ?_ | refine spB_no (by decide) ?_
      | (with_reducible refine spB_dec ?_ ?_ <;> intro _ <;> (try (exfalso; first | contradiction | omega | (rename_i hz; refine hz ?_; simp; done) | (rename_i hz; simp at hz; done) | (simp only [LN] at *; omega))))
      | with_reducible first | refine Z.rowN_known hr ?_
      | ((with_reducible apply ixN_litp); (focus (exact rfl)); (focus ((try simp only [LN] at *) <;> omega)))
      | with_reducible first | refine Z.callZ_in tabOk 16 Try.f26 _ Try.func26 (by kernel_rfl) rfl rfl rfl ?_
      | ((first | (with_reducible refine Z.conZ_mz ?_ (co) ?_) | (with_reducible refine Z.conZ_mz ?_ (cfw) ?_) | (with_reducible refine Z.callZ_mk ?_ (cfw) ?_) | (with_reducible refine Z.conZ_mz ?_ (cown) ?_) | (with_reducible refine Z.conZ_mz ?_ (crr) ?_)); (focus ((repeat' (first | exact trivial | exact rfl | apply And.intro)); done)))
      | ((first | (with_reducible refine Z.callZ_mk ?_ (m1) ?_)); (focus ((repeat' (first | exact trivial | exact rfl | exact low_oslr (fun _ => rfl) | apply And.intro)); done)))
      | ((first | (with_reducible refine Z.callZ_mk ?_ (s1) ?_)); (focus ((repeat' (first | exact trivial | exact rfl | apply And.intro)); done)))
      | ((first | (with_reducible refine Z.callZ_mk ?_ (s2) ?_)); (focus ((repeat' (first | exact trivial | exact rfl | apply And.intro)); done)))
      | with_reducible first | refine Z.drawZ_rule tabOk mixOk ?_ | refine Z.apZ_mk (by kernel_rfl) ?_
      | fail)
    all_goals (try (conv => whnf))
    all_goals try (show Nat.ble _ _ = true; rfl)
    all_goals try (exfalso; rename_i hz; cases hz; done)
    all_goals try (exfalso; (try simp only [LN] at *) <;> omega)
    apply loopQ3
    · intro Q1 hq8
      refine Z.loopK tabOk (fun zq : Nat => [(6, .val (.int .i64 (zq : Int)))]) (fun zq : Nat => ([(2, some (Z.Ob.b ⟨[[.ro true 4 (T.map eK)]], 1, 30, true⟩)), (3, some (Z.Ob.b ⟨[[.ro true 4 (T.map eK)]], 1, 30, true⟩)), (8, some (Z.Ob.b ⟨[[.osl 5 0 R.length none]], 1, 30, true⟩)), (5, some (Z.Ob.b ⟨(spR R zq ++ []).map cK, 4, 74, false⟩))] : Z.Kr)) (fun zq => zq ≤ R.length) (fun zq => R.length - zq) 0 9 [(1, _), (5, _)] ⟨rfl, rfl, trivial⟩ [] trivial ?_ ?_ rfl rfl (Nat.zero_le _) ?_
      · repeat' (first | exact trivial | apply And.intro | exact ⟨_, rfl, Z.Imp.refl _⟩)
      · repeat' (first | exact trivial | exact (fun b hb => ⟨b, hb, Z.ImpO.refl b⟩) | (intro b hb; cases hb; refine ⟨_, rfl, ⟨rfl, rfl, rfl⟩, Z.imp_eq ?_⟩; first | rfl | (rw [spR_zero, List.append_nil]; first | rfl | exact ren_cK | exact ren_cK.trans ren_cK); done) | apply And.intro)
      rintro j HINV
      (try dsimp only at HINV); (try dsimp only)
      by_cases hj : j < R.length
      · obtain ⟨z, hz⟩ := getElem?_some' (xs := R) (i := j) hj
        repeat' ((conv => whnf); first
          | (with_reducible refine spB_dec ?_ ?_ <;> intro _ <;> (try (exfalso; first | contradiction | omega | (rename_i hz; refine hz ?_; simp; done) | (rename_i hz; simp at hz; done) | (simp only [LN] at *; omega))))
          | ((with_reducible refine rowN_mk (cK z) ?_ ?_); (focus (exact spR_get hz)))
          | ((with_reducible apply ixN_litp); (focus (exact rfl)); (focus ((try simp only [LN] at *) <;> omega)))
          | with_reducible refine wr_i64 (by first | omega | (simp only [LN] at *; omega)) ?_
          | fail)
        all_goals (try (conv => whnf))
        all_goals try (show Nat.ble _ _ = true; rfl)
        all_goals try (exfalso; rename_i hz; cases hz; done)
        all_goals try (exfalso; (try simp only [LN] at *) <;> omega)
        all_goals first
          | ((refine Z.rnd_rw 5 ((spR R (j + 1) ++ []).map cK) rfl rfl ?_ ?_); (focus (exact spR_set hz)); ((refine Z.rndK ((j + 1)) (fun s => [0, 1, 2, 3, 4, 5, 6, 7, 8]) rfl rfl rfl rfl ?_ ?_ ?_ ?_); (focus (repeat' (first | exact trivial | exact rfl | apply And.intro))); (focus (repeat' (first | exact trivial | (intro b hb; cases hb; rfl) | exact Z.blk_sub rfl rfl (ren_map fun _ => rfl) | apply And.intro))); (focus (((try dsimp only); omega))); ((try dsimp only); omega)))
          | fail
      have hjl : j = R.length := by omega
      subst hjl
      repeat' ((conv => whnf); first
        | (with_reducible refine spB_dec ?_ ?_ <;> intro _ <;> (try (exfalso; first | contradiction | omega | (rename_i hz; refine hz ?_; simp; done) | (rename_i hz; simp at hz; done) | (simp only [LN] at *; omega))))
        | fail)
      all_goals (try (conv => whnf))
      exact hq8
    repeat' ((conv => whnf); first
      | ((first | (with_reducible refine Z.callZ_mk ?_ (m2) ?_)); (focus ((repeat' (first | exact trivial | exact rfl | apply And.intro)); done)))
      | ((with_reducible apply ex_and); exact rfl)
      | fail)
    all_goals (try (conv => whnf))
    all_goals try (show Nat.ble _ _ = true; rfl)
    all_goals try (exfalso; rename_i hz; cases hz; done)
    all_goals try (exfalso; (try simp only [LN] at *) <;> omega)
    all_goals first
      | ((first | (with_reducible apply Z.retF1)); (focus (exact rfl)); (repeat' (first | exact trivial | exact rfl | apply And.intro)); (all_goals (try exact (fun _ => none))); all_goals (first | (simp; done)))
      | fail
  · skip
    repeat' ((conv => whnf); first
      | ((with_reducible apply spB_cong); (focus (simp only [beq_self_eq_true, bne_self_eq_false, Bool.true_bne, Bool.false_bne, Bool.bne_true, Bool.bne_false, Bool.true_beq, Bool.false_beq, Bool.not_true, Bool.not_false, Bool.not_not, Int.reduceBEq, Int.reduceBNe, Int.reduceLE, Int.reduceLT, Int.reduceEq, decide_true, decide_false]; rfl)))
      | with_reducible first | refine spB_no (by decide) ?_
      | (with_reducible refine spB_dec ?_ ?_ <;> intro _ <;> (try (exfalso; first | contradiction | omega | (rename_i hz; refine hz ?_; simp; done) | (rename_i hz; simp at hz; done) | (simp only [LN] at *; omega))))
      | with_reducible first | refine Z.callZ_in tabOk 16 Try.f26 _ Try.func26 (by kernel_rfl) rfl rfl rfl ?_
      | ((first | (with_reducible refine Z.conZ_mz ?_ (co) ?_) | (with_reducible refine Z.conZ_mz ?_ (cfw) ?_) | (with_reducible refine Z.callZ_mk ?_ (cfw) ?_) | (with_reducible refine Z.conZ_mz ?_ (cown) ?_) | (with_reducible refine Z.conZ_mz ?_ (crr) ?_)); (focus ((repeat' (first | exact trivial | exact rfl | apply And.intro)); done)))
      | ((first | (with_reducible refine Z.callZ_mk ?_ (m1) ?_)); (focus ((repeat' (first | exact trivial | exact rfl | exact low_oslr (fun _ => rfl) | apply And.intro)); done)))
      | ((first | (with_reducible refine Z.callZ_mk ?_ (s1) ?_)); (focus ((repeat' (first | exact trivial | exact rfl | apply And.intro)); done)))
      | ((first | (with_reducible refine Z.callZ_mk ?_ (s2) ?_)); (focus ((repeat' (first | exact trivial | exact rfl | apply And.intro)); done)))
      | with_reducible first | refine Z.drawZ_rule tabOk mixOk ?_ | refine Z.apZ_mk (by kernel_rfl) ?_
      | fail)
    all_goals (try (conv => whnf))
    all_goals try (show Nat.ble _ _ = true; rfl)
    all_goals try (exfalso; rename_i hz; cases hz; done)
    all_goals try (exfalso; (try simp only [LN] at *) <;> omega)
    apply loopQ3
    · intro Q1 hq8
      refine Z.loopK tabOk (fun zq : Nat => [(6, .val (.int .i64 (zq : Int)))]) (fun zq : Nat => ([(2, some (Z.Ob.b ⟨[[.ro true 4 (T.map eK)]], 1, 30, true⟩)), (3, some (Z.Ob.b ⟨[[.ro true 4 (T.map eK)]], 1, 30, true⟩)), (7, some (Z.Ob.b ⟨[[.osl 4 0 R.length none]], 1, 30, true⟩)), (4, some (Z.Ob.b ⟨(spR R zq ++ []).map cK, 4, 74, false⟩))] : Z.Kr)) (fun zq => zq ≤ R.length) (fun zq => R.length - zq) 0 8 [(1, _), (5, _)] ⟨rfl, rfl, trivial⟩ [] trivial ?_ ?_ rfl rfl (Nat.zero_le _) ?_
      · repeat' (first | exact trivial | apply And.intro | exact ⟨_, rfl, Z.Imp.refl _⟩)
      · repeat' (first | exact trivial | exact (fun b hb => ⟨b, hb, Z.ImpO.refl b⟩) | (intro b hb; cases hb; refine ⟨_, rfl, ⟨rfl, rfl, rfl⟩, Z.imp_eq ?_⟩; first | rfl | (rw [spR_zero, List.append_nil]; first | rfl | exact ren_cK | exact ren_cK.trans ren_cK); done) | apply And.intro)
      rintro j HINV
      (try dsimp only at HINV); (try dsimp only)
      by_cases hj : j < R.length
      · obtain ⟨z, hz⟩ := getElem?_some' (xs := R) (i := j) hj
        repeat' ((conv => whnf); first
          | (with_reducible refine spB_dec ?_ ?_ <;> intro _ <;> (try (exfalso; first | contradiction | omega | (rename_i hz; refine hz ?_; simp; done) | (rename_i hz; simp at hz; done) | (simp only [LN] at *; omega))))
          | ((with_reducible refine rowN_mk (cK z) ?_ ?_); (focus (exact spR_get hz)))
          | ((with_reducible apply ixN_litp); (focus (exact rfl)); (focus ((try simp only [LN] at *) <;> omega)))
          | with_reducible refine wr_i64 (by first | omega | (simp only [LN] at *; omega)) ?_
          | fail)
        all_goals (try (conv => whnf))
        all_goals try (show Nat.ble _ _ = true; rfl)
        all_goals try (exfalso; rename_i hz; cases hz; done)
        all_goals try (exfalso; (try simp only [LN] at *) <;> omega)
        all_goals first
          | ((refine Z.rnd_rw 4 ((spR R (j + 1) ++ []).map cK) rfl rfl ?_ ?_); (focus (exact spR_set hz)); ((refine Z.rndK ((j + 1)) (fun s => [0, 1, 2, 3, 4, 5, 6, 7]) rfl rfl rfl rfl ?_ ?_ ?_ ?_); (focus (repeat' (first | exact trivial | exact rfl | apply And.intro))); (focus (repeat' (first | exact trivial | (intro b hb; cases hb; rfl) | exact Z.blk_sub rfl rfl (ren_map fun _ => rfl) | apply And.intro))); (focus (((try dsimp only); omega))); ((try dsimp only); omega)))
          | fail
      have hjl : j = R.length := by omega
      subst hjl
      repeat' ((conv => whnf); first
        | (with_reducible refine spB_dec ?_ ?_ <;> intro _ <;> (try (exfalso; first | contradiction | omega | (rename_i hz; refine hz ?_; simp; done) | (rename_i hz; simp at hz; done) | (simp only [LN] at *; omega))))
        | fail)
      all_goals (try (conv => whnf))
      exact hq8
    repeat' ((conv => whnf); first
      | ((first | (with_reducible refine Z.callZ_mk ?_ (m2) ?_)); (focus ((repeat' (first | exact trivial | exact rfl | apply And.intro)); done)))
      | ((with_reducible apply ex_and); exact rfl)
      | fail)
    all_goals (try (conv => whnf))
    all_goals try (show Nat.ble _ _ = true; rfl)
    all_goals try (exfalso; rename_i hz; cases hz; done)
    all_goals try (exfalso; (try simp only [LN] at *) <;> omega)
    all_goals first
      | ((first | (with_reducible apply Z.retF1)); (focus (exact rfl)); (repeat' (first | exact trivial | exact rfl | apply And.intro)); (all_goals (try exact (fun _ => none))); all_goals (first | (simp; done)))
      | fail
end Go.Proofs.Ytehhmkdghgabaaa
namespace Go.Proofs.Ytehhmkdghgabaaa
open Go Go.RowKit Wx
set_option linter.unusedVariables false
set_option linter.unusedSimpArgs false
set_option maxHeartbeats 4000000
end Go.Proofs.Ytehhmkdghgabaaa
namespace Go.Proofs.Ytehhmkdghgabaaa
open Go Go.RowKit Wx
set_option linter.unusedVariables false
set_option linter.unusedSimpArgs false
set_option maxHeartbeats 4000000
end Go.Proofs.Ytehhmkdghgabaaa
namespace Go.Proofs.Ytehhmkdghgabaaa
open Go Go.RowKit Wx
set_option linter.unusedVariables false
set_option linter.unusedSimpArgs false
set_option maxHeartbeats 40000000
end Go.Proofs.Ytehhmkdghgabaaa
namespace Go.Proofs.Ytehhmkdghgabaaa
open Go Go.RowKit Wx
set_option linter.unusedVariables false
set_option linter.unusedSimpArgs false
set_option maxHeartbeats 40000000
end Go.Proofs.Ytehhmkdghgabaaa
namespace Go.Proofs.Ytehhmkdghgabaaa
open Go Go.RowKit Wx
set_option linter.unusedVariables false
set_option linter.unusedSimpArgs false
set_option maxHeartbeats 40000000
end Go.Proofs.Ytehhmkdghgabaaa
namespace Go.Proofs.Ytehhmkdghgabaaa
open Go Go.RowKit Wx
set_option linter.unusedVariables false
set_option linter.unusedSimpArgs false
set_option maxHeartbeats 40000000
end Go.Proofs.Ytehhmkdghgabaaa
namespace Go.Proofs.Ytehhmkdghgabaaa
open Go Go.RowKit Wx
set_option linter.unusedVariables false
set_option linter.unusedSimpArgs false
set_option maxHeartbeats 40000000
end Go.Proofs.Ytehhmkdghgabaaa
namespace Go.Proofs.Ytehhmkdghgabaaa
open Go Go.RowKit Wx
set_option linter.unusedVariables false
set_option linter.unusedSimpArgs false
set_option maxHeartbeats 4000000
end Go.Proofs.Ytehhmkdghgabaaa
namespace Go.Proofs.Ytehhmkdghgabaaa
open Go Go.RowKit Wx
set_option linter.unusedVariables false
set_option linter.unusedSimpArgs false
set_option maxHeartbeats 4000000
end Go.Proofs.Ytehhmkdghgabaaa
namespace Go.Proofs.Ytehhmkdghgabaaa
open Go Go.RowKit Wx
set_option linter.unusedVariables false
set_option linter.unusedSimpArgs false
set_option maxHeartbeats 4000000
end Go.Proofs.Ytehhmkdghgabaaa
namespace Go.Proofs.Ytehhmkdghgabaaa
open Go Go.RowKit Wx
set_option linter.unusedVariables false
set_option linter.unusedSimpArgs false
set_option maxHeartbeats 4000000
end Go.Proofs.Ytehhmkdghgabaaa
namespace Go.Proofs.Ytehhmkdghgabaaa
open Go Go.RowKit Wx
set_option linter.unusedVariables false
set_option linter.unusedSimpArgs false
set_option maxHeartbeats 4000000
end Go.Proofs.Ytehhmkdghgabaaa
namespace Go.Proofs.Ytehhmkdghgabaaa
open Go Go.RowKit Wx
set_option linter.unusedVariables false
set_option linter.unusedSimpArgs false
set_option maxHeartbeats 4000000
end Go.Proofs.Ytehhmkdghgabaaa
namespace Go.Proofs.Ytehhmkdghgabaaa
open Go Go.RowKit Wx
set_option linter.unusedVariables false
set_option linter.unusedSimpArgs false
set_option maxHeartbeats 4000000
def okKw (x : Kc) : Prop := (Lit.int .i64 x.src).wf = true ∧ (Lit.int .i64 x.key).wf = true ∧ (Lit.int .i64 x.cnt).wf = true ∧ (Lit.int .i64 x.sum).wf = true
theorem rowKc (row : List RT) (h : RowF (.st (.cons 3 1 (.int .i64) (.cons 3 1 (.int .i64) (.cons 41 2 (.st (.cons 2 1 (.int .i64) (.cons 2 1 (.int .i64) .nil))) .nil)))) row) : ∃ x, row = eK x ∧ okKw x := by
  obtain ⟨a0, r0, rfl, _, ⟨z0, rfl, w0⟩, a1, r1, rfl, _, ⟨z1, rfl, w1⟩, a2, r2, rfl, _, ⟨a3, r3, rfl, _, ⟨z2, rfl, w2⟩, a4, r4, rfl, _, ⟨z3, rfl, w3⟩, rfl⟩, rfl⟩ := h
  exact ⟨⟨z0, z1, z2, z3⟩, rfl, w0, w1, w2, w3⟩
structure Tb where
  rows : List Kc
abbrev eTb (x : Tb) : List RT := [RT.ro 4 (x.rows.map eK)]
def okTb (x : Tb) : Prop := (x.rows.length ≤ maxLen ∧ ∀ z ∈ x.rows, okKw z) ∧ True
theorem rowTb (row : List RT) (h : RowF (.st (.cons 28 1 (.sl (.st (.cons 3 1 (.int .i64) (.cons 3 1 (.int .i64) (.cons 41 2 (.st (.cons 2 1 (.int .i64) (.cons 2 1 (.int .i64) .nil))) .nil)))) 74 4) .nil)) row) : ∃ x, row = eTb x ∧ okTb x := by
  obtain ⟨a0, r0, rfl, _, ⟨rows0, rfl, l0, h0⟩, rfl⟩ := h
  obtain ⟨z0, rfl, k0⟩ := rows_map eK (fun z => okKw z) rowKc rows0 h0
  exact ⟨⟨z0⟩, rfl, ⟨by simpa using l0, k0⟩, trivial⟩
theorem wf64 {z : Int} (h : (Lit.int .i64 z).wf = true) : -9223372036854775808 ≤ z ∧ z ≤ 9223372036854775807 := by
  simp [Lit.wf, IntKind.min, IntKind.max, IntKind.signed, IntKind.bits] at h; omega
namespace tableBack
end tableBack
end Go.Proofs.Ytehhmkdghgabaaa
namespace Go.Proofs.Ytehhmkdghgabaaa
open Go Go.RowKit Wx
set_option linter.unusedVariables false
set_option linter.unusedSimpArgs false
set_option maxHeartbeats 4000000
abbrev eOp (o : Opr) : List RT := [RT.v (.int .i64 o.t), RT.v (.int .i64 o.w), RT.ro 1 (o.ins.map Ops.eI), RT.v (.int .i64 o.a), RT.v (.int .i64 o.b)]
theorem rowNi64 (row : List RT) (h : RowF (.int .i64) row) : ∃ z, row = Ops.eI z ∧ (Lit.int .i64 z).wf = true := by
  obtain ⟨z, rfl, w⟩ := h
  exact ⟨z, rfl, w⟩
def okOpr (x : Opr) : Prop := (Lit.int .i64 x.t).wf = true ∧ (Lit.int .i64 x.w).wf = true ∧ (x.ins.length ≤ maxLen ∧ ∀ z ∈ x.ins, (Lit.int .i64 z).wf = true) ∧ (Lit.int .i64 x.a).wf = true ∧ (Lit.int .i64 x.b).wf = true ∧ True
theorem rowOpr (row : List RT) (h : RowF (.st (.cons 3 1 (.int .i64) (.cons 3 1 (.int .i64) (.cons 23 1 (.sl (.int .i64) 3 1) (.cons 2 1 (.int .i64) (.cons 2 1 (.int .i64) .nil)))))) row) : ∃ x, row = eOp x ∧ okOpr x := by
  obtain ⟨a0, r0, rfl, _, ⟨z0, rfl, w0⟩, a1, r1, rfl, _, ⟨z1, rfl, w1⟩, a2, r2, rfl, _, ⟨rows2, rfl, l2, h2⟩, a3, r3, rfl, _, ⟨z3, rfl, w3⟩, a4, r4, rfl, _, ⟨z4, rfl, w4⟩, rfl⟩ := h
  obtain ⟨z2, rfl, k2⟩ := rows_map Ops.eI (fun z => (Lit.int .i64 z).wf = true) rowNi64 rows2 h2
  exact ⟨⟨z0, z1, z2, z3, z4⟩, rfl, w0, w1, ⟨by simpa using l2, k2⟩, w3, w4, trivial⟩
def okRcd (x : Rcd) : Prop := (Lit.int .i64 x.src).wf = true ∧ (Lit.int .i64 x.key).wf = true ∧ (Lit.int .i64 x.val).wf = true ∧ True
theorem rowRcd (row : List RT) (h : RowF (.st (.cons 3 1 (.int .i64) (.cons 3 1 (.int .i64) (.cons 2 1 (.int .i64) .nil)))) row) : ∃ x, row = eR x ∧ okRcd x := by
  obtain ⟨a0, r0, rfl, _, ⟨z0, rfl, w0⟩, a1, r1, rfl, _, ⟨z1, rfl, w1⟩, a2, r2, rfl, _, ⟨z2, rfl, w2⟩, rfl⟩ := h
  exact ⟨⟨z0, z1, z2⟩, rfl, w0, w1, w2, trivial⟩
namespace tableRuns
theorem main (avs : List A0) (h : All2 FitA [(.st (.cons 3 1 (.int .i64) (.cons 3 1 (.int .i64) (.cons 23 1 (.sl (.int .i64) 3 1) (.cons 2 1 (.int .i64) (.cons 2 1 (.int .i64) .nil)))))), (.st (.cons 28 1 (.sl (.st (.cons 3 1 (.int .i64) (.cons 3 1 (.int .i64) (.cons 41 2 (.st (.cons 2 1 (.int .i64) (.cons 2 1 (.int .i64) .nil))) .nil)))) 74 4) .nil)), (.sl (.st (.cons 3 1 (.int .i64) (.cons 3 1 (.int .i64) (.cons 2 1 (.int .i64) .nil)))) 39 3)] avs) : Con Try.prog 5 avs (fun x K t => x = .val (.bool true) ∧ K = [] ∧ t = 0) := by
  obtain ⟨x0, x1, x2, rfl, h0, h1, h2⟩ : ∃ x0 x1 x2, avs = [x0, x1, x2] ∧ FitA (.st (.cons 3 1 (.int .i64) (.cons 3 1 (.int .i64) (.cons 23 1 (.sl (.int .i64) 3 1) (.cons 2 1 (.int .i64) (.cons 2 1 (.int .i64) .nil)))))) x0 ∧ FitA (.st (.cons 28 1 (.sl (.st (.cons 3 1 (.int .i64) (.cons 3 1 (.int .i64) (.cons 41 2 (.st (.cons 2 1 (.int .i64) (.cons 2 1 (.int .i64) .nil))) .nil)))) 74 4) .nil)) x1 ∧ FitA (.sl (.st (.cons 3 1 (.int .i64) (.cons 3 1 (.int .i64) (.cons 2 1 (.int .i64) .nil)))) 39 3) x2 := by
    cases avs with
    | nil => exact h.elim
    | cons x0 r => cases r with
      | nil => exact h.2.elim
      | cons x1 r => cases r with
        | nil => exact h.2.2.elim
        | cons x2 r => cases r with
          | nil => exact ⟨x0, x1, x2, rfl, h.1, h.2.1, h.2.2.1⟩
          | cons => exact h.2.2.2.elim
  clear h
  obtain ⟨row0, hrow0, rfl⟩ := h0
  obtain ⟨o, rfl, ko⟩ := rowOpr row0 hrow0
  obtain ⟨row1, hrow1, rfl⟩ := h1
  obtain ⟨x, rfl, kx⟩ := rowTb row1 hrow1
  obtain ⟨r2, ⟨rows2, hr2, ll, hrows2⟩, rfl⟩ := h2
  simp only [List.cons.injEq, and_true] at hr2
  subst hr2
  obtain ⟨l, rfl, kl⟩ := rows_map eR (okRcd) rowRcd rows2 hrows2
  rw [List.length_map] at ll
  exact tableruns_con o x.rows l (by have := ko.2.2.1.1; simpa [maxLen] using this) (by have := kx.1.1; simpa [maxLen] using this) (fun z hz => (wf64 (kx.1.2 z hz).2.2.1).2) (by simpa [maxLen] using ll)
end tableRuns
end Go.Proofs.Ytehhmkdghgabaaa
