import Derived.Test.YtllnmdmmmkoiaaaOwn7
import Derived.Test.YtllnmdmmmkoiaaaRows
namespace Go.Proofs.Ytllnmdmmmkoiaaa
open Go Go.RowKit Wx
set_option linter.unusedVariables false
set_option linter.unusedSimpArgs false
set_option maxHeartbeats 4000000
theorem sl_6 (ws : List Wk) (ps : List Pl) (ts : List Int) (hw : ws.length ≤ 50) (hp : ps.length ≤ 100) (ht : ts.length ≤ 100) (hk : okF ws ps = true) (hok : okTs ts = true) (hfr : freshT ps ts = true) (hln : (ts.length : Int) > sumW ws - (ps.length : Int)) : Con Try.prog 4 [.agg [.ro false 2 ((ws).map eW), .ro false 2 ((ps).map eL)], .one (.ro false 1 (ts.map eI))] (fun rx rK rt => rx = .val (.bool true) ∧ rK = [] ∧ rt = 0) := by
  refine Z.con_ofF tabOk 76 Try.f4 _ Try.func4 (by kernel_rfl) rfl rfl rfl rfl ?_
  have co := over_con ws ps (by omega) (by omega)
  rw [decide_eq_false (by omega)] at co
  have cc := copied_con ws ps (by omega) (by omega)
  have cl := lay_con ws ps ts (by omega) (by omega) (by omega)
  have ct := take_con ws ps ts (by omega) (by omega) (by omega)
  have cr := right_con ws ps (by omega) (by omega)
  have cs := rsame_con ws ws ps ps (by omega) (by omega)
  rw [decide_eq_true (p := ws = ws ∧ ps = ps) ⟨rfl, rfl⟩] at cs
  have cs0 := rsame_con [] [] [] [] (by simp) (by simp)
  rw [decide_eq_true (p := ([] : List Wk) = [] ∧ ([] : List Pl) = []) ⟨rfl, rfl⟩] at cs0
  rw [hk] at cr
  have hany0 : ts.any (badR ps ts) = false := by have := fresh_bad (ts := ts) (okF_wk0 hk); rw [hfr] at this; simpa using this.symm
  rw [show layR ws ps ts = ([], [], 6) by unfold layR wantT; rw [if_pos hk, hok, hfr, cond_true, cond_true, if_pos hln]; rfl] at cl
  dsimp only at cl
  have cf := rfree_con ws ps (by omega) (by omega) hk
  repeat' ((conv => whnf); first
    | ((with_reducible apply spB_cong); (focus (simp only [beq_self_eq_true, bne_self_eq_false, Bool.true_bne, Bool.false_bne, Bool.bne_true, Bool.bne_false, Bool.true_beq, Bool.false_beq, Bool.not_true, Bool.not_false, Bool.not_not, Int.reduceBEq, Int.reduceBNe, Int.reduceLE, Int.reduceLT, Int.reduceEq, decide_true, decide_false, bne_self_eq_false, beq_self_eq_true]; rfl)))
    | with_reducible first | refine spB_no (by decide) ?_
    | (with_reducible refine spB_dec ?_ ?_ <;> intro _ <;> (try (exfalso; first | contradiction | omega | (rename_i hz; refine hz ?_; simp; done) | (rename_i hz; simp at hz; done) | (simp only [LN] at *; omega))))
    | ((with_reducible refine apdE_n ?_); (with_reducible refine apdN.mk ?_ ?_ ?_ ?_ ?_ ?_); (focus (simp; done)); (focus (exact one_map2 fun _ => rfl)); (focus ((try simp only [LN] at *) <;> omega)); (focus ((try simp only [LN] at *) <;> omega)); (focus ((try simp only [LN] at *) <;> omega)))
    | with_reducible first | refine Z.callZ_in tabOk 125 Try.f19 _ Try.func19 (by kernel_rfl) rfl rfl rfl ?_
    | ((first | (with_reducible refine Z.callZ_mk ?_ (wakes_con) ?_) | (with_reducible refine Z.callZ_mk ?_ (co) ?_) | (with_reducible refine Z.callZ_mk ?_ (cc) ?_) | (with_reducible refine Z.conZ_mz ?_ (cl) ?_) | (with_reducible refine Z.callZ_mk ?_ (cr) ?_)); (focus ((repeat' (first | exact trivial | (refine low_cp0 ?_; (simp only [List.length_map, Nat.zero_add]; done)) | exact rfl | apply And.intro)); done)))
    | with_reducible first | refine Z.drawZ_rule tabOk mixOk ?_ | refine Z.apZ_mk (by kernel_rfl) ?_)
  all_goals (try (conv => whnf))
  all_goals try (show Nat.ble _ _ = true; rfl)
  all_goals try (exfalso; rename_i hz; cases hz; done)
  all_goals try (exfalso; (try simp only [LN] at *) <;> omega)
  refine Z.loopK tabOk (fun zq : Nat => [(6, .val (.int .i64 (zq : Int)))]) (fun zq : Nat => ([] : Z.Kr)) (fun zq => zq ≤ ts.length ∧ okTs (ts.take zq) = true) (fun zq => ts.length - zq) 0 7 [(1, _), (2, _), (4, _)] ⟨rfl, rfl, rfl, trivial⟩ [(0, some _), (1, some _), (4, some _), (5, some _), (6, some _)] ⟨rfl, rfl, rfl, rfl, rfl, trivial⟩ ?_ ?_ rfl rfl ⟨Nat.zero_le _, rfl⟩ ?_
  · repeat' (first | exact trivial | apply And.intro | exact ⟨_, rfl, Z.Imp.refl _⟩)
  · repeat' (first | exact trivial)
  rintro i HINV
  dsimp only at HINV ⊢
  obtain ⟨HI, HO⟩ := HINV
  by_cases hi : i < ts.length
  · obtain ⟨x, hx⟩ := getElem?_some' (xs := ts) (i := i) hi
    by_cases hb : 0 ≤ x ∧ x < 16
    · skip
      repeat' ((conv => whnf); first
        | with_reducible first | refine spB_no (by decide) ?_
        | (with_reducible refine spB_dec ?_ ?_ <;> intro _ <;> (try (exfalso; first | contradiction | omega | (rename_i hz; refine hz ?_; simp; done) | (rename_i hz; simp at hz; done) | (simp only [LN] at *; omega))))
        | with_reducible first | refine Z.rowN_known hx ?_
        | ((with_reducible apply ixN_litp); (focus (exact rfl)); (focus ((try simp only [LN] at *) <;> omega)))
        | with_reducible refine wr_i64 (by first | omega | (simp only [LN] at *; omega)) ?_)
      all_goals (try (conv => whnf))
      all_goals try (show Nat.ble _ _ = true; rfl)
      all_goals first
        | ((refine Z.rndK ((i + 1)) (fun s => [0, 1, 2, 3, 4, 5, 6]) rfl rfl rfl rfl ?_ ?_ ?_ ?_); (focus (repeat' (first | exact trivial | exact rfl | apply And.intro))); (focus (repeat' (first | exact trivial | (intro b hb; cases hb; rfl) | apply And.intro))); (focus (refine ⟨by (try dsimp only); omega, ?_⟩; (try dsimp only); unfold okTs at HO ⊢; rw [all_snoc hx, HO, Bool.true_and]; exact decide_eq_true hb)); ((try dsimp only); omega))
    · exact absurd (of_decide_eq_true (List.all_eq_true.1 hok x (List.mem_of_getElem? hx))) hb
  repeat' ((conv => whnf); first
    | (with_reducible refine spB_dec ?_ ?_ <;> intro _ <;> (try (exfalso; first | contradiction | omega | (rename_i hz; refine hz ?_; simp; done) | (rename_i hz; simp at hz; done) | (simp only [LN] at *; omega)))))
  all_goals (try (conv => whnf))
  all_goals try (show Nat.ble _ _ = true; rfl)
  all_goals try (exfalso; rename_i hz; cases hz; done)
  all_goals try (exfalso; (try simp only [LN] at *) <;> omega)
  refine Z.loopK tabOk (fun zq : Nat => [(7, .val (.int .i64 (zq : Int)))]) (fun zq : Nat => ([] : Z.Kr)) (fun zq => zq ≤ ts.length ∧ (ts.take zq).any (badR ps ts) = false) (fun zq => ts.length - zq) 0 7 [(1, _), (2, _), (4, _)] ⟨rfl, rfl, rfl, trivial⟩ [(0, some _), (1, some _), (4, some _), (5, some _), (6, some _)] ⟨rfl, rfl, rfl, rfl, rfl, trivial⟩ ?_ ?_ rfl rfl ⟨Nat.zero_le _, rfl⟩ ?_
  · repeat' (first | exact trivial | apply And.intro | exact ⟨_, rfl, Z.Imp.refl _⟩)
  · repeat' (first | exact trivial)
  rintro i1 HINV
  dsimp only at HINV ⊢
  obtain ⟨HI1, HO1⟩ := HINV
  by_cases hi1 : i1 < ts.length
  · obtain ⟨x1, hx1⟩ := getElem?_some' (xs := ts) (i := i1) hi1
    by_cases hb1 : (ts.count x1 : Int) > 1 ∨ whF ps x1 > 0
    rotate_left
    · skip
      repeat' ((conv => whnf); first
        | with_reducible first | refine spB_no (by decide) ?_
        | (with_reducible refine spB_dec ?_ ?_ <;> intro _ <;> (try (exfalso; first | contradiction | omega | (rename_i hz; refine hz ?_; simp; done) | (rename_i hz; simp at hz; done) | (simp only [LN] at *; omega))))
        | with_reducible first | refine Z.rowN_known hx1 ?_
        | ((with_reducible apply ixN_litp); (focus (exact rfl)); (focus ((try simp only [LN] at *) <;> omega)))
        | with_reducible refine wr_i64 (by first | omega | (simp only [LN] at *; omega)) ?_
        | ((first | (with_reducible apply Z.conZ_mz ?_ (count_con _ _ ?_) ?_)); (rotate_left 2); (focus ((repeat' (first | exact trivial | exact rfl | apply And.intro)); done)); (iterate 1 (focus (first | omega))))
        | ((first | (with_reducible apply Z.conZ_mz ?_ (rwhere_con _ _ _ ?_ ?_) ?_)); (rotate_left 3); (focus ((repeat' (first | exact trivial | exact rfl | apply And.intro)); done)); (iterate 2 (focus (first | omega))))
        | with_reducible first | refine Z.drawZ_rule tabOk mixOk ?_ | refine Z.apZ_mk (by kernel_rfl) ?_)
      all_goals (try (conv => whnf))
      all_goals try (show Nat.ble _ _ = true; rfl)
      all_goals first
        | ((refine Z.rndK ((i1 + 1)) (fun s => [0, 1, 2, 3, 4, 5, 6]) rfl rfl rfl rfl ?_ ?_ ?_ ?_); (focus (repeat' (first | exact trivial | exact rfl | apply And.intro))); (focus (repeat' (first | exact trivial | (intro b hb; cases hb; rfl) | apply And.intro))); (focus (refine ⟨by (try dsimp only); omega, ?_⟩; (try dsimp only); rw [any_snoc hx1, HO1, Bool.false_or]; exact decide_eq_false hb1)); ((try dsimp only); omega))
    · exact absurd (any_take hx1 (decide_eq_true hb1)) (by rw [hany0]; simp)
  by_cases hany : ts.any (badK ps ts) = true
  · rw [takeT_no hk (show takT ps ts = none by rw [take_doc hk, if_pos hany])] at ct
    dsimp only at ct
    repeat' ((conv => whnf); first
      | ((with_reducible apply spB_cong); (focus (simp only [beq_self_eq_true, bne_self_eq_false, Bool.true_bne, Bool.false_bne, Bool.bne_true, Bool.bne_false, Bool.true_beq, Bool.false_beq, Bool.not_true, Bool.not_false, Bool.not_not, Int.reduceBEq, Int.reduceBNe, Int.reduceLE, Int.reduceLT, Int.reduceEq, decide_true, decide_false, bne_self_eq_false, beq_self_eq_true]; rfl)))
      | with_reducible first | refine spB_no (by decide) ?_
      | (with_reducible refine spB_dec ?_ ?_ <;> intro _ <;> (try (exfalso; first | contradiction | omega | (rename_i hz; refine hz ?_; simp; done) | (rename_i hz; simp at hz; done) | (simp only [LN] at *; omega))))
      | ((with_reducible refine apdE_n ?_); (with_reducible refine apdN.mk ?_ ?_ ?_ ?_ ?_ ?_); (focus (simp; done)); (focus (exact one_map2 fun _ => rfl)); (focus ((try simp only [LN] at *) <;> omega)); (focus ((try simp only [LN] at *) <;> omega)); (focus ((try simp only [LN] at *) <;> omega)))
      | with_reducible first | refine Z.callZ_in tabOk 66 Try.f21 _ Try.func21 (by kernel_rfl) rfl rfl rfl ?_
      | ((first | (with_reducible refine Z.conZ_mz ?_ (ct) ?_) | (with_reducible refine Z.callZ_mk ?_ (cr) ?_) | (with_reducible refine Z.callZ_mk ?_ (cf) ?_)); (focus ((repeat' (first | exact trivial | (refine low_cp0 ?_; (simp only [List.length_map, Nat.zero_add]; done)) | exact rfl | apply And.intro)); done)))
      | ((with_reducible apply ex_and); exact rfl)
      | with_reducible first | refine Z.drawZ_rule tabOk mixOk ?_ | refine Z.apZ_mk (by kernel_rfl) ?_)
    all_goals (try (conv => whnf))
    all_goals try (show Nat.ble _ _ = true; rfl)
    all_goals try (exfalso; rename_i hz; cases hz; done)
    all_goals try (exfalso; (try simp only [LN] at *) <;> omega)
    refine Z.loopK tabOk (fun zq : Nat => [(6, .val (.int .i64 (zq : Int)))]) (fun zq : Nat => ([] : Z.Kr)) (fun zq => zq ≤ ts.length ∧ (ts.take zq).any (badK ps ts) = false) (fun zq => ts.length - zq) 0 13 [(1, _), (2, _), (4, _)] ⟨rfl, rfl, rfl, trivial⟩ [(0, some _), (1, some _), (4, some _), (5, some _), (6, some _), (7, some _), (10, some _), (11, some _), (12, some _)] ⟨rfl, rfl, rfl, rfl, rfl, rfl, rfl, rfl, rfl, trivial⟩ ?_ ?_ rfl rfl ⟨Nat.zero_le _, rfl⟩ ?_
    · repeat' (first | exact trivial | apply And.intro | exact ⟨_, rfl, Z.Imp.refl _⟩)
    · repeat' (first | exact trivial)
    rintro j HINV
    dsimp only at HINV ⊢
    obtain ⟨HJ, HB⟩ := HINV
    by_cases hj : j < ts.length
    · obtain ⟨y, hy⟩ := getElem?_some' (xs := ts) (i := j) hj
      by_cases hbk : (ts.count y : Int) > 1 ∨ whF ps y = 0
      · rcases hbk with hbk | hbk
        all_goals (
        repeat' ((conv => whnf); first
          | with_reducible first | refine spB_t ?_
          | ((with_reducible apply spB_cong); (focus (simp only [beq_self_eq_true, bne_self_eq_false, Bool.true_bne, Bool.false_bne, Bool.bne_true, Bool.bne_false, Bool.true_beq, Bool.false_beq, Bool.not_true, Bool.not_false, Bool.not_not, Int.reduceBEq, Int.reduceBNe, Int.reduceLE, Int.reduceLT, Int.reduceEq, decide_true, decide_false, bne_self_eq_false, beq_self_eq_true]; rfl)))
          | with_reducible first | refine spB_no (by decide) ?_
          | (with_reducible refine spB_dec ?_ ?_ <;> intro _ <;> (try (exfalso; first | contradiction | omega | (rename_i hz; refine hz ?_; simp; done) | (rename_i hz; simp at hz; done) | (simp only [LN] at *; omega))))
          | (with_reducible refine spB_beq ?_ ?_ <;> intro _ <;> (try (exfalso; first | contradiction | omega | (rename_i hz; refine hz ?_; simp; done) | (rename_i hz; simp at hz; done) | (simp only [LN] at *; omega))))
          | with_reducible first | refine Z.rowN_known hy ?_
          | ((with_reducible apply ixN_litp); (focus (exact rfl)); (focus ((try simp only [LN] at *) <;> omega)))
          | ((first | (with_reducible apply Z.conZ_mz ?_ (count_con _ _ ?_) ?_)); (rotate_left 2); (focus ((repeat' (first | exact trivial | exact rfl | apply And.intro)); done)); (iterate 1 (focus (first | omega))))
          | ((first | (with_reducible apply Z.conZ_mz ?_ (rwhere_con _ _ _ ?_ ?_) ?_)); (rotate_left 3); (focus ((repeat' (first | exact trivial | exact rfl | apply And.intro)); done)); (iterate 2 (focus (first | omega))))
          | ((first | (with_reducible refine Z.callZ_mk ?_ (cs) ?_)); (focus ((repeat' (first | exact trivial | exact rfl | apply And.intro)); done)))
          | ((first | (with_reducible refine Z.callZ_mk ?_ (cs0) ?_)); (focus ((repeat' (first | exact trivial | exact rfl | exact Z.low_nil | apply And.intro)); done)))
          | ((with_reducible apply ex_and); exact rfl)
          | with_reducible first | refine Z.drawZ_rule tabOk mixOk ?_ | refine Z.apZ_mk (by kernel_rfl) ?_)
        all_goals (try (conv => whnf)))
        all_goals try (show Nat.ble _ _ = true; rfl)
        all_goals first
          | ((first | (with_reducible apply Z.retF1)); (focus (exact rfl)); (repeat' (first | exact trivial | exact rfl | apply And.intro)); (all_goals (try exact (fun _ => none))); all_goals (first | (simp; done)))
      · skip
        repeat' ((conv => whnf); first
          | with_reducible first | refine spB_no (by decide) ?_
          | (with_reducible refine spB_dec ?_ ?_ <;> intro _ <;> (try (exfalso; first | contradiction | omega | (rename_i hz; refine hz ?_; simp; done) | (rename_i hz; simp at hz; done) | (simp only [LN] at *; omega))))
          | (with_reducible refine spB_beq ?_ ?_ <;> intro _ <;> (try (exfalso; first | contradiction | omega | (rename_i hz; refine hz ?_; simp; done) | (rename_i hz; simp at hz; done) | (simp only [LN] at *; omega))))
          | with_reducible first | refine Z.rowN_known hy ?_
          | ((with_reducible apply ixN_litp); (focus (exact rfl)); (focus ((try simp only [LN] at *) <;> omega)))
          | with_reducible refine wr_i64 (by first | omega | (simp only [LN] at *; omega)) ?_
          | ((first | (with_reducible apply Z.conZ_mz ?_ (count_con _ _ ?_) ?_)); (rotate_left 2); (focus ((repeat' (first | exact trivial | exact rfl | apply And.intro)); done)); (iterate 1 (focus (first | omega))))
          | ((first | (with_reducible apply Z.conZ_mz ?_ (rwhere_con _ _ _ ?_ ?_) ?_)); (rotate_left 3); (focus ((repeat' (first | exact trivial | exact rfl | apply And.intro)); done)); (iterate 2 (focus (first | omega))))
          | with_reducible first | refine Z.drawZ_rule tabOk mixOk ?_ | refine Z.apZ_mk (by kernel_rfl) ?_)
        all_goals (try (conv => whnf))
        all_goals try (show Nat.ble _ _ = true; rfl)
        all_goals first
          | ((refine Z.rndK ((j + 1)) (fun s => [0, 1, 2, 3, 4, 5, 6, 7, 8, 9, 10, 11, 12]) rfl rfl rfl rfl ?_ ?_ ?_ ?_); (focus (repeat' (first | exact trivial | exact rfl | apply And.intro))); (focus (repeat' (first | exact trivial | (intro b hb; cases hb; rfl) | apply And.intro))); (focus (refine ⟨by (try dsimp only); omega, ?_⟩; (try dsimp only); rw [any_snoc hy, HB, Bool.false_or]; exact decide_eq_false hbk)); ((try dsimp only); omega))
    rw [take_end hj, hany] at HB; cases HB
  have hrest : takT ps ts = some (restP ts ps) := by rw [take_doc hk, if_neg hany]; rfl
  rw [takeT_yes hk hrest] at ct
  dsimp only at ct
  have hrl : (restP ts ps).length ≤ 100 := Nat.le_trans (List.length_filter_le _ _) hp
  have cs3 := rsame_con ws ws (restP ts ps) (restP ts ps) (by omega) (by omega)
  rw [decide_eq_true (p := ws = ws ∧ restP ts ps = restP ts ps) ⟨rfl, rfl⟩] at cs3
  generalize hRP : restP ts ps = RP at *
  repeat' ((conv => whnf); first
    | ((with_reducible apply spB_cong); (focus (simp only [beq_self_eq_true, bne_self_eq_false, Bool.true_bne, Bool.false_bne, Bool.bne_true, Bool.bne_false, Bool.true_beq, Bool.false_beq, Bool.not_true, Bool.not_false, Bool.not_not, Int.reduceBEq, Int.reduceBNe, Int.reduceLE, Int.reduceLT, Int.reduceEq, decide_true, decide_false, bne_self_eq_false, beq_self_eq_true]; rfl)))
    | with_reducible first | refine spB_no (by decide) ?_
    | (with_reducible refine spB_dec ?_ ?_ <;> intro _ <;> (try (exfalso; first | contradiction | omega | (rename_i hz; refine hz ?_; simp; done) | (rename_i hz; simp at hz; done) | (simp only [LN] at *; omega))))
    | ((with_reducible refine apdE_n ?_); (with_reducible refine apdN.mk ?_ ?_ ?_ ?_ ?_ ?_); (focus (simp; done)); (focus (exact one_map2 fun _ => rfl)); (focus ((try simp only [LN] at *) <;> omega)); (focus ((try simp only [LN] at *) <;> omega)); (focus ((try simp only [LN] at *) <;> omega)))
    | with_reducible first | refine Z.callZ_in tabOk 66 Try.f21 _ Try.func21 (by kernel_rfl) rfl rfl rfl ?_
    | ((first | (with_reducible refine Z.conZ_mz ?_ (ct) ?_) | (with_reducible refine Z.callZ_mk ?_ (cr) ?_) | (with_reducible refine Z.callZ_mk ?_ (cf) ?_)); (focus ((repeat' (first | exact trivial | (refine low_cp0 ?_; (simp only [List.length_map, Nat.zero_add]; done)) | exact rfl | apply And.intro)); done)))
    | ((with_reducible apply ex_and); exact rfl)
    | with_reducible first | refine Z.drawZ_rule tabOk mixOk ?_ | refine Z.apZ_mk (by kernel_rfl) ?_)
  all_goals (try (conv => whnf))
  all_goals try (show Nat.ble _ _ = true; rfl)
  all_goals try (exfalso; rename_i hz; cases hz; done)
  all_goals try (exfalso; (try simp only [LN] at *) <;> omega)
  refine Z.loopK tabOk (fun zq : Nat => [(6, .val (.int .i64 (zq : Int)))]) (fun zq : Nat => ([] : Z.Kr)) (fun zq => zq ≤ ts.length ∧ (ts.take zq).any (badK ps ts) = false) (fun zq => ts.length - zq) 0 13 [(1, _), (2, _), (4, _)] ⟨rfl, rfl, rfl, trivial⟩ [(0, some _), (1, some _), (4, some _), (5, some _), (6, some _), (7, some _), (10, some _), (11, some _), (12, some _)] ⟨rfl, rfl, rfl, rfl, rfl, rfl, rfl, rfl, rfl, trivial⟩ ?_ ?_ rfl rfl ⟨Nat.zero_le _, rfl⟩ ?_
  · repeat' (first | exact trivial | apply And.intro | exact ⟨_, rfl, Z.Imp.refl _⟩)
  · repeat' (first | exact trivial)
  rintro j HINV
  dsimp only at HINV ⊢
  obtain ⟨HJ, HB⟩ := HINV
  by_cases hj : j < ts.length
  · obtain ⟨y, hy⟩ := getElem?_some' (xs := ts) (i := j) hj
    by_cases hbk : (ts.count y : Int) > 1 ∨ whF ps y = 0
    · exact absurd (any_take hy (decide_eq_true hbk)) hany
    · skip
      repeat' ((conv => whnf); first
        | with_reducible first | refine spB_no (by decide) ?_
        | (with_reducible refine spB_dec ?_ ?_ <;> intro _ <;> (try (exfalso; first | contradiction | omega | (rename_i hz; refine hz ?_; simp; done) | (rename_i hz; simp at hz; done) | (simp only [LN] at *; omega))))
        | (with_reducible refine spB_beq ?_ ?_ <;> intro _ <;> (try (exfalso; first | contradiction | omega | (rename_i hz; refine hz ?_; simp; done) | (rename_i hz; simp at hz; done) | (simp only [LN] at *; omega))))
        | with_reducible first | refine Z.rowN_known hy ?_
        | ((with_reducible apply ixN_litp); (focus (exact rfl)); (focus ((try simp only [LN] at *) <;> omega)))
        | with_reducible refine wr_i64 (by first | omega | (simp only [LN] at *; omega)) ?_
        | ((first | (with_reducible apply Z.conZ_mz ?_ (count_con _ _ ?_) ?_)); (rotate_left 2); (focus ((repeat' (first | exact trivial | exact rfl | apply And.intro)); done)); (iterate 1 (focus (first | omega))))
        | ((first | (with_reducible apply Z.conZ_mz ?_ (rwhere_con _ _ _ ?_ ?_) ?_)); (rotate_left 3); (focus ((repeat' (first | exact trivial | exact rfl | apply And.intro)); done)); (iterate 2 (focus (first | omega))))
        | with_reducible first | refine Z.drawZ_rule tabOk mixOk ?_ | refine Z.apZ_mk (by kernel_rfl) ?_)
      all_goals (try (conv => whnf))
      all_goals try (show Nat.ble _ _ = true; rfl)
      all_goals first
        | ((refine Z.rndK ((j + 1)) (fun s => [0, 1, 2, 3, 4, 5, 6, 7, 8, 9, 10, 11, 12]) rfl rfl rfl rfl ?_ ?_ ?_ ?_); (focus (repeat' (first | exact trivial | exact rfl | apply And.intro))); (focus (repeat' (first | exact trivial | (intro b hb; cases hb; rfl) | apply And.intro))); (focus (refine ⟨by (try dsimp only); omega, ?_⟩; (try dsimp only); rw [any_snoc hy, HB, Bool.false_or]; exact decide_eq_false hbk)); ((try dsimp only); omega))
  repeat' ((conv => whnf); first
    | (with_reducible refine spB_dec ?_ ?_ <;> intro _ <;> (try (exfalso; first | contradiction | omega | (rename_i hz; refine hz ?_; simp; done) | (rename_i hz; simp at hz; done) | (simp only [LN] at *; omega)))))
  all_goals (try (conv => whnf))
  all_goals try (show Nat.ble _ _ = true; rfl)
  all_goals try (exfalso; rename_i hz; cases hz; done)
  all_goals try (exfalso; (try simp only [LN] at *) <;> omega)
  refine Z.loopK tabOk (fun zq : Nat × List Pl => [(8, .val (.int .i64 (zq.1 : Int)))]) (fun zq : Nat × List Pl => ([(13, some (Z.Ob.b ⟨[[.ro false 2 (ws.map eW), .gsl 14 (zq.2.map cL)]], 2, 25, true⟩)), (14, (gB 2 66 (zq.2.map cL)).map Z.Ob.b)] : Z.Kr)) (fun zq => zq.1 ≤ ps.length ∧ zq.2 = restP ts (ps.take zq.1)) (fun zq => ps.length - zq.1) (0, []) 15 [(1, _), (2, _), (4, _), (7, _)] ⟨rfl, rfl, rfl, rfl, trivial⟩ [(0, some _), (1, some _), (4, some _), (5, some _), (6, some _), (7, some _), (10, some _), (11, some _), (12, some _)] ⟨rfl, rfl, rfl, rfl, rfl, rfl, rfl, rfl, rfl, trivial⟩ ?_ ?_ rfl rfl ⟨Nat.zero_le _, rfl⟩ ?_
  · repeat' (first | exact trivial | apply And.intro | exact ⟨_, rfl, Z.Imp.refl _⟩)
  · repeat' (first | exact trivial | (intro b hb; cases hb; done) | (intro b hb; cases hb; refine ⟨_, rfl, ⟨rfl, rfl, rfl⟩, ?_⟩; (repeat' (first | exact trivial | apply And.intro | exact Z.Imp.refl _ | exact Z.Imp.nilg _)); done) | apply And.intro)
  rintro ⟨m, acc⟩ HINV
  dsimp only at HINV ⊢
  obtain ⟨HM, HA⟩ := HINV
  have hal : acc.length ≤ 100 := by rw [HA]; exact Nat.le_trans (List.length_filter_le _ _) (by rw [List.length_take]; omega)
  by_cases hm : m < ps.length
  · obtain ⟨z, hz⟩ := getElem?_some' (xs := ps) (i := m) hm
    repeat' ((conv => whnf); first
      | (with_reducible refine spB_dec ?_ ?_ <;> intro _ <;> (try (exfalso; first | contradiction | omega | (rename_i hz; refine hz ?_; simp; done) | (rename_i hz; simp at hz; done) | (simp only [LN] at *; omega))))
      | (with_reducible refine spB_beq ?_ ?_ <;> intro _ <;> (try (exfalso; first | contradiction | omega | (rename_i hz; refine hz ?_; simp; done) | (rename_i hz; simp at hz; done) | (simp only [LN] at *; omega))))
      | with_reducible first | refine Z.rowN_known hz ?_
      | ((with_reducible refine posE_pos ?_ ?_); (focus ((try simp only [LN] at *) <;> omega)))
      | ((with_reducible apply ixN_litp); (focus (exact rfl)); (focus ((try simp only [LN] at *) <;> omega)))
      | ((with_reducible refine apdN.mk ?_ ?_ ?_ ?_ ?_ ?_); (focus (first | rfl)); (focus (first | exact one_all (by rfl))); (focus ((try simp only [LN] at *) <;> omega)); (focus ((try simp only [LN] at *) <;> omega)); (focus ((try simp only [LN] at *) <;> omega)))
      | with_reducible refine wr_i64 (by first | omega | (simp only [LN] at *; omega)) ?_
      | ((first | (with_reducible apply Z.callZ_mk ?_ (count_con _ _ ?_) ?_)); (rotate_left 2); (focus ((repeat' (first | exact trivial | exact rfl | apply And.intro)); done)); (iterate 1 (focus (first | omega))))
      | ((with_reducible refine eqN_mk2 ?_ ?_); (focus (exact Z.kb_some rfl)))
      | with_reducible first | refine Z.drawZ_rule tabOk mixOk ?_ | refine Z.apZ_mk (by kernel_rfl) ?_)
    all_goals (try (conv => whnf))
    all_goals try (show Nat.ble _ _ = true; rfl)
    all_goals first
      | ((refine Z.rndK ((m + 1, acc ++ [z])) (fun s => [0, 1, 2, 3, 4, 5, 6, 7, 8, 9, 10, 11, 12, 13, s.idIn 13 1]) rfl rfl rfl rfl ?_ ?_ ?_ ?_); (focus (repeat' (first | exact trivial | exact rfl | apply And.intro))); (focus (repeat' (first | exact trivial | (intro b hb; cases hb; rfl) | (intro b hb; cases hb; rw [List.map_append (f := cL)]; rfl) | exact Z.gB_sub' rfl (by first | rfl | (rw [List.map_append]; rfl) | simp only [List.map_append, List.map_cons, List.map_nil]) (ren_map fun _ => rfl) | apply And.intro))); (focus (exact ⟨by (try dsimp only); omega, by (try dsimp only); rw [HA, rest_yes hz (by assumption)]⟩)); ((try dsimp only); omega))
      | ((refine Z.rndK ((m + 1, acc)) (fun s => [0, 1, 2, 3, 4, 5, 6, 7, 8, 9, 10, 11, 12, 13, s.idIn 13 1]) rfl rfl rfl rfl ?_ ?_ ?_ ?_); (focus (repeat' (first | exact trivial | exact rfl | apply And.intro))); (focus (repeat' (first | exact trivial | (intro b hb; cases hb; rfl) | exact Z.gB_sub rfl rfl (ren_map fun _ => rfl) | apply And.intro))); (focus (exact ⟨by (try dsimp only); omega, by (try dsimp only); rw [HA, rest_no hz (by assumption)]⟩)); ((try dsimp only); omega))
  rw [take_end hm, hRP] at HA
  subst HA
  repeat' ((conv => whnf); first
    | with_reducible first | refine spB_t ?_
    | ((with_reducible apply spB_cong); (focus (simp only [beq_self_eq_true, bne_self_eq_false, Bool.true_bne, Bool.false_bne, Bool.bne_true, Bool.bne_false, Bool.true_beq, Bool.false_beq, Bool.not_true, Bool.not_false, Bool.not_not, Int.reduceBEq, Int.reduceBNe, Int.reduceLE, Int.reduceLT, Int.reduceEq, decide_true, decide_false, bne_self_eq_false, beq_self_eq_true]; rfl)))
    | (with_reducible refine spB_dec ?_ ?_ <;> intro _ <;> (try (exfalso; first | contradiction | omega | (rename_i hz; refine hz ?_; simp; done) | (rename_i hz; simp at hz; done) | (simp only [LN] at *; omega))))
    | ((first | (with_reducible refine Z.callZ_mk ?_ (cs) ?_)); (focus ((repeat' (first | exact trivial | exact rfl | apply And.intro)); done)))
    | ((first | (with_reducible refine Z.callZ_mk ?_ (cs0) ?_)); (focus ((repeat' (first | exact trivial | exact rfl | exact Z.low_nil | apply And.intro)); done)))
    | ((first | (with_reducible refine Z.callZ_mk ?_ (cs3) ?_)); (focus ((repeat' (first | exact trivial | exact rfl | exact Z.low_gslm (by first | rfl | exact Z.kb_some rfl) (fun _ => rfl) | apply And.intro)); done)))
    | ((with_reducible apply ex_and); exact rfl))
  all_goals (try (conv => whnf))
  all_goals try (show Nat.ble _ _ = true; rfl)
  all_goals first
    | ((first | (with_reducible apply Z.retF1)); (focus (exact rfl)); (repeat' (first | exact trivial | exact rfl | apply And.intro)); (all_goals (try exact (fun _ => none))); all_goals (first | (simp; done)))

end Go.Proofs.Ytllnmdmmmkoiaaa
namespace Go.Proofs.Ytllnmdmmmkoiaaa
open Go Go.RowKit Wx
set_option linter.unusedVariables false
set_option linter.unusedSimpArgs false
set_option maxHeartbeats 4000000
abbrev ocl (ps : List Pl) (j : Nat) : Option (List Pl) → Ce
  | none => .ro false 2 (ps.map eL)
  | some A => .gsl j (A.map cL)
abbrev obl : Option (List Pl) → Option Z.Ob
  | none => none
  | some A => (gB 2 66 (A.map cL)).map Z.Ob.b
theorem sl_0 (ws : List Wk) (ps : List Pl) (ts : List Int) (hw : ws.length ≤ 50) (hp : ps.length ≤ 100) (ht : ts.length ≤ 100) (hk : okF ws ps = true) (hwt0 : wantT ws ps ts = 0) : Con Try.prog 4 [.agg [.ro false 2 ((ws).map eW), .ro false 2 ((ps).map eL)], .one (.ro false 1 (ts.map eI))] (fun rx rK rt => rx = .val (.bool true) ∧ rK = [] ∧ rt = 0) := by
  refine Z.con_ofF tabOk 76 Try.f4 _ Try.func4 (by kernel_rfl) rfl rfl rfl rfl ?_
  obtain ⟨hok, hfr, hln⟩ := want_0.1 hwt0
  have hL2 := layT_len (ws := ws) (l := ts) (A := ps)
  have co := over_con ws ps (by omega) (by omega)
  rw [decide_eq_false (by omega)] at co
  have cc := copied_con ws ps (by omega) (by omega)
  have cl := lay_con ws ps ts (by omega) (by omega) (by omega)
  have ct := take_con ws ps ts (by omega) (by omega) (by omega)
  have cr := right_con ws ps (by omega) (by omega)
  have cs := rsame_con ws ws ps ps (by omega) (by omega)
  rw [decide_eq_true (p := ws = ws ∧ ps = ps) ⟨rfl, rfl⟩] at cs
  have cs0 := rsame_con [] [] [] [] (by simp) (by simp)
  rw [decide_eq_true (p := ([] : List Wk) = [] ∧ ([] : List Pl) = []) ⟨rfl, rfl⟩] at cs0
  rw [hk] at cr
  have hany0 : ts.any (badR ps ts) = false := by have := fresh_bad (ts := ts) (okF_wk0 hk); rw [hfr] at this; simpa using this.symm
  rw [show layR ws ps ts = (ws, layT ws ps ts, 0) by unfold layR; rw [if_pos hk, if_pos hwt0]] at cl
  dsimp only at cl
  have cf := rfree_con ws ps (by omega) (by omega) hk
  repeat' ((conv => whnf); first
    | ((with_reducible apply spB_cong); (focus (simp only [beq_self_eq_true, bne_self_eq_false, Bool.true_bne, Bool.false_bne, Bool.bne_true, Bool.bne_false, Bool.true_beq, Bool.false_beq, Bool.not_true, Bool.not_false, Bool.not_not, Int.reduceBEq, Int.reduceBNe, Int.reduceLE, Int.reduceLT, Int.reduceEq, decide_true, decide_false, bne_self_eq_false, beq_self_eq_true]; rfl)))
    | with_reducible first | refine spB_no (by decide) ?_
    | (with_reducible refine spB_dec ?_ ?_ <;> intro _ <;> (try (exfalso; first | contradiction | omega | (rename_i hz; refine hz ?_; simp; done) | (rename_i hz; simp at hz; done) | (simp only [LN] at *; omega))))
    | ((with_reducible refine apdE_n ?_); (with_reducible refine apdN.mk ?_ ?_ ?_ ?_ ?_ ?_); (focus (simp; done)); (focus (exact one_map2 fun _ => rfl)); (focus ((try simp only [LN] at *) <;> omega)); (focus ((try simp only [LN] at *) <;> omega)); (focus ((try simp only [LN] at *) <;> omega)))
    | with_reducible first | refine Z.callZ_in tabOk 125 Try.f19 _ Try.func19 (by kernel_rfl) rfl rfl rfl ?_
    | ((first | (with_reducible refine Z.callZ_mk ?_ (wakes_con) ?_) | (with_reducible refine Z.callZ_mk ?_ (co) ?_) | (with_reducible refine Z.callZ_mk ?_ (cc) ?_) | (with_reducible refine Z.conZ_mz ?_ (cl) ?_) | (with_reducible refine Z.callZ_mk ?_ (cr) ?_)); (focus ((repeat' (first | exact trivial | (refine low_cp0 ?_; (simp only [List.length_map, Nat.zero_add]; done)) | exact rfl | apply And.intro)); done)))
    | with_reducible first | refine Z.drawZ_rule tabOk mixOk ?_ | refine Z.apZ_mk (by kernel_rfl) ?_)
  all_goals (try (conv => whnf))
  all_goals try (show Nat.ble _ _ = true; rfl)
  all_goals try (exfalso; rename_i hz; cases hz; done)
  all_goals try (exfalso; (try simp only [LN] at *) <;> omega)
  refine Z.loopK tabOk (fun zq : Nat => [(6, .val (.int .i64 (zq : Int)))]) (fun zq : Nat => ([] : Z.Kr)) (fun zq => zq ≤ ts.length ∧ okTs (ts.take zq) = true) (fun zq => ts.length - zq) 0 7 [(1, _), (2, _), (4, _)] ⟨rfl, rfl, rfl, trivial⟩ [(0, some _), (1, some _), (4, some _), (5, some _), (6, some _)] ⟨rfl, rfl, rfl, rfl, rfl, trivial⟩ ?_ ?_ rfl rfl ⟨Nat.zero_le _, rfl⟩ ?_
  · repeat' (first | exact trivial | apply And.intro | exact ⟨_, rfl, Z.Imp.refl _⟩)
  · repeat' (first | exact trivial)
  rintro i HINV
  dsimp only at HINV ⊢
  obtain ⟨HI, HO⟩ := HINV
  by_cases hi : i < ts.length
  · obtain ⟨x, hx⟩ := getElem?_some' (xs := ts) (i := i) hi
    by_cases hb : 0 ≤ x ∧ x < 16
    · skip
      repeat' ((conv => whnf); first
        | with_reducible first | refine spB_no (by decide) ?_
        | (with_reducible refine spB_dec ?_ ?_ <;> intro _ <;> (try (exfalso; first | contradiction | omega | (rename_i hz; refine hz ?_; simp; done) | (rename_i hz; simp at hz; done) | (simp only [LN] at *; omega))))
        | with_reducible first | refine Z.rowN_known hx ?_
        | ((with_reducible apply ixN_litp); (focus (exact rfl)); (focus ((try simp only [LN] at *) <;> omega)))
        | with_reducible refine wr_i64 (by first | omega | (simp only [LN] at *; omega)) ?_)
      all_goals (try (conv => whnf))
      all_goals try (show Nat.ble _ _ = true; rfl)
      all_goals first
        | ((refine Z.rndK ((i + 1)) (fun s => [0, 1, 2, 3, 4, 5, 6]) rfl rfl rfl rfl ?_ ?_ ?_ ?_); (focus (repeat' (first | exact trivial | exact rfl | apply And.intro))); (focus (repeat' (first | exact trivial | (intro b hb; cases hb; rfl) | apply And.intro))); (focus (refine ⟨by (try dsimp only); omega, ?_⟩; (try dsimp only); unfold okTs at HO ⊢; rw [all_snoc hx, HO, Bool.true_and]; exact decide_eq_true hb)); ((try dsimp only); omega))
    · exact absurd (of_decide_eq_true (List.all_eq_true.1 hok x (List.mem_of_getElem? hx))) hb
  repeat' ((conv => whnf); first
    | (with_reducible refine spB_dec ?_ ?_ <;> intro _ <;> (try (exfalso; first | contradiction | omega | (rename_i hz; refine hz ?_; simp; done) | (rename_i hz; simp at hz; done) | (simp only [LN] at *; omega)))))
  all_goals (try (conv => whnf))
  all_goals try (show Nat.ble _ _ = true; rfl)
  all_goals try (exfalso; rename_i hz; cases hz; done)
  all_goals try (exfalso; (try simp only [LN] at *) <;> omega)
  refine Z.loopK tabOk (fun zq : Nat => [(7, .val (.int .i64 (zq : Int)))]) (fun zq : Nat => ([] : Z.Kr)) (fun zq => zq ≤ ts.length ∧ (ts.take zq).any (badR ps ts) = false) (fun zq => ts.length - zq) 0 7 [(1, _), (2, _), (4, _)] ⟨rfl, rfl, rfl, trivial⟩ [(0, some _), (1, some _), (4, some _), (5, some _), (6, some _)] ⟨rfl, rfl, rfl, rfl, rfl, trivial⟩ ?_ ?_ rfl rfl ⟨Nat.zero_le _, rfl⟩ ?_
  · repeat' (first | exact trivial | apply And.intro | exact ⟨_, rfl, Z.Imp.refl _⟩)
  · repeat' (first | exact trivial)
  rintro i1 HINV
  dsimp only at HINV ⊢
  obtain ⟨HI1, HO1⟩ := HINV
  by_cases hi1 : i1 < ts.length
  · obtain ⟨x1, hx1⟩ := getElem?_some' (xs := ts) (i := i1) hi1
    by_cases hb1 : (ts.count x1 : Int) > 1 ∨ whF ps x1 > 0
    rotate_left
    · skip
      repeat' ((conv => whnf); first
        | with_reducible first | refine spB_no (by decide) ?_
        | (with_reducible refine spB_dec ?_ ?_ <;> intro _ <;> (try (exfalso; first | contradiction | omega | (rename_i hz; refine hz ?_; simp; done) | (rename_i hz; simp at hz; done) | (simp only [LN] at *; omega))))
        | with_reducible first | refine Z.rowN_known hx1 ?_
        | ((with_reducible apply ixN_litp); (focus (exact rfl)); (focus ((try simp only [LN] at *) <;> omega)))
        | with_reducible refine wr_i64 (by first | omega | (simp only [LN] at *; omega)) ?_
        | ((first | (with_reducible apply Z.conZ_mz ?_ (count_con _ _ ?_) ?_)); (rotate_left 2); (focus ((repeat' (first | exact trivial | exact rfl | apply And.intro)); done)); (iterate 1 (focus (first | omega))))
        | ((first | (with_reducible apply Z.conZ_mz ?_ (rwhere_con _ _ _ ?_ ?_) ?_)); (rotate_left 3); (focus ((repeat' (first | exact trivial | exact rfl | apply And.intro)); done)); (iterate 2 (focus (first | omega))))
        | with_reducible first | refine Z.drawZ_rule tabOk mixOk ?_ | refine Z.apZ_mk (by kernel_rfl) ?_)
      all_goals (try (conv => whnf))
      all_goals try (show Nat.ble _ _ = true; rfl)
      all_goals first
        | ((refine Z.rndK ((i1 + 1)) (fun s => [0, 1, 2, 3, 4, 5, 6]) rfl rfl rfl rfl ?_ ?_ ?_ ?_); (focus (repeat' (first | exact trivial | exact rfl | apply And.intro))); (focus (repeat' (first | exact trivial | (intro b hb; cases hb; rfl) | apply And.intro))); (focus (refine ⟨by (try dsimp only); omega, ?_⟩; (try dsimp only); rw [any_snoc hx1, HO1, Bool.false_or]; exact decide_eq_false hb1)); ((try dsimp only); omega))
    · exact absurd (any_take hx1 (decide_eq_true hb1)) (by rw [hany0]; simp)
  repeat' ((conv => whnf); first
    | (with_reducible refine spB_dec ?_ ?_ <;> intro _ <;> (try (exfalso; first | contradiction | omega | (rename_i hz; refine hz ?_; simp; done) | (rename_i hz; simp at hz; done) | (simp only [LN] at *; omega))))
    | ((first | (with_reducible refine Z.callZ_mk ?_ (cf) ?_)); (focus ((repeat' (first | exact trivial | exact rfl | apply And.intro)); done))))
  all_goals (try (conv => whnf))
  all_goals try (show Nat.ble _ _ = true; rfl)
  all_goals try (exfalso; rename_i hz; cases hz; done)
  all_goals try (exfalso; (try simp only [LN] at *) <;> omega)
  refine Z.loopK tabOk (fun zq : Nat × Option (List Pl) => [(9, .val (.int .i64 (zq.1 : Int)))]) (fun zq : Nat × Option (List Pl) => ([(7, some (Z.Ob.b ⟨[[.ro false 2 (ws.map eW), ocl ps 8 zq.2]], 2, 25, true⟩)), (8, obl zq.2)] : Z.Kr)) (fun zq => zq.1 ≤ ts.length ∧ layT ws ps ts = layT ws (zq.2.getD ps) (ts.drop zq.1) ∧ okF ws (zq.2.getD ps) = true ∧ wantT ws (zq.2.getD ps) (ts.drop zq.1) = 0) (fun zq => ts.length - zq.1) (0, none) 9 [(1, _), (2, _), (4, _), (8, _)] ⟨rfl, rfl, rfl, rfl, trivial⟩ [(0, some _), (1, some _), (4, some _), (5, some _), (6, some _)] ⟨rfl, rfl, rfl, rfl, rfl, trivial⟩ ?_ ?_ rfl rfl ⟨Nat.zero_le _, rfl, hk, hwt0⟩ ?_
  · repeat' (first | exact trivial | apply And.intro | exact ⟨_, rfl, Z.Imp.refl _⟩)
  · repeat' (first | exact trivial | (intro b hb; cases hb; done) | exact (fun b hb => ⟨b, hb, Z.ImpO.refl b⟩) | apply And.intro)
  rintro ⟨i2, o⟩ HINV
  dsimp only at HINV ⊢
  obtain ⟨HI2, HO2, HK2, HW2⟩ := HINV
  rcases o with _ | A
  · dsimp only [ocl, obl, Option.getD_none] at HO2 HK2 HW2 ⊢
    by_cases hi2 : i2 < ts.length
    · skip
      obtain ⟨t, hx⟩ := getElem?_some' (xs := ts) (i := i2) hi2
      rw [drop_cons hx] at HO2 HW2
      have hwt := want_0.1 HW2
      have htr := of_decide_eq_true (List.all_eq_true.1 hwt.1 t (by simp))
      have hnt : ∀ p ∈ ps, p.task ≠ t := (fresh_iff.1 hwt.2.1).2 t (by simp)
      have hlk := lay_keep HK2 HW2
      have hbest := best_room HK2 (room_there HK2 (by have := hwt.2.2; simp only [List.length_cons] at this; omega))
      have hreb := reb_ins (b := roomF (leftF ws ps) ws 0) (okF_all HK2).2.1 (okF_wk0 HK2) htr hnt
      have hpl2 := okT_len (okF_all HK2).2.1
      have hkw2 := (okF_all HK2).1
      generalize hroom : roomF (leftF ws ps) ws 0 = bb at *
      repeat' ((conv => whnf); first
        | (with_reducible refine spB_dec ?_ ?_ <;> intro _ <;> (try (exfalso; first | contradiction | omega | (rename_i hz; refine hz ?_; simp; done) | (rename_i hz; simp at hz; done) | (simp only [LN] at *; omega)))))
      all_goals (try (conv => whnf))
      all_goals try (show Nat.ble _ _ = true; rfl)
      all_goals try (exfalso; rename_i hz; cases hz; done)
      all_goals try (exfalso; (try simp only [LN] at *) <;> omega)
      refine Z.loopK tabOk (fun zq : Nat × Int × Int => [(12, .val (.int .i64 ((zq.1 : Int) + 1))), (10, .val (.int .i64 zq.2.1)), (11, .val (.int .i64 zq.2.2))]) (fun zq : Nat × Int × Int => ([] : Z.Kr)) (fun zq => zq.1 ≤ 4 ∧ (zq.2.1, zq.2.2) = bestR (leftF ws ps) zq.1) (fun zq => 4 - zq.1) (0, 0, 0) 9 [(1, _), (2, _), (4, _), (8, _), (9, _)] ⟨rfl, rfl, rfl, rfl, rfl, trivial⟩ [(0, some _), (1, some _), (4, some _), (5, some _), (6, some _), (7, some _)] ⟨rfl, rfl, rfl, rfl, rfl, rfl, trivial⟩ ?_ ?_ rfl rfl ⟨Nat.zero_le _, rfl⟩ ?_
      · repeat' (first | exact trivial | apply And.intro | exact ⟨_, rfl, Z.Imp.refl _⟩)
      · repeat' (first | exact trivial)
      rintro ⟨j, b, mm⟩ HINV
      dsimp only at HINV ⊢
      obtain ⟨HJ, HB⟩ := HINV
      by_cases hj : j < 4
      · have hsl := okW_sl hkw2 ((j : Int) + 1)
        have hal := atL_le (ps := ps) (y := (j : Int) + 1)
        have hlf : leftF ws ps ((j : Int) + 1) = slF ws ((j : Int) + 1) - ((atL ps ((j : Int) + 1)).length : Int) := by unfold leftF; rw [atL_cnt]
        repeat' ((conv => whnf); first
          | (with_reducible refine spB_dec ?_ ?_ <;> intro _ <;> (try (exfalso; first | contradiction | omega | (rename_i hz; refine hz ?_; simp; done) | (rename_i hz; simp at hz; done) | (simp only [LN] at *; omega))))
          | with_reducible refine wr_i64 (by first | omega | (simp only [LN] at *; omega)) ?_
          | ((first | (with_reducible apply Z.conZ_mz ?_ (rat_con _ _ _ ?_ ?_) ?_) | (with_reducible apply Z.conZ_mz ?_ (rslots_con _ _ _ ?_ ?_) ?_)); (rotate_left 3); (focus ((repeat' (first | exact trivial | exact rfl | apply And.intro)); done)); (iterate 2 (focus (first | omega))))
          | with_reducible first | refine Z.drawZ_rule tabOk mixOk ?_ | refine Z.apZ_mk (by kernel_rfl) ?_)
        all_goals (try (conv => whnf))
        all_goals try (show Nat.ble _ _ = true; rfl)
        all_goals first
          | ((refine Z.rndK ((j + 1, (j : Int) + 1, slF ws ((j : Int) + 1) - ((((atL ps ((j : Int) + 1)).map eI).length : Nat) : Int))) (fun s => [0, 1, 2, 3, 4, 5, 6, 7, 8]) rfl rfl rfl rfl ?_ ?_ ?_ ?_); (focus (repeat' (first | exact trivial | exact rfl | apply And.intro))); (focus (repeat' (first | exact trivial | (intro b hb; cases hb; rfl) | apply And.intro))); (focus (refine ⟨by (try dsimp only); omega, ?_⟩; (try dsimp only); rw [bestR, ← HB]; (try dsimp only); rw [if_pos (by (try simp only [LN] at *) <;> omega), hlf, List.length_map])); ((try dsimp only); omega))
          | ((refine Z.rndK ((j + 1, b, mm)) (fun s => [0, 1, 2, 3, 4, 5, 6, 7, 8]) rfl rfl rfl rfl ?_ ?_ ?_ ?_); (focus (repeat' (first | exact trivial | exact rfl | apply And.intro))); (focus (repeat' (first | exact trivial | (intro b hb; cases hb; rfl) | apply And.intro))); (focus (refine ⟨by (try dsimp only); omega, ?_⟩; (try dsimp only); rw [bestR, ← HB]; (try dsimp only); rw [if_neg (by (try simp only [LN] at *) <;> omega)])); ((try dsimp only); omega))
      have h4 : j = 4 := by omega
      subst h4
      have hbb : b = bb := by rw [← hbest, ← HB]
      subst hbb
      repeat' ((conv => whnf); first
        | with_reducible first | refine spB_no (by decide) ?_)
      all_goals (try (conv => whnf))
      all_goals try (show Nat.ble _ _ = true; rfl)
      all_goals try (exfalso; rename_i hz; cases hz; done)
      all_goals try (exfalso; (try simp only [LN] at *) <;> omega)
      refine Z.loopK tabOk (fun zq : Nat × List Pl => [(15, .val (.int .i64 (zq.1 : Int))), (14, .c (.gsl 9 (zq.2.map cL)))]) (fun zq : Nat × List Pl => ([(9, (gB 2 66 (zq.2.map cL)).map Z.Ob.b)] : Z.Kr)) (fun zq => zq.1 ≤ 16 ∧ zq.2 = rebR ps t b zq.1) (fun zq => 16 - zq.1) (0, []) 10 [(1, _), (2, _), (4, _), (8, _), (9, _), (10, _)] ⟨rfl, rfl, rfl, rfl, rfl, rfl, trivial⟩ [(0, some _), (1, some _), (4, some _), (5, some _), (6, some _), (7, some _)] ⟨rfl, rfl, rfl, rfl, rfl, rfl, trivial⟩ ?_ ?_ rfl rfl ⟨Nat.zero_le _, rfl⟩ ?_
      · repeat' (first | exact trivial | apply And.intro | exact ⟨_, rfl, Z.Imp.refl _⟩ | exact ⟨_, rfl, Z.Imp.nilg _⟩)
      · repeat' (first | exact trivial | (intro b hb; cases hb; done) | apply And.intro)
      rintro ⟨n, acc⟩ HINV
      dsimp only at HINV ⊢
      obtain ⟨HN, HA⟩ := HINV
      have hal : acc.length ≤ 32 := by rw [HA]; exact Nat.le_trans rebR_len (by omega)
      by_cases hn : n < 16
      · skip
        repeat' ((conv => whnf); first
          | (with_reducible refine spB_dec ?_ ?_ <;> intro _ <;> (try (exfalso; first | contradiction | omega | (rename_i hz; refine hz ?_; simp; done) | (rename_i hz; simp at hz; done) | (simp only [LN] at *; omega))))
          | (with_reducible refine spB_beq ?_ ?_ <;> intro _ <;> (try (exfalso; first | contradiction | omega | (rename_i hz; refine hz ?_; simp; done) | (rename_i hz; simp at hz; done) | (simp only [LN] at *; omega))))
          | ((with_reducible refine eqN_mk2 ?_ ?_); (focus (exact Z.kb_some (congrArg (Option.map Z.Ob.b) (gB_app rfl)).symm)))
          | with_reducible first | refine Z.rowN_known hx ?_
          | ((with_reducible refine posE_pos ?_ ?_); (focus ((try simp only [LN] at *) <;> omega)))
          | ((with_reducible apply ixN_litp); (focus (exact rfl)); (focus ((try simp only [LN] at *) <;> omega)))
          | ((with_reducible refine apdN.mk ?_ ?_ ?_ ?_ ?_ ?_); (focus (first | rfl)); (focus (first | exact one_all (by rfl))); (focus ((try simp only [LN] at *) <;> omega)); (focus ((try simp only [LN] at *) <;> omega)); (focus ((try simp only [LN] at *) <;> omega)))
          | with_reducible refine wr_i64 (by first | omega | (simp only [LN] at *; omega)) ?_
          | ((first | (with_reducible apply Z.callZ_mk ?_ (rwhere_con _ _ _ ?_ ?_) ?_)); (rotate_left 3); (focus ((repeat' (first | exact trivial | exact rfl | apply And.intro)); done)); (iterate 2 (focus (first | omega))))
          | ((with_reducible refine eqN_mk2 ?_ ?_); (focus (exact Z.kb_some rfl))))
        all_goals (try (conv => whnf))
        all_goals try (show Nat.ble _ _ = true; rfl)
        all_goals first
          | ((refine Z.rndK ((n + 1, acc)) (fun s => [0, 1, 2, 3, 4, 5, 6, 7, 8, s.idAt 14]) rfl rfl rfl rfl ?_ ?_ ?_ ?_); (focus (repeat' (first | exact trivial | exact rfl | apply And.intro))); (focus (repeat' (first | exact trivial | (intro b hb; cases hb; rfl) | exact Z.gB_sub rfl rfl (ren_map fun _ => rfl) | apply And.intro))); (focus (refine ⟨by (try dsimp only); omega, ?_⟩; (try dsimp only); rw [HA, rebR, oneL]; rw [if_neg (by omega), if_neg (by omega)]; simp)); ((try dsimp only); omega))
          | ((refine Z.rndK ((n + 1, acc ++ [(⟨(n : Int), whF ps (n : Int)⟩ : Pl)])) (fun s => [0, 1, 2, 3, 4, 5, 6, 7, 8, s.idAt 14]) rfl rfl rfl rfl ?_ ?_ ?_ ?_); (focus (repeat' (first | exact trivial | exact rfl | (rw [List.map_append (f := cL)]; exact rfl) | apply And.intro))); (focus (repeat' (first | exact trivial | (intro b hb; cases hb; rfl) | exact Z.gB_sub' rfl (by first | rfl | (rw [List.map_append]; rfl) | simp only [List.map_append, List.map_cons, List.map_nil]) (ren_map fun _ => rfl) | apply And.intro))); (focus (refine ⟨by (try dsimp only); omega, ?_⟩; (try dsimp only); rw [HA, rebR, oneL]; rw [if_pos (by omega), if_neg (by omega)]; simp)); ((try dsimp only); omega))
          | ((refine Z.rndK ((n + 1, acc ++ [(⟨(n : Int), b⟩ : Pl)])) (fun s => [0, 1, 2, 3, 4, 5, 6, 7, 8, s.idAt 14]) rfl rfl rfl rfl ?_ ?_ ?_ ?_); (focus (repeat' (first | exact trivial | exact rfl | (rw [List.map_append (f := cL)]; exact rfl) | apply And.intro))); (focus (repeat' (first | exact trivial | (intro b hb; cases hb; rfl) | exact Z.gB_sub' rfl (by first | rfl | (rw [List.map_append]; rfl) | simp only [List.map_append, List.map_cons, List.map_nil]) (ren_map fun _ => rfl) | apply And.intro))); (focus (refine ⟨by (try dsimp only); omega, ?_⟩; (try dsimp only); rw [HA, rebR, oneL]; have e9 : (n : Int) = t := (by first | assumption | omega); rw [if_neg (by omega), if_pos e9, e9]; simp)); ((try dsimp only); omega))
          | ((refine Z.rndK ((n + 1, acc ++ [(⟨(n : Int), whF ps (n : Int)⟩ : Pl)] ++ [(⟨(n : Int), b⟩ : Pl)])) (fun s => [0, 1, 2, 3, 4, 5, 6, 7, 8, s.idAt 14]) rfl rfl rfl rfl ?_ ?_ ?_ ?_); (focus (repeat' (first | exact trivial | exact rfl | (rw [List.map_append (f := cL), List.map_append (f := cL)]; exact rfl) | apply And.intro))); (focus (repeat' (first | exact trivial | ((refine Z.gB_sub' rfl ?_ (ren_map fun _ => rfl)); (rw [List.map_append (f := cL), List.map_append (f := cL)]; exact rfl)) | (intro b hb; cases hb; rfl) | apply And.intro))); (focus (refine ⟨by (try dsimp only); omega, ?_⟩; (try dsimp only); rw [HA, rebR, oneL]; have e9 : (n : Int) = t := (by first | assumption | omega); rw [if_pos (by omega), if_pos e9, e9]; simp)); ((try dsimp only); omega))
      have h16 : n = 16 := by omega
      subst h16
      rw [hreb] at HA
      repeat' ((conv => whnf); first
        | with_reducible first | refine spB_no (by decide) ?_
        | with_reducible refine wr_i64 (by first | omega | (simp only [LN] at *; omega)) ?_)
      all_goals (try (conv => whnf))
      all_goals try (show Nat.ble _ _ = true; rfl)
      all_goals first
        | ((refine Z.rndK ((i2 + 1, some acc)) (fun s => [0, 1, 2, 3, 4, 5, 6, 7, s.idIn 7 1]) rfl rfl rfl rfl ?_ ?_ ?_ ?_); (focus (repeat' (first | exact trivial | exact rfl | apply And.intro))); (focus (repeat' (first | exact trivial | (intro b hb; cases hb; rfl) | exact Z.gB_sub rfl rfl (ren_map fun _ => rfl) | apply And.intro))); (focus (refine ⟨by (try dsimp only); omega, ?_, ?_, ?_⟩; (all_goals ((try dsimp only [Option.getD_some]); rw [HA])); (focus (rw [HO2, layT, hroom])); (focus exact hlk.1); (exact hlk.2))); ((try dsimp only); omega))
    have hLA : layT ws ps ts = ps := by rw [HO2, List.drop_eq_nil_of_le (by omega)]; rfl
    have cs4 := rsame_con ws ws (layT ws ps ts) ps (by omega) (by omega)
    rw [decide_eq_true (p := ws = ws ∧ layT ws ps ts = ps) ⟨rfl, hLA⟩] at cs4
    by_cases hany : ts.any (badK ps ts) = true
    · rw [takeT_no hk (show takT ps ts = none by rw [take_doc hk, if_pos hany])] at ct
      dsimp only at ct
      repeat' ((conv => whnf); first
        | ((with_reducible apply spB_cong); (focus (simp only [beq_self_eq_true, bne_self_eq_false, Bool.true_bne, Bool.false_bne, Bool.bne_true, Bool.bne_false, Bool.true_beq, Bool.false_beq, Bool.not_true, Bool.not_false, Bool.not_not, Int.reduceBEq, Int.reduceBNe, Int.reduceLE, Int.reduceLT, Int.reduceEq, decide_true, decide_false, bne_self_eq_false, beq_self_eq_true]; rfl)))
        | with_reducible first | refine spB_no (by decide) ?_
        | (with_reducible refine spB_dec ?_ ?_ <;> intro _ <;> (try (exfalso; first | contradiction | omega | (rename_i hz; refine hz ?_; simp; done) | (rename_i hz; simp at hz; done) | (simp only [LN] at *; omega))))
        | ((with_reducible refine apdE_n ?_); (with_reducible refine apdN.mk ?_ ?_ ?_ ?_ ?_ ?_); (focus (simp; done)); (focus (exact one_map2 fun _ => rfl)); (focus ((try simp only [LN] at *) <;> omega)); (focus ((try simp only [LN] at *) <;> omega)); (focus ((try simp only [LN] at *) <;> omega)))
        | with_reducible first | refine Z.callZ_in tabOk 66 Try.f21 _ Try.func21 (by kernel_rfl) rfl rfl rfl ?_
        | ((first | (with_reducible refine Z.conZ_mz ?_ (ct) ?_) | (with_reducible refine Z.callZ_mk ?_ (cr) ?_)); (focus ((repeat' (first | exact trivial | (refine low_cp0 ?_; (simp only [List.length_map, Nat.zero_add]; done)) | exact rfl | apply And.intro)); done)))
        | ((with_reducible apply ex_and); exact rfl)
        | with_reducible first | refine Z.drawZ_rule tabOk mixOk ?_ | refine Z.apZ_mk (by kernel_rfl) ?_)
      all_goals (try (conv => whnf))
      all_goals try (show Nat.ble _ _ = true; rfl)
      all_goals try (exfalso; rename_i hz; cases hz; done)
      all_goals try (exfalso; (try simp only [LN] at *) <;> omega)
      refine Z.loopK tabOk (fun zq : Nat => [(6, .val (.int .i64 (zq : Int)))]) (fun zq : Nat => ([] : Z.Kr)) (fun zq => zq ≤ ts.length ∧ (ts.take zq).any (badK ps ts) = false) (fun zq => ts.length - zq) 0 15 [(1, _), (2, _), (4, _)] ⟨rfl, rfl, rfl, trivial⟩ [(0, some _), (1, some _), (4, some _), (5, some _), (6, some _), (7, some _), (9, some _), (12, some _), (13, some _), (14, some _)] ⟨rfl, rfl, rfl, rfl, rfl, rfl, rfl, rfl, rfl, rfl, trivial⟩ ?_ ?_ rfl rfl ⟨Nat.zero_le _, rfl⟩ ?_
      · repeat' (first | exact trivial | apply And.intro | exact ⟨_, rfl, Z.Imp.refl _⟩)
      · repeat' (first | exact trivial)
      rintro j HINV
      dsimp only at HINV ⊢
      obtain ⟨HJ, HB⟩ := HINV
      by_cases hj : j < ts.length
      · obtain ⟨y, hy⟩ := getElem?_some' (xs := ts) (i := j) hj
        by_cases hbk : (ts.count y : Int) > 1 ∨ whF ps y = 0
        · rcases hbk with hbk | hbk
          all_goals (
          repeat' ((conv => whnf); first
            | with_reducible first | refine spB_t ?_
            | ((with_reducible apply spB_cong); (focus (simp only [beq_self_eq_true, bne_self_eq_false, Bool.true_bne, Bool.false_bne, Bool.bne_true, Bool.bne_false, Bool.true_beq, Bool.false_beq, Bool.not_true, Bool.not_false, Bool.not_not, Int.reduceBEq, Int.reduceBNe, Int.reduceLE, Int.reduceLT, Int.reduceEq, decide_true, decide_false, bne_self_eq_false, beq_self_eq_true]; rfl)))
            | with_reducible first | refine spB_no (by decide) ?_
            | (with_reducible refine spB_dec ?_ ?_ <;> intro _ <;> (try (exfalso; first | contradiction | omega | (rename_i hz; refine hz ?_; simp; done) | (rename_i hz; simp at hz; done) | (simp only [LN] at *; omega))))
            | (with_reducible refine spB_beq ?_ ?_ <;> intro _ <;> (try (exfalso; first | contradiction | omega | (rename_i hz; refine hz ?_; simp; done) | (rename_i hz; simp at hz; done) | (simp only [LN] at *; omega))))
            | with_reducible first | refine Z.rowN_known hy ?_
            | ((with_reducible apply ixN_litp); (focus (exact rfl)); (focus ((try simp only [LN] at *) <;> omega)))
            | ((first | (with_reducible apply Z.conZ_mz ?_ (count_con _ _ ?_) ?_)); (rotate_left 2); (focus ((repeat' (first | exact trivial | exact rfl | apply And.intro)); done)); (iterate 1 (focus (first | omega))))
            | ((first | (with_reducible apply Z.conZ_mz ?_ (rwhere_con _ _ _ ?_ ?_) ?_)); (rotate_left 3); (focus ((repeat' (first | exact trivial | exact rfl | apply And.intro)); done)); (iterate 2 (focus (first | omega))))
            | ((first | (with_reducible refine Z.callZ_mk ?_ (cs) ?_)); (focus ((repeat' (first | exact trivial | exact rfl | apply And.intro)); done)))
            | ((first | (with_reducible refine Z.callZ_mk ?_ (cs0) ?_)); (focus ((repeat' (first | exact trivial | exact rfl | exact Z.low_nil | apply And.intro)); done)))
            | ((first | (with_reducible refine Z.callZ_mk ?_ (cs4) ?_)); (focus ((repeat' (first | exact trivial | exact rfl | apply And.intro)); done)))
            | ((with_reducible apply ex_and); exact rfl)
            | with_reducible first | refine Z.drawZ_rule tabOk mixOk ?_ | refine Z.apZ_mk (by kernel_rfl) ?_)
          all_goals (try (conv => whnf)))
          all_goals try (show Nat.ble _ _ = true; rfl)
          all_goals first
            | ((first | (with_reducible apply Z.retF1)); (focus (exact rfl)); (repeat' (first | exact trivial | exact rfl | apply And.intro)); (all_goals (try exact (fun _ => none))); all_goals (first | (simp; done)))
        · skip
          repeat' ((conv => whnf); first
            | with_reducible first | refine spB_no (by decide) ?_
            | (with_reducible refine spB_dec ?_ ?_ <;> intro _ <;> (try (exfalso; first | contradiction | omega | (rename_i hz; refine hz ?_; simp; done) | (rename_i hz; simp at hz; done) | (simp only [LN] at *; omega))))
            | (with_reducible refine spB_beq ?_ ?_ <;> intro _ <;> (try (exfalso; first | contradiction | omega | (rename_i hz; refine hz ?_; simp; done) | (rename_i hz; simp at hz; done) | (simp only [LN] at *; omega))))
            | with_reducible first | refine Z.rowN_known hy ?_
            | ((with_reducible apply ixN_litp); (focus (exact rfl)); (focus ((try simp only [LN] at *) <;> omega)))
            | with_reducible refine wr_i64 (by first | omega | (simp only [LN] at *; omega)) ?_
            | ((first | (with_reducible apply Z.conZ_mz ?_ (count_con _ _ ?_) ?_)); (rotate_left 2); (focus ((repeat' (first | exact trivial | exact rfl | apply And.intro)); done)); (iterate 1 (focus (first | omega))))
            | ((first | (with_reducible apply Z.conZ_mz ?_ (rwhere_con _ _ _ ?_ ?_) ?_)); (rotate_left 3); (focus ((repeat' (first | exact trivial | exact rfl | apply And.intro)); done)); (iterate 2 (focus (first | omega))))
            | with_reducible first | refine Z.drawZ_rule tabOk mixOk ?_ | refine Z.apZ_mk (by kernel_rfl) ?_)
          all_goals (try (conv => whnf))
          all_goals try (show Nat.ble _ _ = true; rfl)
          all_goals first
            | ((refine Z.rndK ((j + 1)) (fun s => [0, 1, 2, 3, 4, 5, 6, 7, 8, 9, 10, 11, 12, 13, 14]) rfl rfl rfl rfl ?_ ?_ ?_ ?_); (focus (repeat' (first | exact trivial | exact rfl | apply And.intro))); (focus (repeat' (first | exact trivial | (intro b hb; cases hb; rfl) | apply And.intro))); (focus (refine ⟨by (try dsimp only); omega, ?_⟩; (try dsimp only); rw [any_snoc hy, HB, Bool.false_or]; exact decide_eq_false hbk)); ((try dsimp only); omega))
      rw [take_end hj, hany] at HB; cases HB
    have hrest : takT ps ts = some (restP ts ps) := by rw [take_doc hk, if_neg hany]; rfl
    rw [takeT_yes hk hrest] at ct
    dsimp only at ct
    have hrl : (restP ts ps).length ≤ 100 := Nat.le_trans (List.length_filter_le _ _) hp
    have cs3 := rsame_con ws ws (restP ts ps) (restP ts ps) (by omega) (by omega)
    rw [decide_eq_true (p := ws = ws ∧ restP ts ps = restP ts ps) ⟨rfl, rfl⟩] at cs3
    generalize hRP : restP ts ps = RP at *
    repeat' ((conv => whnf); first
      | ((with_reducible apply spB_cong); (focus (simp only [beq_self_eq_true, bne_self_eq_false, Bool.true_bne, Bool.false_bne, Bool.bne_true, Bool.bne_false, Bool.true_beq, Bool.false_beq, Bool.not_true, Bool.not_false, Bool.not_not, Int.reduceBEq, Int.reduceBNe, Int.reduceLE, Int.reduceLT, Int.reduceEq, decide_true, decide_false, bne_self_eq_false, beq_self_eq_true]; rfl)))
      | with_reducible first | refine spB_no (by decide) ?_
      | (with_reducible refine spB_dec ?_ ?_ <;> intro _ <;> (try (exfalso; first | contradiction | omega | (rename_i hz; refine hz ?_; simp; done) | (rename_i hz; simp at hz; done) | (simp only [LN] at *; omega))))
      | ((with_reducible refine apdE_n ?_); (with_reducible refine apdN.mk ?_ ?_ ?_ ?_ ?_ ?_); (focus (simp; done)); (focus (exact one_map2 fun _ => rfl)); (focus ((try simp only [LN] at *) <;> omega)); (focus ((try simp only [LN] at *) <;> omega)); (focus ((try simp only [LN] at *) <;> omega)))
      | with_reducible first | refine Z.callZ_in tabOk 66 Try.f21 _ Try.func21 (by kernel_rfl) rfl rfl rfl ?_
      | ((first | (with_reducible refine Z.conZ_mz ?_ (ct) ?_) | (with_reducible refine Z.callZ_mk ?_ (cr) ?_)); (focus ((repeat' (first | exact trivial | (refine low_cp0 ?_; (simp only [List.length_map, Nat.zero_add]; done)) | exact rfl | apply And.intro)); done)))
      | ((with_reducible apply ex_and); exact rfl)
      | with_reducible first | refine Z.drawZ_rule tabOk mixOk ?_ | refine Z.apZ_mk (by kernel_rfl) ?_)
    all_goals (try (conv => whnf))
    all_goals try (show Nat.ble _ _ = true; rfl)
    all_goals try (exfalso; rename_i hz; cases hz; done)
    all_goals try (exfalso; (try simp only [LN] at *) <;> omega)
    refine Z.loopK tabOk (fun zq : Nat => [(6, .val (.int .i64 (zq : Int)))]) (fun zq : Nat => ([] : Z.Kr)) (fun zq => zq ≤ ts.length ∧ (ts.take zq).any (badK ps ts) = false) (fun zq => ts.length - zq) 0 15 [(1, _), (2, _), (4, _)] ⟨rfl, rfl, rfl, trivial⟩ [(0, some _), (1, some _), (4, some _), (5, some _), (6, some _), (7, some _), (9, some _), (12, some _), (13, some _), (14, some _)] ⟨rfl, rfl, rfl, rfl, rfl, rfl, rfl, rfl, rfl, rfl, trivial⟩ ?_ ?_ rfl rfl ⟨Nat.zero_le _, rfl⟩ ?_
    · repeat' (first | exact trivial | apply And.intro | exact ⟨_, rfl, Z.Imp.refl _⟩)
    · repeat' (first | exact trivial)
    rintro j HINV
    dsimp only at HINV ⊢
    obtain ⟨HJ, HB⟩ := HINV
    by_cases hj : j < ts.length
    · obtain ⟨y, hy⟩ := getElem?_some' (xs := ts) (i := j) hj
      by_cases hbk : (ts.count y : Int) > 1 ∨ whF ps y = 0
      · exact absurd (any_take hy (decide_eq_true hbk)) hany
      · skip
        repeat' ((conv => whnf); first
          | with_reducible first | refine spB_no (by decide) ?_
          | (with_reducible refine spB_dec ?_ ?_ <;> intro _ <;> (try (exfalso; first | contradiction | omega | (rename_i hz; refine hz ?_; simp; done) | (rename_i hz; simp at hz; done) | (simp only [LN] at *; omega))))
          | (with_reducible refine spB_beq ?_ ?_ <;> intro _ <;> (try (exfalso; first | contradiction | omega | (rename_i hz; refine hz ?_; simp; done) | (rename_i hz; simp at hz; done) | (simp only [LN] at *; omega))))
          | with_reducible first | refine Z.rowN_known hy ?_
          | ((with_reducible apply ixN_litp); (focus (exact rfl)); (focus ((try simp only [LN] at *) <;> omega)))
          | with_reducible refine wr_i64 (by first | omega | (simp only [LN] at *; omega)) ?_
          | ((first | (with_reducible apply Z.conZ_mz ?_ (count_con _ _ ?_) ?_)); (rotate_left 2); (focus ((repeat' (first | exact trivial | exact rfl | apply And.intro)); done)); (iterate 1 (focus (first | omega))))
          | ((first | (with_reducible apply Z.conZ_mz ?_ (rwhere_con _ _ _ ?_ ?_) ?_)); (rotate_left 3); (focus ((repeat' (first | exact trivial | exact rfl | apply And.intro)); done)); (iterate 2 (focus (first | omega))))
          | with_reducible first | refine Z.drawZ_rule tabOk mixOk ?_ | refine Z.apZ_mk (by kernel_rfl) ?_)
        all_goals (try (conv => whnf))
        all_goals try (show Nat.ble _ _ = true; rfl)
        all_goals first
          | ((refine Z.rndK ((j + 1)) (fun s => [0, 1, 2, 3, 4, 5, 6, 7, 8, 9, 10, 11, 12, 13, 14]) rfl rfl rfl rfl ?_ ?_ ?_ ?_); (focus (repeat' (first | exact trivial | exact rfl | apply And.intro))); (focus (repeat' (first | exact trivial | (intro b hb; cases hb; rfl) | apply And.intro))); (focus (refine ⟨by (try dsimp only); omega, ?_⟩; (try dsimp only); rw [any_snoc hy, HB, Bool.false_or]; exact decide_eq_false hbk)); ((try dsimp only); omega))
    repeat' ((conv => whnf); first
      | (with_reducible refine spB_dec ?_ ?_ <;> intro _ <;> (try (exfalso; first | contradiction | omega | (rename_i hz; refine hz ?_; simp; done) | (rename_i hz; simp at hz; done) | (simp only [LN] at *; omega)))))
    all_goals (try (conv => whnf))
    all_goals try (show Nat.ble _ _ = true; rfl)
    all_goals try (exfalso; rename_i hz; cases hz; done)
    all_goals try (exfalso; (try simp only [LN] at *) <;> omega)
    refine Z.loopK tabOk (fun zq : Nat × List Pl => [(8, .val (.int .i64 (zq.1 : Int)))]) (fun zq : Nat × List Pl => ([(15, some (Z.Ob.b ⟨[[.ro false 2 (ws.map eW), .gsl 16 (zq.2.map cL)]], 2, 25, true⟩)), (16, (gB 2 66 (zq.2.map cL)).map Z.Ob.b)] : Z.Kr)) (fun zq => zq.1 ≤ ps.length ∧ zq.2 = restP ts (ps.take zq.1)) (fun zq => ps.length - zq.1) (0, []) 17 [(1, _), (2, _), (4, _), (7, _)] ⟨rfl, rfl, rfl, rfl, trivial⟩ [(0, some _), (1, some _), (4, some _), (5, some _), (6, some _), (7, some _), (9, some _), (12, some _), (13, some _), (14, some _)] ⟨rfl, rfl, rfl, rfl, rfl, rfl, rfl, rfl, rfl, rfl, trivial⟩ ?_ ?_ rfl rfl ⟨Nat.zero_le _, rfl⟩ ?_
    · repeat' (first | exact trivial | apply And.intro | exact ⟨_, rfl, Z.Imp.refl _⟩)
    · repeat' (first | exact trivial | (intro b hb; cases hb; done) | (intro b hb; cases hb; refine ⟨_, rfl, ⟨rfl, rfl, rfl⟩, ?_⟩; (repeat' (first | exact trivial | apply And.intro | exact Z.Imp.refl _ | exact Z.Imp.nilg _)); done) | apply And.intro)
    rintro ⟨m, acc⟩ HINV
    dsimp only at HINV ⊢
    obtain ⟨HM, HA⟩ := HINV
    have hal : acc.length ≤ 100 := by rw [HA]; exact Nat.le_trans (List.length_filter_le _ _) (by rw [List.length_take]; omega)
    by_cases hm : m < ps.length
    · obtain ⟨z, hz⟩ := getElem?_some' (xs := ps) (i := m) hm
      repeat' ((conv => whnf); first
        | (with_reducible refine spB_dec ?_ ?_ <;> intro _ <;> (try (exfalso; first | contradiction | omega | (rename_i hz; refine hz ?_; simp; done) | (rename_i hz; simp at hz; done) | (simp only [LN] at *; omega))))
        | (with_reducible refine spB_beq ?_ ?_ <;> intro _ <;> (try (exfalso; first | contradiction | omega | (rename_i hz; refine hz ?_; simp; done) | (rename_i hz; simp at hz; done) | (simp only [LN] at *; omega))))
        | with_reducible first | refine Z.rowN_known hz ?_
        | ((with_reducible refine posE_pos ?_ ?_); (focus ((try simp only [LN] at *) <;> omega)))
        | ((with_reducible apply ixN_litp); (focus (exact rfl)); (focus ((try simp only [LN] at *) <;> omega)))
        | ((with_reducible refine apdN.mk ?_ ?_ ?_ ?_ ?_ ?_); (focus (first | rfl)); (focus (first | exact one_all (by rfl))); (focus ((try simp only [LN] at *) <;> omega)); (focus ((try simp only [LN] at *) <;> omega)); (focus ((try simp only [LN] at *) <;> omega)))
        | with_reducible refine wr_i64 (by first | omega | (simp only [LN] at *; omega)) ?_
        | ((first | (with_reducible apply Z.callZ_mk ?_ (count_con _ _ ?_) ?_)); (rotate_left 2); (focus ((repeat' (first | exact trivial | exact rfl | apply And.intro)); done)); (iterate 1 (focus (first | omega))))
        | ((with_reducible refine eqN_mk2 ?_ ?_); (focus (exact Z.kb_some rfl)))
        | with_reducible first | refine Z.drawZ_rule tabOk mixOk ?_ | refine Z.apZ_mk (by kernel_rfl) ?_)
      all_goals (try (conv => whnf))
      all_goals try (show Nat.ble _ _ = true; rfl)
      all_goals first
        | ((refine Z.rndK ((m + 1, acc ++ [z])) (fun s => [0, 1, 2, 3, 4, 5, 6, 7, 8, 9, 10, 11, 12, 13, 14, 15, s.idIn 15 1]) rfl rfl rfl rfl ?_ ?_ ?_ ?_); (focus (repeat' (first | exact trivial | exact rfl | apply And.intro))); (focus (repeat' (first | exact trivial | (intro b hb; cases hb; rfl) | (intro b hb; cases hb; rw [List.map_append (f := cL)]; rfl) | exact Z.gB_sub' rfl (by first | rfl | (rw [List.map_append]; rfl) | simp only [List.map_append, List.map_cons, List.map_nil]) (ren_map fun _ => rfl) | apply And.intro))); (focus (exact ⟨by (try dsimp only); omega, by (try dsimp only); rw [HA, rest_yes hz (by assumption)]⟩)); ((try dsimp only); omega))
        | ((refine Z.rndK ((m + 1, acc)) (fun s => [0, 1, 2, 3, 4, 5, 6, 7, 8, 9, 10, 11, 12, 13, 14, 15, s.idIn 15 1]) rfl rfl rfl rfl ?_ ?_ ?_ ?_); (focus (repeat' (first | exact trivial | exact rfl | apply And.intro))); (focus (repeat' (first | exact trivial | (intro b hb; cases hb; rfl) | exact Z.gB_sub rfl rfl (ren_map fun _ => rfl) | apply And.intro))); (focus (exact ⟨by (try dsimp only); omega, by (try dsimp only); rw [HA, rest_no hz (by assumption)]⟩)); ((try dsimp only); omega))
    rw [take_end hm, hRP] at HA
    subst HA
    repeat' ((conv => whnf); first
      | with_reducible first | refine spB_t ?_
      | ((with_reducible apply spB_cong); (focus (simp only [beq_self_eq_true, bne_self_eq_false, Bool.true_bne, Bool.false_bne, Bool.bne_true, Bool.bne_false, Bool.true_beq, Bool.false_beq, Bool.not_true, Bool.not_false, Bool.not_not, Int.reduceBEq, Int.reduceBNe, Int.reduceLE, Int.reduceLT, Int.reduceEq, decide_true, decide_false, bne_self_eq_false, beq_self_eq_true]; rfl)))
      | (with_reducible refine spB_dec ?_ ?_ <;> intro _ <;> (try (exfalso; first | contradiction | omega | (rename_i hz; refine hz ?_; simp; done) | (rename_i hz; simp at hz; done) | (simp only [LN] at *; omega))))
      | ((first | (with_reducible refine Z.callZ_mk ?_ (cs) ?_)); (focus ((repeat' (first | exact trivial | exact rfl | apply And.intro)); done)))
      | ((first | (with_reducible refine Z.callZ_mk ?_ (cs3) ?_)); (focus ((repeat' (first | exact trivial | exact rfl | exact Z.low_gslm (by first | rfl | exact Z.kb_some rfl) (fun _ => rfl) | apply And.intro)); done)))
      | ((first | (with_reducible refine Z.callZ_mk ?_ (cs4) ?_)); (focus ((repeat' (first | exact trivial | exact rfl | apply And.intro)); done)))
      | ((with_reducible apply ex_and); exact rfl))
    all_goals (try (conv => whnf))
    all_goals try (show Nat.ble _ _ = true; rfl)
    all_goals first
      | ((first | (with_reducible apply Z.retF1)); (focus (exact rfl)); (repeat' (first | exact trivial | exact rfl | apply And.intro)); (all_goals (try exact (fun _ => none))); all_goals (first | (simp; done)))
  · dsimp only [ocl, obl, Option.getD_some] at HO2 HK2 HW2 ⊢
    by_cases hi2 : i2 < ts.length
    · skip
      obtain ⟨t, hx⟩ := getElem?_some' (xs := ts) (i := i2) hi2
      rw [drop_cons hx] at HO2 HW2
      have hwt := want_0.1 HW2
      have htr := of_decide_eq_true (List.all_eq_true.1 hwt.1 t (by simp))
      have hnt : ∀ p ∈ A, p.task ≠ t := (fresh_iff.1 hwt.2.1).2 t (by simp)
      have hlk := lay_keep HK2 HW2
      have hbest := best_room HK2 (room_there HK2 (by have := hwt.2.2; simp only [List.length_cons] at this; omega))
      have hreb := reb_ins (b := roomF (leftF ws A) ws 0) (okF_all HK2).2.1 (okF_wk0 HK2) htr hnt
      have hpl2 := okT_len (okF_all HK2).2.1
      have hkw2 := (okF_all HK2).1
      generalize hroom : roomF (leftF ws A) ws 0 = bb at *
      repeat' ((conv => whnf); first
        | (with_reducible refine spB_dec ?_ ?_ <;> intro _ <;> (try (exfalso; first | contradiction | omega | (rename_i hz; refine hz ?_; simp; done) | (rename_i hz; simp at hz; done) | (simp only [LN] at *; omega)))))
      all_goals (try (conv => whnf))
      all_goals try (show Nat.ble _ _ = true; rfl)
      all_goals try (exfalso; rename_i hz; cases hz; done)
      all_goals try (exfalso; (try simp only [LN] at *) <;> omega)
      refine Z.loopK tabOk (fun zq : Nat × Int × Int => [(12, .val (.int .i64 ((zq.1 : Int) + 1))), (10, .val (.int .i64 zq.2.1)), (11, .val (.int .i64 zq.2.2))]) (fun zq : Nat × Int × Int => ([] : Z.Kr)) (fun zq => zq.1 ≤ 4 ∧ (zq.2.1, zq.2.2) = bestR (leftF ws A) zq.1) (fun zq => 4 - zq.1) (0, 0, 0) 9 [(1, _), (2, _), (4, _), (8, _), (9, _)] ⟨rfl, rfl, rfl, rfl, rfl, trivial⟩ [(0, some _), (1, some _), (4, some _), (5, some _), (6, some _), (7, some _), (8, _)] ⟨rfl, rfl, rfl, rfl, rfl, rfl, rfl, trivial⟩ ?_ ?_ rfl rfl ⟨Nat.zero_le _, rfl⟩ ?_
      · repeat' (first | exact trivial | apply And.intro | exact ⟨_, rfl, Z.Imp.refl _⟩)
      · repeat' (first | exact trivial)
      rintro ⟨j, b, mm⟩ HINV
      dsimp only at HINV ⊢
      obtain ⟨HJ, HB⟩ := HINV
      by_cases hj : j < 4
      · have hsl := okW_sl hkw2 ((j : Int) + 1)
        have hal := atL_le (ps := A) (y := (j : Int) + 1)
        have hlf : leftF ws A ((j : Int) + 1) = slF ws ((j : Int) + 1) - ((atL A ((j : Int) + 1)).length : Int) := by unfold leftF; rw [atL_cnt]
        repeat' ((conv => whnf); first
          | (with_reducible refine spB_dec ?_ ?_ <;> intro _ <;> (try (exfalso; first | contradiction | omega | (rename_i hz; refine hz ?_; simp; done) | (rename_i hz; simp at hz; done) | (simp only [LN] at *; omega))))
          | with_reducible refine wr_i64 (by first | omega | (simp only [LN] at *; omega)) ?_
          | ((first | (with_reducible apply Z.conZ_mz ?_ (rat_con _ _ _ ?_ ?_) ?_) | (with_reducible apply Z.conZ_mz ?_ (rslots_con _ _ _ ?_ ?_) ?_)); (rotate_left 3); (focus ((repeat' (first | exact trivial | exact rfl | exact Z.low_gslm (by first | rfl | exact Z.kb_some rfl) (fun _ => rfl) | apply And.intro)); done)); (iterate 2 (focus (first | omega))))
          | with_reducible first | refine Z.drawZ_rule tabOk mixOk ?_ | refine Z.apZ_mk (by kernel_rfl) ?_)
        all_goals (try (conv => whnf))
        all_goals try (show Nat.ble _ _ = true; rfl)
        all_goals first
          | ((refine Z.rndK ((j + 1, (j : Int) + 1, slF ws ((j : Int) + 1) - ((((atL A ((j : Int) + 1)).map eI).length : Nat) : Int))) (fun s => [0, 1, 2, 3, 4, 5, 6, 7, 8]) rfl rfl rfl rfl ?_ ?_ ?_ ?_); (focus (repeat' (first | exact trivial | exact rfl | apply And.intro))); (focus (repeat' (first | exact trivial | (intro b hb; cases hb; rfl) | exact Z.gB_sub rfl rfl (ren_map fun _ => rfl) | apply And.intro))); (focus (refine ⟨by (try dsimp only); omega, ?_⟩; (try dsimp only); rw [bestR, ← HB]; (try dsimp only); rw [if_pos (by (try simp only [LN] at *) <;> omega), hlf, List.length_map])); ((try dsimp only); omega))
          | ((refine Z.rndK ((j + 1, b, mm)) (fun s => [0, 1, 2, 3, 4, 5, 6, 7, 8]) rfl rfl rfl rfl ?_ ?_ ?_ ?_); (focus (repeat' (first | exact trivial | exact rfl | apply And.intro))); (focus (repeat' (first | exact trivial | (intro b hb; cases hb; rfl) | exact Z.gB_sub rfl rfl (ren_map fun _ => rfl) | apply And.intro))); (focus (refine ⟨by (try dsimp only); omega, ?_⟩; (try dsimp only); rw [bestR, ← HB]; (try dsimp only); rw [if_neg (by (try simp only [LN] at *) <;> omega)])); ((try dsimp only); omega))
      have h4 : j = 4 := by omega
      subst h4
      have hbb : b = bb := by rw [← hbest, ← HB]
      subst hbb
      repeat' ((conv => whnf); first
        | with_reducible first | refine spB_no (by decide) ?_)
      all_goals (try (conv => whnf))
      all_goals try (show Nat.ble _ _ = true; rfl)
      all_goals try (exfalso; rename_i hz; cases hz; done)
      all_goals try (exfalso; (try simp only [LN] at *) <;> omega)
      refine Z.loopK tabOk (fun zq : Nat × List Pl => [(15, .val (.int .i64 (zq.1 : Int))), (14, .c (.gsl 9 (zq.2.map cL)))]) (fun zq : Nat × List Pl => ([(9, (gB 2 66 (zq.2.map cL)).map Z.Ob.b)] : Z.Kr)) (fun zq => zq.1 ≤ 16 ∧ zq.2 = rebR A t b zq.1) (fun zq => 16 - zq.1) (0, []) 10 [(1, _), (2, _), (4, _), (8, _), (9, _), (10, _)] ⟨rfl, rfl, rfl, rfl, rfl, rfl, trivial⟩ [(0, some _), (1, some _), (4, some _), (5, some _), (6, some _), (7, some _), (8, _)] ⟨rfl, rfl, rfl, rfl, rfl, rfl, rfl, trivial⟩ ?_ ?_ rfl rfl ⟨Nat.zero_le _, rfl⟩ ?_
      · repeat' (first | exact trivial | apply And.intro | exact ⟨_, rfl, Z.Imp.refl _⟩ | exact ⟨_, rfl, Z.Imp.nilg _⟩)
      · repeat' (first | exact trivial | (intro b hb; cases hb; done) | apply And.intro)
      rintro ⟨n, acc⟩ HINV
      dsimp only at HINV ⊢
      obtain ⟨HN, HA⟩ := HINV
      have hal : acc.length ≤ 32 := by rw [HA]; exact Nat.le_trans rebR_len (by omega)
      by_cases hn : n < 16
      · skip
        repeat' ((conv => whnf); first
          | (with_reducible refine spB_dec ?_ ?_ <;> intro _ <;> (try (exfalso; first | contradiction | omega | (rename_i hz; refine hz ?_; simp; done) | (rename_i hz; simp at hz; done) | (simp only [LN] at *; omega))))
          | (with_reducible refine spB_beq ?_ ?_ <;> intro _ <;> (try (exfalso; first | contradiction | omega | (rename_i hz; refine hz ?_; simp; done) | (rename_i hz; simp at hz; done) | (simp only [LN] at *; omega))))
          | ((with_reducible refine eqN_mk2 ?_ ?_); (focus (exact Z.kb_some (congrArg (Option.map Z.Ob.b) (gB_app rfl)).symm)))
          | with_reducible first | refine Z.rowN_known hx ?_
          | ((with_reducible refine posE_pos ?_ ?_); (focus ((try simp only [LN] at *) <;> omega)))
          | ((with_reducible apply ixN_litp); (focus (exact rfl)); (focus ((try simp only [LN] at *) <;> omega)))
          | ((with_reducible refine apdN.mk ?_ ?_ ?_ ?_ ?_ ?_); (focus (first | rfl)); (focus (first | exact one_all (by rfl))); (focus ((try simp only [LN] at *) <;> omega)); (focus ((try simp only [LN] at *) <;> omega)); (focus ((try simp only [LN] at *) <;> omega)))
          | with_reducible refine wr_i64 (by first | omega | (simp only [LN] at *; omega)) ?_
          | ((first | (with_reducible apply Z.callZ_mk ?_ (rwhere_con _ _ _ ?_ ?_) ?_)); (rotate_left 3); (focus ((repeat' (first | exact trivial | exact rfl | exact Z.low_gslm (by first | rfl | exact Z.kb_some rfl) (fun _ => rfl) | apply And.intro)); done)); (iterate 2 (focus (first | omega))))
          | ((with_reducible refine eqN_mk2 ?_ ?_); (focus (exact Z.kb_some rfl))))
        all_goals (try (conv => whnf))
        all_goals try (show Nat.ble _ _ = true; rfl)
        all_goals first
          | ((refine Z.rndK ((n + 1, acc)) (fun s => [0, 1, 2, 3, 4, 5, 6, 7, 8, s.idAt 14]) rfl rfl rfl rfl ?_ ?_ ?_ ?_); (focus (repeat' (first | exact trivial | exact rfl | apply And.intro))); (focus (repeat' (first | exact trivial | (intro b hb; cases hb; rfl) | exact Z.gB_sub rfl rfl (ren_map fun _ => rfl) | apply And.intro))); (focus (refine ⟨by (try dsimp only); omega, ?_⟩; (try dsimp only); rw [HA, rebR, oneL]; rw [if_neg (by omega), if_neg (by omega)]; simp)); ((try dsimp only); omega))
          | ((refine Z.rndK ((n + 1, acc ++ [(⟨(n : Int), whF A (n : Int)⟩ : Pl)])) (fun s => [0, 1, 2, 3, 4, 5, 6, 7, 8, s.idAt 14]) rfl rfl rfl rfl ?_ ?_ ?_ ?_); (focus (repeat' (first | exact trivial | exact rfl | (rw [List.map_append (f := cL)]; exact rfl) | apply And.intro))); (focus (repeat' (first | exact trivial | (intro b hb; cases hb; rfl) | exact Z.gB_sub rfl rfl (ren_map fun _ => rfl) | exact Z.gB_sub' rfl (by first | rfl | (rw [List.map_append]; rfl) | simp only [List.map_append, List.map_cons, List.map_nil]) (ren_map fun _ => rfl) | apply And.intro))); (focus (refine ⟨by (try dsimp only); omega, ?_⟩; (try dsimp only); rw [HA, rebR, oneL]; rw [if_pos (by omega), if_neg (by omega)]; simp)); ((try dsimp only); omega))
          | ((refine Z.rndK ((n + 1, acc ++ [(⟨(n : Int), b⟩ : Pl)])) (fun s => [0, 1, 2, 3, 4, 5, 6, 7, 8, s.idAt 14]) rfl rfl rfl rfl ?_ ?_ ?_ ?_); (focus (repeat' (first | exact trivial | exact rfl | (rw [List.map_append (f := cL)]; exact rfl) | apply And.intro))); (focus (repeat' (first | exact trivial | (intro b hb; cases hb; rfl) | exact Z.gB_sub rfl rfl (ren_map fun _ => rfl) | exact Z.gB_sub' rfl (by first | rfl | (rw [List.map_append]; rfl) | simp only [List.map_append, List.map_cons, List.map_nil]) (ren_map fun _ => rfl) | apply And.intro))); (focus (refine ⟨by (try dsimp only); omega, ?_⟩; (try dsimp only); rw [HA, rebR, oneL]; have e9 : (n : Int) = t := (by first | assumption | omega); rw [if_neg (by omega), if_pos e9, e9]; simp)); ((try dsimp only); omega))
          | ((refine Z.rndK ((n + 1, acc ++ [(⟨(n : Int), whF A (n : Int)⟩ : Pl)] ++ [(⟨(n : Int), b⟩ : Pl)])) (fun s => [0, 1, 2, 3, 4, 5, 6, 7, 8, s.idAt 14]) rfl rfl rfl rfl ?_ ?_ ?_ ?_); (focus (repeat' (first | exact trivial | exact rfl | (rw [List.map_append (f := cL), List.map_append (f := cL)]; exact rfl) | apply And.intro))); (focus (repeat' (first | exact trivial | ((refine Z.gB_sub' rfl ?_ (ren_map fun _ => rfl)); (rw [List.map_append (f := cL), List.map_append (f := cL)]; exact rfl)) | (intro b hb; cases hb; rfl) | exact Z.gB_sub rfl rfl (ren_map fun _ => rfl) | apply And.intro))); (focus (refine ⟨by (try dsimp only); omega, ?_⟩; (try dsimp only); rw [HA, rebR, oneL]; have e9 : (n : Int) = t := (by first | assumption | omega); rw [if_pos (by omega), if_pos e9, e9]; simp)); ((try dsimp only); omega))
      have h16 : n = 16 := by omega
      subst h16
      rw [hreb] at HA
      repeat' ((conv => whnf); first
        | with_reducible first | refine spB_no (by decide) ?_
        | with_reducible refine wr_i64 (by first | omega | (simp only [LN] at *; omega)) ?_)
      all_goals (try (conv => whnf))
      all_goals try (show Nat.ble _ _ = true; rfl)
      all_goals first
        | ((refine Z.rndK ((i2 + 1, some acc)) (fun s => [0, 1, 2, 3, 4, 5, 6, 7, s.idIn 7 1]) rfl rfl rfl rfl ?_ ?_ ?_ ?_); (focus (repeat' (first | exact trivial | exact rfl | apply And.intro))); (focus (repeat' (first | exact trivial | (intro b hb; cases hb; rfl) | exact Z.gB_sub rfl rfl (ren_map fun _ => rfl) | apply And.intro))); (focus (refine ⟨by (try dsimp only); omega, ?_, ?_, ?_⟩; (all_goals ((try dsimp only [Option.getD_some]); rw [HA])); (focus (rw [HO2, layT, hroom])); (focus exact hlk.1); (exact hlk.2))); ((try dsimp only); omega))
    have hLA : layT ws ps ts = A := by rw [HO2, List.drop_eq_nil_of_le (by omega)]; rfl
    have cs4 := rsame_con ws ws (layT ws ps ts) A (by omega) (by omega)
    rw [decide_eq_true (p := ws = ws ∧ layT ws ps ts = A) ⟨rfl, hLA⟩] at cs4
    by_cases hany : ts.any (badK ps ts) = true
    · rw [takeT_no hk (show takT ps ts = none by rw [take_doc hk, if_pos hany])] at ct
      dsimp only at ct
      repeat' ((conv => whnf); first
        | ((with_reducible apply spB_cong); (focus (simp only [beq_self_eq_true, bne_self_eq_false, Bool.true_bne, Bool.false_bne, Bool.bne_true, Bool.bne_false, Bool.true_beq, Bool.false_beq, Bool.not_true, Bool.not_false, Bool.not_not, Int.reduceBEq, Int.reduceBNe, Int.reduceLE, Int.reduceLT, Int.reduceEq, decide_true, decide_false, bne_self_eq_false, beq_self_eq_true]; rfl)))
        | with_reducible first | refine spB_no (by decide) ?_
        | (with_reducible refine spB_dec ?_ ?_ <;> intro _ <;> (try (exfalso; first | contradiction | omega | (rename_i hz; refine hz ?_; simp; done) | (rename_i hz; simp at hz; done) | (simp only [LN] at *; omega))))
        | ((with_reducible refine apdE_n ?_); (with_reducible refine apdN.mk ?_ ?_ ?_ ?_ ?_ ?_); (focus (simp; done)); (focus (exact one_map2 fun _ => rfl)); (focus ((try simp only [LN] at *) <;> omega)); (focus ((try simp only [LN] at *) <;> omega)); (focus ((try simp only [LN] at *) <;> omega)))
        | with_reducible first | refine Z.callZ_in tabOk 66 Try.f21 _ Try.func21 (by kernel_rfl) rfl rfl rfl ?_
        | ((first | (with_reducible refine Z.conZ_mz ?_ (ct) ?_) | (with_reducible refine Z.callZ_mk ?_ (cr) ?_)); (focus ((repeat' (first | exact trivial | (refine low_cp0 ?_; (simp only [List.length_map, Nat.zero_add]; done)) | exact rfl | apply And.intro)); done)))
        | ((with_reducible apply ex_and); exact rfl)
        | with_reducible first | refine Z.drawZ_rule tabOk mixOk ?_ | refine Z.apZ_mk (by kernel_rfl) ?_)
      all_goals (try (conv => whnf))
      all_goals try (show Nat.ble _ _ = true; rfl)
      all_goals try (exfalso; rename_i hz; cases hz; done)
      all_goals try (exfalso; (try simp only [LN] at *) <;> omega)
      refine Z.loopK tabOk (fun zq : Nat => [(6, .val (.int .i64 (zq : Int)))]) (fun zq : Nat => ([] : Z.Kr)) (fun zq => zq ≤ ts.length ∧ (ts.take zq).any (badK ps ts) = false) (fun zq => ts.length - zq) 0 15 [(1, _), (2, _), (4, _)] ⟨rfl, rfl, rfl, trivial⟩ [(0, some _), (1, some _), (4, some _), (5, some _), (6, some _), (7, some _), (8, _), (9, some _), (12, some _), (13, some _), (14, some _)] ⟨rfl, rfl, rfl, rfl, rfl, rfl, rfl, rfl, rfl, rfl, rfl, trivial⟩ ?_ ?_ rfl rfl ⟨Nat.zero_le _, rfl⟩ ?_
      · repeat' (first | exact trivial | apply And.intro | exact ⟨_, rfl, Z.Imp.refl _⟩)
      · repeat' (first | exact trivial)
      rintro j HINV
      dsimp only at HINV ⊢
      obtain ⟨HJ, HB⟩ := HINV
      by_cases hj : j < ts.length
      · obtain ⟨y, hy⟩ := getElem?_some' (xs := ts) (i := j) hj
        by_cases hbk : (ts.count y : Int) > 1 ∨ whF ps y = 0
        · rcases hbk with hbk | hbk
          all_goals (
          repeat' ((conv => whnf); first
            | with_reducible first | refine spB_t ?_
            | ((with_reducible apply spB_cong); (focus (simp only [beq_self_eq_true, bne_self_eq_false, Bool.true_bne, Bool.false_bne, Bool.bne_true, Bool.bne_false, Bool.true_beq, Bool.false_beq, Bool.not_true, Bool.not_false, Bool.not_not, Int.reduceBEq, Int.reduceBNe, Int.reduceLE, Int.reduceLT, Int.reduceEq, decide_true, decide_false, bne_self_eq_false, beq_self_eq_true]; rfl)))
            | with_reducible first | refine spB_no (by decide) ?_
            | (with_reducible refine spB_dec ?_ ?_ <;> intro _ <;> (try (exfalso; first | contradiction | omega | (rename_i hz; refine hz ?_; simp; done) | (rename_i hz; simp at hz; done) | (simp only [LN] at *; omega))))
            | (with_reducible refine spB_beq ?_ ?_ <;> intro _ <;> (try (exfalso; first | contradiction | omega | (rename_i hz; refine hz ?_; simp; done) | (rename_i hz; simp at hz; done) | (simp only [LN] at *; omega))))
            | with_reducible first | refine Z.rowN_known hy ?_
            | ((with_reducible apply ixN_litp); (focus (exact rfl)); (focus ((try simp only [LN] at *) <;> omega)))
            | ((first | (with_reducible apply Z.conZ_mz ?_ (count_con _ _ ?_) ?_)); (rotate_left 2); (focus ((repeat' (first | exact trivial | exact rfl | apply And.intro)); done)); (iterate 1 (focus (first | omega))))
            | ((first | (with_reducible apply Z.conZ_mz ?_ (rwhere_con _ _ _ ?_ ?_) ?_)); (rotate_left 3); (focus ((repeat' (first | exact trivial | exact rfl | apply And.intro)); done)); (iterate 2 (focus (first | omega))))
            | ((first | (with_reducible refine Z.callZ_mk ?_ (cs) ?_)); (focus ((repeat' (first | exact trivial | exact rfl | apply And.intro)); done)))
            | ((first | (with_reducible refine Z.callZ_mk ?_ (cs0) ?_)); (focus ((repeat' (first | exact trivial | exact rfl | exact Z.low_nil | apply And.intro)); done)))
            | ((first | (with_reducible refine Z.callZ_mk ?_ (cs4) ?_)); (focus ((repeat' (first | exact trivial | exact rfl | exact Z.low_gslm (by first | rfl | exact Z.kb_some rfl) (fun _ => rfl) | apply And.intro)); done)))
            | ((with_reducible apply ex_and); exact rfl)
            | with_reducible first | refine Z.drawZ_rule tabOk mixOk ?_ | refine Z.apZ_mk (by kernel_rfl) ?_)
          all_goals (try (conv => whnf)))
          all_goals try (show Nat.ble _ _ = true; rfl)
          all_goals first
            | ((first | (with_reducible apply Z.retF1)); (focus (exact rfl)); (repeat' (first | exact trivial | exact rfl | apply And.intro)); (all_goals (try exact (fun _ => none))); all_goals (first | (simp; done)))
        · skip
          repeat' ((conv => whnf); first
            | with_reducible first | refine spB_no (by decide) ?_
            | (with_reducible refine spB_dec ?_ ?_ <;> intro _ <;> (try (exfalso; first | contradiction | omega | (rename_i hz; refine hz ?_; simp; done) | (rename_i hz; simp at hz; done) | (simp only [LN] at *; omega))))
            | (with_reducible refine spB_beq ?_ ?_ <;> intro _ <;> (try (exfalso; first | contradiction | omega | (rename_i hz; refine hz ?_; simp; done) | (rename_i hz; simp at hz; done) | (simp only [LN] at *; omega))))
            | with_reducible first | refine Z.rowN_known hy ?_
            | ((with_reducible apply ixN_litp); (focus (exact rfl)); (focus ((try simp only [LN] at *) <;> omega)))
            | with_reducible refine wr_i64 (by first | omega | (simp only [LN] at *; omega)) ?_
            | ((first | (with_reducible apply Z.conZ_mz ?_ (count_con _ _ ?_) ?_)); (rotate_left 2); (focus ((repeat' (first | exact trivial | exact rfl | apply And.intro)); done)); (iterate 1 (focus (first | omega))))
            | ((first | (with_reducible apply Z.conZ_mz ?_ (rwhere_con _ _ _ ?_ ?_) ?_)); (rotate_left 3); (focus ((repeat' (first | exact trivial | exact rfl | apply And.intro)); done)); (iterate 2 (focus (first | omega))))
            | with_reducible first | refine Z.drawZ_rule tabOk mixOk ?_ | refine Z.apZ_mk (by kernel_rfl) ?_)
          all_goals (try (conv => whnf))
          all_goals try (show Nat.ble _ _ = true; rfl)
          all_goals first
            | ((refine Z.rndK ((j + 1)) (fun s => [0, 1, 2, 3, 4, 5, 6, 7, 8, 9, 10, 11, 12, 13, 14]) rfl rfl rfl rfl ?_ ?_ ?_ ?_); (focus (repeat' (first | exact trivial | exact rfl | apply And.intro))); (focus (repeat' (first | exact trivial | (intro b hb; cases hb; rfl) | exact Z.gB_sub rfl rfl (ren_map fun _ => rfl) | apply And.intro))); (focus (refine ⟨by (try dsimp only); omega, ?_⟩; (try dsimp only); rw [any_snoc hy, HB, Bool.false_or]; exact decide_eq_false hbk)); ((try dsimp only); omega))
      rw [take_end hj, hany] at HB; cases HB
    have hrest : takT ps ts = some (restP ts ps) := by rw [take_doc hk, if_neg hany]; rfl
    rw [takeT_yes hk hrest] at ct
    dsimp only at ct
    have hrl : (restP ts ps).length ≤ 100 := Nat.le_trans (List.length_filter_le _ _) hp
    have cs3 := rsame_con ws ws (restP ts ps) (restP ts ps) (by omega) (by omega)
    rw [decide_eq_true (p := ws = ws ∧ restP ts ps = restP ts ps) ⟨rfl, rfl⟩] at cs3
    generalize hRP : restP ts ps = RP at *
    repeat' ((conv => whnf); first
      | ((with_reducible apply spB_cong); (focus (simp only [beq_self_eq_true, bne_self_eq_false, Bool.true_bne, Bool.false_bne, Bool.bne_true, Bool.bne_false, Bool.true_beq, Bool.false_beq, Bool.not_true, Bool.not_false, Bool.not_not, Int.reduceBEq, Int.reduceBNe, Int.reduceLE, Int.reduceLT, Int.reduceEq, decide_true, decide_false, bne_self_eq_false, beq_self_eq_true]; rfl)))
      | with_reducible first | refine spB_no (by decide) ?_
      | (with_reducible refine spB_dec ?_ ?_ <;> intro _ <;> (try (exfalso; first | contradiction | omega | (rename_i hz; refine hz ?_; simp; done) | (rename_i hz; simp at hz; done) | (simp only [LN] at *; omega))))
      | ((with_reducible refine apdE_n ?_); (with_reducible refine apdN.mk ?_ ?_ ?_ ?_ ?_ ?_); (focus (simp; done)); (focus (exact one_map2 fun _ => rfl)); (focus ((try simp only [LN] at *) <;> omega)); (focus ((try simp only [LN] at *) <;> omega)); (focus ((try simp only [LN] at *) <;> omega)))
      | with_reducible first | refine Z.callZ_in tabOk 66 Try.f21 _ Try.func21 (by kernel_rfl) rfl rfl rfl ?_
      | ((first | (with_reducible refine Z.conZ_mz ?_ (ct) ?_) | (with_reducible refine Z.callZ_mk ?_ (cr) ?_)); (focus ((repeat' (first | exact trivial | (refine low_cp0 ?_; (simp only [List.length_map, Nat.zero_add]; done)) | exact rfl | apply And.intro)); done)))
      | ((with_reducible apply ex_and); exact rfl)
      | with_reducible first | refine Z.drawZ_rule tabOk mixOk ?_ | refine Z.apZ_mk (by kernel_rfl) ?_)
    all_goals (try (conv => whnf))
    all_goals try (show Nat.ble _ _ = true; rfl)
    all_goals try (exfalso; rename_i hz; cases hz; done)
    all_goals try (exfalso; (try simp only [LN] at *) <;> omega)
    refine Z.loopK tabOk (fun zq : Nat => [(6, .val (.int .i64 (zq : Int)))]) (fun zq : Nat => ([] : Z.Kr)) (fun zq => zq ≤ ts.length ∧ (ts.take zq).any (badK ps ts) = false) (fun zq => ts.length - zq) 0 15 [(1, _), (2, _), (4, _)] ⟨rfl, rfl, rfl, trivial⟩ [(0, some _), (1, some _), (4, some _), (5, some _), (6, some _), (7, some _), (8, _), (9, some _), (12, some _), (13, some _), (14, some _)] ⟨rfl, rfl, rfl, rfl, rfl, rfl, rfl, rfl, rfl, rfl, rfl, trivial⟩ ?_ ?_ rfl rfl ⟨Nat.zero_le _, rfl⟩ ?_
    · repeat' (first | exact trivial | apply And.intro | exact ⟨_, rfl, Z.Imp.refl _⟩)
    · repeat' (first | exact trivial)
    rintro j HINV
    dsimp only at HINV ⊢
    obtain ⟨HJ, HB⟩ := HINV
    by_cases hj : j < ts.length
    · obtain ⟨y, hy⟩ := getElem?_some' (xs := ts) (i := j) hj
      by_cases hbk : (ts.count y : Int) > 1 ∨ whF ps y = 0
      · exact absurd (any_take hy (decide_eq_true hbk)) hany
      · skip
        repeat' ((conv => whnf); first
          | with_reducible first | refine spB_no (by decide) ?_
          | (with_reducible refine spB_dec ?_ ?_ <;> intro _ <;> (try (exfalso; first | contradiction | omega | (rename_i hz; refine hz ?_; simp; done) | (rename_i hz; simp at hz; done) | (simp only [LN] at *; omega))))
          | (with_reducible refine spB_beq ?_ ?_ <;> intro _ <;> (try (exfalso; first | contradiction | omega | (rename_i hz; refine hz ?_; simp; done) | (rename_i hz; simp at hz; done) | (simp only [LN] at *; omega))))
          | with_reducible first | refine Z.rowN_known hy ?_
          | ((with_reducible apply ixN_litp); (focus (exact rfl)); (focus ((try simp only [LN] at *) <;> omega)))
          | with_reducible refine wr_i64 (by first | omega | (simp only [LN] at *; omega)) ?_
          | ((first | (with_reducible apply Z.conZ_mz ?_ (count_con _ _ ?_) ?_)); (rotate_left 2); (focus ((repeat' (first | exact trivial | exact rfl | apply And.intro)); done)); (iterate 1 (focus (first | omega))))
          | ((first | (with_reducible apply Z.conZ_mz ?_ (rwhere_con _ _ _ ?_ ?_) ?_)); (rotate_left 3); (focus ((repeat' (first | exact trivial | exact rfl | apply And.intro)); done)); (iterate 2 (focus (first | omega))))
          | with_reducible first | refine Z.drawZ_rule tabOk mixOk ?_ | refine Z.apZ_mk (by kernel_rfl) ?_)
        all_goals (try (conv => whnf))
        all_goals try (show Nat.ble _ _ = true; rfl)
        all_goals first
          | ((refine Z.rndK ((j + 1)) (fun s => [0, 1, 2, 3, 4, 5, 6, 7, 8, 9, 10, 11, 12, 13, 14]) rfl rfl rfl rfl ?_ ?_ ?_ ?_); (focus (repeat' (first | exact trivial | exact rfl | apply And.intro))); (focus (repeat' (first | exact trivial | (intro b hb; cases hb; rfl) | exact Z.gB_sub rfl rfl (ren_map fun _ => rfl) | apply And.intro))); (focus (refine ⟨by (try dsimp only); omega, ?_⟩; (try dsimp only); rw [any_snoc hy, HB, Bool.false_or]; exact decide_eq_false hbk)); ((try dsimp only); omega))
    repeat' ((conv => whnf); first
      | (with_reducible refine spB_dec ?_ ?_ <;> intro _ <;> (try (exfalso; first | contradiction | omega | (rename_i hz; refine hz ?_; simp; done) | (rename_i hz; simp at hz; done) | (simp only [LN] at *; omega)))))
    all_goals (try (conv => whnf))
    all_goals try (show Nat.ble _ _ = true; rfl)
    all_goals try (exfalso; rename_i hz; cases hz; done)
    all_goals try (exfalso; (try simp only [LN] at *) <;> omega)
    refine Z.loopK tabOk (fun zq : Nat × List Pl => [(8, .val (.int .i64 (zq.1 : Int)))]) (fun zq : Nat × List Pl => ([(15, some (Z.Ob.b ⟨[[.ro false 2 (ws.map eW), .gsl 16 (zq.2.map cL)]], 2, 25, true⟩)), (16, (gB 2 66 (zq.2.map cL)).map Z.Ob.b)] : Z.Kr)) (fun zq => zq.1 ≤ ps.length ∧ zq.2 = restP ts (ps.take zq.1)) (fun zq => ps.length - zq.1) (0, []) 17 [(1, _), (2, _), (4, _), (7, _)] ⟨rfl, rfl, rfl, rfl, trivial⟩ [(0, some _), (1, some _), (4, some _), (5, some _), (6, some _), (7, some _), (8, _), (9, some _), (12, some _), (13, some _), (14, some _)] ⟨rfl, rfl, rfl, rfl, rfl, rfl, rfl, rfl, rfl, rfl, rfl, trivial⟩ ?_ ?_ rfl rfl ⟨Nat.zero_le _, rfl⟩ ?_
    · repeat' (first | exact trivial | apply And.intro | exact ⟨_, rfl, Z.Imp.refl _⟩)
    · repeat' (first | exact trivial | (intro b hb; cases hb; done) | (intro b hb; cases hb; refine ⟨_, rfl, ⟨rfl, rfl, rfl⟩, ?_⟩; (repeat' (first | exact trivial | apply And.intro | exact Z.Imp.refl _ | exact Z.Imp.nilg _)); done) | apply And.intro)
    rintro ⟨m, acc⟩ HINV
    dsimp only at HINV ⊢
    obtain ⟨HM, HA⟩ := HINV
    have hal : acc.length ≤ 100 := by rw [HA]; exact Nat.le_trans (List.length_filter_le _ _) (by rw [List.length_take]; omega)
    by_cases hm : m < ps.length
    · obtain ⟨z, hz⟩ := getElem?_some' (xs := ps) (i := m) hm
      repeat' ((conv => whnf); first
        | (with_reducible refine spB_dec ?_ ?_ <;> intro _ <;> (try (exfalso; first | contradiction | omega | (rename_i hz; refine hz ?_; simp; done) | (rename_i hz; simp at hz; done) | (simp only [LN] at *; omega))))
        | (with_reducible refine spB_beq ?_ ?_ <;> intro _ <;> (try (exfalso; first | contradiction | omega | (rename_i hz; refine hz ?_; simp; done) | (rename_i hz; simp at hz; done) | (simp only [LN] at *; omega))))
        | with_reducible first | refine Z.rowN_known hz ?_
        | ((with_reducible refine posE_pos ?_ ?_); (focus ((try simp only [LN] at *) <;> omega)))
        | ((with_reducible apply ixN_litp); (focus (exact rfl)); (focus ((try simp only [LN] at *) <;> omega)))
        | ((with_reducible refine apdN.mk ?_ ?_ ?_ ?_ ?_ ?_); (focus (first | rfl)); (focus (first | exact one_all (by rfl))); (focus ((try simp only [LN] at *) <;> omega)); (focus ((try simp only [LN] at *) <;> omega)); (focus ((try simp only [LN] at *) <;> omega)))
        | with_reducible refine wr_i64 (by first | omega | (simp only [LN] at *; omega)) ?_
        | ((first | (with_reducible apply Z.callZ_mk ?_ (count_con _ _ ?_) ?_)); (rotate_left 2); (focus ((repeat' (first | exact trivial | exact rfl | apply And.intro)); done)); (iterate 1 (focus (first | omega))))
        | ((with_reducible refine eqN_mk2 ?_ ?_); (focus (exact Z.kb_some rfl)))
        | with_reducible first | refine Z.drawZ_rule tabOk mixOk ?_ | refine Z.apZ_mk (by kernel_rfl) ?_)
      all_goals (try (conv => whnf))
      all_goals try (show Nat.ble _ _ = true; rfl)
      all_goals first
        | ((refine Z.rndK ((m + 1, acc ++ [z])) (fun s => [0, 1, 2, 3, 4, 5, 6, 7, 8, 9, 10, 11, 12, 13, 14, 15, s.idIn 15 1]) rfl rfl rfl rfl ?_ ?_ ?_ ?_); (focus (repeat' (first | exact trivial | exact rfl | apply And.intro))); (focus (repeat' (first | exact trivial | (intro b hb; cases hb; rfl) | (intro b hb; cases hb; rw [List.map_append (f := cL)]; rfl) | exact Z.gB_sub rfl rfl (ren_map fun _ => rfl) | exact Z.gB_sub' rfl (by first | rfl | (rw [List.map_append]; rfl) | simp only [List.map_append, List.map_cons, List.map_nil]) (ren_map fun _ => rfl) | apply And.intro))); (focus (exact ⟨by (try dsimp only); omega, by (try dsimp only); rw [HA, rest_yes hz (by assumption)]⟩)); ((try dsimp only); omega))
        | ((refine Z.rndK ((m + 1, acc)) (fun s => [0, 1, 2, 3, 4, 5, 6, 7, 8, 9, 10, 11, 12, 13, 14, 15, s.idIn 15 1]) rfl rfl rfl rfl ?_ ?_ ?_ ?_); (focus (repeat' (first | exact trivial | exact rfl | apply And.intro))); (focus (repeat' (first | exact trivial | (intro b hb; cases hb; rfl) | exact Z.gB_sub rfl rfl (ren_map fun _ => rfl) | apply And.intro))); (focus (exact ⟨by (try dsimp only); omega, by (try dsimp only); rw [HA, rest_no hz (by assumption)]⟩)); ((try dsimp only); omega))
    rw [take_end hm, hRP] at HA
    subst HA
    repeat' ((conv => whnf); first
      | with_reducible first | refine spB_t ?_
      | ((with_reducible apply spB_cong); (focus (simp only [beq_self_eq_true, bne_self_eq_false, Bool.true_bne, Bool.false_bne, Bool.bne_true, Bool.bne_false, Bool.true_beq, Bool.false_beq, Bool.not_true, Bool.not_false, Bool.not_not, Int.reduceBEq, Int.reduceBNe, Int.reduceLE, Int.reduceLT, Int.reduceEq, decide_true, decide_false, bne_self_eq_false, beq_self_eq_true]; rfl)))
      | (with_reducible refine spB_dec ?_ ?_ <;> intro _ <;> (try (exfalso; first | contradiction | omega | (rename_i hz; refine hz ?_; simp; done) | (rename_i hz; simp at hz; done) | (simp only [LN] at *; omega))))
      | ((first | (with_reducible refine Z.callZ_mk ?_ (cs) ?_)); (focus ((repeat' (first | exact trivial | exact rfl | apply And.intro)); done)))
      | ((first | (with_reducible refine Z.callZ_mk ?_ (cs3) ?_)); (focus ((repeat' (first | exact trivial | exact rfl | exact Z.low_gslm (by first | rfl | exact Z.kb_some rfl) (fun _ => rfl) | apply And.intro)); done)))
      | ((first | (with_reducible refine Z.callZ_mk ?_ (cs4) ?_)); (focus ((repeat' (first | exact trivial | exact rfl | exact Z.low_gslm (by first | rfl | exact Z.kb_some rfl) (fun _ => rfl) | apply And.intro)); done)))
      | ((with_reducible apply ex_and); exact rfl))
    all_goals (try (conv => whnf))
    all_goals try (show Nat.ble _ _ = true; rfl)
    all_goals first
      | ((first | (with_reducible apply Z.retF1)); (focus (exact rfl)); (repeat' (first | exact trivial | exact rfl | apply And.intro)); (all_goals (try exact (fun _ => none))); all_goals (first | (simp; done)))

end Go.Proofs.Ytllnmdmmmkoiaaa
namespace Go.Proofs.Ytllnmdmmmkoiaaa
open Go Go.RowKit Wx
set_option linter.unusedVariables false
set_option linter.unusedSimpArgs false
set_option maxHeartbeats 4000000
theorem sl_over (ws : List Wk) (ps : List Pl) (ts : List Int) (hw : ws.length ≤ 9223372036854775807) (hp : ps.length ≤ 9223372036854775807) (ht : ts.length ≤ 9223372036854775807) (hov : 50 < ws.length ∨ 100 < ps.length) : Con Try.prog 4 [.agg [.ro false 2 ((ws).map eW), .ro false 2 ((ps).map eL)], .one (.ro false 1 (ts.map eI))] (fun rx rK rt => rx = .val (.bool true) ∧ rK = [] ∧ rt = 0) := by
  refine Z.con_ofF tabOk 76 Try.f4 _ Try.func4 (by kernel_rfl) rfl rfl rfl rfl ?_
  have co := over_con ws ps (by omega) (by omega)
  rw [decide_eq_true hov] at co
  repeat' ((conv => whnf); first
    | with_reducible first | refine spB_t ?_
    | ((with_reducible apply spB_cong); (focus (simp only [beq_self_eq_true, bne_self_eq_false, Bool.true_bne, Bool.false_bne, Bool.bne_true, Bool.bne_false, Bool.true_beq, Bool.false_beq, Bool.not_true, Bool.not_false, Bool.not_not, Int.reduceBEq, Int.reduceBNe, Int.reduceLE, Int.reduceLT, Int.reduceEq, decide_true, decide_false]; rfl)))
    | with_reducible first | refine spB_no (by decide) ?_
    | ((first | (with_reducible refine Z.callZ_mk ?_ (wakes_con) ?_) | (with_reducible refine Z.callZ_mk ?_ (co) ?_)); (focus ((repeat' (first | exact trivial | exact rfl | apply And.intro)); done))))
  all_goals (try (conv => whnf))
  all_goals try (show Nat.ble _ _ = true; rfl)
  all_goals first
    | ((first | (with_reducible apply Z.retF1)); (focus (exact rfl)); (repeat' (first | exact trivial | (with_reducible apply Z.frz_one) | (with_reducible apply Z.fq_bool) | exact rfl | apply And.intro)); (all_goals (try exact (fun _ => none))); all_goals (first | (simp; done)))

theorem sl_long (ws : List Wk) (ps : List Pl) (ts : List Int) (hw : ws.length ≤ 9223372036854775807) (hp : ps.length ≤ 9223372036854775807) (ht : ts.length ≤ 9223372036854775807) (hw2 : ws.length ≤ 50) (hp2 : ps.length ≤ 100) (hov : 100 < ts.length) : Con Try.prog 4 [.agg [.ro false 2 ((ws).map eW), .ro false 2 ((ps).map eL)], .one (.ro false 1 (ts.map eI))] (fun rx rK rt => rx = .val (.bool true) ∧ rK = [] ∧ rt = 0) := by
  refine Z.con_ofF tabOk 76 Try.f4 _ Try.func4 (by kernel_rfl) rfl rfl rfl rfl ?_
  have co := over_con ws ps (by omega) (by omega)
  rw [decide_eq_false (by omega)] at co
  repeat' ((conv => whnf); first
    | ((with_reducible apply spB_cong); (focus (simp only [beq_self_eq_true, bne_self_eq_false, Bool.true_bne, Bool.false_bne, Bool.bne_true, Bool.bne_false, Bool.true_beq, Bool.false_beq, Bool.not_true, Bool.not_false, Bool.not_not, Int.reduceBEq, Int.reduceBNe, Int.reduceLE, Int.reduceLT, Int.reduceEq, decide_true, decide_false]; rfl)))
    | with_reducible first | refine spB_no (by decide) ?_
    | (with_reducible refine spB_dec ?_ ?_ <;> intro _ <;> (try (exfalso; first | contradiction | omega | (rename_i hz; refine hz ?_; simp; done) | (rename_i hz; simp at hz; done) | (simp only [LN] at *; omega))))
    | ((first | (with_reducible refine Z.callZ_mk ?_ (wakes_con) ?_) | (with_reducible refine Z.callZ_mk ?_ (co) ?_)); (focus ((repeat' (first | exact trivial | exact rfl | apply And.intro)); done))))
  all_goals (try (conv => whnf))
  all_goals try (show Nat.ble _ _ = true; rfl)
  all_goals first
    | ((first | (with_reducible apply Z.retF1)); (focus (exact rfl)); (repeat' (first | exact trivial | (with_reducible apply Z.frz_one) | (with_reducible apply Z.fq_bool) | exact rfl | apply And.intro)); (all_goals (try exact (fun _ => none))); all_goals (first | (simp; done)))

theorem slotslays_con (ws : List Wk) (ps : List Pl) (ts : List Int) (hw : ws.length ≤ 9223372036854775807) (hp : ps.length ≤ 9223372036854775807) (ht : ts.length ≤ 9223372036854775807) : Con Try.prog 4 [.agg [.ro false 2 ((ws).map eW), .ro false 2 ((ps).map eL)], .one (.ro false 1 (ts.map eI))] (fun rx rK rt => rx = .val (.bool true) ∧ rK = [] ∧ rt = 0) := by
  by_cases hov : 50 < ws.length ∨ 100 < ps.length
  · exact sl_over ws ps ts hw hp ht hov
  · have h1 : ws.length ≤ 50 := by omega
    have h2 : ps.length ≤ 100 := by omega
    by_cases h3 : 100 < ts.length
    · exact sl_long ws ps ts hw hp ht h1 h2 h3
    · have h3 : ts.length ≤ 100 := by omega
      cases hk : okF ws ps with
      | false => exact sl_bad ws ps ts h1 h2 h3 hk
      | true =>
        cases hok : okTs ts with
        | false => exact sl_2 ws ps ts h1 h2 h3 hk hok
        | true =>
          cases hfr : freshT ps ts with
          | false => exact sl_5 ws ps ts h1 h2 h3 hk hok hfr
          | true =>
            by_cases hln : (ts.length : Int) > sumW ws - (ps.length : Int)
            · exact sl_6 ws ps ts h1 h2 h3 hk hok hfr hln
            · exact sl_0 ws ps ts h1 h2 h3 hk (want_0.2 ⟨hok, hfr, by omega⟩)
structure Fl where
  ws : List Wk
  ps : List Pl
abbrev eFl (x : Fl) : List RT := [RT.ro 2 (x.ws.map eW), RT.ro 2 (x.ps.map eL)]
def okWk (x : Wk) : Prop := (Lit.int .i64 x.id).wf = true ∧ (Lit.int .i64 x.sl).wf = true ∧ True
theorem rowWk (row : List RT) (h : RowF (.st (.cons 3 1 (.int .i64) (.cons 3 1 (.int .i64) .nil))) row) : ∃ x, row = eW x ∧ okWk x := by
  obtain ⟨a0, r0, rfl, _, ⟨z0, rfl, w0⟩, a1, r1, rfl, _, ⟨z1, rfl, w1⟩, rfl⟩ := h
  exact ⟨⟨z0, z1⟩, rfl, w0, w1, trivial⟩
def okPl (x : Pl) : Prop := (Lit.int .i64 x.task).wf = true ∧ (Lit.int .i64 x.wk).wf = true ∧ True
theorem rowPl (row : List RT) (h : RowF (.st (.cons 3 1 (.int .i64) (.cons 3 1 (.int .i64) .nil))) row) : ∃ x, row = eL x ∧ okPl x := by
  obtain ⟨a0, r0, rfl, _, ⟨z0, rfl, w0⟩, a1, r1, rfl, _, ⟨z1, rfl, w1⟩, rfl⟩ := h
  exact ⟨⟨z0, z1⟩, rfl, w0, w1, trivial⟩
def okFl (x : Fl) : Prop := (x.ws.length ≤ maxLen ∧ ∀ z ∈ x.ws, okWk z) ∧ (x.ps.length ≤ maxLen ∧ ∀ z ∈ x.ps, okPl z) ∧ True
theorem rowFl (row : List RT) (h : RowF (.st (.cons 22 1 (.sl (.st (.cons 3 1 (.int .i64) (.cons 3 1 (.int .i64) .nil))) 27 2) (.cons 23 1 (.sl (.st (.cons 3 1 (.int .i64) (.cons 3 1 (.int .i64) .nil))) 66 2) .nil))) row) : ∃ x, row = eFl x ∧ okFl x := by
  obtain ⟨a0, r0, rfl, _, ⟨rows0, rfl, l0, h0⟩, a1, r1, rfl, _, ⟨rows1, rfl, l1, h1⟩, rfl⟩ := h
  obtain ⟨z0, rfl, k0⟩ := rows_map eW (fun z => okWk z) rowWk rows0 h0
  obtain ⟨z1, rfl, k1⟩ := rows_map eL (fun z => okPl z) rowPl rows1 h1
  exact ⟨⟨z0, z1⟩, rfl, ⟨by simpa using l0, k0⟩, ⟨by simpa using l1, k1⟩, trivial⟩
namespace slotsLays
theorem main (avs : List A0) (h : All2 FitA [(.st (.cons 22 1 (.sl (.st (.cons 3 1 (.int .i64) (.cons 3 1 (.int .i64) .nil))) 27 2) (.cons 23 1 (.sl (.st (.cons 3 1 (.int .i64) (.cons 3 1 (.int .i64) .nil))) 66 2) .nil))), (.sl (.int .i64) 3 1)] avs) : Con Try.prog 4 avs (fun x K t => x = .val (.bool true) ∧ K = [] ∧ t = 0) := by
  obtain ⟨x0, x1, rfl, h0, h1⟩ : ∃ x0 x1, avs = [x0, x1] ∧ FitA (.st (.cons 22 1 (.sl (.st (.cons 3 1 (.int .i64) (.cons 3 1 (.int .i64) .nil))) 27 2) (.cons 23 1 (.sl (.st (.cons 3 1 (.int .i64) (.cons 3 1 (.int .i64) .nil))) 66 2) .nil))) x0 ∧ FitA (.sl (.int .i64) 3 1) x1 := by
    cases avs with
    | nil => exact h.elim
    | cons x0 r => cases r with
      | nil => exact h.2.elim
      | cons x1 r => cases r with
        | nil => exact ⟨x0, x1, rfl, h.1, h.2.1⟩
        | cons => exact h.2.2.elim
  clear h
  obtain ⟨row0, hrow0, rfl⟩ := h0
  obtain ⟨x, rfl, kx⟩ := rowFl row0 hrow0
  obtain ⟨zs, rfl, lzs, wzs⟩ := fit_ints h1
  exact slotslays_con x.ws x.ps zs (by have := kx.1.1; simpa [maxLen] using this) (by have := kx.2.1.1; simpa [maxLen] using this) (by have := lzs; simpa [maxLen] using this)
end slotsLays
end Go.Proofs.Ytllnmdmmmkoiaaa
