import Derived.Test.YtllnmdmmmkoiaaaOwn7
import Derived.Test.YtllnmdmmmkoiaaaOwn6
import Derived.Test.YtllnmdmmmkoiaaaRows
namespace Go.Proofs.Ytllnmdmmmkoiaaa
open Go Go.RowKit Wx
set_option linter.unusedVariables false
set_option linter.unusedSimpArgs false
set_option maxHeartbeats 4000000
/-! ### Back again -/
theorem idx_no {ws : List Wk} {a : Int} (h : ¬ idxW ws a < ws.length) : slF ws a = 0 := slF_no fun w hw e => h (List.findIdx_lt_length.2 ⟨w, hw, decide_eq_true e⟩)
theorem lay_all {ws : List Wk} : ∀ {l : List Int} {A : List Pl}, okF ws A = true → wantT ws A l = 0 → okF ws (layT ws A l) = true
  | [], A, h, _ => h
  | t :: l, A, h, g => by
    have hl := lay_keep h g
    rw [layT]; exact lay_all hl.1 hl.2
theorem insL_filter {a c : Int} {p : Pl → Bool} (hp : p ⟨a, c⟩ = false) : ∀ {A : List Pl}, (insL a c A).filter p = A.filter p
  | [] => by simp [insL, hp]
  | q :: l => by
    unfold insL
    split
    · rw [List.filter_cons, hp]; rfl
    · rw [List.filter_cons, List.filter_cons, insL_filter hp]
theorem lay_filter {ws : List Wk} {p : Pl → Bool} : ∀ {l : List Int} {A : List Pl}, (∀ t ∈ l, ∀ b, p ⟨t, b⟩ = false) → (layT ws A l).filter p = A.filter p
  | [], A, _ => rfl
  | t :: l, A, h => by
    rw [layT, lay_filter fun s hs => h s (by simp [hs]), insT_L, insL_filter (h t (by simp) _)]
theorem layT_mem {ws : List Wk} : ∀ {l : List Int} {A : List Pl} {q : Pl}, q ∈ A → q ∈ layT ws A l
  | [], A, q, h => h
  | t :: l, A, q, h => by rw [layT]; exact layT_mem (insT_mem.2 (.inr h))
theorem lay_there {ws : List Wk} : ∀ {l : List Int} {A : List Pl} {t : Int}, t ∈ l → ∃ p ∈ layT ws A l, p.task = t
  | s :: l, A, t, h => by
    rw [layT]
    rcases List.mem_cons.1 h with rfl | h
    · exact ⟨_, layT_mem (insT_mem.2 (.inl rfl)), rfl⟩
    · exact lay_there h
theorem lay_take {ws : List Wk} {ps : List Pl} {ts : List Int} (hk : okF ws ps = true) (hw : wantT ws ps ts = 0) : takT (layT ws ps ts) ts = some ps := by
  have h1 := lay_all hk hw
  obtain ⟨h2, h3⟩ := fresh_iff.1 (want_0.1 hw).2.1
  rw [takT_doc (okT_all.1 (okF_all h1).2.1).1, if_pos ⟨h2, fun t ht => lay_there ht⟩, lay_filter fun t ht b => by simp [ht]]
  rw [List.filter_eq_self.2 fun p hp => by
    have : ¬ p.task ∈ ts := fun g => h3 _ g p hp rfl
    simp [this]]
theorem insW_mem {a c : Int} {q : Wk} : ∀ {A : List Wk}, q ∈ insW a c A ↔ q = ⟨a, c⟩ ∨ q ∈ A
  | [] => by simp [insW]
  | p :: l => by
    unfold insW
    split
    · simp
    · simp only [List.mem_cons, insW_mem (A := l)]
      constructor
      · rintro (h | h | h)
        · exact .inr (.inl h)
        · exact .inl h
        · exact .inr (.inr h)
      · rintro (h | h | h)
        · exact .inr (.inl h)
        · exact .inl h
        · exact .inr (.inr h)
theorem insW_srt {a c : Int} : ∀ {A : List Wk}, wsrt A → (∀ p ∈ A, p.id ≠ a) → wsrt (insW a c A)
  | [], _, _ => by simp [insW, wsrt]
  | p :: l, hs, hn => by
    have hl := (List.pairwise_cons.1 hs).1
    have hs' : wsrt l := (List.pairwise_cons.1 hs).2
    have hp := hn p (by simp)
    unfold insW
    split
    · rename_i h
      refine List.pairwise_cons.2 ⟨fun q hq => ?_, hs⟩
      rcases List.mem_cons.1 hq with rfl | hq
      · exact h
      · have := hl q hq; dsimp only; omega
    · rename_i h
      refine List.pairwise_cons.2 ⟨fun q hq => ?_, insW_srt hs' fun q hq => hn q (by simp [hq])⟩
      rcases insW_mem.1 hq with rfl | hq
      · dsimp only; omega
      · exact hl q hq
theorem insW_filter {a c : Int} {p : Wk → Bool} (hp : p ⟨a, c⟩ = false) : ∀ {A : List Wk}, (insW a c A).filter p = A.filter p
  | [] => by simp [insW, hp]
  | q :: l => by
    unfold insW
    split
    · rw [List.filter_cons, hp]; rfl
    · rw [List.filter_cons, List.filter_cons, insW_filter hp]
theorem insW_sl {a c y : Int} : ∀ {A : List Wk}, (∀ w ∈ A, w.id ≠ a) → slF (insW a c A) y = if a = y then c else slF A y
  | [], _ => by simp [insW, slF]
  | q :: l, h => by
    unfold insW
    have hq := h q (by simp)
    split
    · rw [slF]
    · rw [slF, slF, insW_sl fun w hw => h w (by simp [hw])]
      by_cases e : q.id = y
      · rw [if_pos e, if_pos e, if_neg (fun g => hq (by rw [g, e]))]
      · rw [if_neg e, if_neg e]
theorem insW_len {a c : Int} : ∀ {A : List Wk}, (insW a c A).length = A.length + 1
  | [] => rfl
  | q :: l => by
    unfold insW
    split
    · rfl
    · rw [List.length_cons, insW_len, List.length_cons]
/-- A worker that has come: the floor may be. -/
theorem come_ok {ws : List Wk} {ps : List Pl} {a c : Int} (hk : okF ws ps = true) (hv : (1 ≤ a ∧ a ≤ 4) ∧ 1 ≤ c ∧ c ≤ 8) (hno : ¬ idxW ws a < ws.length) : okF (insW a c ws) ps = true := by
  obtain ⟨hkw, hkp, hkc⟩ := okF_all hk
  have hs := okW_all.1 hkw
  have hne : ∀ w ∈ ws, w.id ≠ a := fun w hw e => hno (List.findIdx_lt_length.2 ⟨w, hw, decide_eq_true e⟩)
  have h1 : okW 0 (insW a c ws) = true := okW_all.2 ⟨insW_srt hs.1 hne, fun w hw => by
    rcases insW_mem.1 hw with rfl | hw
    · dsimp only; omega
    · exact hs.2 w hw⟩
  unfold okF
  rw [h1, hkp, (okC_iff h1).2 fun y => ?_]
  · rfl
  · have h2 := (okC_iff hkw).1 hkc y
    rw [insW_sl hne]
    by_cases e : a = y
    · subst e; rw [if_pos rfl]; rw [idx_no hno] at h2; omega
    · rw [if_neg e]; exact h2
theorem come_go {ws : List Wk} {ps : List Pl} {a c : Int} (hk : okF ws ps = true) (hv : (1 ≤ a ∧ a ≤ 4) ∧ 1 ≤ c ∧ c ≤ 8) (hno : ¬ idxW ws a < ws.length) : goT (insW a c ws) ps a = (ws, ps, [], 0) := by
  have h1 := come_ok (c := c) hk hv hno
  obtain ⟨hkw, hkp, hkc⟩ := okF_all hk
  have hne : ∀ w ∈ ws, w.id ≠ a := fun w hw e => hno (List.findIdx_lt_length.2 ⟨w, hw, decide_eq_true e⟩)
  have hi : idxW (insW a c ws) a < (insW a c ws).length := List.findIdx_lt_length.2 ⟨⟨a, c⟩, insW_mem.2 (.inl rfl), decide_eq_true rfl⟩
  have hnp : ∀ p ∈ ps, p.wk ≠ a := fun p hp e => by
    have h2 := (okC_iff hkw).1 hkc a
    have h3 := cnt_mem hp
    rw [e] at h3; rw [idx_no hno] at h2; omega
  unfold goT
  rw [if_pos h1, if_pos hi, go_doc (okW_all.1 (okF_all h1).1).1, insW_filter (by simp), keepP_all hnp]
  have e1 : ws.filter (fun w => !decide (w.id = a)) = ws := List.filter_eq_self.2 fun w hw => by simp [hne w hw]
  have e2 : atL ps a = [] := by unfold atL; rw [List.filter_eq_nil_iff.2 fun p hp => by simp [hnp p hp]]; rfl
  rw [e1, e2]
theorem comeT_ok {ws : List Wk} {ps : List Pl} {a c : Int} (hk : okF ws ps = true) (hv : (1 ≤ a ∧ a ≤ 4) ∧ 1 ≤ c ∧ c ≤ 8) (hno : ¬ idxW ws a < ws.length) : comeT ws ps a c = (insW a c ws, ps, 0) := by
  unfold comeT; rw [if_pos hk, if_pos hv, if_neg hno, insW_eq]
theorem comeT_no {ws : List Wk} {ps : List Pl} {a c : Int} (h : ¬ (okF ws ps = true ∧ ((1 ≤ a ∧ a ≤ 4) ∧ 1 ≤ c ∧ c ≤ 8) ∧ ¬ idxW ws a < ws.length)) : ∃ e : Int, e ≠ 0 ∧ comeT ws ps a c = ([], [], e) := by
  unfold comeT
  by_cases hk : okF ws ps = true
  · rw [if_pos hk]
    by_cases hv : (1 ≤ a ∧ a ≤ 4) ∧ 1 ≤ c ∧ c ≤ 8
    · rw [if_pos hv]
      by_cases hi : idxW ws a < ws.length
      · rw [if_pos hi]; exact ⟨5, by decide, rfl⟩
      · exact absurd ⟨hk, hv, hi⟩ h
    · rw [if_neg hv]; exact ⟨2, by decide, rfl⟩
  · rw [if_neg hk]; exact ⟨210, by decide, rfl⟩
theorem layR_no {ws : List Wk} {ps : List Pl} {ts : List Int} (h : ¬ (okF ws ps = true ∧ wantT ws ps ts = 0)) : ∃ e : Int, e ≠ 0 ∧ layR ws ps ts = ([], [], e) := by
  unfold layR
  by_cases hk : okF ws ps = true
  · rw [if_pos hk]
    by_cases hw : wantT ws ps ts = 0
    · exact absurd ⟨hk, hw⟩ h
    · rw [if_neg hw]; exact ⟨_, hw, rfl⟩
  · rw [if_neg hk]; exact ⟨210, by decide, rfl⟩
theorem sb_00 (ws : List Wk) (ps : List Pl) (ts : List Int) (a c : Int) (hw : ws.length ≤ 50) (hp : ps.length ≤ 100) (ht : ts.length ≤ 100) (hl : ¬ (okF ws ps = true ∧ wantT ws ps ts = 0)) (hm : ¬ (okF ws ps = true ∧ ((1 ≤ a ∧ a ≤ 4) ∧ 1 ≤ c ∧ c ≤ 8) ∧ ¬ idxW ws a < ws.length)) : Con Try.prog 7 [.agg [.ro false 2 ((ws).map eW), .ro false 2 ((ps).map eL)], .one (.ro false 1 (ts.map eI)), .agg [.v (.int .i64 a), .v (.int .i64 c)]] (fun rx rK rt => rx = .val (.bool true) ∧ rK = [] ∧ rt = 0) := by
  refine Z.con_ofF tabOk 75 Try.f7 _ Try.func7 (by kernel_rfl) rfl rfl rfl rfl ?_
  have co := over_con ws ps (by omega) (by omega)
  rw [decide_eq_false (by omega)] at co
  have cl := lay_con ws ps ts (by omega) (by omega) (by omega)
  have cm := come_con ws ps a c (by omega) (by omega)
  have cs := psame_con ws ws ps ps (by omega) (by omega)
  rw [decide_eq_true (p := ws = ws ∧ ps = ps) ⟨rfl, rfl⟩] at cs
  obtain ⟨e1, he1, h1⟩ := layR_no hl
  rw [h1] at cl
  dsimp only at cl
  obtain ⟨e2, he2, h2⟩ := comeT_no hm
  rw [h2] at cm
  dsimp only at cm
  repeat' ((conv => whnf); first
    | ((with_reducible apply spB_cong); (focus (simp only [beq_self_eq_true, bne_self_eq_false, Bool.true_bne, Bool.false_bne, Bool.bne_true, Bool.bne_false, Bool.true_beq, Bool.false_beq, Bool.not_true, Bool.not_false, Bool.not_not, Int.reduceBEq, Int.reduceBNe, Int.reduceLE, Int.reduceLT, Int.reduceEq, decide_true, decide_false, bne_self_eq_false, beq_self_eq_true]; rfl)))
    | with_reducible first | refine spB_no (by decide) ?_
    | (with_reducible refine spB_dec ?_ ?_ <;> intro _ <;> (try (exfalso; first | contradiction | omega | (rename_i hz; refine hz ?_; simp; done) | (rename_i hz; simp at hz; done) | (simp only [LN] at *; omega))))
    | (with_reducible refine spB_beq ?_ ?_ <;> intro _ <;> (try (exfalso; first | contradiction | omega | (rename_i hz; refine hz ?_; simp; done) | (rename_i hz; simp at hz; done) | (simp only [LN] at *; omega))))
    | ((first | (with_reducible refine Z.callZ_mk ?_ (wakes_con) ?_) | (with_reducible refine Z.callZ_mk ?_ (co) ?_) | (with_reducible refine Z.callZ_mk ?_ (cm) ?_) | (with_reducible refine Z.callZ_mk ?_ (cl) ?_)); (focus ((repeat' (first | exact trivial | exact rfl | apply And.intro)); done))))
  all_goals (try (conv => whnf))
  all_goals try (show Nat.ble _ _ = true; rfl)
  all_goals first
    | ((first | (with_reducible apply Z.retF1)); (focus (exact rfl)); (repeat' (first | exact trivial | (with_reducible apply Z.frz_one) | (with_reducible apply Z.fq_bool) | exact rfl | apply And.intro)); (all_goals (try exact (fun _ => none))); all_goals (first | (simp; done)))

theorem sb_01 (ws : List Wk) (ps : List Pl) (ts : List Int) (a c : Int) (hw : ws.length ≤ 50) (hp : ps.length ≤ 100) (ht : ts.length ≤ 100) (hl : ¬ (okF ws ps = true ∧ wantT ws ps ts = 0)) (hm : (okF ws ps = true ∧ ((1 ≤ a ∧ a ≤ 4) ∧ 1 ≤ c ∧ c ≤ 8) ∧ ¬ idxW ws a < ws.length)) : Con Try.prog 7 [.agg [.ro false 2 ((ws).map eW), .ro false 2 ((ps).map eL)], .one (.ro false 1 (ts.map eI)), .agg [.v (.int .i64 a), .v (.int .i64 c)]] (fun rx rK rt => rx = .val (.bool true) ∧ rK = [] ∧ rt = 0) := by
  refine Z.con_ofF tabOk 75 Try.f7 _ Try.func7 (by kernel_rfl) rfl rfl rfl rfl ?_
  have co := over_con ws ps (by omega) (by omega)
  rw [decide_eq_false (by omega)] at co
  have cl := lay_con ws ps ts (by omega) (by omega) (by omega)
  have cm := come_con ws ps a c (by omega) (by omega)
  have cs := psame_con ws ws ps ps (by omega) (by omega)
  rw [decide_eq_true (p := ws = ws ∧ ps = ps) ⟨rfl, rfl⟩] at cs
  obtain ⟨e1, he1, h1⟩ := layR_no hl
  rw [h1] at cl
  dsimp only at cl
  obtain ⟨hk2, hv2, hn2⟩ := hm
  rw [comeT_ok hk2 hv2 hn2] at cm
  have hI := insW_len (a := a) (c := c) (A := ws)
  have cg := go_con (insW a c ws) ps a (by omega) (by omega)
  rw [come_go hk2 hv2 hn2] at cg
  dsimp only at cm cg
  generalize insW a c ws = IW at *
  repeat' ((conv => whnf); first
    | with_reducible first | refine spB_t ?_
    | ((with_reducible apply spB_cong); (focus (simp only [beq_self_eq_true, bne_self_eq_false, Bool.true_bne, Bool.false_bne, Bool.bne_true, Bool.bne_false, Bool.true_beq, Bool.false_beq, Bool.not_true, Bool.not_false, Bool.not_not, Int.reduceBEq, Int.reduceBNe, Int.reduceLE, Int.reduceLT, Int.reduceEq, decide_true, decide_false, bne_self_eq_false, beq_self_eq_true]; rfl)))
    | with_reducible first | refine spB_yes (by decide) ?_ | refine spB_no (by decide) ?_
    | (with_reducible refine spB_dec ?_ ?_ <;> intro _ <;> (try (exfalso; first | contradiction | omega | (rename_i hz; refine hz ?_; simp; done) | (rename_i hz; simp at hz; done) | (simp only [LN] at *; omega))))
    | (with_reducible refine spB_beq ?_ ?_ <;> intro _ <;> (try (exfalso; first | contradiction | omega | (rename_i hz; refine hz ?_; simp; done) | (rename_i hz; simp at hz; done) | (simp only [LN] at *; omega))))
    | ((first | (with_reducible refine Z.callZ_mk ?_ (wakes_con) ?_) | (with_reducible refine Z.callZ_mk ?_ (co) ?_) | (with_reducible refine Z.callZ_mk ?_ (cm) ?_) | (with_reducible refine Z.callZ_mk ?_ (cg) ?_) | (with_reducible refine Z.callZ_mk ?_ (cl) ?_) | (with_reducible refine Z.callZ_mk ?_ (cs) ?_)); (focus ((repeat' (first | exact trivial | exact rfl | apply And.intro)); done))))
  all_goals (try (conv => whnf))
  all_goals try (show Nat.ble _ _ = true; rfl)
  all_goals first
    | ((first | (with_reducible apply Z.retF1)); (focus (exact rfl)); (repeat' (first | exact trivial | exact rfl | apply And.intro)); (all_goals (try exact (fun _ => none))); all_goals (first | (simp; done)))

theorem sb_10 (ws : List Wk) (ps : List Pl) (ts : List Int) (a c : Int) (hw : ws.length ≤ 50) (hp : ps.length ≤ 100) (ht : ts.length ≤ 100) (hl : (okF ws ps = true ∧ wantT ws ps ts = 0)) (hm : ¬ (okF ws ps = true ∧ ((1 ≤ a ∧ a ≤ 4) ∧ 1 ≤ c ∧ c ≤ 8) ∧ ¬ idxW ws a < ws.length)) : Con Try.prog 7 [.agg [.ro false 2 ((ws).map eW), .ro false 2 ((ps).map eL)], .one (.ro false 1 (ts.map eI)), .agg [.v (.int .i64 a), .v (.int .i64 c)]] (fun rx rK rt => rx = .val (.bool true) ∧ rK = [] ∧ rt = 0) := by
  refine Z.con_ofF tabOk 75 Try.f7 _ Try.func7 (by kernel_rfl) rfl rfl rfl rfl ?_
  have co := over_con ws ps (by omega) (by omega)
  rw [decide_eq_false (by omega)] at co
  have cl := lay_con ws ps ts (by omega) (by omega) (by omega)
  have cm := come_con ws ps a c (by omega) (by omega)
  have cs := psame_con ws ws ps ps (by omega) (by omega)
  rw [decide_eq_true (p := ws = ws ∧ ps = ps) ⟨rfl, rfl⟩] at cs
  obtain ⟨hk1, hw1⟩ := hl
  rw [show layR ws ps ts = (ws, layT ws ps ts, 0) by unfold layR; rw [if_pos hk1, if_pos hw1]] at cl
  have hL2 := layT_len (ws := ws) (l := ts) (A := ps)
  have ct := take_con ws (layT ws ps ts) ts (by omega) (by omega) (by omega)
  rw [takeT_yes (lay_all hk1 hw1) (lay_take hk1 hw1)] at ct
  dsimp only at cl ct
  generalize layT ws ps ts = LT at *
  obtain ⟨e2, he2, h2⟩ := comeT_no hm
  rw [h2] at cm
  dsimp only at cm
  repeat' ((conv => whnf); first
    | with_reducible first | refine spB_t ?_
    | ((with_reducible apply spB_cong); (focus (simp only [beq_self_eq_true, bne_self_eq_false, Bool.true_bne, Bool.false_bne, Bool.bne_true, Bool.bne_false, Bool.true_beq, Bool.false_beq, Bool.not_true, Bool.not_false, Bool.not_not, Int.reduceBEq, Int.reduceBNe, Int.reduceLE, Int.reduceLT, Int.reduceEq, decide_true, decide_false, bne_self_eq_false, beq_self_eq_true]; rfl)))
    | with_reducible first | refine spB_no (by decide) ?_
    | (with_reducible refine spB_dec ?_ ?_ <;> intro _ <;> (try (exfalso; first | contradiction | omega | (rename_i hz; refine hz ?_; simp; done) | (rename_i hz; simp at hz; done) | (simp only [LN] at *; omega))))
    | (with_reducible refine spB_beq ?_ ?_ <;> intro _ <;> (try (exfalso; first | contradiction | omega | (rename_i hz; refine hz ?_; simp; done) | (rename_i hz; simp at hz; done) | (simp only [LN] at *; omega))))
    | ((first | (with_reducible refine Z.callZ_mk ?_ (wakes_con) ?_) | (with_reducible refine Z.callZ_mk ?_ (co) ?_) | (with_reducible refine Z.callZ_mk ?_ (cm) ?_) | (with_reducible refine Z.callZ_mk ?_ (cl) ?_) | (with_reducible refine Z.callZ_mk ?_ (ct) ?_) | (with_reducible refine Z.callZ_mk ?_ (cs) ?_)); (focus ((repeat' (first | exact trivial | exact rfl | apply And.intro)); done))))
  all_goals (try (conv => whnf))
  all_goals try (show Nat.ble _ _ = true; rfl)
  all_goals first
    | ((first | (with_reducible apply Z.retF1)); (focus (exact rfl)); (repeat' (first | exact trivial | (with_reducible apply Z.frz_one) | (with_reducible apply Z.fq_bool) | exact rfl | apply And.intro)); (all_goals (try exact (fun _ => none))); all_goals (first | (simp; done)))

theorem sb_11 (ws : List Wk) (ps : List Pl) (ts : List Int) (a c : Int) (hw : ws.length ≤ 50) (hp : ps.length ≤ 100) (ht : ts.length ≤ 100) (hl : (okF ws ps = true ∧ wantT ws ps ts = 0)) (hm : (okF ws ps = true ∧ ((1 ≤ a ∧ a ≤ 4) ∧ 1 ≤ c ∧ c ≤ 8) ∧ ¬ idxW ws a < ws.length)) : Con Try.prog 7 [.agg [.ro false 2 ((ws).map eW), .ro false 2 ((ps).map eL)], .one (.ro false 1 (ts.map eI)), .agg [.v (.int .i64 a), .v (.int .i64 c)]] (fun rx rK rt => rx = .val (.bool true) ∧ rK = [] ∧ rt = 0) := by
  refine Z.con_ofF tabOk 75 Try.f7 _ Try.func7 (by kernel_rfl) rfl rfl rfl rfl ?_
  have co := over_con ws ps (by omega) (by omega)
  rw [decide_eq_false (by omega)] at co
  have cl := lay_con ws ps ts (by omega) (by omega) (by omega)
  have cm := come_con ws ps a c (by omega) (by omega)
  have cs := psame_con ws ws ps ps (by omega) (by omega)
  rw [decide_eq_true (p := ws = ws ∧ ps = ps) ⟨rfl, rfl⟩] at cs
  obtain ⟨hk1, hw1⟩ := hl
  rw [show layR ws ps ts = (ws, layT ws ps ts, 0) by unfold layR; rw [if_pos hk1, if_pos hw1]] at cl
  have hL2 := layT_len (ws := ws) (l := ts) (A := ps)
  have ct := take_con ws (layT ws ps ts) ts (by omega) (by omega) (by omega)
  rw [takeT_yes (lay_all hk1 hw1) (lay_take hk1 hw1)] at ct
  dsimp only at cl ct
  generalize layT ws ps ts = LT at *
  obtain ⟨hk2, hv2, hn2⟩ := hm
  rw [comeT_ok hk2 hv2 hn2] at cm
  have hI := insW_len (a := a) (c := c) (A := ws)
  have cg := go_con (insW a c ws) ps a (by omega) (by omega)
  rw [come_go hk2 hv2 hn2] at cg
  dsimp only at cm cg
  generalize insW a c ws = IW at *
  repeat' ((conv => whnf); first
    | with_reducible first | refine spB_t ?_
    | ((with_reducible apply spB_cong); (focus (simp only [beq_self_eq_true, bne_self_eq_false, Bool.true_bne, Bool.false_bne, Bool.bne_true, Bool.bne_false, Bool.true_beq, Bool.false_beq, Bool.not_true, Bool.not_false, Bool.not_not, Int.reduceBEq, Int.reduceBNe, Int.reduceLE, Int.reduceLT, Int.reduceEq, decide_true, decide_false, bne_self_eq_false, beq_self_eq_true]; rfl)))
    | with_reducible first | refine spB_yes (by decide) ?_ | refine spB_no (by decide) ?_
    | (with_reducible refine spB_dec ?_ ?_ <;> intro _ <;> (try (exfalso; first | contradiction | omega | (rename_i hz; refine hz ?_; simp; done) | (rename_i hz; simp at hz; done) | (simp only [LN] at *; omega))))
    | ((first | (with_reducible refine Z.callZ_mk ?_ (wakes_con) ?_) | (with_reducible refine Z.callZ_mk ?_ (co) ?_) | (with_reducible refine Z.callZ_mk ?_ (cm) ?_) | (with_reducible refine Z.callZ_mk ?_ (cg) ?_) | (with_reducible refine Z.callZ_mk ?_ (cl) ?_) | (with_reducible refine Z.callZ_mk ?_ (ct) ?_) | (with_reducible refine Z.callZ_mk ?_ (cs) ?_)); (focus ((repeat' (first | exact trivial | exact rfl | apply And.intro)); done))))
  all_goals (try (conv => whnf))
  all_goals try (show Nat.ble _ _ = true; rfl)
  all_goals first
    | ((first | (with_reducible apply Z.retF1)); (focus (exact rfl)); (repeat' (first | exact trivial | exact rfl | apply And.intro)); (all_goals (try exact (fun _ => none))); all_goals (first | (simp; done)))

theorem sb_over (ws : List Wk) (ps : List Pl) (ts : List Int) (a c : Int) (hw : ws.length ≤ 9223372036854775807) (hp : ps.length ≤ 9223372036854775807) (ht : ts.length ≤ 9223372036854775807) (hov : 50 < ws.length ∨ 100 < ps.length) : Con Try.prog 7 [.agg [.ro false 2 ((ws).map eW), .ro false 2 ((ps).map eL)], .one (.ro false 1 (ts.map eI)), .agg [.v (.int .i64 a), .v (.int .i64 c)]] (fun rx rK rt => rx = .val (.bool true) ∧ rK = [] ∧ rt = 0) := by
  refine Z.con_ofF tabOk 75 Try.f7 _ Try.func7 (by kernel_rfl) rfl rfl rfl rfl ?_
  have co := over_con ws ps (by omega) (by omega)
  rw [decide_eq_true hov] at co
  repeat' ((conv => whnf); first
    | with_reducible first | refine spB_t ?_
    | ((with_reducible apply spB_cong); (focus (simp only [beq_self_eq_true, bne_self_eq_false, Bool.true_bne, Bool.false_bne, Bool.bne_true, Bool.bne_false, Bool.true_beq, Bool.false_beq, Bool.not_true, Bool.not_false, Bool.not_not, Int.reduceBEq, Int.reduceBNe, Int.reduceLE, Int.reduceLT, Int.reduceEq, decide_true, decide_false]; rfl)))
    | with_reducible first | refine spB_no (by decide) ?_
    | ((first | (with_reducible refine Z.callZ_mk ?_ (wakes_con) ?_) | (with_reducible refine Z.callZ_mk ?_ (co) ?_)); (focus ((repeat' (first | exact trivial | exact rfl | apply And.intro)); done))))
  all_goals (try (conv => whnf))
  all_goals try (show Nat.ble _ _ = true; rfl)
  all_goals first
    | ((first | (with_reducible apply Z.retF1)); (focus (exact rfl)); (repeat' (first | exact trivial | (with_reducible apply Z.frz_one) | (with_reducible apply Z.fq_bool) | exact rfl | apply And.intro)); (all_goals (try exact (fun _ => none))); all_goals (first | (simp; done)))

theorem sb_long (ws : List Wk) (ps : List Pl) (ts : List Int) (a c : Int) (hw : ws.length ≤ 9223372036854775807) (hp : ps.length ≤ 9223372036854775807) (ht : ts.length ≤ 9223372036854775807) (hw2 : ws.length ≤ 50) (hp2 : ps.length ≤ 100) (hov : 100 < ts.length) : Con Try.prog 7 [.agg [.ro false 2 ((ws).map eW), .ro false 2 ((ps).map eL)], .one (.ro false 1 (ts.map eI)), .agg [.v (.int .i64 a), .v (.int .i64 c)]] (fun rx rK rt => rx = .val (.bool true) ∧ rK = [] ∧ rt = 0) := by
  refine Z.con_ofF tabOk 75 Try.f7 _ Try.func7 (by kernel_rfl) rfl rfl rfl rfl ?_
  have co := over_con ws ps (by omega) (by omega)
  rw [decide_eq_false (by omega)] at co
  repeat' ((conv => whnf); first
    | ((with_reducible apply spB_cong); (focus (simp only [beq_self_eq_true, bne_self_eq_false, Bool.true_bne, Bool.false_bne, Bool.bne_true, Bool.bne_false, Bool.true_beq, Bool.false_beq, Bool.not_true, Bool.not_false, Bool.not_not, Int.reduceBEq, Int.reduceBNe, Int.reduceLE, Int.reduceLT, Int.reduceEq, decide_true, decide_false]; rfl)))
    | with_reducible first | refine spB_no (by decide) ?_
    | (with_reducible refine spB_dec ?_ ?_ <;> intro _ <;> (try (exfalso; first | contradiction | omega | (rename_i hz; refine hz ?_; simp; done) | (rename_i hz; simp at hz; done) | (simp only [LN] at *; omega))))
    | ((first | (with_reducible refine Z.callZ_mk ?_ (wakes_con) ?_) | (with_reducible refine Z.callZ_mk ?_ (co) ?_)); (focus ((repeat' (first | exact trivial | exact rfl | apply And.intro)); done))))
  all_goals (try (conv => whnf))
  all_goals try (show Nat.ble _ _ = true; rfl)
  all_goals first
    | ((first | (with_reducible apply Z.retF1)); (focus (exact rfl)); (repeat' (first | exact trivial | (with_reducible apply Z.frz_one) | (with_reducible apply Z.fq_bool) | exact rfl | apply And.intro)); (all_goals (try exact (fun _ => none))); all_goals (first | (simp; done)))

theorem slotsback_con (ws : List Wk) (ps : List Pl) (ts : List Int) (a c : Int) (hw : ws.length ≤ 9223372036854775807) (hp : ps.length ≤ 9223372036854775807) (ht : ts.length ≤ 9223372036854775807) : Con Try.prog 7 [.agg [.ro false 2 ((ws).map eW), .ro false 2 ((ps).map eL)], .one (.ro false 1 (ts.map eI)), .agg [.v (.int .i64 a), .v (.int .i64 c)]] (fun rx rK rt => rx = .val (.bool true) ∧ rK = [] ∧ rt = 0) := by
  by_cases hov : 50 < ws.length ∨ 100 < ps.length
  · exact sb_over ws ps ts a c hw hp ht hov
  · have h1 : ws.length ≤ 50 := by omega
    have h2 : ps.length ≤ 100 := by omega
    by_cases h3 : 100 < ts.length
    · exact sb_long ws ps ts a c hw hp ht h1 h2 h3
    · have h3 : ts.length ≤ 100 := by omega
      by_cases hl : okF ws ps = true ∧ wantT ws ps ts = 0
      · by_cases hm : okF ws ps = true ∧ ((1 ≤ a ∧ a ≤ 4) ∧ 1 ≤ c ∧ c ≤ 8) ∧ ¬ idxW ws a < ws.length
        · exact sb_11 ws ps ts a c h1 h2 h3 hl hm
        · exact sb_10 ws ps ts a c h1 h2 h3 hl hm
      · by_cases hm : okF ws ps = true ∧ ((1 ≤ a ∧ a ≤ 4) ∧ 1 ≤ c ∧ c ≤ 8) ∧ ¬ idxW ws a < ws.length
        · exact sb_01 ws ps ts a c h1 h2 h3 hl hm
        · exact sb_00 ws ps ts a c h1 h2 h3 hl hm
structure Fl where
  ws : List Wk
  ps : List Pl
abbrev eFl (x : Fl) : List RT := [RT.ro 2 (x.ws.map eW), RT.ro 2 (x.ps.map eL)]
def okWk (x : Wk) : Prop := (Lit.int .i64 x.id).wf = true ∧ (Lit.int .i64 x.sl).wf = true ∧ True
theorem rowWk (row : List RT) (h : RowF (.st (.cons 3 1 (.int .i64) (.cons 3 1 (.int .i64) .nil))) row) : ∃ x, row = eW x ∧ okWk x := by
  obtain ⟨a0, r0, rfl, _, ⟨z0, rfl, w0⟩, a1, r1, rfl, _, ⟨z1, rfl, w1⟩, rfl⟩ := h
  exact ⟨⟨z0, z1⟩, rfl, w0, w1, trivial⟩
def okPl (x : Pl) : Prop := (Lit.int .i64 x.task).wf = true ∧ (Lit.int .i64 x.wk).wf = true ∧ True
theorem rowPl (row : List RT) (h : RowF (.st (.cons 3 1 (.int .i64) (.cons 3 1 (.int .i64) .nil))) row) : ∃ x, row = eL x ∧ okPl x := by
  obtain ⟨a0, r0, rfl, _, ⟨z0, rfl, w0⟩, a1, r1, rfl, _, ⟨z1, rfl, w1⟩, rfl⟩ := h
  exact ⟨⟨z0, z1⟩, rfl, w0, w1, trivial⟩
def okFl (x : Fl) : Prop := (x.ws.length ≤ maxLen ∧ ∀ z ∈ x.ws, okWk z) ∧ (x.ps.length ≤ maxLen ∧ ∀ z ∈ x.ps, okPl z) ∧ True
theorem rowFl (row : List RT) (h : RowF (.st (.cons 22 1 (.sl (.st (.cons 3 1 (.int .i64) (.cons 3 1 (.int .i64) .nil))) 27 2) (.cons 23 1 (.sl (.st (.cons 3 1 (.int .i64) (.cons 3 1 (.int .i64) .nil))) 66 2) .nil))) row) : ∃ x, row = eFl x ∧ okFl x := by
  obtain ⟨a0, r0, rfl, _, ⟨rows0, rfl, l0, h0⟩, a1, r1, rfl, _, ⟨rows1, rfl, l1, h1⟩, rfl⟩ := h
  obtain ⟨z0, rfl, k0⟩ := rows_map eW (fun z => okWk z) rowWk rows0 h0
  obtain ⟨z1, rfl, k1⟩ := rows_map eL (fun z => okPl z) rowPl rows1 h1
  exact ⟨⟨z0, z1⟩, rfl, ⟨by simpa using l0, k0⟩, ⟨by simpa using l1, k1⟩, trivial⟩
namespace slotsBack
theorem main (avs : List A0) (h : All2 FitA [(.st (.cons 22 1 (.sl (.st (.cons 3 1 (.int .i64) (.cons 3 1 (.int .i64) .nil))) 27 2) (.cons 23 1 (.sl (.st (.cons 3 1 (.int .i64) (.cons 3 1 (.int .i64) .nil))) 66 2) .nil))), (.sl (.int .i64) 3 1), (.st (.cons 3 1 (.int .i64) (.cons 3 1 (.int .i64) .nil)))] avs) : Con Try.prog 7 avs (fun x K t => x = .val (.bool true) ∧ K = [] ∧ t = 0) := by
  obtain ⟨x0, x1, x2, rfl, h0, h1, h2⟩ : ∃ x0 x1 x2, avs = [x0, x1, x2] ∧ FitA (.st (.cons 22 1 (.sl (.st (.cons 3 1 (.int .i64) (.cons 3 1 (.int .i64) .nil))) 27 2) (.cons 23 1 (.sl (.st (.cons 3 1 (.int .i64) (.cons 3 1 (.int .i64) .nil))) 66 2) .nil))) x0 ∧ FitA (.sl (.int .i64) 3 1) x1 ∧ FitA (.st (.cons 3 1 (.int .i64) (.cons 3 1 (.int .i64) .nil))) x2 := by
    cases avs with
    | nil => exact h.elim
    | cons x0 r => cases r with
      | nil => exact h.2.elim
      | cons x1 r => cases r with
        | nil => exact h.2.2.elim
        | cons x2 r => cases r with
          | nil => exact ⟨x0, x1, x2, rfl, h.1, h.2.1, h.2.2.1⟩
          | cons => exact h.2.2.2.elim
  clear h
  obtain ⟨row0, hrow0, rfl⟩ := h0
  obtain ⟨x, rfl, kx⟩ := rowFl row0 hrow0
  obtain ⟨zs, rfl, lzs, wzs⟩ := fit_ints h1
  obtain ⟨row2, hrow2, rfl⟩ := h2
  obtain ⟨y, rfl, ky⟩ := rowWk row2 hrow2
  exact slotsback_con x.ws x.ps zs y.id y.sl (by have := kx.1.1; simpa [maxLen] using this) (by have := kx.2.1.1; simpa [maxLen] using this) (by have := lzs; simpa [maxLen] using this)
end slotsBack
end Go.Proofs.Ytllnmdmmmkoiaaa
namespace Go.Proofs.Ytllnmdmmmkoiaaa
open Go Go.RowKit Wx
set_option linter.unusedVariables false
set_option linter.unusedSimpArgs false
set_option maxHeartbeats 4000000
/-! ### Evenly -/
def upW (e : Int) (k : Nat) : List Wk := (List.range k).map fun (i : Nat) => (⟨(i : Int) + 1, e⟩ : Wk)
def upT (k : Nat) : List Int := (List.range k).map fun (i : Nat) => (i : Int)
theorem upW_snoc {e : Int} {k : Nat} : upW e (k + 1) = upW e k ++ [⟨(k : Int) + 1, e⟩] := by
  unfold upW; rw [List.range_succ, List.map_append]; rfl
theorem upT_snoc {k : Nat} : upT (k + 1) = upT k ++ [(k : Int)] := by
  unfold upT; rw [List.range_succ, List.map_append]; rfl
theorem upW_len {e : Int} {k : Nat} : (upW e k).length = k := by simp [upW]
theorem upT_len {k : Nat} : (upT k).length = k := by simp [upT]
theorem upW_mem {e : Int} {k : Nat} {w : Wk} : w ∈ upW e k ↔ w.sl = e ∧ 1 ≤ w.id ∧ w.id ≤ (k : Int) := by
  unfold upW
  rw [List.mem_map]
  constructor
  · rintro ⟨i, hi, rfl⟩; rw [List.mem_range] at hi; exact ⟨rfl, by dsimp only; omega, by dsimp only; omega⟩
  · rintro ⟨h1, h2, h3⟩
    refine ⟨(w.id - 1).toNat, List.mem_range.2 (by omega), ?_⟩
    cases w with
    | mk a b => simp only [Wk.mk.injEq] at *; exact ⟨by omega, h1.symm⟩
theorem upW_srt {e : Int} : ∀ {k : Nat}, wsrt (upW e k)
  | 0 => by simp [upW, wsrt]
  | k + 1 => by
    rw [upW_snoc]
    refine List.pairwise_append.2 ⟨upW_srt, by simp, fun a ha b hb => ?_⟩
    rw [List.mem_singleton] at hb
    subst hb
    have := (upW_mem.1 ha).2.2
    dsimp only; omega
theorem upW_sl {e y : Int} {k : Nat} (h1 : 1 ≤ y) (h2 : y ≤ (k : Int)) : slF (upW e k) y = e := slF_of (w := ⟨y, e⟩) upW_srt (upW_mem.2 ⟨rfl, h1, h2⟩)
theorem upW_sum {e : Int} : ∀ {k : Nat}, sumW (upW e k) = (k : Int) * e
  | 0 => by simp [upW, sumW]
  | k + 1 => by
    rw [upW_snoc]
    have ih := @upW_sum e k
    unfold sumW at ih ⊢
    rw [List.map_append, List.sum_append, ih]
    simp [Int.add_mul]
theorem okF_up {e : Int} {k : Nat} (he : 1 ≤ e ∧ e ≤ 8) (hk : k ≤ 4) : okF (upW e k) [] = true := by
  have h1 : okW 0 (upW e k) = true := okW_all.2 ⟨upW_srt, fun w hw => by have := upW_mem.1 hw; omega⟩
  unfold okF
  rw [h1, (okC_iff h1).2 fun y => by have := okW_sl h1 y; simp only [cnt]; omega]
  rfl
theorem insW_app {a c : Int} : ∀ {A : List Wk}, (∀ w ∈ A, w.id < a) → insW a c A = A ++ [⟨a, c⟩]
  | [], _ => rfl
  | w :: l, h => by
    have := h w (by simp)
    rw [insW, if_neg (by omega), insW_app fun z hz => h z (by simp [hz])]; rfl
theorem come_up {e : Int} {k : Nat} (he : 1 ≤ e ∧ e ≤ 8) (hk : k < 4) : comeT (upW e k) [] ((k : Int) + 1) e = (upW e (k + 1), [], 0) := by
  have hn : ¬ idxW (upW e k) ((k : Int) + 1) < (upW e k).length := fun h => by
    obtain ⟨w, hw, e2⟩ := List.findIdx_lt_length.1 h
    have h3 := (upW_mem.1 hw).2.2
    have := of_decide_eq_true e2
    omega
  rw [comeT_ok (okF_up he (by omega)) ⟨⟨by omega, by omega⟩, he⟩ hn, upW_snoc, insW_app fun w hw => by have := (upW_mem.1 hw).2.2; omega]
theorem want_up {e : Int} {k m : Nat} (hm : m ≤ 16) : wantT (upW e k) [] (upT m) = if (m : Int) > (k : Int) * e then 6 else 0 := by
  have h1 : okTs (upT m) = true := by
    unfold okTs; rw [List.all_eq_true]
    intro t ht
    unfold upT at ht
    obtain ⟨i, hi, rfl⟩ := List.mem_map.1 ht
    rw [List.mem_range] at hi
    exact decide_eq_true (by omega)
  have h2 : freshT [] (upT m) = true := fresh_iff.2 ⟨by
    unfold upT
    refine List.nodup_iff_pairwise_ne.2 (List.pairwise_map.2 ?_)
    exact (List.nodup_iff_pairwise_ne.1 List.nodup_range).imp fun h g => h (by omega), fun t _ p hp => by simp at hp⟩
  unfold wantT
  rw [h1, h2, upW_sum, upT_len]
  simp
def bal (k : Nat) (A : List Pl) : Prop := ∀ i j : Int, 1 ≤ i → i ≤ (k : Int) → 1 ≤ j → j ≤ (k : Int) → cnt A i ≤ cnt A j + 1
theorem lay_bal {e : Int} {k : Nat} : ∀ {l : List Int} {A : List Pl}, okF (upW e k) A = true → wantT (upW e k) A l = 0 → bal k A → bal k (layT (upW e k) A l)
  | [], A, _, _, h => h
  | t :: l, A, h, g, hb => by
    have hl := lay_keep h g
    have h3 := (want_0.1 g).2.2
    obtain ⟨hp, hw⟩ := room_pos h (by simp only [List.length_cons] at h3; omega)
    obtain ⟨w, hwm, hwe⟩ := hw
    have hall := (room_all (f := leftF (upW e k) A) (okF_all h).1 (fun e2 => by rw [e2] at hwm; simp at hwm)).2.1
    rw [layT]
    refine lay_bal hl.1 hl.2 ?_
    have hbr := (upW_mem.1 hwm).2
    rw [← hwe] at hbr
    generalize roomF (leftF (upW e k) A) (upW e k) 0 = b at *
    have hmin : ∀ j : Int, 1 ≤ j → j ≤ (k : Int) → cnt A b ≤ cnt A j := fun j h1 h2 => by
      have := hall ⟨j, e⟩ (upW_mem.2 ⟨rfl, h1, h2⟩)
      unfold leftF at this
      rw [upW_sl (by exact h1) (by exact h2), upW_sl hbr.1 hbr.2] at this
      dsimp only at this
      omega
    intro i j hi1 hi2 hj1 hj2
    rw [cnt_ins, cnt_ins]
    dsimp only
    have h5 := hb i j hi1 hi2 hj1 hj2
    have h6 := hmin j hj1 hj2
    by_cases e1 : b = i
    · subst e1; rw [if_pos rfl]; split <;> omega
    · rw [if_neg e1]; split <;> omega
def loF (A : List Pl) : Nat → Int
  | 0 => 16
  | j + 1 => min (loF A j) (cnt A ((j : Int) + 1))
def hiF (A : List Pl) : Nat → Int
  | 0 => 0
  | j + 1 => max (hiF A j) (cnt A ((j : Int) + 1))
theorem lohi_b {A : List Pl} (hA : A.length ≤ 16) : ∀ {j : Nat}, (0 ≤ loF A j ∧ loF A j ≤ 16) ∧ 0 ≤ hiF A j ∧ hiF A j ≤ 16
  | 0 => by simp [loF, hiF]
  | j + 1 => by
    have := @lohi_b A hA j
    have h2 := cnt_nn (ps := A) (y := (j : Int) + 1)
    rw [loF, hiF]; omega
theorem lohi_at {A : List Pl} (hA : A.length ≤ 16) : ∀ {j : Nat}, (∃ i : Int, 1 ≤ i ∧ i ≤ (j : Int) + 1 ∧ loF A (j + 1) = cnt A i) ∧ ∃ i : Int, 1 ≤ i ∧ i ≤ (j : Int) + 1 ∧ hiF A (j + 1) = cnt A i
  | 0 => by
    have h2 := cnt_nn (ps := A) (y := ((0 : Nat) : Int) + 1)
    refine ⟨⟨((0 : Nat) : Int) + 1, by omega, by omega, ?_⟩, ⟨((0 : Nat) : Int) + 1, by omega, by omega, ?_⟩⟩
    · show min (16 : Int) (cnt A (((0 : Nat) : Int) + 1)) = cnt A (((0 : Nat) : Int) + 1); omega
    · show max (0 : Int) (cnt A (((0 : Nat) : Int) + 1)) = cnt A (((0 : Nat) : Int) + 1); omega
  | j + 1 => by
    obtain ⟨⟨i, h1, h2, h3⟩, ⟨i', g1, g2, g3⟩⟩ := @lohi_at A hA j
    rw [loF, hiF]
    generalize loF A (j + 1) = a at *
    generalize hiF A (j + 1) = b at *
    constructor
    · by_cases h : a ≤ cnt A (((j + 1 : Nat) : Int) + 1)
      · exact ⟨i, h1, by omega, by omega⟩
      · exact ⟨((j + 1 : Nat) : Int) + 1, by omega, by omega, by omega⟩
    · by_cases h : cnt A (((j + 1 : Nat) : Int) + 1) ≤ b
      · exact ⟨i', g1, by omega, by omega⟩
      · exact ⟨((j + 1 : Nat) : Int) + 1, by omega, by omega, by omega⟩
theorem even_end {A : List Pl} {k : Nat} (hA : A.length ≤ 16) (hk : 1 ≤ k) (hb : bal k A) : hiF A k - loF A k ≤ 1 := by
  obtain ⟨j, rfl⟩ : ∃ j, k = j + 1 := ⟨k - 1, by omega⟩
  obtain ⟨⟨i, h1, h2, h3⟩, ⟨i', g1, g2, g3⟩⟩ := @lohi_at A hA j
  have := hb i' i g1 (by omega) h1 (by omega)
  omega
theorem vN_tmq {p q : Int} {A : Int → Prop} (hp : 0 ≤ p) (hq : 0 < q) (h : ∀ r, 0 ≤ r → r < q → A r) : vN (p.tmod q) A := vN_mk (h _ (Int.tmod_nonneg _ hp) (Int.tmod_lt_of_pos _ hq))
theorem mul_b {a b : Int} (h1 : 1 ≤ a ∧ a ≤ 4) (h2 : 1 ≤ b ∧ b ≤ 8) : 1 ≤ a * b ∧ a * b ≤ 32 := by
  rcases (by omega : a = 1 ∨ a = 2 ∨ a = 3 ∨ a = 4) with rfl | rfl | rfl | rfl <;> omega
end Go.Proofs.Ytllnmdmmmkoiaaa
namespace Go.Proofs.Ytllnmdmmmkoiaaa
open Go Go.RowKit Wx
set_option linter.unusedVariables false
set_option linter.unusedSimpArgs false
set_option maxHeartbeats 4000000
theorem slotseven_con (a0 a1 a2 : Int)  : Con Try.prog 8 [.one (.v (.int .i64 a0)), .one (.v (.int .i64 a1)), .one (.v (.int .i64 a2))] (fun rx rK rt => rx = .val (.bool true) ∧ rK = [] ∧ rt = 0) := by
  refine Z.con_ofF tabOk 99 Try.f8 _ Try.func8 (by kernel_rfl) rfl rfl rfl rfl ?_
  repeat' ((conv => whnf); first
    | ((with_reducible apply spB_cong); (focus (simp only [beq_self_eq_true, bne_self_eq_false, Bool.true_bne, Bool.false_bne, Bool.bne_true, Bool.bne_false, Bool.true_beq, Bool.false_beq, Bool.not_true, Bool.not_false, Bool.not_not, Int.reduceBEq, Int.reduceBNe, Int.reduceLE, Int.reduceLT, Int.reduceEq, decide_true, decide_false, bne_self_eq_false, beq_self_eq_true]; rfl)))
    | with_reducible first | refine spB_no (by decide) ?_
    | ((with_reducible refine vN_tmq (q := 4) ?_ ?_ ?_); (focus (exact Int.le_max_right _ _)); (focus omega); intro w0 hw01 hw02)
    | ((with_reducible refine vN_tmq (q := 8) ?_ ?_ ?_); (focus (exact Int.le_max_right _ _)); (focus omega); intro e0 he01 he02)
    | ((with_reducible refine vN_tmq (q := 17) ?_ ?_ ?_); (focus (exact Int.le_max_right _ _)); (focus omega); intro n0 hn01 hn02)
    | with_reducible refine wr_i64 (by first | omega | (simp only [LN] at *; omega)) ?_
    | with_reducible refine nzN_mk (by omega) ?_
    | ((first | (with_reducible refine Z.callZ_mk ?_ (wakes_con) ?_)); (focus ((repeat' (first | exact trivial)); done))))
  all_goals (try (conv => whnf))
  all_goals try (show Nat.ble _ _ = true; rfl)
  all_goals try (exfalso; rename_i hz; cases hz; done)
  all_goals try (exfalso; (try simp only [LN] at *) <;> omega)
  refine Z.loopK tabOk (fun zq : Nat => [(8, .val (.int .i64 ((zq : Int) + 1)))]) (fun zq : Nat => ([(0, some (Z.Ob.b ⟨[[.ro true 2 ((upW (e0 + 1) zq).map eW), .ro true 2 (([] : List Pl).map eL)]], 2, 25, true⟩))] : Z.Kr)) (fun zq => (zq : Int) ≤ w0 + 1) (fun zq => (w0 + 1).toNat - zq) 0 1 [(0, _), (1, _), (2, _), (7, _)] ⟨rfl, rfl, rfl, rfl, trivial⟩ [] trivial ?_ ?_ rfl rfl (by omega) ?_
  · repeat' (first | exact trivial | apply And.intro | exact ⟨_, rfl, Z.Imp.refl _⟩)
  · repeat' (first | exact trivial | (intro b hb; cases hb; refine ⟨_, rfl, ⟨rfl, rfl, rfl⟩, ?_⟩; (repeat' (first | exact trivial | apply And.intro | exact Z.Imp.nilr _ _)); done) | apply And.intro)
  rintro k HINV
  dsimp only at HINV ⊢
  by_cases hk : (k : Int) < w0 + 1
  · have cm := come_con (upW (e0 + 1) k) [] ((k : Int) + 1) (e0 + 1) (by rw [upW_len]; omega) (by simp)
    rw [come_up (by omega) (by omega)] at cm
    dsimp only at cm
    repeat' ((conv => whnf); first
      | ((with_reducible apply spB_cong); (focus (simp only [beq_self_eq_true, bne_self_eq_false, Bool.true_bne, Bool.false_bne, Bool.bne_true, Bool.bne_false, Bool.true_beq, Bool.false_beq, Bool.not_true, Bool.not_false, Bool.not_not, Int.reduceBEq, Int.reduceBNe, Int.reduceLE, Int.reduceLT, Int.reduceEq, decide_true, decide_false, bne_self_eq_false, beq_self_eq_true]; rfl)))
      | with_reducible first | refine spB_no (by decide) ?_
      | (with_reducible refine spB_dec ?_ ?_ <;> intro _ <;> (try (exfalso; first | contradiction | omega | (rename_i hz; refine hz ?_; simp; done) | (rename_i hz; simp at hz; done) | (simp only [LN] at *; omega))))
      | with_reducible refine wr_i64 (by first | omega | (simp only [LN] at *; omega)) ?_
      | ((first | (with_reducible refine Z.callZ_mk ?_ (cm) ?_)); (focus ((repeat' (first | exact trivial | exact rfl | apply And.intro)); done))))
    all_goals (try (conv => whnf))
    all_goals try (show Nat.ble _ _ = true; rfl)
    all_goals first
      | ((refine Z.rndK ((k + 1)) (fun s => [0]) rfl rfl rfl rfl ?_ ?_ ?_ ?_); (focus (repeat' (first | exact trivial | exact rfl | apply And.intro))); (focus (repeat' (first | exact trivial | (intro b hb; cases hb; rfl) | apply And.intro))); (focus (((try dsimp only); omega))); ((try dsimp only); omega))
  have hkw : (k : Int) = w0 + 1 := by omega
  repeat' ((conv => whnf); first
    | (with_reducible refine spB_dec ?_ ?_ <;> intro _ <;> (try (exfalso; first | contradiction | omega | (rename_i hz; refine hz ?_; simp; done) | (rename_i hz; simp at hz; done) | (simp only [LN] at *; omega)))))
  all_goals (try (conv => whnf))
  all_goals try (show Nat.ble _ _ = true; rfl)
  all_goals try (exfalso; rename_i hz; cases hz; done)
  all_goals try (exfalso; (try simp only [LN] at *) <;> omega)
  refine Z.loopK tabOk (fun zq : Nat × List Int => [(48, .val (.int .i64 (zq.1 : Int))), (11, .c (.gsl 1 (zq.2.map cI)))]) (fun zq : Nat × List Int => ([(1, (gB 1 3 (zq.2.map cI)).map Z.Ob.b)] : Z.Kr)) (fun zq => (zq.1 : Int) ≤ n0 ∧ zq.2 = upT zq.1) (fun zq => n0.toNat - zq.1) (0, []) 2 [(0, _), (1, _), (2, _), (7, _), (47, _)] ⟨rfl, rfl, rfl, rfl, rfl, trivial⟩ [(0, some _)] ⟨rfl, trivial⟩ ?_ ?_ rfl rfl ⟨by (try dsimp only); omega, rfl⟩ ?_
  · repeat' (first | exact trivial | apply And.intro | exact ⟨_, rfl, Z.Imp.refl _⟩ | exact ⟨_, rfl, Z.Imp.nilg _⟩)
  · repeat' (first | exact trivial | (intro b hb; cases hb; done) | apply And.intro)
  rintro ⟨m, acc⟩ HINV
  dsimp only at HINV ⊢
  obtain ⟨HM1, HA1⟩ := HINV
  have hul := @upT_len m
  have hul2 : acc.length = m := by rw [HA1, hul]
  by_cases hm : (m : Int) < n0
  · skip
    repeat' ((conv => whnf); first
      | (with_reducible refine spB_dec ?_ ?_ <;> intro _ <;> (try (exfalso; first | contradiction | omega | (rename_i hz; refine hz ?_; simp; done) | (rename_i hz; simp at hz; done) | (simp only [LN] at *; omega))))
      | ((with_reducible refine posE_pos ?_ ?_); (focus ((try simp only [LN] at *) <;> omega)))
      | ((with_reducible refine apdN.mk ?_ ?_ ?_ ?_ ?_ ?_); (focus (first | rfl)); (focus (first | exact one_all (by rfl))); (focus ((try simp only [LN] at *) <;> omega)); (focus ((try simp only [LN] at *) <;> omega)); (focus ((try simp only [LN] at *) <;> omega)))
      | with_reducible refine wr_i64 (by first | omega | (simp only [LN] at *; omega)) ?_
      | ((with_reducible refine eqN_mk2 ?_ ?_); (focus (exact Z.kb_some rfl))))
    all_goals (try (conv => whnf))
    all_goals try (show Nat.ble _ _ = true; rfl)
    all_goals first
      | ((refine Z.rndK ((m + 1, acc ++ [(m : Int)])) (fun s => [0, s.idAt 11]) rfl rfl rfl rfl ?_ ?_ ?_ ?_); (focus (repeat' (first | exact trivial | exact rfl | (rw [List.map_append (f := cI)]; exact rfl) | apply And.intro))); (focus (repeat' (first | exact trivial | (intro b hb; cases hb; rfl) | exact Z.gB_sub' rfl (by first | rfl | (rw [List.map_append]; rfl) | simp only [List.map_append, List.map_cons, List.map_nil]) (ren_map fun _ => rfl) | apply And.intro))); (focus (exact ⟨by (try dsimp only); omega, by (try dsimp only); rw [upT_snoc, HA1]⟩)); ((try dsimp only); omega))
  subst HA1
  have hmn : (m : Int) = n0 := by omega
  have hwl := @upW_len (e0 + 1) k
  have hE := mul_b (a := w0 + 1) (b := e0 + 1) (by omega) (by omega)
  have cl := lay_con (upW (e0 + 1) k) [] (upT m) (by omega) (by simp) (by omega)
  have hok := okF_up (e := e0 + 1) (k := k) (by omega) (by omega)
  have hwt := want_up (e := e0 + 1) (k := k) (m := m) (by omega)
  rw [hkw, hmn] at hwt
  by_cases hfull : n0 > (w0 + 1) * (e0 + 1)
  · rw [if_pos hfull] at hwt
    rw [show layR (upW (e0 + 1) k) [] (upT m) = ([], [], 6) by unfold layR; rw [if_pos hok, if_neg (by rw [hwt]; decide), hwt]] at cl
    dsimp only at cl
    repeat' ((conv => whnf); first
      | with_reducible first | refine spB_t ?_
      | ((with_reducible apply spB_cong); (focus (simp only [beq_self_eq_true, bne_self_eq_false, Bool.true_bne, Bool.false_bne, Bool.bne_true, Bool.bne_false, Bool.true_beq, Bool.false_beq, Bool.not_true, Bool.not_false, Bool.not_not, Int.reduceBEq, Int.reduceBNe, Int.reduceLE, Int.reduceLT, Int.reduceEq, decide_true, decide_false, bne_self_eq_false, beq_self_eq_true]; rfl)))
      | (with_reducible refine spB_dec ?_ ?_ <;> intro _ <;> (try (exfalso; first | contradiction | omega | (rename_i hz; refine hz ?_; simp; done) | (rename_i hz; simp at hz; done) | (simp only [LN] at *; omega))))
      | with_reducible refine wr_i64 (by first | omega | (simp only [LN] at *; omega)) ?_
      | ((first | (with_reducible refine Z.callZ_mk ?_ (cl) ?_)); (focus ((repeat' (first | exact trivial | exact rfl | exact Z.low_gslm (by first | rfl | exact Z.kb_some rfl) (fun _ => rfl) | apply And.intro)); done))))
    all_goals (try (conv => whnf))
    all_goals try (show Nat.ble _ _ = true; rfl)
    all_goals first
      | ((first | (with_reducible apply Z.retF1)); (focus (exact rfl)); (repeat' (first | exact trivial | (with_reducible apply Z.frz_one) | (with_reducible apply Z.fq_bool) | apply And.intro)); (all_goals (try exact (fun _ => none))); all_goals (first | (rw [decide_eq_true (by omega)]; done)))
  rw [if_neg hfull] at hwt
  rw [show layR (upW (e0 + 1) k) [] (upT m) = (upW (e0 + 1) k, layT (upW (e0 + 1) k) [] (upT m), 0) by unfold layR; rw [if_pos hok, if_pos hwt]] at cl
  dsimp only at cl
  have hL2 := layT_len (ws := upW (e0 + 1) k) (l := upT m) (A := [])
  rw [hul, List.length_nil, Nat.zero_add] at hL2
  have hla := lay_all hok hwt
  have hbal := lay_bal hok hwt (fun i j _ _ _ _ => by simp [cnt])
  generalize layT (upW (e0 + 1) k) [] (upT m) = A at *
  have hAl : A.length ≤ 16 := by omega
  repeat' ((conv => whnf); first
    | ((with_reducible apply spB_cong); (focus (simp only [beq_self_eq_true, bne_self_eq_false, Bool.true_bne, Bool.false_bne, Bool.bne_true, Bool.bne_false, Bool.true_beq, Bool.false_beq, Bool.not_true, Bool.not_false, Bool.not_not, Int.reduceBEq, Int.reduceBNe, Int.reduceLE, Int.reduceLT, Int.reduceEq, decide_true, decide_false, bne_self_eq_false, beq_self_eq_true]; rfl)))
    | with_reducible first | refine spB_no (by decide) ?_
    | (with_reducible refine spB_dec ?_ ?_ <;> intro _ <;> (try (exfalso; first | contradiction | omega | (rename_i hz; refine hz ?_; simp; done) | (rename_i hz; simp at hz; done) | (simp only [LN] at *; omega))))
    | ((first | (with_reducible refine Z.callZ_mk ?_ (cl) ?_)); (focus ((repeat' (first | exact trivial | exact rfl | exact Z.low_gslm (by first | rfl | exact Z.kb_some rfl) (fun _ => rfl) | apply And.intro)); done))))
  all_goals (try (conv => whnf))
  all_goals try (show Nat.ble _ _ = true; rfl)
  all_goals try (exfalso; rename_i hz; cases hz; done)
  all_goals try (exfalso; (try simp only [LN] at *) <;> omega)
  refine Z.loopK tabOk (fun zq : Nat × Int × Int => [(16, .val (.int .i64 ((zq.1 : Int) + 1))), (14, .val (.int .i64 zq.2.1)), (15, .val (.int .i64 zq.2.2))]) (fun zq : Nat × Int × Int => ([] : Z.Kr)) (fun zq => (zq.1 : Int) ≤ w0 + 1 ∧ zq.2.1 = loF A zq.1 ∧ zq.2.2 = hiF A zq.1) (fun zq => (w0 + 1).toNat - zq.1) (0, 16, 0) 2 [(0, _), (1, _), (2, _), (7, _)] ⟨rfl, rfl, rfl, rfl, trivial⟩ [(0, some _)] ⟨rfl, trivial⟩ ?_ ?_ rfl rfl ⟨by (try dsimp only); omega, rfl, rfl⟩ ?_
  · repeat' (first | exact trivial | apply And.intro | exact ⟨_, rfl, Z.Imp.refl _⟩)
  · repeat' (first | exact trivial)
  rintro ⟨j, lo, hi⟩ HINV
  dsimp only at HINV ⊢
  obtain ⟨HJ, HLO, HHI⟩ := HINV
  have hlb := @lohi_b A hAl j
  by_cases hj : (j : Int) < w0 + 1
  · have ca := at_con (upW (e0 + 1) k) A ((j : Int) + 1) (by omega) (by omega)
    rw [hla] at ca
    simp only [cond_true] at ca
    have hcn := atL_cnt (ps := A) (y := (j : Int) + 1)
    have hcl := atL_le (ps := A) (y := (j : Int) + 1)
    repeat' ((conv => whnf); first
      | (with_reducible refine spB_dec ?_ ?_ <;> intro _ <;> (try (exfalso; first | contradiction | omega | (rename_i hz; refine hz ?_; simp; done) | (rename_i hz; simp at hz; done) | (simp only [LN] at *; omega))))
      | with_reducible refine wr_i64 (by first | omega | (simp only [LN] at *; omega)) ?_
      | ((first | (with_reducible refine Z.callZ_mk ?_ (ca) ?_)); (focus ((repeat' (first | exact trivial | exact rfl | apply And.intro)); done))))
    all_goals (try (conv => whnf))
    all_goals try (show Nat.ble _ _ = true; rfl)
    all_goals first
      | ((refine Z.rndK ((j + 1, min lo ((((atL A ((j : Int) + 1)).map eI).length : Nat) : Int), max hi ((((atL A ((j : Int) + 1)).map eI).length : Nat) : Int))) (fun s => [0, 1]) rfl rfl rfl rfl ?_ ?_ ?_ ?_); (focus (repeat' (first | exact trivial | exact rfl | apply And.intro))); (focus (repeat' (first | exact trivial | (intro b hb; cases hb; rfl) | apply And.intro))); (focus (refine ⟨by (try dsimp only); omega, ?_, ?_⟩; (focus ((try dsimp only); rw [loF, HLO, List.length_map, hcn])); ((try dsimp only); rw [hiF, HHI, List.length_map, hcn]))); ((try dsimp only); omega))
  have hjk : j = k := by omega
  subst hjk
  have hend := even_end hAl (by omega) hbal
  rw [← HLO, ← HHI] at hend
  repeat' ((conv => whnf); first
    | with_reducible first | refine spB_t ?_
    | (with_reducible refine spB_dec ?_ ?_ <;> intro _ <;> (try (exfalso; first | contradiction | omega | (rename_i hz; refine hz ?_; simp; done) | (rename_i hz; simp at hz; done) | (simp only [LN] at *; omega))))
    | with_reducible refine wr_i64 (by first | omega | (simp only [LN] at *; omega)) ?_)
  all_goals (try (conv => whnf))
  all_goals try (show Nat.ble _ _ = true; rfl)
  all_goals first
    | ((first | (with_reducible apply Z.retF1)); (focus (exact rfl)); (repeat' (first | exact trivial | (with_reducible apply Z.frz_one) | (with_reducible apply Z.fq_bool) | apply And.intro)); (all_goals (try exact (fun _ => none))); all_goals (first | (exact decide_eq_true (by omega))))

namespace slotsEven
theorem main (avs : List A0) (h : All2 FitA [(.int .i64), (.int .i64), (.int .i64)] avs) : Con Try.prog 8 avs (fun x K t => x = .val (.bool true) ∧ K = [] ∧ t = 0) := by
  obtain ⟨x0, x1, x2, rfl, h0, h1, h2⟩ : ∃ x0 x1 x2, avs = [x0, x1, x2] ∧ FitA (.int .i64) x0 ∧ FitA (.int .i64) x1 ∧ FitA (.int .i64) x2 := by
    cases avs with
    | nil => exact h.elim
    | cons x0 r => cases r with
      | nil => exact h.2.elim
      | cons x1 r => cases r with
        | nil => exact h.2.2.elim
        | cons x2 r => cases r with
          | nil => exact ⟨x0, x1, x2, rfl, h.1, h.2.1, h.2.2.1⟩
          | cons => exact h.2.2.2.elim
  clear h
  obtain ⟨n0, rfl, wn0⟩ := fit_int h0
  obtain ⟨n1, rfl, wn1⟩ := fit_int h1
  obtain ⟨n2, rfl, wn2⟩ := fit_int h2
  exact slotseven_con n0 n1 n2
end slotsEven
end Go.Proofs.Ytllnmdmmmkoiaaa
