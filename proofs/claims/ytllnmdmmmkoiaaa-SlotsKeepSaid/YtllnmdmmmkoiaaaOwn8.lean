import Derived.Test.YtllnmdmmmkoiaaaOwn7
import Derived.Test.YtllnmdmmmkoiaaaOwn6
import Derived.Test.YtllnmdmmmkoiaaaRows
namespace Go.Proofs.Ytllnmdmmmkoiaaa
open Go Go.RowKit Wx
set_option linter.unusedVariables false
set_option linter.unusedSimpArgs false
set_option maxHeartbeats 4000000
/-! ### Back again -/
theorem idx_no {ws : List Wk} {a : Int} (h : ¬ idxW ws a < ws.length) : slF ws a = 0 := slF_no fun w hw e => h (List.findIdx_lt_length.2 ⟨w, hw, decide_eq_true e⟩)
theorem lay_all {ws : List Wk} : ∀ {l : List Int} {A : List Pl}, okF ws A = true → wantT ws A l = 0 → okF ws (layT ws A l) = true
  | [], A, h, _ => h
  | t :: l, A, h, g => by
    have hl := lay_keep h g
    rw [layT]; exact lay_all hl.1 hl.2
theorem insL_filter {a c : Int} {p : Pl → Bool} (hp : p ⟨a, c⟩ = false) : ∀ {A : List Pl}, (insL a c A).filter p = A.filter p
  | [] => by simp [insL, hp]
  | q :: l => by
    unfold insL
    split
    · rw [List.filter_cons, hp]; rfl
    · rw [List.filter_cons, List.filter_cons, insL_filter hp]
theorem lay_filter {ws : List Wk} {p : Pl → Bool} : ∀ {l : List Int} {A : List Pl}, (∀ t ∈ l, ∀ b, p ⟨t, b⟩ = false) → (layT ws A l).filter p = A.filter p
  | [], A, _ => rfl
  | t :: l, A, h => by
    rw [layT, lay_filter fun s hs => h s (by simp [hs]), insT_L, insL_filter (h t (by simp) _)]
theorem layT_mem {ws : List Wk} : ∀ {l : List Int} {A : List Pl} {q : Pl}, q ∈ A → q ∈ layT ws A l
  | [], A, q, h => h
  | t :: l, A, q, h => by rw [layT]; exact layT_mem (insT_mem.2 (.inr h))
theorem lay_there {ws : List Wk} : ∀ {l : List Int} {A : List Pl} {t : Int}, t ∈ l → ∃ p ∈ layT ws A l, p.task = t
  | s :: l, A, t, h => by
    rw [layT]
    rcases List.mem_cons.1 h with rfl | h
    · exact ⟨_, layT_mem (insT_mem.2 (.inl rfl)), rfl⟩
    · exact lay_there h
theorem lay_take {ws : List Wk} {ps : List Pl} {ts : List Int} (hk : okF ws ps = true) (hw : wantT ws ps ts = 0) : takT (layT ws ps ts) ts = some ps := by
  have h1 := lay_all hk hw
  obtain ⟨h2, h3⟩ := fresh_iff.1 (want_0.1 hw).2.1
  rw [takT_doc (okT_all.1 (okF_all h1).2.1).1, if_pos ⟨h2, fun t ht => lay_there ht⟩, lay_filter fun t ht b => by simp [ht]]
  rw [List.filter_eq_self.2 fun p hp => by
    have : ¬ p.task ∈ ts := fun g => h3 _ g p hp rfl
    simp [this]]
theorem insW_mem {a c : Int} {q : Wk} : ∀ {A : List Wk}, q ∈ insW a c A ↔ q = ⟨a, c⟩ ∨ q ∈ A
  | [] => by simp [insW]
  | p :: l => by
    unfold insW
    split
    · simp
    · simp only [List.mem_cons, insW_mem (A := l)]
      constructor
      · rintro (h | h | h)
        · exact .inr (.inl h)
        · exact .inl h
        · exact .inr (.inr h)
      · rintro (h | h | h)
        · exact .inr (.inl h)
        · exact .inl h
        · exact .inr (.inr h)
theorem insW_srt {a c : Int} : ∀ {A : List Wk}, wsrt A → (∀ p ∈ A, p.id ≠ a) → wsrt (insW a c A)
  | [], _, _ => by simp [insW, wsrt]
  | p :: l, hs, hn => by
    have hl := (List.pairwise_cons.1 hs).1
    have hs' : wsrt l := (List.pairwise_cons.1 hs).2
    have hp := hn p (by simp)
    unfold insW
    split
    · rename_i h
      refine List.pairwise_cons.2 ⟨fun q hq => ?_, hs⟩
      rcases List.mem_cons.1 hq with rfl | hq
      · exact h
      · have := hl q hq; dsimp only; omega
    · rename_i h
      refine List.pairwise_cons.2 ⟨fun q hq => ?_, insW_srt hs' fun q hq => hn q (by simp [hq])⟩
      rcases insW_mem.1 hq with rfl | hq
      · dsimp only; omega
      · exact hl q hq
theorem insW_filter {a c : Int} {p : Wk → Bool} (hp : p ⟨a, c⟩ = false) : ∀ {A : List Wk}, (insW a c A).filter p = A.filter p
  | [] => by simp [insW, hp]
  | q :: l => by
    unfold insW
    split
    · rw [List.filter_cons, hp]; rfl
    · rw [List.filter_cons, List.filter_cons, insW_filter hp]
theorem insW_sl {a c y : Int} : ∀ {A : List Wk}, (∀ w ∈ A, w.id ≠ a) → slF (insW a c A) y = if a = y then c else slF A y
  | [], _ => by simp [insW, slF]
  | q :: l, h => by
    unfold insW
    have hq := h q (by simp)
    split
    · rw [slF]
    · rw [slF, slF, insW_sl fun w hw => h w (by simp [hw])]
      by_cases e : q.id = y
      · rw [if_pos e, if_pos e, if_neg (fun g => hq (by rw [g, e]))]
      · rw [if_neg e, if_neg e]
theorem insW_len {a c : Int} : ∀ {A : List Wk}, (insW a c A).length = A.length + 1
  | [] => rfl
  | q :: l => by
    unfold insW
    split
    · rfl
    · rw [List.length_cons, insW_len, List.length_cons]
/-- A worker that has come: the floor may be. -/
theorem come_ok {ws : List Wk} {ps : List Pl} {a c : Int} (hk : okF ws ps = true) (hv : (1 ≤ a ∧ a ≤ 4) ∧ 1 ≤ c ∧ c ≤ 8) (hno : ¬ idxW ws a < ws.length) : okF (insW a c ws) ps = true := by
  obtain ⟨hkw, hkp, hkc⟩ := okF_all hk
  have hs := okW_all.1 hkw
  have hne : ∀ w ∈ ws, w.id ≠ a := fun w hw e => hno (List.findIdx_lt_length.2 ⟨w, hw, decide_eq_true e⟩)
  have h1 : okW 0 (insW a c ws) = true := okW_all.2 ⟨insW_srt hs.1 hne, fun w hw => by
    rcases insW_mem.1 hw with rfl | hw
    · dsimp only; omega
    · exact hs.2 w hw⟩
  unfold okF
  rw [h1, hkp, (okC_iff h1).2 fun y => ?_]
  · rfl
  · have h2 := (okC_iff hkw).1 hkc y
    rw [insW_sl hne]
    by_cases e : a = y
    · subst e; rw [if_pos rfl]; rw [idx_no hno] at h2; omega
    · rw [if_neg e]; exact h2
theorem come_go {ws : List Wk} {ps : List Pl} {a c : Int} (hk : okF ws ps = true) (hv : (1 ≤ a ∧ a ≤ 4) ∧ 1 ≤ c ∧ c ≤ 8) (hno : ¬ idxW ws a < ws.length) : goT (insW a c ws) ps a = (ws, ps, [], 0) := by
  have h1 := come_ok (c := c) hk hv hno
  obtain ⟨hkw, hkp, hkc⟩ := okF_all hk
  have hne : ∀ w ∈ ws, w.id ≠ a := fun w hw e => hno (List.findIdx_lt_length.2 ⟨w, hw, decide_eq_true e⟩)
  have hi : idxW (insW a c ws) a < (insW a c ws).length := List.findIdx_lt_length.2 ⟨⟨a, c⟩, insW_mem.2 (.inl rfl), decide_eq_true rfl⟩
  have hnp : ∀ p ∈ ps, p.wk ≠ a := fun p hp e => by
    have h2 := (okC_iff hkw).1 hkc a
    have h3 := cnt_mem hp
    rw [e] at h3; rw [idx_no hno] at h2; omega
  unfold goT
  rw [if_pos h1, if_pos hi, go_doc (okW_all.1 (okF_all h1).1).1, insW_filter (by simp), keepP_all hnp]
  have e1 : ws.filter (fun w => !decide (w.id = a)) = ws := List.filter_eq_self.2 fun w hw => by simp [hne w hw]
  have e2 : atL ps a = [] := by unfold atL; rw [List.filter_eq_nil_iff.2 fun p hp => by simp [hnp p hp]]; rfl
  rw [e1, e2]
theorem comeT_ok {ws : List Wk} {ps : List Pl} {a c : Int} (hk : okF ws ps = true) (hv : (1 ≤ a ∧ a ≤ 4) ∧ 1 ≤ c ∧ c ≤ 8) (hno : ¬ idxW ws a < ws.length) : comeT ws ps a c = (insW a c ws, ps, 0) := by
  unfold comeT; rw [if_pos hk, if_pos hv, if_neg hno, insW_eq]
theorem comeT_no {ws : List Wk} {ps : List Pl} {a c : Int} (h : ¬ (okF ws ps = true ∧ ((1 ≤ a ∧ a ≤ 4) ∧ 1 ≤ c ∧ c ≤ 8) ∧ ¬ idxW ws a < ws.length)) : ∃ e : Int, e ≠ 0 ∧ comeT ws ps a c = ([], [], e) := by
  unfold comeT
  by_cases hk : okF ws ps = true
  · rw [if_pos hk]
    by_cases hv : (1 ≤ a ∧ a ≤ 4) ∧ 1 ≤ c ∧ c ≤ 8
    · rw [if_pos hv]
      by_cases hi : idxW ws a < ws.length
      · rw [if_pos hi]; exact ⟨5, by decide, rfl⟩
      · exact absurd ⟨hk, hv, hi⟩ h
    · rw [if_neg hv]; exact ⟨2, by decide, rfl⟩
  · rw [if_neg hk]; exact ⟨210, by decide, rfl⟩
theorem layR_no {ws : List Wk} {ps : List Pl} {ts : List Int} (h : ¬ (okF ws ps = true ∧ wantT ws ps ts = 0)) : ∃ e : Int, e ≠ 0 ∧ layR ws ps ts = ([], [], e) := by
  unfold layR
  by_cases hk : okF ws ps = true
  · rw [if_pos hk]
    by_cases hw : wantT ws ps ts = 0
    · exact absurd ⟨hk, hw⟩ h
    · rw [if_neg hw]; exact ⟨_, hw, rfl⟩
  · rw [if_neg hk]; exact ⟨210, by decide, rfl⟩
theorem sb_00 (ws : List Wk) (ps : List Pl) (ts : List Int) (a c : Int) (hw : ws.length ≤ 50) (hp : ps.length ≤ 100) (ht : ts.length ≤ 100) (hl : ¬ (okF ws ps = true ∧ wantT ws ps ts = 0)) (hm : ¬ (okF ws ps = true ∧ ((1 ≤ a ∧ a ≤ 4) ∧ 1 ≤ c ∧ c ≤ 8) ∧ ¬ idxW ws a < ws.length)) : Con Try.prog 7 [.agg [.ro false 2 ((ws).map eW), .ro false 2 ((ps).map eL)], .one (.ro false 1 (ts.map eI)), .agg [.v (.int .i64 a), .v (.int .i64 c)]] (fun rx rK rt => rx = .val (.bool true) ∧ rK = [] ∧ rt = 0) := by
  refine Z.con_ofF tabOk 75 Try.f7 _ Try.func7 (by kernel_rfl) rfl rfl rfl rfl ?_
  have co := over_con ws ps (by omega) (by omega)
  rw [decide_eq_false (by omega)] at co
  have cl := lay_con ws ps ts (by omega) (by omega) (by omega)
  have cm := come_con ws ps a c (by omega) (by omega)
  have cs := psame_con ws ws ps ps (by omega) (by omega)
  rw [decide_eq_true (p := ws = ws ∧ ps = ps) ⟨rfl, rfl⟩] at cs
  obtain ⟨e1, he1, h1⟩ := layR_no hl
  rw [h1] at cl
  dsimp only at cl
  obtain ⟨e2, he2, h2⟩ := comeT_no hm
  rw [h2] at cm
  dsimp only at cm
  repeat' ((conv => whnf); first
    | ((with_reducible apply spB_cong); (focus (simp only [beq_self_eq_true, bne_self_eq_false, Bool.true_bne, Bool.false_bne, Bool.bne_true, Bool.bne_false, Bool.true_beq, Bool.false_beq, Bool.not_true, Bool.not_false, Bool.not_not, Int.reduceBEq, Int.reduceBNe, Int.reduceLE, Int.reduceLT, Int.reduceEq, decide_true, decide_false, bne_self_eq_false, beq_self_eq_true]; rfl)))
    | with_reducible first | refine spB_no (by decide) ?_
    | (with_reducible refine spB_dec ?_ ?_ <;> intro _ <;> (try (exfalso; first | contradiction | omega | (rename_i hz; refine hz ?_; simp; done) | (rename_i hz; simp at hz; done) | (simp only [LN] at *; omega))))
    | (with_reducible refine spB_beq ?_ ?_ <;> intro _ <;> (try (exfalso; first | contradiction | omega | (rename_i hz; refine hz ?_; simp; done) | (rename_i hz; simp at hz; done) | (simp only [LN] at *; omega))))
    | ((first | (with_reducible refine Z.callZ_mk ?_ (wakes_con) ?_) | (with_reducible refine Z.callZ_mk ?_ (co) ?_) | (with_reducible refine Z.callZ_mk ?_ (cm) ?_) | (with_reducible refine Z.callZ_mk ?_ (cl) ?_)); (focus ((repeat' (first | exact trivial | exact rfl | apply And.intro)); done))))
  all_goals (try (conv => whnf))
  all_goals try (show Nat.ble _ _ = true; rfl)
  all_goals first
    | ((first | (with_reducible apply Z.retF1)); (focus (exact rfl)); (repeat' (first | exact trivial | (with_reducible apply Z.frz_one) | (with_reducible apply Z.fq_bool) | exact rfl | apply And.intro)); (all_goals (try exact (fun _ => none))); all_goals (first | (simp; done)))

theorem sb_01 (ws : List Wk) (ps : List Pl) (ts : List Int) (a c : Int) (hw : ws.length ≤ 50) (hp : ps.length ≤ 100) (ht : ts.length ≤ 100) (hl : ¬ (okF ws ps = true ∧ wantT ws ps ts = 0)) (hm : (okF ws ps = true ∧ ((1 ≤ a ∧ a ≤ 4) ∧ 1 ≤ c ∧ c ≤ 8) ∧ ¬ idxW ws a < ws.length)) : Con Try.prog 7 [.agg [.ro false 2 ((ws).map eW), .ro false 2 ((ps).map eL)], .one (.ro false 1 (ts.map eI)), .agg [.v (.int .i64 a), .v (.int .i64 c)]] (fun rx rK rt => rx = .val (.bool true) ∧ rK = [] ∧ rt = 0) := by
  refine Z.con_ofF tabOk 75 Try.f7 _ Try.func7 (by kernel_rfl) rfl rfl rfl rfl ?_
  have co := over_con ws ps (by omega) (by omega)
  rw [decide_eq_false (by omega)] at co
  have cl := lay_con ws ps ts (by omega) (by omega) (by omega)
  have cm := come_con ws ps a c (by omega) (by omega)
  have cs := psame_con ws ws ps ps (by omega) (by omega)
  rw [decide_eq_true (p := ws = ws ∧ ps = ps) ⟨rfl, rfl⟩] at cs
  obtain ⟨e1, he1, h1⟩ := layR_no hl
  rw [h1] at cl
  dsimp only at cl
  obtain ⟨hk2, hv2, hn2⟩ := hm
  rw [comeT_ok hk2 hv2 hn2] at cm
  have hI := insW_len (a := a) (c := c) (A := ws)
  have cg := go_con (insW a c ws) ps a (by omega) (by omega)
  rw [come_go hk2 hv2 hn2] at cg
  dsimp only at cm cg
  generalize insW a c ws = IW at *
  repeat' ((conv => whnf); first
    | with_reducible first | refine spB_t ?_
    | ((with_reducible apply spB_cong); (focus (simp only [beq_self_eq_true, bne_self_eq_false, Bool.true_bne, Bool.false_bne, Bool.bne_true, Bool.bne_false, Bool.true_beq, Bool.false_beq, Bool.not_true, Bool.not_false, Bool.not_not, Int.reduceBEq, Int.reduceBNe, Int.reduceLE, Int.reduceLT, Int.reduceEq, decide_true, decide_false, bne_self_eq_false, beq_self_eq_true]; rfl)))
    | with_reducible first | refine spB_yes (by decide) ?_ | refine spB_no (by decide) ?_
    | (with_reducible refine spB_dec ?_ ?_ <;> intro _ <;> (try (exfalso; first | contradiction | omega | (rename_i hz; refine hz ?_; simp; done) | (rename_i hz; simp at hz; done) | (simp only [LN] at *; omega))))
    | (with_reducible refine spB_beq ?_ ?_ <;> intro _ <;> (try (exfalso; first | contradiction | omega | (rename_i hz; refine hz ?_; simp; done) | (rename_i hz; simp at hz; done) | (simp only [LN] at *; omega))))
    | ((first | (with_reducible refine Z.callZ_mk ?_ (wakes_con) ?_) | (with_reducible refine Z.callZ_mk ?_ (co) ?_) | (with_reducible refine Z.callZ_mk ?_ (cm) ?_) | (with_reducible refine Z.callZ_mk ?_ (cg) ?_) | (with_reducible refine Z.callZ_mk ?_ (cl) ?_) | (with_reducible refine Z.callZ_mk ?_ (cs) ?_)); (focus ((repeat' (first | exact trivial | exact rfl | apply And.intro)); done))))
  all_goals (try (conv => whnf))
  all_goals try (show Nat.ble _ _ = true; rfl)
  all_goals first
    | ((first | (with_reducible apply Z.retF1)); (focus (exact rfl)); (repeat' (first | exact trivial | exact rfl | apply And.intro)); (all_goals (try exact (fun _ => none))); all_goals (first | (simp; done)))

theorem sb_10 (ws : List Wk) (ps : List Pl) (ts : List Int) (a c : Int) (hw : ws.length ≤ 50) (hp : ps.length ≤ 100) (ht : ts.length ≤ 100) (hl : (okF ws ps = true ∧ wantT ws ps ts = 0)) (hm : ¬ (okF ws ps = true ∧ ((1 ≤ a ∧ a ≤ 4) ∧ 1 ≤ c ∧ c ≤ 8) ∧ ¬ idxW ws a < ws.length)) : Con Try.prog 7 [.agg [.ro false 2 ((ws).map eW), .ro false 2 ((ps).map eL)], .one (.ro false 1 (ts.map eI)), .agg [.v (.int .i64 a), .v (.int .i64 c)]] (fun rx rK rt => rx = .val (.bool true) ∧ rK = [] ∧ rt = 0) := by
  refine Z.con_ofF tabOk 75 Try.f7 _ Try.func7 (by kernel_rfl) rfl rfl rfl rfl ?_
  have co := over_con ws ps (by omega) (by omega)
  rw [decide_eq_false (by omega)] at co
  have cl := lay_con ws ps ts (by omega) (by omega) (by omega)
  have cm := come_con ws ps a c (by omega) (by omega)
  have cs := psame_con ws ws ps ps (by omega) (by omega)
  rw [decide_eq_true (p := ws = ws ∧ ps = ps) ⟨rfl, rfl⟩] at cs
  obtain ⟨hk1, hw1⟩ := hl
  rw [show layR ws ps ts = (ws, layT ws ps ts, 0) by unfold layR; rw [if_pos hk1, if_pos hw1]] at cl
  have hL2 := layT_len (ws := ws) (l := ts) (A := ps)
  have ct := take_con ws (layT ws ps ts) ts (by omega) (by omega) (by omega)
  rw [takeT_yes (lay_all hk1 hw1) (lay_take hk1 hw1)] at ct
  dsimp only at cl ct
  generalize layT ws ps ts = LT at *
  obtain ⟨e2, he2, h2⟩ := comeT_no hm
  rw [h2] at cm
  dsimp only at cm
  repeat' ((conv => whnf); first
    | with_reducible first | refine spB_t ?_
    | ((with_reducible apply spB_cong); (focus (simp only [beq_self_eq_true, bne_self_eq_false, Bool.true_bne, Bool.false_bne, Bool.bne_true, Bool.bne_false, Bool.true_beq, Bool.false_beq, Bool.not_true, Bool.not_false, Bool.not_not, Int.reduceBEq, Int.reduceBNe, Int.reduceLE, Int.reduceLT, Int.reduceEq, decide_true, decide_false, bne_self_eq_false, beq_self_eq_true]; rfl)))
    | with_reducible first | refine spB_no (by decide) ?_
    | (with_reducible refine spB_dec ?_ ?_ <;> intro _ <;> (try (exfalso; first | contradiction | omega | (rename_i hz; refine hz ?_; simp; done) | (rename_i hz; simp at hz; done) | (simp only [LN] at *; omega))))
    | (with_reducible refine spB_beq ?_ ?_ <;> intro _ <;> (try (exfalso; first | contradiction | omega | (rename_i hz; refine hz ?_; simp; done) | (rename_i hz; simp at hz; done) | (simp only [LN] at *; omega))))
    | ((first | (with_reducible refine Z.callZ_mk ?_ (wakes_con) ?_) | (with_reducible refine Z.callZ_mk ?_ (co) ?_) | (with_reducible refine Z.callZ_mk ?_ (cm) ?_) | (with_reducible refine Z.callZ_mk ?_ (cl) ?_) | (with_reducible refine Z.callZ_mk ?_ (ct) ?_) | (with_reducible refine Z.callZ_mk ?_ (cs) ?_)); (focus ((repeat' (first | exact trivial | exact rfl | apply And.intro)); done))))
  all_goals (try (conv => whnf))
  all_goals try (show Nat.ble _ _ = true; rfl)
  all_goals first
    | ((first | (with_reducible apply Z.retF1)); (focus (exact rfl)); (repeat' (first | exact trivial | (with_reducible apply Z.frz_one) | (with_reducible apply Z.fq_bool) | exact rfl | apply And.intro)); (all_goals (try exact (fun _ => none))); all_goals (first | (simp; done)))

theorem sb_11 (ws : List Wk) (ps : List Pl) (ts : List Int) (a c : Int) (hw : ws.length ≤ 50) (hp : ps.length ≤ 100) (ht : ts.length ≤ 100) (hl : (okF ws ps = true ∧ wantT ws ps ts = 0)) (hm : (okF ws ps = true ∧ ((1 ≤ a ∧ a ≤ 4) ∧ 1 ≤ c ∧ c ≤ 8) ∧ ¬ idxW ws a < ws.length)) : Con Try.prog 7 [.agg [.ro false 2 ((ws).map eW), .ro false 2 ((ps).map eL)], .one (.ro false 1 (ts.map eI)), .agg [.v (.int .i64 a), .v (.int .i64 c)]] (fun rx rK rt => rx = .val (.bool true) ∧ rK = [] ∧ rt = 0) := by
  refine Z.con_ofF tabOk 75 Try.f7 _ Try.func7 (by kernel_rfl) rfl rfl rfl rfl ?_
  have co := over_con ws ps (by omega) (by omega)
  rw [decide_eq_false (by omega)] at co
  have cl := lay_con ws ps ts (by omega) (by omega) (by omega)
  have cm := come_con ws ps a c (by omega) (by omega)
  have cs := psame_con ws ws ps ps (by omega) (by omega)
  rw [decide_eq_true (p := ws = ws ∧ ps = ps) ⟨rfl, rfl⟩] at cs
  obtain ⟨hk1, hw1⟩ := hl
  rw [show layR ws ps ts = (ws, layT ws ps ts, 0) by unfold layR; rw [if_pos hk1, if_pos hw1]] at cl
  have hL2 := layT_len (ws := ws) (l := ts) (A := ps)
  have ct := take_con ws (layT ws ps ts) ts (by omega) (by omega) (by omega)
  rw [takeT_yes (lay_all hk1 hw1) (lay_take hk1 hw1)] at ct
  dsimp only at cl ct
  generalize layT ws ps ts = LT at *
  obtain ⟨hk2, hv2, hn2⟩ := hm
  rw [comeT_ok hk2 hv2 hn2] at cm
  have hI := insW_len (a := a) (c := c) (A := ws)
  have cg := go_con (insW a c ws) ps a (by omega) (by omega)
  rw [come_go hk2 hv2 hn2] at cg
  dsimp only at cm cg
  generalize insW a c ws = IW at *
  repeat' ((conv => whnf); first
    | with_reducible first | refine spB_t ?_
    | ((with_reducible apply spB_cong); (focus (simp only [beq_self_eq_true, bne_self_eq_false, Bool.true_bne, Bool.false_bne, Bool.bne_true, Bool.bne_false, Bool.true_beq, Bool.false_beq, Bool.not_true, Bool.not_false, Bool.not_not, Int.reduceBEq, Int.reduceBNe, Int.reduceLE, Int.reduceLT, Int.reduceEq, decide_true, decide_false, bne_self_eq_false, beq_self_eq_true]; rfl)))
    | with_reducible first | refine spB_yes (by decide) ?_ | refine spB_no (by decide) ?_
    | (with_reducible refine spB_dec ?_ ?_ <;> intro _ <;> (try (exfalso; first | contradiction | omega | (rename_i hz; refine hz ?_; simp; done) | (rename_i hz; simp at hz; done) | (simp only [LN] at *; omega))))
    | ((first | (with_reducible refine Z.callZ_mk ?_ (wakes_con) ?_) | (with_reducible refine Z.callZ_mk ?_ (co) ?_) | (with_reducible refine Z.callZ_mk ?_ (cm) ?_) | (with_reducible refine Z.callZ_mk ?_ (cg) ?_) | (with_reducible refine Z.callZ_mk ?_ (cl) ?_) | (with_reducible refine Z.callZ_mk ?_ (ct) ?_) | (with_reducible refine Z.callZ_mk ?_ (cs) ?_)); (focus ((repeat' (first | exact trivial | exact rfl | apply And.intro)); done))))
  all_goals (try (conv => whnf))
  all_goals try (show Nat.ble _ _ = true; rfl)
  all_goals first
    | ((first | (with_reducible apply Z.retF1)); (focus (exact rfl)); (repeat' (first | exact trivial | exact rfl | apply And.intro)); (all_goals (try exact (fun _ => none))); all_goals (first | (simp; done)))

theorem sb_over (ws : List Wk) (ps : List Pl) (ts : List Int) (a c : Int) (hw : ws.length ≤ 9223372036854775807) (hp : ps.length ≤ 9223372036854775807) (ht : ts.length ≤ 9223372036854775807) (hov : 50 < ws.length ∨ 100 < ps.length) : Con Try.prog 7 [.agg [.ro false 2 ((ws).map eW), .ro false 2 ((ps).map eL)], .one (.ro false 1 (ts.map eI)), .agg [.v (.int .i64 a), .v (.int .i64 c)]] (fun rx rK rt => rx = .val (.bool true) ∧ rK = [] ∧ rt = 0) := by
  refine Z.con_ofF tabOk 75 Try.f7 _ Try.func7 (by kernel_rfl) rfl rfl rfl rfl ?_
  have co := over_con ws ps (by omega) (by omega)
  rw [decide_eq_true hov] at co
  repeat' ((conv => whnf); first
    | with_reducible first | refine spB_t ?_
    | ((with_reducible apply spB_cong); (focus (simp only [beq_self_eq_true, bne_self_eq_false, Bool.true_bne, Bool.false_bne, Bool.bne_true, Bool.bne_false, Bool.true_beq, Bool.false_beq, Bool.not_true, Bool.not_false, Bool.not_not, Int.reduceBEq, Int.reduceBNe, Int.reduceLE, Int.reduceLT, Int.reduceEq, decide_true, decide_false]; rfl)))
    | with_reducible first | refine spB_no (by decide) ?_
    | ((first | (with_reducible refine Z.callZ_mk ?_ (wakes_con) ?_) | (with_reducible refine Z.callZ_mk ?_ (co) ?_)); (focus ((repeat' (first | exact trivial | exact rfl | apply And.intro)); done))))
  all_goals (try (conv => whnf))
  all_goals try (show Nat.ble _ _ = true; rfl)
  all_goals first
    | ((first | (with_reducible apply Z.retF1)); (focus (exact rfl)); (repeat' (first | exact trivial | (with_reducible apply Z.frz_one) | (with_reducible apply Z.fq_bool) | exact rfl | apply And.intro)); (all_goals (try exact (fun _ => none))); all_goals (first | (simp; done)))

theorem sb_long (ws : List Wk) (ps : List Pl) (ts : List Int) (a c : Int) (hw : ws.length ≤ 9223372036854775807) (hp : ps.length ≤ 9223372036854775807) (ht : ts.length ≤ 9223372036854775807) (hw2 : ws.length ≤ 50) (hp2 : ps.length ≤ 100) (hov : 100 < ts.length) : Con Try.prog 7 [.agg [.ro false 2 ((ws).map eW), .ro false 2 ((ps).map eL)], .one (.ro false 1 (ts.map eI)), .agg [.v (.int .i64 a), .v (.int .i64 c)]] (fun rx rK rt => rx = .val (.bool true) ∧ rK = [] ∧ rt = 0) := by
  refine Z.con_ofF tabOk 75 Try.f7 _ Try.func7 (by kernel_rfl) rfl rfl rfl rfl ?_
  have co := over_con ws ps (by omega) (by omega)
  rw [decide_eq_false (by omega)] at co
  repeat' ((conv => whnf); first
    | ((with_reducible apply spB_cong); (focus (simp only [beq_self_eq_true, bne_self_eq_false, Bool.true_bne, Bool.false_bne, Bool.bne_true, Bool.bne_false, Bool.true_beq, Bool.false_beq, Bool.not_true, Bool.not_false, Bool.not_not, Int.reduceBEq, Int.reduceBNe, Int.reduceLE, Int.reduceLT, Int.reduceEq, decide_true, decide_false]; rfl)))
    | with_reducible first | refine spB_no (by decide) ?_
    | (with_reducible refine spB_dec ?_ ?_ <;> intro _ <;> (try (exfalso; first | contradiction | omega | (rename_i hz; refine hz ?_; simp; done) | (rename_i hz; simp at hz; done) | (simp only [LN] at *; omega))))
    | ((first | (with_reducible refine Z.callZ_mk ?_ (wakes_con) ?_) | (with_reducible refine Z.callZ_mk ?_ (co) ?_)); (focus ((repeat' (first | exact trivial | exact rfl | apply And.intro)); done))))
  all_goals (try (conv => whnf))
  all_goals try (show Nat.ble _ _ = true; rfl)
  all_goals first
    | ((first | (with_reducible apply Z.retF1)); (focus (exact rfl)); (repeat' (first | exact trivial | (with_reducible apply Z.frz_one) | (with_reducible apply Z.fq_bool) | exact rfl | apply And.intro)); (all_goals (try exact (fun _ => none))); all_goals (first | (simp; done)))

theorem slotsback_con (ws : List Wk) (ps : List Pl) (ts : List Int) (a c : Int) (hw : ws.length ≤ 9223372036854775807) (hp : ps.length ≤ 9223372036854775807) (ht : ts.length ≤ 9223372036854775807) : Con Try.prog 7 [.agg [.ro false 2 ((ws).map eW), .ro false 2 ((ps).map eL)], .one (.ro false 1 (ts.map eI)), .agg [.v (.int .i64 a), .v (.int .i64 c)]] (fun rx rK rt => rx = .val (.bool true) ∧ rK = [] ∧ rt = 0) := by
  by_cases hov : 50 < ws.length ∨ 100 < ps.length
  · exact sb_over ws ps ts a c hw hp ht hov
  · have h1 : ws.length ≤ 50 := by omega
    have h2 : ps.length ≤ 100 := by omega
    by_cases h3 : 100 < ts.length
    · exact sb_long ws ps ts a c hw hp ht h1 h2 h3
    · have h3 : ts.length ≤ 100 := by omega
      by_cases hl : okF ws ps = true ∧ wantT ws ps ts = 0
      · by_cases hm : okF ws ps = true ∧ ((1 ≤ a ∧ a ≤ 4) ∧ 1 ≤ c ∧ c ≤ 8) ∧ ¬ idxW ws a < ws.length
        · exact sb_11 ws ps ts a c h1 h2 h3 hl hm
        · exact sb_10 ws ps ts a c h1 h2 h3 hl hm
      · by_cases hm : okF ws ps = true ∧ ((1 ≤ a ∧ a ≤ 4) ∧ 1 ≤ c ∧ c ≤ 8) ∧ ¬ idxW ws a < ws.length
        · exact sb_01 ws ps ts a c h1 h2 h3 hl hm
        · exact sb_00 ws ps ts a c h1 h2 h3 hl hm
structure Fl where
  ws : List Wk
  ps : List Pl
abbrev eFl (x : Fl) : List RT := [RT.ro 2 (x.ws.map eW), RT.ro 2 (x.ps.map eL)]
def okWk (x : Wk) : Prop := (Lit.int .i64 x.id).wf = true ∧ (Lit.int .i64 x.sl).wf = true ∧ True
theorem rowWk (row : List RT) (h : RowF (.st (.cons 3 1 (.int .i64) (.cons 3 1 (.int .i64) .nil))) row) : ∃ x, row = eW x ∧ okWk x := by
  obtain ⟨a0, r0, rfl, _, ⟨z0, rfl, w0⟩, a1, r1, rfl, _, ⟨z1, rfl, w1⟩, rfl⟩ := h
  exact ⟨⟨z0, z1⟩, rfl, w0, w1, trivial⟩
def okPl (x : Pl) : Prop := (Lit.int .i64 x.task).wf = true ∧ (Lit.int .i64 x.wk).wf = true ∧ True
theorem rowPl (row : List RT) (h : RowF (.st (.cons 3 1 (.int .i64) (.cons 3 1 (.int .i64) .nil))) row) : ∃ x, row = eL x ∧ okPl x := by
  obtain ⟨a0, r0, rfl, _, ⟨z0, rfl, w0⟩, a1, r1, rfl, _, ⟨z1, rfl, w1⟩, rfl⟩ := h
  exact ⟨⟨z0, z1⟩, rfl, w0, w1, trivial⟩
def okFl (x : Fl) : Prop := (x.ws.length ≤ maxLen ∧ ∀ z ∈ x.ws, okWk z) ∧ (x.ps.length ≤ maxLen ∧ ∀ z ∈ x.ps, okPl z) ∧ True
theorem rowFl (row : List RT) (h : RowF (.st (.cons 22 1 (.sl (.st (.cons 3 1 (.int .i64) (.cons 3 1 (.int .i64) .nil))) 27 2) (.cons 23 1 (.sl (.st (.cons 3 1 (.int .i64) (.cons 3 1 (.int .i64) .nil))) 66 2) .nil))) row) : ∃ x, row = eFl x ∧ okFl x := by
  obtain ⟨a0, r0, rfl, _, ⟨rows0, rfl, l0, h0⟩, a1, r1, rfl, _, ⟨rows1, rfl, l1, h1⟩, rfl⟩ := h
  obtain ⟨z0, rfl, k0⟩ := rows_map eW (fun z => okWk z) rowWk rows0 h0
  obtain ⟨z1, rfl, k1⟩ := rows_map eL (fun z => okPl z) rowPl rows1 h1
  exact ⟨⟨z0, z1⟩, rfl, ⟨by simpa using l0, k0⟩, ⟨by simpa using l1, k1⟩, trivial⟩
namespace slotsBack
theorem main (avs : List A0) (h : All2 FitA [(.st (.cons 22 1 (.sl (.st (.cons 3 1 (.int .i64) (.cons 3 1 (.int .i64) .nil))) 27 2) (.cons 23 1 (.sl (.st (.cons 3 1 (.int .i64) (.cons 3 1 (.int .i64) .nil))) 66 2) .nil))), (.sl (.int .i64) 3 1), (.st (.cons 3 1 (.int .i64) (.cons 3 1 (.int .i64) .nil)))] avs) : Con Try.prog 7 avs (fun x K t => x = .val (.bool true) ∧ K = [] ∧ t = 0) := by
  obtain ⟨x0, x1, x2, rfl, h0, h1, h2⟩ : ∃ x0 x1 x2, avs = [x0, x1, x2] ∧ FitA (.st (.cons 22 1 (.sl (.st (.cons 3 1 (.int .i64) (.cons 3 1 (.int .i64) .nil))) 27 2) (.cons 23 1 (.sl (.st (.cons 3 1 (.int .i64) (.cons 3 1 (.int .i64) .nil))) 66 2) .nil))) x0 ∧ FitA (.sl (.int .i64) 3 1) x1 ∧ FitA (.st (.cons 3 1 (.int .i64) (.cons 3 1 (.int .i64) .nil))) x2 := by
    cases avs with
    | nil => exact h.elim
    | cons x0 r => cases r with
      | nil => exact h.2.elim
      | cons x1 r => cases r with
        | nil => exact h.2.2.elim
        | cons x2 r => cases r with
          | nil => exact ⟨x0, x1, x2, rfl, h.1, h.2.1, h.2.2.1⟩
          | cons => exact h.2.2.2.elim
  clear h
  obtain ⟨row0, hrow0, rfl⟩ := h0
  obtain ⟨x, rfl, kx⟩ := rowFl row0 hrow0
  obtain ⟨zs, rfl, lzs, wzs⟩ := fit_ints h1
  obtain ⟨row2, hrow2, rfl⟩ := h2
  obtain ⟨y, rfl, ky⟩ := rowWk row2 hrow2
  exact slotsback_con x.ws x.ps zs y.id y.sl (by have := kx.1.1; simpa [maxLen] using this) (by have := kx.2.1.1; simpa [maxLen] using this) (by have := lzs; simpa [maxLen] using this)
end slotsBack
end Go.Proofs.Ytllnmdmmmkoiaaa
namespace Go.Proofs.Ytllnmdmmmkoiaaa
open Go Go.RowKit Wx
set_option linter.unusedVariables false
set_option linter.unusedSimpArgs false
set_option maxHeartbeats 4000000
theorem whF_there {ps : List Pl} (hw : ∀ p ∈ ps, 0 < p.wk) (t : Int) : whF ps t > 0 ↔ ∃ p ∈ ps, p.task = t := by
  induction ps with
  | nil => simp [whF]
  | cons q l ih =>
    rw [whF]
    by_cases e : q.task = t
    · rw [if_pos e]; exact ⟨fun _ => ⟨q, by simp, e⟩, fun _ => hw q (by simp)⟩
    · rw [if_neg e, ih fun p hp => hw p (by simp [hp])]
      constructor
      · rintro ⟨p, hp, h⟩; exact ⟨p, by simp [hp], h⟩
      · rintro ⟨p, hp, h⟩
        rcases List.mem_cons.1 hp with rfl | hp
        · exact absurd h e
        · exact ⟨p, hp, h⟩
theorem okF_wk {ws : List Wk} {ps : List Pl} (hk : okF ws ps = true) : ∀ p ∈ ps, 1 ≤ p.wk ∧ p.wk ≤ 4 := fun p hp => by
  obtain ⟨hkw, hkp, hkc⟩ := okF_all hk
  have h2 := (okC_iff hkw).1 hkc p.wk
  have h3 := cnt_mem hp
  obtain ⟨w, hw, e⟩ := slF_ne (ws := ws) (y := p.wk) (by omega)
  have := (okW_all.1 hkw).2 w hw
  omega
theorem okF_wk0 {ws : List Wk} {ps : List Pl} (hk : okF ws ps = true) : ∀ p ∈ ps, 0 < p.wk := fun p hp => by have := okF_wk hk p hp; omega
/-- What the document takes. -/
def badK (ps : List Pl) (ts : List Int) (t : Int) : Bool := decide ((ts.count t : Int) > 1 ∨ whF ps t = 0)
theorem take_doc {ws : List Wk} {ps : List Pl} {ts : List Int} (hk : okF ws ps = true) : takT ps ts = if ts.any (badK ps ts) = true then none else some (ps.filter fun p => !decide (p.task ∈ ts)) := by
  rw [takT_doc (okT_all.1 (okF_all hk).2.1).1]
  have hw := okF_wk0 hk
  have hz : ∀ t, 0 ≤ whF ps t := fun t => by
    clear hk
    induction ps with
    | nil => exact Int.le_refl 0
    | cons q l ih =>
      rw [whF]
      split
      · have := hw q (by simp); omega
      · exact ih fun p hp => hw p (by simp [hp])
  by_cases h : ts.Nodup ∧ ∀ t ∈ ts, ∃ p ∈ ps, p.task = t
  · rw [if_pos h, if_neg]
    intro g
    obtain ⟨t, ht, hb⟩ := List.any_eq_true.1 g
    rcases of_decide_eq_true hb with h1 | h1
    · have := List.nodup_iff_count.1 h.1 t; omega
    · have := (whF_there hw t).2 (h.2 t ht); omega
  · rw [if_neg h, if_pos]
    refine Classical.byContradiction fun g => h ?_
    have g2 : ∀ t ∈ ts, ¬ ((ts.count t : Int) > 1 ∨ whF ps t = 0) := fun t ht e => g (List.any_eq_true.2 ⟨t, ht, decide_eq_true e⟩)
    refine ⟨List.nodup_iff_count.2 fun t => ?_, fun t ht => (whF_there hw t).1 ?_⟩
    · by_cases ht : t ∈ ts
      · have := g2 t ht; omega
      · rw [List.count_eq_zero_of_not_mem ht]; omega
    · have := g2 t ht; have := hz t; omega
def restP (ts : List Int) (ps : List Pl) : List Pl := ps.filter fun p => !decide (p.task ∈ ts)
end Go.Proofs.Ytllnmdmmmkoiaaa
namespace Go.Proofs.Ytllnmdmmmkoiaaa
open Go Go.RowKit Wx
set_option linter.unusedVariables false
set_option linter.unusedSimpArgs false
set_option maxHeartbeats 4000000
/-! ### What is kept, deed by deed -/
structure Dd where
  kd : Int
  id : Int
  sl : Int
  ts : List Int
abbrev eD (x : Dd) : List RT := [RT.v (.int .i64 x.kd), RT.v (.int .i64 x.id), RT.v (.int .i64 x.sl), RT.ro 1 (x.ts.map eI)]
abbrev enB (b : Bool) : A0 := .one (.v (.bool b))
theorem look_is {z : Value} {es : Y.MS} {L : List (Int × Bool)} {k : Int} {A : A0 → Bool → Prop} {b : Bool} (HM : Z.MapL .i64 enB es L) (hv : (Z.lookK L k).getD false = b) (hz : Y.zeroA z = enB false) (h : ∀ ok, A (enB b) ok) : Z.lookN .i64 z es k A := by
  refine Z.MapL.look HM (z0 := false) hz ?_
  rw [hv]; exact h _
theorem mark_step {L : List (Int × Bool)} {l : List Int} {j : Nat} {x : Int} (h : l[j]? = some x) (hL : ∀ y, (Z.lookK L y).getD false = decide (y ∈ l.take j)) : ∀ y, (Z.lookK (Z.putK L x true) y).getD false = decide (y ∈ l.take (j + 1)) := fun y => by
  rw [Z.look_put, take_snoc h]
  by_cases e : x = y
  · subst e; rw [if_pos rfl]; simp
  · rw [if_neg e, hL]
    have : ¬ y = x := fun g => e g.symm
    simp [this]
theorem whF_of : ∀ {A : List Pl} {p : Pl}, psrt A → p ∈ A → whF A p.task = p.wk
  | [], _, _, h => by cases h
  | q :: l, p, hs, h => by
    unfold psrt at hs; rw [List.pairwise_cons] at hs
    unfold whF
    rcases List.mem_cons.1 h with rfl | h
    · rw [if_pos rfl]
    · have := hs.1 p h
      rw [if_neg (by omega)]; exact whF_of hs.2 h
/-- Each place of the one lies in the other: it is told alike. -/
theorem keep_sub {A B : List Pl} {y : Int} (hA : psrt A) (hB : psrt B) (h : ∀ p ∈ A, p.task = y → p ∈ B) (hy : idxT A y < A.length) : idxT B y < B.length ∧ whF B y = whF A y := by
  obtain ⟨p, hp, rfl⟩ := idxT_yes.1 hy
  have := h p hp rfl
  exact ⟨idxT_yes.2 ⟨p, this, rfl⟩, by rw [whF_of hA hp, whF_of hB this]⟩
theorem okF_srt {ws : List Wk} {ps : List Pl} (hk : okF ws ps = true) : psrt ps := (okT_all.1 (okF_all hk).2.1).1
theorem cnt_filter {f : Pl → Bool} {y : Int} : ∀ {ps : List Pl}, cnt (ps.filter f) y ≤ cnt ps y
  | [] => Int.le_refl _
  | p :: l => by
    have := @cnt_filter f y l
    rw [List.filter_cons]
    split <;> simp only [cnt] <;> split <;> omega
theorem cnt_zero {y : Int} : ∀ {ps : List Pl}, (∀ p ∈ ps, p.wk ≠ y) → cnt ps y = 0
  | [], _ => rfl
  | p :: l, h => by rw [cnt, if_neg (h p (by simp)), cnt_zero fun q hq => h q (by simp [hq])]; rfl
theorem slF_fil {id y : Int} (h : y ≠ id) : ∀ {ws : List Wk}, slF (ws.filter fun w => !decide (w.id = id)) y = slF ws y
  | [] => rfl
  | w :: l => by
    rw [List.filter_cons]
    by_cases e : w.id = id
    · rw [if_neg (by simp [e]), slF_fil h, slF, if_neg (by omega)]
    · rw [if_pos (by simp [e]), slF, slF, slF_fil h]
theorem go_ok {ws : List Wk} {ps : List Pl} {id : Int} (hk : okF ws ps = true) : okF (ws.eraseIdx (idxW ws id)) (keepP id ps) = true := by
  obtain ⟨hkw, hkp, hkc⟩ := okF_all hk
  have hs := okW_all.1 hkw
  rw [go_doc hs.1]
  have h1 : okW 0 (ws.filter fun w => !decide (w.id = id)) = true := okW_all.2 ⟨List.Pairwise.filter _ hs.1, fun w hw => hs.2 w (List.mem_filter.1 hw).1⟩
  have hp := okT_all.1 hkp
  unfold okF
  rw [h1, show okT (-1) (keepP id ps) = true from okT_all.2 ⟨List.Pairwise.filter _ hp.1, fun p hp2 => hp.2 p (List.mem_filter.1 hp2).1⟩, (okC_iff h1).2 fun y => ?_]
  · rfl
  · by_cases e : y = id
    · subst e
      rw [cnt_zero fun p hp e2 => by have := (List.mem_filter.1 hp).2; simp [e2] at this]
      exact (okW_sl h1 y).1
    · rw [slF_fil e]
      have h2 := (okC_iff hkw).1 hkc y
      have h3 := @cnt_filter (fun p => !decide (p.wk = id)) y ps
      unfold keepP; omega
theorem rest_ok {ws : List Wk} {ps : List Pl} {ts : List Int} (hk : okF ws ps = true) : okF ws (restP ts ps) = true := by
  obtain ⟨hkw, hkp, hkc⟩ := okF_all hk
  have hp := okT_all.1 hkp
  unfold okF
  rw [hkw, show okT (-1) (restP ts ps) = true from okT_all.2 ⟨List.Pairwise.filter _ hp.1, fun p hp2 => hp.2 p (List.mem_filter.1 hp2).1⟩, (okC_iff hkw).2 fun y => ?_]
  · rfl
  · have h2 := (okC_iff hkw).1 hkc y
    have h3 := @cnt_filter (fun p => !decide (p.task ∈ ts)) y ps
    unfold restP; omega
theorem at_keep {id : Int} {ps : List Pl} : atL (keepP id ps) id = [] := by
  unfold atL keepP
  rw [List.filter_filter, List.filter_eq_nil_iff.2 fun p _ => by simp]; rfl
theorem go_keep {ws : List Wk} {ps : List Pl} {id : Int} (hk : okF ws ps = true) (y : Int) (hy : idxT ps y < ps.length) (hg : decide (y ∈ atL ps id) = false) : idxT (keepP id ps) y < (keepP id ps).length ∧ whF (keepP id ps) y = whF ps y :=
  keep_sub (okF_srt hk) (okF_srt (go_ok (id := id) hk)) (fun p hp e => List.mem_filter.2 ⟨hp, by
    have h := of_decide_eq_false hg
    have : ¬ p.wk = id := fun e2 => h (by unfold atL; exact List.mem_map.2 ⟨p, List.mem_filter.2 ⟨hp, decide_eq_true e2⟩, e⟩)
    simp [this]⟩) hy
theorem srt_inj {A : List Pl} (h : psrt A) {p q : Pl} (hp : p ∈ A) (hq : q ∈ A) (e : p.task = q.task) : p.wk = q.wk := by
  rw [← whF_of h hp, ← whF_of h hq, e]
theorem go_gone {ws : List Wk} {ps : List Pl} {id : Int} (hk : okF ws ps = true) (y : Int) (hg : decide (y ∈ atL ps id) = true) : ¬ idxT (keepP id ps) y < (keepP id ps).length := fun h => by
  obtain ⟨p, hp, hpe⟩ := idxT_yes.1 h
  obtain ⟨hp1, hp2⟩ := List.mem_filter.1 hp
  have hm := of_decide_eq_true hg
  unfold atL at hm
  obtain ⟨q, hq, hqe⟩ := List.mem_map.1 hm
  obtain ⟨hq1, hq2⟩ := List.mem_filter.1 hq
  have := srt_inj (okF_srt hk) hp1 hq1 (by rw [hpe, hqe])
  have h3 := of_decide_eq_true hq2
  rw [this] at hp2
  simp [h3] at hp2
theorem rest_keep {ws : List Wk} {ps : List Pl} {ts : List Int} (hk : okF ws ps = true) (y : Int) (hy : idxT ps y < ps.length) (hg : decide (y ∈ ts) = false) : idxT (restP ts ps) y < (restP ts ps).length ∧ whF (restP ts ps) y = whF ps y :=
  keep_sub (okF_srt hk) (okF_srt (rest_ok (ts := ts) hk)) (fun p hp e => List.mem_filter.2 ⟨hp, by
    have h := of_decide_eq_false hg
    rw [e]; simp [h]⟩) hy
theorem rest_gone {ps : List Pl} {ts : List Int} (y : Int) (hg : decide (y ∈ ts) = true) : ¬ idxT (restP ts ps) y < (restP ts ps).length := fun h => by
  obtain ⟨p, hp, hpe⟩ := idxT_yes.1 h
  have h2 := (List.mem_filter.1 hp).2
  have h3 := of_decide_eq_true hg
  rw [← hpe] at h3
  simp [h3] at h2
theorem lay_kept {ws : List Wk} {ps : List Pl} {ts : List Int} (hk : okF ws ps = true) (hw : wantT ws ps ts = 0) (y : Int) (hy : idxT ps y < ps.length) : idxT (layT ws ps ts) y < (layT ws ps ts).length ∧ whF (layT ws ps ts) y = whF ps y :=
  keep_sub (okF_srt hk) (okF_srt (lay_all hk hw)) (fun p hp _ => layT_mem hp) hy
theorem layT_ok {ws : List Wk} {ps : List Pl} {ts : List Int} (hk : okF ws ps = true) (hw : wantT ws ps ts = 0) : layR ws ps ts = (ws, layT ws ps ts, 0) := by unfold layR; rw [if_pos hk, if_pos hw]
theorem layT_no {ws : List Wk} {ps : List Pl} {ts : List Int} (hk : okF ws ps = true) (hw : ¬ wantT ws ps ts = 0) : layR ws ps ts = ([], [], wantT ws ps ts) := by unfold layR; rw [if_pos hk, if_neg hw]
theorem want_6 {ws : List Wk} {ps : List Pl} {ts : List Int} (h : wantT ws ps ts = 6) : (ts.length : Int) > sumW ws - (ps.length : Int) := by
  unfold wantT at h
  cases h1 : okTs ts <;> rw [h1] at h
  · simp at h
  · cases h2 : freshT ps ts <;> rw [h2] at h
    · simp at h
    · simp only [cond_true] at h
      split at h
      · assumption
      · simp at h
theorem goT_ok {ws : List Wk} {ps : List Pl} {id : Int} (hk : okF ws ps = true) (hi : idxW ws id < ws.length) : goT ws ps id = (ws.eraseIdx (idxW ws id), keepP id ps, atL ps id, 0) := by unfold goT; rw [if_pos hk, if_pos hi]
theorem goT_no {ws : List Wk} {ps : List Pl} {id : Int} (hk : okF ws ps = true) (hi : ¬ idxW ws id < ws.length) : goT ws ps id = ([], [], [], 4) := by unfold goT; rw [if_pos hk, if_neg hi]
theorem takT_rest {ws : List Wk} {ps : List Pl} {ts : List Int} {B : List Pl} (hk : okF ws ps = true) (h : takT ps ts = some B) : B = restP ts ps := by
  rw [take_doc hk] at h
  split at h
  · cases h
  · simp only [Option.some.injEq] at h; exact h.symm
theorem tm_b (p : Int) : -4 < p.tmod 4 ∧ p.tmod 4 < 4 := ⟨Int.neg_lt_of_neg_lt (by rw [← Int.neg_tmod]; exact Int.tmod_lt_of_pos _ (by decide)), Int.tmod_lt_of_pos _ (by decide)⟩
theorem kind_4 (p : Int) : (p.tmod 4 + 4).tmod 4 = 0 ∨ (p.tmod 4 + 4).tmod 4 = 1 ∨ (p.tmod 4 + 4).tmod 4 = 2 ∨ (p.tmod 4 + 4).tmod 4 = 3 := by
  have h := tm_b p
  have h1 := Int.tmod_nonneg 4 (show 0 ≤ p.tmod 4 + 4 by omega)
  have h2 := Int.tmod_lt_of_pos (p.tmod 4 + 4) (show (0 : Int) < 4 by decide)
  omega
theorem sumW_b {ws : List Wk} {ps : List Pl} (hk : okF ws ps = true) : 0 ≤ sumW ws ∧ sumW ws ≤ 32 := by
  have h := okW_all.1 (okF_all hk).1
  have hl := okW_len (okF_all hk).1
  have key : ∀ {l : List Wk}, (∀ w ∈ l, 1 ≤ w.sl ∧ w.sl ≤ 8) → 0 ≤ sumW l ∧ sumW l ≤ 8 * (l.length : Int) := fun {l} => by
    induction l with
    | nil => intro _; simp [sumW]
    | cons w l ih =>
      intro hw
      have h1 := ih fun z hz => hw z (by simp [hz])
      have h2 := hw w (by simp)
      simp only [sumW, List.map_cons, List.sum_cons, List.length_cons] at h1 ⊢
      omega
  have := key fun w hw => (h.2 w hw).2.2.2
  omega
end Go.Proofs.Ytllnmdmmmkoiaaa
namespace Go.Proofs.Ytllnmdmmmkoiaaa
open Go Go.RowKit Wx
set_option linter.unusedVariables false
set_option linter.unusedSimpArgs false
set_option maxHeartbeats 4000000
theorem slotskeep_con (l : List Dd) (hl : l.length ≤ 9223372036854775807) (hb : ∀ x ∈ l, x.ts.length ≤ 9223372036854775807) : Con Try.prog 6 [.one (.ro false 4 (l.map eD))] (fun rx rK rt => rx = .val (.bool true) ∧ rK = [] ∧ rt = 0) := by
  refine Z.con_ofF tabOk 183 Try.f6 _ Try.func6 (by kernel_rfl) rfl rfl rfl rfl ?_
  repeat' ((conv => whnf); first
    | ((with_reducible apply spB_cong); (focus (simp only [beq_self_eq_true, bne_self_eq_false, Bool.true_bne, Bool.false_bne, Bool.bne_true, Bool.bne_false, Bool.true_beq, Bool.false_beq, Bool.not_true, Bool.not_false, Bool.not_not, Int.reduceBEq, Int.reduceBNe, Int.reduceLE, Int.reduceLT, Int.reduceEq, decide_true, decide_false, bne_self_eq_false, beq_self_eq_true]; rfl)))
    | with_reducible first | refine spB_no (by decide) ?_
    | ((first | (with_reducible refine Z.callZ_mk ?_ (wakes_con) ?_)); (focus ((repeat' (first | exact trivial)); done))))
  all_goals (try (conv => whnf))
  all_goals try (show Nat.ble _ _ = true; rfl)
  all_goals try (exfalso; rename_i hz; cases hz; done)
  all_goals try (exfalso; (try simp only [LN] at *) <;> omega)
  refine Z.loopK tabOk (fun zq : Nat × List Wk × List Pl => [(23, .val (.int .i64 (zq.1 : Int)))]) (fun zq : Nat × List Wk × List Pl => ([(0, some (Z.Ob.b ⟨[[.ro true 2 (zq.2.1.map eW), .ro true 2 (zq.2.2.map eL)]], 2, 25, true⟩))] : Z.Kr)) (fun zq => zq.1 ≤ l.length ∧ okF zq.2.1 zq.2.2 = true) (fun zq => l.length - zq.1) (0, [], []) 1 [(3, _), (21, _), (22, _)] ⟨rfl, rfl, rfl, trivial⟩ [] trivial ?_ ?_ rfl rfl ⟨Nat.zero_le _, rfl⟩ ?_
  · repeat' (first | exact trivial | apply And.intro | exact ⟨_, rfl, Z.Imp.refl _⟩)
  · repeat' (first | exact trivial | (intro b hb; cases hb; refine ⟨_, rfl, ⟨rfl, rfl, rfl⟩, ?_⟩; (repeat' (first | exact trivial | apply And.intro | exact Z.Imp.nilr _ _)); done) | apply And.intro)
  rintro ⟨i, ws, ps⟩ HINV
  dsimp only at HINV ⊢
  obtain ⟨HI, hk⟩ := HINV
  have hwl := okW_len (okF_all hk).1
  have hpl := okT_len (okF_all hk).2.1
  by_cases hi : i < l.length
  rotate_left
  · skip
    repeat' ((conv => whnf); first
      | (with_reducible refine spB_dec ?_ ?_ <;> intro _ <;> (try (exfalso; first | contradiction | omega | (rename_i hz; refine hz ?_; simp; done) | (rename_i hz; simp at hz; done) | (simp only [LN] at *; omega)))))
    all_goals (try (conv => whnf))
    all_goals try (show Nat.ble _ _ = true; rfl)
    all_goals first
      | ((first | (with_reducible apply Z.retF1)); (focus (exact rfl)); (repeat' (first | exact trivial | (with_reducible apply Z.frz_one) | (with_reducible apply Z.fq_bool) | exact rfl | apply And.intro)); (all_goals (try exact (fun _ => none))); all_goals (first | (simp; done)))
  obtain ⟨x, hx⟩ := getElem?_some' (xs := l) (i := i) hi
  have hxb := hb x (List.mem_of_getElem? hx)
  obtain ⟨kd, a, c, ts⟩ := x
  by_cases hbr : i = 60 ∨ 100 < ts.length
  · rcases hbr with hbr | hbr
    all_goals (
      repeat' ((conv => whnf); first
        | with_reducible first | refine spB_t ?_
        | ((with_reducible apply spB_cong); (focus (simp only [beq_self_eq_true, bne_self_eq_false, Bool.true_bne, Bool.false_bne, Bool.bne_true, Bool.bne_false, Bool.true_beq, Bool.false_beq, Bool.not_true, Bool.not_false, Bool.not_not, Int.reduceBEq, Int.reduceBNe, Int.reduceLE, Int.reduceLT, Int.reduceEq, decide_true, decide_false, bne_self_eq_false, beq_self_eq_true]; rfl)))
        | with_reducible first | refine spB_no (by decide) ?_
        | (with_reducible refine spB_dec ?_ ?_ <;> intro _ <;> (try (exfalso; first | contradiction | omega | (rename_i hz; refine hz ?_; simp; done) | (rename_i hz; simp at hz; done) | (simp only [LN] at *; omega))))
        | (with_reducible refine spB_beq ?_ ?_ <;> intro _ <;> (try (exfalso; first | contradiction | omega | (rename_i hz; refine hz ?_; simp; done) | (rename_i hz; simp at hz; done) | (simp only [LN] at *; omega))))
        | with_reducible first | refine Z.rowN_known hx ?_
        | ((with_reducible apply ixN_litp); (focus (exact rfl)); (focus ((try simp only [LN] at *) <;> omega))))
      all_goals (try (conv => whnf)))
    all_goals try (show Nat.ble _ _ = true; rfl)
    all_goals first
      | ((first | (with_reducible apply Z.retF1)); (focus (exact rfl)); (repeat' (first | exact trivial | (with_reducible apply Z.frz_one) | (with_reducible apply Z.fq_bool) | exact rfl | apply And.intro)); (all_goals (try exact (fun _ => none))); all_goals (first | (simp; done)))
  have hts : ts.length ≤ 100 := by omega
  have hi60 : ¬ i = 60 := by omega
  have htm := tm_b kd
  have cm := come_con ws ps a c (by omega) (by omega)
  have cg := go_con ws ps a (by omega) (by omega)
  have cl := lay_con ws ps ts (by omega) (by omega) (by omega)
  have ct := take_con ws ps ts (by omega) (by omega) (by omega)
  rcases kind_4 kd with h4 | h4 | h4 | h4
  · by_cases hc : (okF ws ps = true ∧ ((1 ≤ a ∧ a ≤ 4) ∧ 1 ≤ c ∧ c ≤ 8) ∧ ¬ idxW ws a < ws.length)
    rotate_left
    · obtain ⟨e2, he2, h2⟩ := comeT_no hc
      rw [h2] at cm
      dsimp only at cm
      repeat' ((conv => whnf); first
        | with_reducible first | refine spB_t ?_
        | ((with_reducible apply spB_cong); (focus (simp only [beq_self_eq_true, bne_self_eq_false, Bool.true_bne, Bool.false_bne, Bool.bne_true, Bool.bne_false, Bool.true_beq, Bool.false_beq, Bool.not_true, Bool.not_false, Bool.not_not, Int.reduceBEq, Int.reduceBNe, Int.reduceLE, Int.reduceLT, Int.reduceEq, decide_true, decide_false, bne_self_eq_false, beq_self_eq_true, h4]; rfl)))
        | with_reducible first | refine spB_no (by decide) ?_
        | (with_reducible refine spB_dec ?_ ?_ <;> intro _ <;> (try (exfalso; first | contradiction | omega | (rename_i hz; refine hz ?_; simp; done) | (rename_i hz; simp at hz; done) | (simp only [LN] at *; omega))))
        | (with_reducible refine spB_beq ?_ ?_ <;> intro _ <;> (try (exfalso; first | contradiction | omega | (rename_i hz; refine hz ?_; simp; done) | (rename_i hz; simp at hz; done) | (simp only [LN] at *; omega))))
        | (with_reducible refine spB_bne ?_ ?_ <;> intro _ <;> (try (exfalso; first | contradiction | omega | (rename_i hz; refine hz ?_; simp; done) | (rename_i hz; simp at hz; done) | (simp only [LN] at *; omega))))
        | with_reducible first | refine Z.rowN_known hx ?_
        | ((with_reducible refine vN_mk ?_))
        | ((with_reducible apply ixN_litp); (focus (exact rfl)); (focus ((try simp only [LN] at *) <;> omega)))
        | with_reducible refine wr_i64 (by first | omega | (simp only [LN] at *; omega)) ?_
        | with_reducible refine nzN_mk (by omega) ?_
        | ((first | (with_reducible refine Z.callZ_mk ?_ (cm) ?_)); (focus ((repeat' (first | exact trivial | exact rfl | apply And.intro)); done))))
      all_goals (try (conv => whnf))
      all_goals try (show Nat.ble _ _ = true; rfl)
      all_goals try (exfalso; rename_i hz; cases hz; done)
      all_goals try (exfalso; (try simp only [LN] at *) <;> omega)
      all_goals first
        | ((refine Z.rndK ((i + 1, ws, ps)) (fun s => [0]) rfl rfl rfl rfl ?_ ?_ ?_ ?_); (focus (repeat' (first | exact trivial | exact rfl | apply And.intro))); (focus (repeat' (first | exact trivial | (intro b hb; cases hb; rfl) | apply And.intro))); (focus (exact ⟨by (try dsimp only); omega, hk⟩)); ((try dsimp only); omega))
    obtain ⟨_, hv, hno⟩ := hc
    rw [comeT_ok hk hv hno] at cm
    dsimp only at cm
    have hkN := come_ok (c := c) hk hv hno
    have hIl := insW_len (a := a) (c := c) (A := ws)
    generalize insW a c ws = IW at *
    have HM : Z.MapL .i64 enB ⟨[], 0⟩ [] := Z.MapL.nil
    have HG : ∀ y : Int, (Z.lookK ([] : List (Int × Bool)) y).getD false = (fun _ : Int => false) y := fun y => rfl
    have KEEP : ∀ y : Int, idxT ps y < ps.length → (fun _ : Int => false) y = false → idxT ps y < ps.length ∧ whF ps y = whF ps y := fun y h _ => ⟨h, rfl⟩
    have GONE : ∀ y : Int, (fun _ : Int => false) y = true → ¬ idxT ps y < ps.length := fun y h => by cases h
    dsimp only at HG KEEP GONE
    repeat' ((conv => whnf); first
      | with_reducible first | refine spB_t ?_
      | ((with_reducible apply spB_cong); (focus (simp only [beq_self_eq_true, bne_self_eq_false, Bool.true_bne, Bool.false_bne, Bool.bne_true, Bool.bne_false, Bool.true_beq, Bool.false_beq, Bool.not_true, Bool.not_false, Bool.not_not, Int.reduceBEq, Int.reduceBNe, Int.reduceLE, Int.reduceLT, Int.reduceEq, decide_true, decide_false, bne_self_eq_false, beq_self_eq_true, h4]; rfl)))
      | with_reducible first | refine spB_no (by decide) ?_
      | (with_reducible refine spB_dec ?_ ?_ <;> intro _ <;> (try (exfalso; first | contradiction | omega | (rename_i hz; refine hz ?_; simp; done) | (rename_i hz; simp at hz; done) | (simp only [LN] at *; omega))))
      | (with_reducible refine spB_beq ?_ ?_ <;> intro _ <;> (try (exfalso; first | contradiction | omega | (rename_i hz; refine hz ?_; simp; done) | (rename_i hz; simp at hz; done) | (simp only [LN] at *; omega))))
      | with_reducible first | refine Z.rowN_known hx ?_
      | ((with_reducible refine vN_mk ?_))
      | ((with_reducible apply ixN_litp); (focus (exact rfl)); (focus ((try simp only [LN] at *) <;> omega)))
      | with_reducible refine wr_i64 (by first | omega | (simp only [LN] at *; omega)) ?_
      | with_reducible refine nzN_mk (by omega) ?_
      | ((first | (with_reducible refine Z.callZ_mk ?_ (cm) ?_)); (focus ((repeat' (first | exact trivial | exact rfl | apply And.intro)); done))))
    all_goals (try (conv => whnf))
    all_goals try (show Nat.ble _ _ = true; rfl)
    all_goals try (exfalso; rename_i hz; cases hz; done)
    all_goals try (exfalso; (try simp only [LN] at *) <;> omega)
    refine Z.loopK tabOk (fun zq : Nat => [(138, .val (.int .i64 (zq : Int)))]) (fun zq : Nat => ([] : Z.Kr)) (fun zq => zq ≤ 16) (fun zq => 16 - zq) 0 4 [(3, _), (6, _), (8, _), (21, _), (22, _), (23, _)] ⟨rfl, rfl, rfl, rfl, rfl, rfl, trivial⟩ [(0, some _), (1, some _), (2, some _), (3, some _)] ⟨rfl, rfl, rfl, rfl, trivial⟩ ?_ ?_ rfl rfl (Nat.zero_le _) ?_
    · repeat' (first | exact trivial | apply And.intro | exact ⟨_, rfl, Z.Imp.refl _⟩)
    · repeat' (first | exact trivial)
    rintro t HINV
    dsimp only at HINV ⊢
    by_cases ht : t < 16
    · have cw1 := where_con ws ps (t : Int) (by omega) (by omega)
      have cw2 := where_con IW ps (t : Int) (by omega) (by omega)
      rw [hk] at cw1
      rw [hkN] at cw2
      simp only [cond_true] at cw1 cw2
      have hg := HG (t : Int)
      by_cases h1 : idxT ps (t : Int) < ps.length
      all_goals by_cases h2 : idxT ps (t : Int) < ps.length
      all_goals cases hG : (false : Bool)
      all_goals try exact absurd h2 (GONE _ hG)
      all_goals try exact absurd (KEEP _ h1 hG).1 h2
      all_goals (
        rw [hG] at hg
        first | rw [decide_eq_true h1] at cw1 | rw [decide_eq_false h1] at cw1
        first | rw [decide_eq_true h2] at cw2 | rw [decide_eq_false h2] at cw2
        try rw [(KEEP _ h1 hG).2] at cw2
        repeat' ((conv => whnf); first
          | with_reducible first | refine spB_t ?_
          | ((with_reducible apply spB_cong); (focus (simp only [beq_self_eq_true, bne_self_eq_false, Bool.true_bne, Bool.false_bne, Bool.bne_true, Bool.bne_false, Bool.true_beq, Bool.false_beq, Bool.not_true, Bool.not_false, Bool.not_not, Int.reduceBEq, Int.reduceBNe, Int.reduceLE, Int.reduceLT, Int.reduceEq, decide_true, decide_false, bne_self_eq_false, beq_self_eq_true]; rfl)))
          | with_reducible first | refine spB_no (by decide) ?_
          | (with_reducible refine spB_dec ?_ ?_ <;> intro _ <;> (try (exfalso; first | contradiction | omega | (rename_i hz; refine hz ?_; simp; done) | (rename_i hz; simp at hz; done) | (simp only [LN] at *; omega))))
          | ((with_reducible refine look_is HM (hg) ?_ ?_); (focus rfl); (intro okk))
          | with_reducible refine wr_i64 (by first | omega | (simp only [LN] at *; omega)) ?_
          | ((first | (with_reducible refine Z.callZ_mk ?_ (cw1) ?_)); (focus ((repeat' (first | exact trivial | exact rfl | apply And.intro)); done)))
          | ((first | (with_reducible refine Z.callZ_mk ?_ (cw2) ?_)); (focus ((repeat' (first | exact trivial | exact rfl | apply And.intro)); done)))
          | with_reducible first | refine Z.drawZ_rule tabOk mixOk ?_ | refine Z.apZ_mk (by kernel_rfl) ?_)
        all_goals (try (conv => whnf)))
      all_goals try (show Nat.ble _ _ = true; rfl)
      all_goals first
        | ((refine Z.rndK ((t + 1)) (fun s => [0, 1, 2, 3]) rfl rfl rfl rfl ?_ ?_ ?_ ?_); (focus (repeat' (first | exact trivial | exact rfl | apply And.intro))); (focus (repeat' (first | exact trivial | exact Z.map_sub (Z.MapL.ren HM fun _ => rfl) rfl | (intro b hb; cases hb; rfl) | apply And.intro))); (focus (((try dsimp only); omega))); ((try dsimp only); omega))
    have ck := check_con IW ps (by omega) (by omega)
    rw [hkN] at ck
    simp only [cond_true] at ck
    repeat' ((conv => whnf); first
      | ((with_reducible apply spB_cong); (focus (simp only [beq_self_eq_true, bne_self_eq_false, Bool.true_bne, Bool.false_bne, Bool.bne_true, Bool.bne_false, Bool.true_beq, Bool.false_beq, Bool.not_true, Bool.not_false, Bool.not_not, Int.reduceBEq, Int.reduceBNe, Int.reduceLE, Int.reduceLT, Int.reduceEq, decide_true, decide_false, bne_self_eq_false, beq_self_eq_true]; rfl)))
      | with_reducible first | refine spB_no (by decide) ?_
      | (with_reducible refine spB_dec ?_ ?_ <;> intro _ <;> (try (exfalso; first | contradiction | omega | (rename_i hz; refine hz ?_; simp; done) | (rename_i hz; simp at hz; done) | (simp only [LN] at *; omega))))
      | with_reducible refine wr_i64 (by first | omega | (simp only [LN] at *; omega)) ?_
      | ((first | (with_reducible refine Z.callZ_mk ?_ (ck) ?_)); (focus ((repeat' (first | exact trivial | exact rfl | apply And.intro)); done))))
    all_goals (try (conv => whnf))
    all_goals try (show Nat.ble _ _ = true; rfl)
    all_goals first
      | ((refine Z.rndK ((i + 1, IW, ps)) (fun s => [0]) rfl rfl rfl rfl ?_ ?_ ?_ ?_); (focus (repeat' (first | exact trivial | exact rfl | apply And.intro))); (focus (repeat' (first | exact trivial | (intro b hb; cases hb; rfl) | apply And.intro))); (focus (exact ⟨by (try dsimp only); omega, hkN⟩)); ((try dsimp only); omega))
  · by_cases hc : idxW ws a < ws.length
    rotate_left
    · rw [goT_no hk hc] at cg
      dsimp only at cg
      repeat' ((conv => whnf); first
        | with_reducible first | refine spB_t ?_
        | ((with_reducible apply spB_cong); (focus (simp only [beq_self_eq_true, bne_self_eq_false, Bool.true_bne, Bool.false_bne, Bool.bne_true, Bool.bne_false, Bool.true_beq, Bool.false_beq, Bool.not_true, Bool.not_false, Bool.not_not, Int.reduceBEq, Int.reduceBNe, Int.reduceLE, Int.reduceLT, Int.reduceEq, decide_true, decide_false, bne_self_eq_false, beq_self_eq_true, h4]; rfl)))
        | with_reducible first | refine spB_no (by decide) ?_
        | (with_reducible refine spB_dec ?_ ?_ <;> intro _ <;> (try (exfalso; first | contradiction | omega | (rename_i hz; refine hz ?_; simp; done) | (rename_i hz; simp at hz; done) | (simp only [LN] at *; omega))))
        | (with_reducible refine spB_beq ?_ ?_ <;> intro _ <;> (try (exfalso; first | contradiction | omega | (rename_i hz; refine hz ?_; simp; done) | (rename_i hz; simp at hz; done) | (simp only [LN] at *; omega))))
        | with_reducible first | refine Z.rowN_known hx ?_
        | ((with_reducible refine vN_mk ?_))
        | with_reducible first | refine Z.loopZ_unroll tabOk 2 ?_
        | ((with_reducible apply ixN_litp); (focus (exact rfl)); (focus ((try simp only [LN] at *) <;> omega)))
        | with_reducible refine wr_i64 (by first | omega | (simp only [LN] at *; omega)) ?_
        | with_reducible refine nzN_mk (by omega) ?_
        | ((first | (with_reducible refine Z.callZ_mk ?_ (cg) ?_)); (focus ((repeat' (first | exact trivial | exact rfl | apply And.intro)); done))))
      all_goals (try (conv => whnf))
      all_goals try (show Nat.ble _ _ = true; rfl)
      all_goals try (exfalso; rename_i hz; cases hz; done)
      all_goals try (exfalso; (try simp only [LN] at *) <;> omega)
      all_goals first
        | ((refine Z.rndK ((i + 1, ws, ps)) (fun s => [0]) rfl rfl rfl rfl ?_ ?_ ?_ ?_); (focus (repeat' (first | exact trivial | exact rfl | apply And.intro))); (focus (repeat' (first | exact trivial | (intro b hb; cases hb; rfl) | apply And.intro))); (focus (exact ⟨by (try dsimp only); omega, hk⟩)); ((try dsimp only); omega))
    rw [goT_ok hk hc] at cg
    dsimp only at cg
    have hkN := go_ok (id := a) hk
    have KEEP := go_keep (id := a) hk
    have GONE := go_gone (id := a) hk
    have hat := @at_keep a ps
    have hEl : (ws.eraseIdx (idxW ws a)).length ≤ 4 := by rw [List.length_eraseIdx, if_pos hc]; omega
    have hQl : (keepP a ps).length ≤ 16 := Nat.le_trans (List.length_filter_le _ _) hpl
    have hAl := atL_le (ps := ps) (y := a)
    have ca := at_con (ws.eraseIdx (idxW ws a)) (keepP a ps) a (by omega) (by omega)
    rw [hkN, hat] at ca
    simp only [cond_true] at ca
    generalize ws.eraseIdx (idxW ws a) = IW at *
    generalize keepP a ps = KP at *
    generalize atL ps a = AT at *
    repeat' ((conv => whnf); first
      | with_reducible first | refine spB_t ?_
      | ((with_reducible apply spB_cong); (focus (simp only [beq_self_eq_true, bne_self_eq_false, Bool.true_bne, Bool.false_bne, Bool.bne_true, Bool.bne_false, Bool.true_beq, Bool.false_beq, Bool.not_true, Bool.not_false, Bool.not_not, Int.reduceBEq, Int.reduceBNe, Int.reduceLE, Int.reduceLT, Int.reduceEq, decide_true, decide_false, bne_self_eq_false, beq_self_eq_true, h4]; rfl)))
      | with_reducible first | refine spB_no (by decide) ?_
      | (with_reducible refine spB_dec ?_ ?_ <;> intro _ <;> (try (exfalso; first | contradiction | omega | (rename_i hz; refine hz ?_; simp; done) | (rename_i hz; simp at hz; done) | (simp only [LN] at *; omega))))
      | (with_reducible refine spB_beq ?_ ?_ <;> intro _ <;> (try (exfalso; first | contradiction | omega | (rename_i hz; refine hz ?_; simp; done) | (rename_i hz; simp at hz; done) | (simp only [LN] at *; omega))))
      | with_reducible first | refine Z.rowN_known hx ?_
      | ((with_reducible refine vN_mk ?_))
      | ((with_reducible apply ixN_litp); (focus (exact rfl)); (focus ((try simp only [LN] at *) <;> omega)))
      | with_reducible refine wr_i64 (by first | omega | (simp only [LN] at *; omega)) ?_
      | with_reducible refine nzN_mk (by omega) ?_
      | ((first | (with_reducible refine Z.callZ_mk ?_ (cg) ?_)); (focus ((repeat' (first | exact trivial | exact rfl | apply And.intro)); done))))
    all_goals (try (conv => whnf))
    all_goals try (show Nat.ble _ _ = true; rfl)
    all_goals try (exfalso; rename_i hz; cases hz; done)
    all_goals try (exfalso; (try simp only [LN] at *) <;> omega)
    refine Z.loopK tabOk (fun zq : Nat × Y.MS => [(65, .val (.int .i64 (zq.1 : Int)))]) (fun zq : Nat × Y.MS => ([(3, some (Z.Ob.m zq.2))] : Z.Kr)) (fun zq => zq.1 ≤ (AT).length ∧ ∃ L, Z.MapL .i64 enB zq.2 L ∧ ∀ y, (Z.lookK L y).getD false = decide (y ∈ (AT).take zq.1)) (fun zq => (AT).length - zq.1) (0, ⟨[], 0⟩) 4 [(3, _), (5, _), (6, _), (7, _), (8, _), (21, _), (22, _), (23, _), (63, _), (64, _)] ⟨rfl, rfl, rfl, rfl, rfl, rfl, rfl, rfl, rfl, rfl, trivial⟩ [(0, some _), (1, some _), (2, some _)] ⟨rfl, rfl, rfl, trivial⟩ ?_ ?_ rfl rfl ⟨Nat.zero_le _, [], Z.MapL.nil, fun y => by simp [Z.lookK]⟩ ?_
    · repeat' (first | exact trivial | apply And.intro | exact ⟨_, rfl, Z.Imp.refl _⟩)
    · repeat' (first | exact trivial | exact (fun b hb => ⟨b, hb, Z.ImpO.refl b⟩) | apply And.intro)
    rintro ⟨j, es⟩ HINV
    dsimp only at HINV ⊢
    obtain ⟨HJ, L, HM, HG⟩ := HINV
    by_cases hj : j < (AT).length
    · obtain ⟨z, hz⟩ := getElem?_some' (xs := AT) (i := j) hj
      repeat' ((conv => whnf); first
        | (with_reducible refine spB_dec ?_ ?_ <;> intro _ <;> (try (exfalso; first | contradiction | omega | (rename_i hz; refine hz ?_; simp; done) | (rename_i hz; simp at hz; done) | (simp only [LN] at *; omega))))
        | with_reducible first | refine Z.rowN_known hz ?_
        | ((with_reducible refine Z.MapL.upd' HM (v := true) ?_ ?_); (focus rfl); (intro es3 HM))
        | ((with_reducible apply ixN_litp); (focus (exact rfl)); (focus ((try simp only [LN] at *) <;> omega)))
        | with_reducible refine wr_i64 (by first | omega | (simp only [LN] at *; omega)) ?_)
      all_goals (try (conv => whnf))
      all_goals try (show Nat.ble _ _ = true; rfl)
      all_goals first
        | ((refine Z.rndK ((j + 1, es3)) (fun s => [0, 1, 2, 3]) rfl rfl rfl rfl ?_ ?_ ?_ ?_); (focus (repeat' (first | exact trivial | exact rfl | apply And.intro))); (focus (repeat' (first | exact trivial | exact Z.map_sub (Z.MapL.ren HM fun _ => rfl) rfl | (intro b hb; cases hb; rfl) | apply And.intro))); (focus (exact ⟨by (try dsimp only); omega, _, HM, mark_step hz HG⟩)); ((try dsimp only); omega))
    rw [take_end hj] at HG
    repeat' ((conv => whnf); first
      | with_reducible first | refine spB_t ?_
      | ((with_reducible apply spB_cong); (focus (simp only [beq_self_eq_true, bne_self_eq_false, Bool.true_bne, Bool.false_bne, Bool.bne_true, Bool.bne_false, Bool.true_beq, Bool.false_beq, Bool.not_true, Bool.not_false, Bool.not_not, Int.reduceBEq, Int.reduceBNe, Int.reduceLE, Int.reduceLT, Int.reduceEq, decide_true, decide_false, bne_self_eq_false, beq_self_eq_true, h4]; rfl)))
      | with_reducible first | refine spB_no (by decide) ?_
      | (with_reducible refine spB_dec ?_ ?_ <;> intro _ <;> (try (exfalso; first | contradiction | omega | (rename_i hz; refine hz ?_; simp; done) | (rename_i hz; simp at hz; done) | (simp only [LN] at *; omega))))
      | ((first | (with_reducible refine Z.callZ_mk ?_ (ca) ?_)); (focus ((repeat' (first | exact trivial | exact rfl | apply And.intro)); done))))
    all_goals (try (conv => whnf))
    all_goals try (show Nat.ble _ _ = true; rfl)
    all_goals try (exfalso; rename_i hz; cases hz; done)
    all_goals try (exfalso; (try simp only [LN] at *) <;> omega)
    refine Z.loopK tabOk (fun zq : Nat => [(138, .val (.int .i64 (zq : Int)))]) (fun zq : Nat => ([] : Z.Kr)) (fun zq => zq ≤ 16) (fun zq => 16 - zq) 0 4 [(3, _), (6, _), (8, _), (21, _), (22, _), (23, _)] ⟨rfl, rfl, rfl, rfl, rfl, rfl, trivial⟩ [(0, some _), (1, some _), (2, some _), (3, some _)] ⟨rfl, rfl, rfl, rfl, trivial⟩ ?_ ?_ rfl rfl (Nat.zero_le _) ?_
    · repeat' (first | exact trivial | apply And.intro | exact ⟨_, rfl, Z.Imp.refl _⟩)
    · repeat' (first | exact trivial)
    rintro t HINV
    dsimp only at HINV ⊢
    by_cases ht : t < 16
    · have cw1 := where_con ws ps (t : Int) (by omega) (by omega)
      have cw2 := where_con IW KP (t : Int) (by omega) (by omega)
      rw [hk] at cw1
      rw [hkN] at cw2
      simp only [cond_true] at cw1 cw2
      have hg := HG (t : Int)
      by_cases h1 : idxT ps (t : Int) < ps.length
      all_goals by_cases h2 : idxT KP (t : Int) < KP.length
      all_goals cases hG : decide ((t : Int) ∈ AT)
      all_goals try exact absurd h2 (GONE _ hG)
      all_goals try exact absurd (KEEP _ h1 hG).1 h2
      all_goals (
        rw [hG] at hg
        first | rw [decide_eq_true h1] at cw1 | rw [decide_eq_false h1] at cw1
        first | rw [decide_eq_true h2] at cw2 | rw [decide_eq_false h2] at cw2
        try rw [(KEEP _ h1 hG).2] at cw2
        repeat' ((conv => whnf); first
          | with_reducible first | refine spB_t ?_
          | ((with_reducible apply spB_cong); (focus (simp only [beq_self_eq_true, bne_self_eq_false, Bool.true_bne, Bool.false_bne, Bool.bne_true, Bool.bne_false, Bool.true_beq, Bool.false_beq, Bool.not_true, Bool.not_false, Bool.not_not, Int.reduceBEq, Int.reduceBNe, Int.reduceLE, Int.reduceLT, Int.reduceEq, decide_true, decide_false, bne_self_eq_false, beq_self_eq_true]; rfl)))
          | with_reducible first | refine spB_no (by decide) ?_
          | (with_reducible refine spB_dec ?_ ?_ <;> intro _ <;> (try (exfalso; first | contradiction | omega | (rename_i hz; refine hz ?_; simp; done) | (rename_i hz; simp at hz; done) | (simp only [LN] at *; omega))))
          | ((with_reducible refine look_is HM (hg) ?_ ?_); (focus rfl); (intro okk))
          | with_reducible refine wr_i64 (by first | omega | (simp only [LN] at *; omega)) ?_
          | ((first | (with_reducible refine Z.callZ_mk ?_ (cw1) ?_)); (focus ((repeat' (first | exact trivial | exact rfl | apply And.intro)); done)))
          | ((first | (with_reducible refine Z.callZ_mk ?_ (cw2) ?_)); (focus ((repeat' (first | exact trivial | exact rfl | apply And.intro)); done))))
        all_goals (try (conv => whnf)))
      all_goals try (show Nat.ble _ _ = true; rfl)
      all_goals first
        | ((refine Z.rndK ((t + 1)) (fun s => [0, 1, 2, 3]) rfl rfl rfl rfl ?_ ?_ ?_ ?_); (focus (repeat' (first | exact trivial | exact rfl | apply And.intro))); (focus (repeat' (first | exact trivial | exact Z.map_sub (Z.MapL.ren HM fun _ => rfl) rfl | (intro b hb; cases hb; rfl) | apply And.intro))); (focus (((try dsimp only); omega))); ((try dsimp only); omega))
    have ck := check_con IW KP (by omega) (by omega)
    rw [hkN] at ck
    simp only [cond_true] at ck
    repeat' ((conv => whnf); first
      | ((with_reducible apply spB_cong); (focus (simp only [beq_self_eq_true, bne_self_eq_false, Bool.true_bne, Bool.false_bne, Bool.bne_true, Bool.bne_false, Bool.true_beq, Bool.false_beq, Bool.not_true, Bool.not_false, Bool.not_not, Int.reduceBEq, Int.reduceBNe, Int.reduceLE, Int.reduceLT, Int.reduceEq, decide_true, decide_false, bne_self_eq_false, beq_self_eq_true]; rfl)))
      | with_reducible first | refine spB_no (by decide) ?_
      | (with_reducible refine spB_dec ?_ ?_ <;> intro _ <;> (try (exfalso; first | contradiction | omega | (rename_i hz; refine hz ?_; simp; done) | (rename_i hz; simp at hz; done) | (simp only [LN] at *; omega))))
      | with_reducible refine wr_i64 (by first | omega | (simp only [LN] at *; omega)) ?_
      | ((first | (with_reducible refine Z.callZ_mk ?_ (ck) ?_)); (focus ((repeat' (first | exact trivial | exact rfl | apply And.intro)); done))))
    all_goals (try (conv => whnf))
    all_goals try (show Nat.ble _ _ = true; rfl)
    all_goals first
      | ((refine Z.rndK ((i + 1, IW, KP)) (fun s => [0]) rfl rfl rfl rfl ?_ ?_ ?_ ?_); (focus (repeat' (first | exact trivial | exact rfl | apply And.intro))); (focus (repeat' (first | exact trivial | (intro b hb; cases hb; rfl) | apply And.intro))); (focus (exact ⟨by (try dsimp only); omega, hkN⟩)); ((try dsimp only); omega))
  · have cf := free_con ws ps (by omega) (by omega)
    rw [hk] at cf
    simp only [cond_true] at cf
    by_cases hc : wantT ws ps ts = 0
    rotate_left
    · rw [layT_no hk hc] at cl
      dsimp only at cl
      by_cases hw6 : wantT ws ps ts = 6
      · have h6 := want_6 hw6
        rw [hw6] at cl
        repeat' ((conv => whnf); first
          | with_reducible first | refine spB_t ?_
          | ((with_reducible apply spB_cong); (focus (simp only [beq_self_eq_true, bne_self_eq_false, Bool.true_bne, Bool.false_bne, Bool.bne_true, Bool.bne_false, Bool.true_beq, Bool.false_beq, Bool.not_true, Bool.not_false, Bool.not_not, Int.reduceBEq, Int.reduceBNe, Int.reduceLE, Int.reduceLT, Int.reduceEq, decide_true, decide_false, bne_self_eq_false, beq_self_eq_true, h4]; rfl)))
          | with_reducible first | refine spB_no (by decide) ?_
          | (with_reducible refine spB_dec ?_ ?_ <;> intro _ <;> (try (exfalso; first | contradiction | omega | (rename_i hz; refine hz ?_; simp; done) | (rename_i hz; simp at hz; done) | (simp only [LN] at *; omega))))
          | (with_reducible refine spB_beq ?_ ?_ <;> intro _ <;> (try (exfalso; first | contradiction | omega | (rename_i hz; refine hz ?_; simp; done) | (rename_i hz; simp at hz; done) | (simp only [LN] at *; omega))))
          | with_reducible first | refine Z.rowN_known hx ?_
          | ((with_reducible refine vN_mk ?_))
          | ((with_reducible apply ixN_litp); (focus (exact rfl)); (focus ((try simp only [LN] at *) <;> omega)))
          | with_reducible refine wr_i64 (by first | omega | (simp only [LN] at *; omega)) ?_
          | with_reducible refine nzN_mk (by omega) ?_
          | ((first | (with_reducible refine Z.callZ_mk ?_ (cl) ?_)); (focus ((repeat' (first | exact trivial | exact rfl | apply And.intro)); done)))
          | ((first | (with_reducible refine Z.conZ_mz ?_ (cf) ?_)); (focus ((repeat' (first | exact trivial | exact rfl | apply And.intro)); done)))
          | with_reducible first | refine Z.drawZ_rule tabOk mixOk ?_ | refine Z.apZ_mk (by kernel_rfl) ?_)
        all_goals (try (conv => whnf))
        all_goals try (show Nat.ble _ _ = true; rfl)
        all_goals try (exfalso; rename_i hz; cases hz; done)
        all_goals try (exfalso; (try simp only [LN] at *) <;> omega)
        all_goals first
          | ((refine Z.rndK ((i + 1, ws, ps)) (fun s => [0]) rfl rfl rfl rfl ?_ ?_ ?_ ?_); (focus (repeat' (first | exact trivial | exact rfl | apply And.intro))); (focus (repeat' (first | exact trivial | (intro b hb; cases hb; rfl) | apply And.intro))); (focus (exact ⟨by (try dsimp only); omega, hk⟩)); ((try dsimp only); omega))
      · generalize wantT ws ps ts = ew at *
        repeat' ((conv => whnf); first
          | with_reducible first | refine spB_t ?_
          | ((with_reducible apply spB_cong); (focus (simp only [beq_self_eq_true, bne_self_eq_false, Bool.true_bne, Bool.false_bne, Bool.bne_true, Bool.bne_false, Bool.true_beq, Bool.false_beq, Bool.not_true, Bool.not_false, Bool.not_not, Int.reduceBEq, Int.reduceBNe, Int.reduceLE, Int.reduceLT, Int.reduceEq, decide_true, decide_false, bne_self_eq_false, beq_self_eq_true, h4]; rfl)))
          | with_reducible first | refine spB_no (by decide) ?_
          | (with_reducible refine spB_dec ?_ ?_ <;> intro _ <;> (try (exfalso; first | contradiction | omega | (rename_i hz; refine hz ?_; simp; done) | (rename_i hz; simp at hz; done) | (simp only [LN] at *; omega))))
          | (with_reducible refine spB_beq ?_ ?_ <;> intro _ <;> (try (exfalso; first | contradiction | omega | (rename_i hz; refine hz ?_; simp; done) | (rename_i hz; simp at hz; done) | (simp only [LN] at *; omega))))
          | (with_reducible refine spB_bne ?_ ?_ <;> intro _ <;> (try (exfalso; first | contradiction | omega | (rename_i hz; refine hz ?_; simp; done) | (rename_i hz; simp at hz; done) | (simp only [LN] at *; omega))))
          | with_reducible first | refine Z.rowN_known hx ?_
          | ((with_reducible refine vN_mk ?_))
          | ((with_reducible apply ixN_litp); (focus (exact rfl)); (focus ((try simp only [LN] at *) <;> omega)))
          | with_reducible refine wr_i64 (by first | omega | (simp only [LN] at *; omega)) ?_
          | with_reducible refine nzN_mk (by omega) ?_
          | ((first | (with_reducible refine Z.callZ_mk ?_ (cl) ?_)); (focus ((repeat' (first | exact trivial | exact rfl | apply And.intro)); done)))
          | with_reducible first | refine Z.drawZ_rule tabOk mixOk ?_ | refine Z.apZ_mk (by kernel_rfl) ?_)
        all_goals (try (conv => whnf))
        all_goals try (show Nat.ble _ _ = true; rfl)
        all_goals try (exfalso; rename_i hz; cases hz; done)
        all_goals try (exfalso; (try simp only [LN] at *) <;> omega)
        all_goals first
          | ((refine Z.rndK ((i + 1, ws, ps)) (fun s => [0]) rfl rfl rfl rfl ?_ ?_ ?_ ?_); (focus (repeat' (first | exact trivial | exact rfl | apply And.intro))); (focus (repeat' (first | exact trivial | (intro b hb; cases hb; rfl) | apply And.intro))); (focus (exact ⟨by (try dsimp only); omega, hk⟩)); ((try dsimp only); omega))
    rw [layT_ok hk hc] at cl
    dsimp only at cl
    have hkN := lay_all hk hc
    have KEEP0 := lay_kept hk hc
    have hL2 := layT_len (ws := ws) (l := ts) (A := ps)
    have hLl := okT_len (okF_all hkN).2.1
    have cf2 := free_con ws (layT ws ps ts) (by omega) (by omega)
    rw [hkN] at cf2
    simp only [cond_true] at cf2
    generalize layT ws ps ts = LT at *
    have hsw := sumW_b hk
    have HM : Z.MapL .i64 enB ⟨[], 0⟩ [] := Z.MapL.nil
    have HG : ∀ y : Int, (Z.lookK ([] : List (Int × Bool)) y).getD false = (fun _ : Int => false) y := fun y => rfl
    have KEEP : ∀ y : Int, idxT ps y < ps.length → (fun _ : Int => false) y = false → idxT LT y < LT.length ∧ whF LT y = whF ps y := fun y h _ => KEEP0 y h
    have GONE : ∀ y : Int, (fun _ : Int => false) y = true → ¬ idxT LT y < LT.length := fun y h => by cases h
    dsimp only at HG KEEP GONE
    repeat' ((conv => whnf); first
      | with_reducible first | refine spB_t ?_
      | ((with_reducible apply spB_cong); (focus (simp only [beq_self_eq_true, bne_self_eq_false, Bool.true_bne, Bool.false_bne, Bool.bne_true, Bool.bne_false, Bool.true_beq, Bool.false_beq, Bool.not_true, Bool.not_false, Bool.not_not, Int.reduceBEq, Int.reduceBNe, Int.reduceLE, Int.reduceLT, Int.reduceEq, decide_true, decide_false, bne_self_eq_false, beq_self_eq_true, h4]; rfl)))
      | with_reducible first | refine spB_no (by decide) ?_
      | (with_reducible refine spB_dec ?_ ?_ <;> intro _ <;> (try (exfalso; first | contradiction | omega | (rename_i hz; refine hz ?_; simp; done) | (rename_i hz; simp at hz; done) | (simp only [LN] at *; omega))))
      | (with_reducible refine spB_beq ?_ ?_ <;> intro _ <;> (try (exfalso; first | contradiction | omega | (rename_i hz; refine hz ?_; simp; done) | (rename_i hz; simp at hz; done) | (simp only [LN] at *; omega))))
      | (with_reducible refine spB_bne ?_ ?_ <;> intro _ <;> (try (exfalso; first | contradiction | omega | (rename_i hz; refine hz ?_; simp; done) | (rename_i hz; simp at hz; done) | (simp only [LN] at *; omega))))
      | with_reducible first | refine Z.rowN_known hx ?_
      | ((with_reducible refine vN_mk ?_))
      | ((with_reducible apply ixN_litp); (focus (exact rfl)); (focus ((try simp only [LN] at *) <;> omega)))
      | with_reducible refine wr_i64 (by first | omega | (simp only [LN] at *; omega)) ?_
      | with_reducible refine nzN_mk (by omega) ?_
      | ((first | (with_reducible refine Z.callZ_mk ?_ (cl) ?_)); (focus ((repeat' (first | exact trivial | exact rfl | apply And.intro)); done)))
      | ((first | (with_reducible refine Z.conZ_mz ?_ (cf) ?_)); (focus ((repeat' (first | exact trivial | exact rfl | apply And.intro)); done)))
      | ((first | (with_reducible refine Z.conZ_mz ?_ (cf2) ?_)); (focus ((repeat' (first | exact trivial | exact rfl | apply And.intro)); done)))
      | with_reducible first | refine Z.drawZ_rule tabOk mixOk ?_ | refine Z.apZ_mk (by kernel_rfl) ?_)
    all_goals (try (conv => whnf))
    all_goals try (show Nat.ble _ _ = true; rfl)
    all_goals try (exfalso; rename_i hz; cases hz; done)
    all_goals try (exfalso; (try simp only [LN] at *) <;> omega)
    refine Z.loopK tabOk (fun zq : Nat => [(138, .val (.int .i64 (zq : Int)))]) (fun zq : Nat => ([] : Z.Kr)) (fun zq => zq ≤ 16) (fun zq => 16 - zq) 0 4 [(3, _), (6, _), (8, _), (21, _), (22, _), (23, _)] ⟨rfl, rfl, rfl, rfl, rfl, rfl, trivial⟩ [(0, some _), (1, some _), (2, some _), (3, some _)] ⟨rfl, rfl, rfl, rfl, trivial⟩ ?_ ?_ rfl rfl (Nat.zero_le _) ?_
    · repeat' (first | exact trivial | apply And.intro | exact ⟨_, rfl, Z.Imp.refl _⟩)
    · repeat' (first | exact trivial)
    rintro t HINV
    dsimp only at HINV ⊢
    by_cases ht : t < 16
    · have cw1 := where_con ws ps (t : Int) (by omega) (by omega)
      have cw2 := where_con ws LT (t : Int) (by omega) (by omega)
      rw [hk] at cw1
      rw [hkN] at cw2
      simp only [cond_true] at cw1 cw2
      have hg := HG (t : Int)
      by_cases h1 : idxT ps (t : Int) < ps.length
      all_goals by_cases h2 : idxT LT (t : Int) < LT.length
      all_goals cases hG : (false : Bool)
      all_goals try exact absurd h2 (GONE _ hG)
      all_goals try exact absurd (KEEP _ h1 hG).1 h2
      all_goals (
        rw [hG] at hg
        first | rw [decide_eq_true h1] at cw1 | rw [decide_eq_false h1] at cw1
        first | rw [decide_eq_true h2] at cw2 | rw [decide_eq_false h2] at cw2
        try rw [(KEEP _ h1 hG).2] at cw2
        repeat' ((conv => whnf); first
          | with_reducible first | refine spB_t ?_
          | ((with_reducible apply spB_cong); (focus (simp only [beq_self_eq_true, bne_self_eq_false, Bool.true_bne, Bool.false_bne, Bool.bne_true, Bool.bne_false, Bool.true_beq, Bool.false_beq, Bool.not_true, Bool.not_false, Bool.not_not, Int.reduceBEq, Int.reduceBNe, Int.reduceLE, Int.reduceLT, Int.reduceEq, decide_true, decide_false, bne_self_eq_false, beq_self_eq_true]; rfl)))
          | with_reducible first | refine spB_no (by decide) ?_
          | (with_reducible refine spB_dec ?_ ?_ <;> intro _ <;> (try (exfalso; first | contradiction | omega | (rename_i hz; refine hz ?_; simp; done) | (rename_i hz; simp at hz; done) | (simp only [LN] at *; omega))))
          | ((with_reducible refine look_is HM (hg) ?_ ?_); (focus rfl); (intro okk))
          | with_reducible refine wr_i64 (by first | omega | (simp only [LN] at *; omega)) ?_
          | ((first | (with_reducible refine Z.callZ_mk ?_ (cw1) ?_)); (focus ((repeat' (first | exact trivial | exact rfl | apply And.intro)); done)))
          | ((first | (with_reducible refine Z.callZ_mk ?_ (cw2) ?_)); (focus ((repeat' (first | exact trivial | exact rfl | apply And.intro)); done)))
          | with_reducible first | refine Z.drawZ_rule tabOk mixOk ?_ | refine Z.apZ_mk (by kernel_rfl) ?_)
        all_goals (try (conv => whnf)))
      all_goals try (show Nat.ble _ _ = true; rfl)
      all_goals first
        | ((refine Z.rndK ((t + 1)) (fun s => [0, 1, 2, 3]) rfl rfl rfl rfl ?_ ?_ ?_ ?_); (focus (repeat' (first | exact trivial | exact rfl | apply And.intro))); (focus (repeat' (first | exact trivial | exact Z.map_sub (Z.MapL.ren HM fun _ => rfl) rfl | (intro b hb; cases hb; rfl) | apply And.intro))); (focus (((try dsimp only); omega))); ((try dsimp only); omega))
    have ck := check_con ws LT (by omega) (by omega)
    rw [hkN] at ck
    simp only [cond_true] at ck
    repeat' ((conv => whnf); first
      | ((with_reducible apply spB_cong); (focus (simp only [beq_self_eq_true, bne_self_eq_false, Bool.true_bne, Bool.false_bne, Bool.bne_true, Bool.bne_false, Bool.true_beq, Bool.false_beq, Bool.not_true, Bool.not_false, Bool.not_not, Int.reduceBEq, Int.reduceBNe, Int.reduceLE, Int.reduceLT, Int.reduceEq, decide_true, decide_false, bne_self_eq_false, beq_self_eq_true]; rfl)))
      | with_reducible first | refine spB_no (by decide) ?_
      | (with_reducible refine spB_dec ?_ ?_ <;> intro _ <;> (try (exfalso; first | contradiction | omega | (rename_i hz; refine hz ?_; simp; done) | (rename_i hz; simp at hz; done) | (simp only [LN] at *; omega))))
      | with_reducible refine wr_i64 (by first | omega | (simp only [LN] at *; omega)) ?_
      | ((first | (with_reducible refine Z.callZ_mk ?_ (ck) ?_)); (focus ((repeat' (first | exact trivial | exact rfl | apply And.intro)); done))))
    all_goals (try (conv => whnf))
    all_goals try (show Nat.ble _ _ = true; rfl)
    all_goals first
      | ((refine Z.rndK ((i + 1, ws, LT)) (fun s => [0]) rfl rfl rfl rfl ?_ ?_ ?_ ?_); (focus (repeat' (first | exact trivial | exact rfl | apply And.intro))); (focus (repeat' (first | exact trivial | (intro b hb; cases hb; rfl) | apply And.intro))); (focus (exact ⟨by (try dsimp only); omega, hkN⟩)); ((try dsimp only); omega))
  · cases hc : takT ps ts with
    | none =>
      rw [takeT_no hk hc] at ct
      dsimp only at ct
      repeat' ((conv => whnf); first
        | with_reducible first | refine spB_t ?_
        | ((with_reducible apply spB_cong); (focus (simp only [beq_self_eq_true, bne_self_eq_false, Bool.true_bne, Bool.false_bne, Bool.bne_true, Bool.bne_false, Bool.true_beq, Bool.false_beq, Bool.not_true, Bool.not_false, Bool.not_not, Int.reduceBEq, Int.reduceBNe, Int.reduceLE, Int.reduceLT, Int.reduceEq, decide_true, decide_false, bne_self_eq_false, beq_self_eq_true, h4]; rfl)))
        | with_reducible first | refine spB_no (by decide) ?_
        | (with_reducible refine spB_dec ?_ ?_ <;> intro _ <;> (try (exfalso; first | contradiction | omega | (rename_i hz; refine hz ?_; simp; done) | (rename_i hz; simp at hz; done) | (simp only [LN] at *; omega))))
        | (with_reducible refine spB_beq ?_ ?_ <;> intro _ <;> (try (exfalso; first | contradiction | omega | (rename_i hz; refine hz ?_; simp; done) | (rename_i hz; simp at hz; done) | (simp only [LN] at *; omega))))
        | with_reducible first | refine Z.rowN_known hx ?_
        | ((with_reducible refine vN_mk ?_))
        | ((with_reducible apply ixN_litp); (focus (exact rfl)); (focus ((try simp only [LN] at *) <;> omega)))
        | with_reducible refine wr_i64 (by first | omega | (simp only [LN] at *; omega)) ?_
        | with_reducible refine nzN_mk (by omega) ?_
        | ((first | (with_reducible refine Z.callZ_mk ?_ (ct) ?_)); (focus ((repeat' (first | exact trivial | exact rfl | apply And.intro)); done))))
      all_goals (try (conv => whnf))
      all_goals try (show Nat.ble _ _ = true; rfl)
      all_goals try (exfalso; rename_i hz; cases hz; done)
      all_goals try (exfalso; (try simp only [LN] at *) <;> omega)
      refine Z.loopK tabOk (fun zq : Nat × Y.MS => [(129, .val (.int .i64 (zq.1 : Int)))]) (fun zq : Nat × Y.MS => ([(3, some (Z.Ob.m zq.2))] : Z.Kr)) (fun zq => zq.1 ≤ (ts).length ∧ ∃ L, Z.MapL .i64 enB zq.2 L ∧ ∀ y, (Z.lookK L y).getD false = decide (y ∈ (ts).take zq.1)) (fun zq => (ts).length - zq.1) (0, ⟨[], 0⟩) 4 [(3, _), (6, _), (7, _), (8, _), (21, _), (22, _), (23, _), (127, _), (128, _)] ⟨rfl, rfl, rfl, rfl, rfl, rfl, rfl, rfl, rfl, trivial⟩ [(0, some _), (1, some _), (2, some _)] ⟨rfl, rfl, rfl, trivial⟩ ?_ ?_ rfl rfl ⟨Nat.zero_le _, [], Z.MapL.nil, fun y => by simp [Z.lookK]⟩ ?_
      · repeat' (first | exact trivial | apply And.intro | exact ⟨_, rfl, Z.Imp.refl _⟩)
      · repeat' (first | exact trivial | exact (fun b hb => ⟨b, hb, Z.ImpO.refl b⟩) | apply And.intro)
      rintro ⟨j, es⟩ HINV
      dsimp only at HINV ⊢
      obtain ⟨HJ, L, HM, HG⟩ := HINV
      by_cases hj : j < (ts).length
      · obtain ⟨z, hz⟩ := getElem?_some' (xs := ts) (i := j) hj
        repeat' ((conv => whnf); first
          | (with_reducible refine spB_dec ?_ ?_ <;> intro _ <;> (try (exfalso; first | contradiction | omega | (rename_i hz; refine hz ?_; simp; done) | (rename_i hz; simp at hz; done) | (simp only [LN] at *; omega))))
          | with_reducible first | refine Z.rowN_known hz ?_
          | ((with_reducible refine Z.MapL.upd' HM (v := true) ?_ ?_); (focus rfl); (intro es3 HM))
          | ((with_reducible apply ixN_litp); (focus (exact rfl)); (focus ((try simp only [LN] at *) <;> omega)))
          | with_reducible refine wr_i64 (by first | omega | (simp only [LN] at *; omega)) ?_)
        all_goals (try (conv => whnf))
        all_goals try (show Nat.ble _ _ = true; rfl)
        all_goals first
          | ((refine Z.rndK ((j + 1, es3)) (fun s => [0, 1, 2, 3]) rfl rfl rfl rfl ?_ ?_ ?_ ?_); (focus (repeat' (first | exact trivial | exact rfl | apply And.intro))); (focus (repeat' (first | exact trivial | exact Z.map_sub (Z.MapL.ren HM fun _ => rfl) rfl | (intro b hb; cases hb; rfl) | apply And.intro))); (focus (exact ⟨by (try dsimp only); omega, _, HM, mark_step hz HG⟩)); ((try dsimp only); omega))
      rw [take_end hj] at HG
      repeat' ((conv => whnf); first
        | with_reducible first | refine spB_t ?_
        | ((with_reducible apply spB_cong); (focus (simp only [beq_self_eq_true, bne_self_eq_false, Bool.true_bne, Bool.false_bne, Bool.bne_true, Bool.bne_false, Bool.true_beq, Bool.false_beq, Bool.not_true, Bool.not_false, Bool.not_not, Int.reduceBEq, Int.reduceBNe, Int.reduceLE, Int.reduceLT, Int.reduceEq, decide_true, decide_false, bne_self_eq_false, beq_self_eq_true, h4]; rfl)))
        | (with_reducible refine spB_dec ?_ ?_ <;> intro _ <;> (try (exfalso; first | contradiction | omega | (rename_i hz; refine hz ?_; simp; done) | (rename_i hz; simp at hz; done) | (simp only [LN] at *; omega))))
        | with_reducible refine wr_i64 (by first | omega | (simp only [LN] at *; omega)) ?_)
      all_goals (try (conv => whnf))
      all_goals try (show Nat.ble _ _ = true; rfl)
      all_goals try (exfalso; rename_i hz; cases hz; done)
      all_goals try (exfalso; (try simp only [LN] at *) <;> omega)
      all_goals first
        | ((refine Z.rndK ((i + 1, ws, ps)) (fun s => [0]) rfl rfl rfl rfl ?_ ?_ ?_ ?_); (focus (repeat' (first | exact trivial | exact rfl | apply And.intro))); (focus (repeat' (first | exact trivial | (intro b hb; cases hb; rfl) | apply And.intro))); (focus (exact ⟨by (try dsimp only); omega, hk⟩)); ((try dsimp only); omega))
    | some B =>
      rw [takeT_yes hk hc] at ct
      dsimp only at ct
      have hB := takT_rest hk hc
      have hkN := rest_ok (ts := ts) hk
      have KEEP := rest_keep (ts := ts) hk
      have GONE := @rest_gone ps ts
      rw [← hB] at hkN KEEP GONE
      have hBl := okT_len (okF_all hkN).2.1
      repeat' ((conv => whnf); first
        | with_reducible first | refine spB_t ?_
        | ((with_reducible apply spB_cong); (focus (simp only [beq_self_eq_true, bne_self_eq_false, Bool.true_bne, Bool.false_bne, Bool.bne_true, Bool.bne_false, Bool.true_beq, Bool.false_beq, Bool.not_true, Bool.not_false, Bool.not_not, Int.reduceBEq, Int.reduceBNe, Int.reduceLE, Int.reduceLT, Int.reduceEq, decide_true, decide_false, bne_self_eq_false, beq_self_eq_true, h4]; rfl)))
        | with_reducible first | refine spB_no (by decide) ?_
        | (with_reducible refine spB_dec ?_ ?_ <;> intro _ <;> (try (exfalso; first | contradiction | omega | (rename_i hz; refine hz ?_; simp; done) | (rename_i hz; simp at hz; done) | (simp only [LN] at *; omega))))
        | (with_reducible refine spB_beq ?_ ?_ <;> intro _ <;> (try (exfalso; first | contradiction | omega | (rename_i hz; refine hz ?_; simp; done) | (rename_i hz; simp at hz; done) | (simp only [LN] at *; omega))))
        | with_reducible first | refine Z.rowN_known hx ?_
        | ((with_reducible refine vN_mk ?_))
        | ((with_reducible apply ixN_litp); (focus (exact rfl)); (focus ((try simp only [LN] at *) <;> omega)))
        | with_reducible refine wr_i64 (by first | omega | (simp only [LN] at *; omega)) ?_
        | with_reducible refine nzN_mk (by omega) ?_
        | ((first | (with_reducible refine Z.callZ_mk ?_ (ct) ?_)); (focus ((repeat' (first | exact trivial | exact rfl | apply And.intro)); done))))
      all_goals (try (conv => whnf))
      all_goals try (show Nat.ble _ _ = true; rfl)
      all_goals try (exfalso; rename_i hz; cases hz; done)
      all_goals try (exfalso; (try simp only [LN] at *) <;> omega)
      refine Z.loopK tabOk (fun zq : Nat × Y.MS => [(129, .val (.int .i64 (zq.1 : Int)))]) (fun zq : Nat × Y.MS => ([(3, some (Z.Ob.m zq.2))] : Z.Kr)) (fun zq => zq.1 ≤ (ts).length ∧ ∃ L, Z.MapL .i64 enB zq.2 L ∧ ∀ y, (Z.lookK L y).getD false = decide (y ∈ (ts).take zq.1)) (fun zq => (ts).length - zq.1) (0, ⟨[], 0⟩) 4 [(3, _), (6, _), (7, _), (8, _), (21, _), (22, _), (23, _), (127, _), (128, _)] ⟨rfl, rfl, rfl, rfl, rfl, rfl, rfl, rfl, rfl, trivial⟩ [(0, some _), (1, some _), (2, some _)] ⟨rfl, rfl, rfl, trivial⟩ ?_ ?_ rfl rfl ⟨Nat.zero_le _, [], Z.MapL.nil, fun y => by simp [Z.lookK]⟩ ?_
      · repeat' (first | exact trivial | apply And.intro | exact ⟨_, rfl, Z.Imp.refl _⟩)
      · repeat' (first | exact trivial | exact (fun b hb => ⟨b, hb, Z.ImpO.refl b⟩) | apply And.intro)
      rintro ⟨j, es⟩ HINV
      dsimp only at HINV ⊢
      obtain ⟨HJ, L, HM, HG⟩ := HINV
      by_cases hj : j < (ts).length
      · obtain ⟨z, hz⟩ := getElem?_some' (xs := ts) (i := j) hj
        repeat' ((conv => whnf); first
          | (with_reducible refine spB_dec ?_ ?_ <;> intro _ <;> (try (exfalso; first | contradiction | omega | (rename_i hz; refine hz ?_; simp; done) | (rename_i hz; simp at hz; done) | (simp only [LN] at *; omega))))
          | with_reducible first | refine Z.rowN_known hz ?_
          | ((with_reducible refine Z.MapL.upd' HM (v := true) ?_ ?_); (focus rfl); (intro es3 HM))
          | ((with_reducible apply ixN_litp); (focus (exact rfl)); (focus ((try simp only [LN] at *) <;> omega)))
          | with_reducible refine wr_i64 (by first | omega | (simp only [LN] at *; omega)) ?_)
        all_goals (try (conv => whnf))
        all_goals try (show Nat.ble _ _ = true; rfl)
        all_goals first
          | ((refine Z.rndK ((j + 1, es3)) (fun s => [0, 1, 2, 3]) rfl rfl rfl rfl ?_ ?_ ?_ ?_); (focus (repeat' (first | exact trivial | exact rfl | apply And.intro))); (focus (repeat' (first | exact trivial | exact Z.map_sub (Z.MapL.ren HM fun _ => rfl) rfl | (intro b hb; cases hb; rfl) | apply And.intro))); (focus (exact ⟨by (try dsimp only); omega, _, HM, mark_step hz HG⟩)); ((try dsimp only); omega))
      rw [take_end hj] at HG
      repeat' ((conv => whnf); first
        | ((with_reducible apply spB_cong); (focus (simp only [beq_self_eq_true, bne_self_eq_false, Bool.true_bne, Bool.false_bne, Bool.bne_true, Bool.bne_false, Bool.true_beq, Bool.false_beq, Bool.not_true, Bool.not_false, Bool.not_not, Int.reduceBEq, Int.reduceBNe, Int.reduceLE, Int.reduceLT, Int.reduceEq, decide_true, decide_false, bne_self_eq_false, beq_self_eq_true, h4]; rfl)))
        | with_reducible first | refine spB_no (by decide) ?_
        | (with_reducible refine spB_dec ?_ ?_ <;> intro _ <;> (try (exfalso; first | contradiction | omega | (rename_i hz; refine hz ?_; simp; done) | (rename_i hz; simp at hz; done) | (simp only [LN] at *; omega)))))
      all_goals (try (conv => whnf))
      all_goals try (show Nat.ble _ _ = true; rfl)
      all_goals try (exfalso; rename_i hz; cases hz; done)
      all_goals try (exfalso; (try simp only [LN] at *) <;> omega)
      refine Z.loopK tabOk (fun zq : Nat => [(138, .val (.int .i64 (zq : Int)))]) (fun zq : Nat => ([] : Z.Kr)) (fun zq => zq ≤ 16) (fun zq => 16 - zq) 0 4 [(3, _), (6, _), (8, _), (21, _), (22, _), (23, _)] ⟨rfl, rfl, rfl, rfl, rfl, rfl, trivial⟩ [(0, some _), (1, some _), (2, some _), (3, some _)] ⟨rfl, rfl, rfl, rfl, trivial⟩ ?_ ?_ rfl rfl (Nat.zero_le _) ?_
      · repeat' (first | exact trivial | apply And.intro | exact ⟨_, rfl, Z.Imp.refl _⟩)
      · repeat' (first | exact trivial)
      rintro t HINV
      dsimp only at HINV ⊢
      by_cases ht : t < 16
      · have cw1 := where_con ws ps (t : Int) (by omega) (by omega)
        have cw2 := where_con ws B (t : Int) (by omega) (by omega)
        rw [hk] at cw1
        rw [hkN] at cw2
        simp only [cond_true] at cw1 cw2
        have hg := HG (t : Int)
        by_cases h1 : idxT ps (t : Int) < ps.length
        all_goals by_cases h2 : idxT B (t : Int) < B.length
        all_goals cases hG : decide ((t : Int) ∈ ts)
        all_goals try exact absurd h2 (GONE _ hG)
        all_goals try exact absurd (KEEP _ h1 hG).1 h2
        all_goals (
          rw [hG] at hg
          first | rw [decide_eq_true h1] at cw1 | rw [decide_eq_false h1] at cw1
          first | rw [decide_eq_true h2] at cw2 | rw [decide_eq_false h2] at cw2
          try rw [(KEEP _ h1 hG).2] at cw2
          repeat' ((conv => whnf); first
            | with_reducible first | refine spB_t ?_
            | ((with_reducible apply spB_cong); (focus (simp only [beq_self_eq_true, bne_self_eq_false, Bool.true_bne, Bool.false_bne, Bool.bne_true, Bool.bne_false, Bool.true_beq, Bool.false_beq, Bool.not_true, Bool.not_false, Bool.not_not, Int.reduceBEq, Int.reduceBNe, Int.reduceLE, Int.reduceLT, Int.reduceEq, decide_true, decide_false, bne_self_eq_false, beq_self_eq_true]; rfl)))
            | with_reducible first | refine spB_no (by decide) ?_
            | (with_reducible refine spB_dec ?_ ?_ <;> intro _ <;> (try (exfalso; first | contradiction | omega | (rename_i hz; refine hz ?_; simp; done) | (rename_i hz; simp at hz; done) | (simp only [LN] at *; omega))))
            | ((with_reducible refine look_is HM (hg) ?_ ?_); (focus rfl); (intro okk))
            | with_reducible refine wr_i64 (by first | omega | (simp only [LN] at *; omega)) ?_
            | ((first | (with_reducible refine Z.callZ_mk ?_ (cw1) ?_)); (focus ((repeat' (first | exact trivial | exact rfl | apply And.intro)); done)))
            | ((first | (with_reducible refine Z.callZ_mk ?_ (cw2) ?_)); (focus ((repeat' (first | exact trivial | exact rfl | apply And.intro)); done))))
          all_goals (try (conv => whnf)))
        all_goals try (show Nat.ble _ _ = true; rfl)
        all_goals first
          | ((refine Z.rndK ((t + 1)) (fun s => [0, 1, 2, 3]) rfl rfl rfl rfl ?_ ?_ ?_ ?_); (focus (repeat' (first | exact trivial | exact rfl | apply And.intro))); (focus (repeat' (first | exact trivial | exact Z.map_sub (Z.MapL.ren HM fun _ => rfl) rfl | (intro b hb; cases hb; rfl) | apply And.intro))); (focus (((try dsimp only); omega))); ((try dsimp only); omega))
      have ck := check_con ws B (by omega) (by omega)
      rw [hkN] at ck
      simp only [cond_true] at ck
      repeat' ((conv => whnf); first
        | ((with_reducible apply spB_cong); (focus (simp only [beq_self_eq_true, bne_self_eq_false, Bool.true_bne, Bool.false_bne, Bool.bne_true, Bool.bne_false, Bool.true_beq, Bool.false_beq, Bool.not_true, Bool.not_false, Bool.not_not, Int.reduceBEq, Int.reduceBNe, Int.reduceLE, Int.reduceLT, Int.reduceEq, decide_true, decide_false, bne_self_eq_false, beq_self_eq_true]; rfl)))
        | with_reducible first | refine spB_no (by decide) ?_
        | (with_reducible refine spB_dec ?_ ?_ <;> intro _ <;> (try (exfalso; first | contradiction | omega | (rename_i hz; refine hz ?_; simp; done) | (rename_i hz; simp at hz; done) | (simp only [LN] at *; omega))))
        | with_reducible refine wr_i64 (by first | omega | (simp only [LN] at *; omega)) ?_
        | ((first | (with_reducible refine Z.callZ_mk ?_ (ck) ?_)); (focus ((repeat' (first | exact trivial | exact rfl | apply And.intro)); done))))
      all_goals (try (conv => whnf))
      all_goals try (show Nat.ble _ _ = true; rfl)
      all_goals first
        | ((refine Z.rndK ((i + 1, ws, B)) (fun s => [0]) rfl rfl rfl rfl ?_ ?_ ?_ ?_); (focus (repeat' (first | exact trivial | exact rfl | apply And.intro))); (focus (repeat' (first | exact trivial | (intro b hb; cases hb; rfl) | apply And.intro))); (focus (exact ⟨by (try dsimp only); omega, hkN⟩)); ((try dsimp only); omega))

end Go.Proofs.Ytllnmdmmmkoiaaa
namespace Go.Proofs.Ytllnmdmmmkoiaaa
open Go Go.RowKit Wx
set_option linter.unusedVariables false
set_option linter.unusedSimpArgs false
set_option maxHeartbeats 4000000
def okDd (x : Dd) : Prop := x.ts.length ≤ maxLen
theorem rowNi64 (row : List RT) (h : RowF (.int .i64) row) : ∃ z, row = eI z ∧ (Lit.int .i64 z).wf = true := by
  obtain ⟨z, rfl, w⟩ := h
  exact ⟨z, rfl, w⟩
theorem rowDd (row : List RT) (h : RowF (.st (.cons 3 1 (.int .i64) (.cons 27 2 (.st (.cons 3 1 (.int .i64) (.cons 3 1 (.int .i64) .nil))) (.cons 34 1 (.sl (.int .i64) 3 1) .nil)))) row) : ∃ x, row = eD x ∧ okDd x := by
  obtain ⟨a0, r0, rfl, _, ⟨z0, rfl, w0⟩, a1, r1, rfl, _, ⟨b0, s0, rfl, _, ⟨y0, rfl, v0⟩, b1, s1, rfl, _, ⟨y1, rfl, v1⟩, rfl⟩, a2, r2, rfl, _, ⟨rows2, rfl, l2, h2⟩, rfl⟩ := h
  obtain ⟨z2, rfl, k2⟩ := rows_map eI (fun z => (Lit.int .i64 z).wf = true) rowNi64 rows2 h2
  exact ⟨⟨z0, y0, y1, z2⟩, rfl, by unfold okDd; simpa using l2⟩
namespace slotsKeep
theorem main (avs : List A0) (h : All2 FitA [(.sl (.st (.cons 3 1 (.int .i64) (.cons 27 2 (.st (.cons 3 1 (.int .i64) (.cons 3 1 (.int .i64) .nil))) (.cons 34 1 (.sl (.int .i64) 3 1) .nil)))) 52 4)] avs) : Con Try.prog 6 avs (fun x K t => x = .val (.bool true) ∧ K = [] ∧ t = 0) := by
  obtain ⟨x0, rfl, h0⟩ : ∃ x0, avs = [x0] ∧ FitA (.sl (.st (.cons 3 1 (.int .i64) (.cons 27 2 (.st (.cons 3 1 (.int .i64) (.cons 3 1 (.int .i64) .nil))) (.cons 34 1 (.sl (.int .i64) 3 1) .nil)))) 52 4) x0 := by
    cases avs with
    | nil => exact h.elim
    | cons x0 r => cases r with
      | nil => exact ⟨x0, rfl, h.1⟩
      | cons => exact h.2.elim
  clear h
  obtain ⟨r0, ⟨rows0, hr0, ll, hrows0⟩, rfl⟩ := h0
  simp only [List.cons.injEq, and_true] at hr0
  subst hr0
  obtain ⟨l, rfl, kl⟩ := rows_map eD (okDd) rowDd rows0 hrows0
  rw [List.length_map] at ll
  exact slotskeep_con l (by have := ll; simpa [maxLen] using this) (fun x hx => by have := kl x hx; unfold okDd at this; simpa [maxLen] using this)
end slotsKeep
end Go.Proofs.Ytllnmdmmmkoiaaa
