import Derived.Test.YtllnmdmmmkoiaaaSa0
namespace Go.Proofs.Ytllnmdmmmkoiaaa
open Go Go.RowKit Wx
set_option linter.unusedVariables false
set_option linter.unusedSimpArgs false
set_option maxHeartbeats 4000000
def atL (ps : List Pl) (y : Int) : List Int := (ps.filter fun p => decide (p.wk = y)).map (·.task)
def whF : List Pl → Int → Int
  | [], _ => 0
  | p :: l, t => if p.task = t then p.wk else whF l t
def hasT (ps : List Pl) (t : Int) : Bool := ps.any fun p => decide (p.task = t)
def idxT (ps : List Pl) (t : Int) : Nat := ps.findIdx fun p => decide (p.task = t)
theorem atL_yes {ps : List Pl} {i : Nat} {x : Pl} {y : Int} (h : ps[i]? = some x) (hd : x.wk = y) : atL (ps.take (i + 1)) y = atL (ps.take i) y ++ [x.task] := by
  rw [take_snoc h]; unfold atL; rw [List.filter_append, List.map_append]; simp [hd]
theorem atL_no {ps : List Pl} {i : Nat} {x : Pl} {y : Int} (h : ps[i]? = some x) (hd : ¬ x.wk = y) : atL (ps.take (i + 1)) y = atL (ps.take i) y := by
  rw [take_snoc h]; unfold atL; rw [List.filter_append, List.map_append]; simp [hd]
theorem atL_le {ps : List Pl} {y : Int} : (atL ps y).length ≤ ps.length := by unfold atL; rw [List.length_map]; exact List.length_filter_le _ _
theorem atL_cnt {y : Int} : ∀ {ps : List Pl}, ((atL ps y).length : Int) = cnt ps y
  | [] => rfl
  | p :: l => by
    have := atL_cnt (y := y) (ps := l)
    unfold atL at this ⊢
    simp only [cnt, List.length_map] at this ⊢
    rw [List.filter_cons]
    by_cases h : p.wk = y
    · simp only [h, decide_true, if_true, List.length_cons]; omega
    · simp only [h, decide_false, Bool.false_eq_true, if_false]; omega
theorem sumW_snoc {ws : List Wk} {i : Nat} {w : Wk} (h : ws[i]? = some w) : sumW (ws.take (i + 1)) = sumW (ws.take i) + w.sl := by
  rw [take_snoc h]; unfold sumW; rw [List.map_append, List.sum_append]; simp
/-- What the document asks of the workers, and of the places, from a place on. -/
def rgW (ps : List Pl) : Int → List Wk → Bool
  | _, [] => true
  | a, w :: l => decide ((1 ≤ w.id ∧ w.id ≤ 4) ∧ (1 ≤ w.sl ∧ w.sl ≤ 8) ∧ a < w.id) && (decide (cnt ps w.id ≤ w.sl) && rgW ps w.id l)
def rgP (ws : List Wk) : Int → List Pl → Bool
  | _, [] => true
  | a, p :: l => decide ((0 ≤ p.task ∧ p.task < 16) ∧ a < p.task) && (decide (slF ws p.wk ≠ 0) && rgP ws p.task l)
theorem rgW_eq {ps : List Pl} : ∀ {l : List Wk} {a : Int}, rgW ps a l = (okW a l && l.all fun w => decide (cnt ps w.id ≤ w.sl))
  | [], _ => rfl
  | w :: l, a => by
    simp only [rgW, okW, List.all_cons, rgW_eq (l := l)]
    cases decide ((1 ≤ w.id ∧ w.id ≤ 4) ∧ (1 ≤ w.sl ∧ w.sl ≤ 8) ∧ a < w.id) <;> cases decide (cnt ps w.id ≤ w.sl) <;> cases okW w.id l <;> simp
theorem rgP_eq {ws : List Wk} : ∀ {l : List Pl} {a : Int}, rgP ws a l = (okT a l && l.all fun p => decide (slF ws p.wk ≠ 0))
  | [], _ => rfl
  | p :: l, a => by
    simp only [rgP, okT, List.all_cons, rgP_eq (l := l)]
    cases decide ((0 ≤ p.task ∧ p.task < 16) ∧ a < p.task) <;> cases decide (slF ws p.wk ≠ 0) <;> cases okT p.task l <;> simp
theorem slF_of : ∀ {ws : List Wk} {w : Wk}, wsrt ws → w ∈ ws → slF ws w.id = w.sl
  | [], _, _, h => by cases h
  | v :: l, w, hs, h => by
    unfold wsrt at hs; rw [List.pairwise_cons] at hs
    unfold slF
    rcases List.mem_cons.1 h with rfl | h
    · rw [if_pos rfl]
    · have := hs.1 w h
      rw [if_neg (by omega)]; exact slF_of hs.2 h
theorem slF_ne {y : Int} : ∀ {ws : List Wk}, slF ws y ≠ 0 → ∃ w ∈ ws, w.id = y
  | [], h => absurd rfl h
  | v :: l, h => by
    unfold slF at h
    by_cases e : v.id = y
    · exact ⟨v, by simp, e⟩
    · rw [if_neg e] at h
      obtain ⟨w, hw, e2⟩ := slF_ne h
      exact ⟨w, List.mem_cons_of_mem _ hw, e2⟩
theorem cnt_mem {p : Pl} : ∀ {ps : List Pl}, p ∈ ps → 1 ≤ cnt ps p.wk
  | [], h => by cases h
  | q :: l, h => by
    unfold cnt
    have h0 := (cnt_nn (ps := l) (y := p.wk)).1
    rcases List.mem_cons.1 h with rfl | h
    · rw [if_pos rfl]; omega
    · have := cnt_mem h
      split <;> omega
/-- The document's floors are the program's. -/
theorem right_eq {ws : List Wk} {ps : List Pl} : (rgW ps 0 ws && rgP ws (-1) ps) = okF ws ps := by
  rw [rgW_eq, rgP_eq]; unfold okF
  cases hw : okW 0 ws with
  | false => rfl
  | true =>
    cases hp : okT (-1) ps with
    | false => simp
    | true =>
      simp only [Bool.true_and]
      rw [Bool.eq_iff_iff, okC_iff hw, Bool.and_eq_true, List.all_eq_true, List.all_eq_true]
      have hs := (okW_all.1 hw).1
      have hsl := (okW_all.1 hw).2
      constructor
      · rintro ⟨h1, h2⟩ y
        by_cases h3 : 0 < cnt ps y
        · obtain ⟨p, hp1, hp2⟩ := List.mem_map.1 (cnt_pos h3)
          have h4 := h2 p hp1
          rw [hp2] at h4
          obtain ⟨w, hw1, hw2⟩ := slF_ne (of_decide_eq_true h4)
          have h5 := of_decide_eq_true (h1 w hw1)
          rw [← hw2, slF_of hs hw1]; exact h5
        · have := (slF_nn hw y); omega
      · intro h
        refine ⟨fun w hw1 => decide_eq_true ?_, fun p hp1 => decide_eq_true ?_⟩
        · have := h w.id; rw [slF_of hs hw1] at this; exact this
        · have h1 := h p.wk
          have h2 := cnt_mem hp1
          omega
theorem okF_all {ws : List Wk} {ps : List Pl} (h : okF ws ps = true) : okW 0 ws = true ∧ okT (-1) ps = true ∧ okC ws ps = true := by
  unfold okF at h; simp only [Bool.and_eq_true] at h; exact ⟨h.1.1, h.1.2, h.2⟩
theorem whF_get {t : Int} : ∀ {ps : List Pl} {i : Nat} {p : Pl}, idxT ps t = i → ps[i]? = some p → whF ps t = p.wk
  | [], i, p, _, h => by simp at h
  | q :: l, i, p, hi, h => by
    unfold idxT at hi; rw [List.findIdx_cons] at hi
    unfold whF
    by_cases e : q.task = t
    · rw [decide_eq_true e] at hi
      simp at hi; subst hi
      simp at h; subst h
      rw [if_pos e]
    · rw [decide_eq_false e] at hi
      simp only [cond_false] at hi
      subst hi
      rw [if_neg e]
      exact whF_get rfl (by unfold idxT; simpa using h)
theorem whF_none {t : Int} : ∀ {ps : List Pl}, ¬ idxT ps t < ps.length → whF ps t = 0
  | [], _ => rfl
  | q :: l, h => by
    unfold idxT at h; rw [List.findIdx_cons] at h
    unfold whF
    by_cases e : q.task = t
    · rw [decide_eq_true e] at h; simp at h
    · rw [decide_eq_false e] at h
      simp only [cond_false, List.length_cons] at h
      rw [if_neg e]; exact whF_none (by unfold idxT; omega)
theorem idxT_eq {t : Int} : ∀ {ps : List Pl} {i : Nat}, (∀ k x, k < i → ps[k]? = some x → ¬ x.task = t) → (∀ x, ps[i]? = some x → x.task = t) → i ≤ ps.length → idxT ps t = i
  | [], i, _, _, h => by simp at h; subst h; rfl
  | q :: l, 0, _, h, _ => by
    unfold idxT; rw [List.findIdx_cons, decide_eq_true (h q rfl)]; rfl
  | q :: l, i + 1, h1, h2, h3 => by
    unfold idxT; rw [List.findIdx_cons, decide_eq_false (h1 0 q (by omega) rfl)]
    have := idxT_eq (t := t) (ps := l) (i := i) (fun k x hk hx => h1 (k + 1) x (by omega) (by simpa using hx)) (fun x hx => h2 x (by simpa using hx)) (by simpa using h3)
    unfold idxT at this; rw [this]; rfl
theorem sumK_cons {z : Int × Int} {r : List (Int × Int)} : sumK (z :: r) = z.2 + sumK r := by unfold sumK; rw [List.map_cons, List.sum_cons]
theorem sumK_nn : ∀ {r : List (Int × Int)}, (∀ z ∈ r, 0 ≤ z.2) → 0 ≤ sumK r
  | [], _ => Int.le_refl 0
  | z :: r, h => by
    rw [sumK_cons]
    have := h z (by simp)
    have := sumK_nn (r := r) fun y hy => h y (by simp [hy])
    omega
theorem sumW_nn : ∀ {ws : List Wk}, (∀ w ∈ ws, 1 ≤ w.sl ∧ w.sl ≤ 8) → 0 ≤ sumW ws ∧ sumW ws ≤ 8 * (ws.length : Int)
  | [], _ => ⟨Int.le_refl 0, by simp [sumW]⟩
  | w :: l, h => by
    have h1 := h w (by simp)
    have h2 := sumW_nn (ws := l) fun y hy => h y (by simp [hy])
    unfold sumW at h2 ⊢
    rw [List.map_cons, List.sum_cons, List.length_cons]; omega
theorem sumW_le {ws : List Wk} (h : okW 0 ws = true) : 0 ≤ sumW ws ∧ sumW ws ≤ 32 := by
  have h1 := sumW_nn (ws := ws) fun w hw => by have := (okW_all.1 h).2 w hw; omega
  have h2 := okW_len h
  omega
theorem free_bnd {ws : List Wk} {ps : List Pl} {L : List (Int × Int)} (hw : okW 0 ws = true) (hn : (L.map (·.1)).Nodup) (hL : ∀ y, (Z.lookK L y).getD 0 = slF ws y - cnt ps y) (hc : ∀ y, cnt ps y ≤ slF ws y) : ∀ z ∈ L, 0 ≤ z.2 ∧ z.2 ≤ 8 := fun z hz => by
  have h1 := (Z.look_mem hn).2 (show (z.1, z.2) ∈ L from hz)
  have h2 := hL z.1
  rw [h1] at h2
  simp only [Option.getD_some] at h2
  have h3 := hc z.1
  have h4 := (okW_sl hw z.1)
  have h5 := (cnt_nn (ps := ps) (y := z.1)).1
  omega
theorem whF_pos {ws : List Wk} {ps : List Pl} (h : okF ws ps = true) (t : Int) : decide (idxT ps t < ps.length) = decide (0 < whF ps t) := by
  by_cases hi : idxT ps t < ps.length
  · obtain ⟨x, hx⟩ := getElem?_some' (xs := ps) (i := idxT ps t) hi
    rw [whF_get rfl hx, decide_eq_true hi]
    obtain ⟨h1, h2, h3⟩ := okF_all h
    have h4 := (okC_iff h1).1 h3 x.wk
    have h5 := cnt_mem (List.mem_of_getElem? hx)
    obtain ⟨w, hw, e⟩ := slF_ne (show slF ws x.wk ≠ 0 by omega)
    have := (okW_all.1 h1).2 w hw
    exact (decide_eq_true (by omega)).symm
  · rw [whF_none hi, decide_eq_false hi]; rfl
theorem wk_ext {x y : Wk} (h : (x.id == y.id && (x.sl == y.sl && true)) = true) : x = y := by
  simp only [Bool.and_eq_true, beq_iff_eq, and_true] at h
  cases x; cases y; simp_all
theorem pl_ext {x y : Pl} (h : (x.task == y.task && (x.wk == y.wk && true)) = true) : x = y := by
  simp only [Bool.and_eq_true, beq_iff_eq, and_true] at h
  cases x; cases y; simp_all
theorem rworker_con (a b : Int)  : Con Try.prog 38 [.agg [.v (.int .i64 a), .v (.int .i64 b)]] (fun rx rK rt => rx = .val (.bool (decide ((1 ≤ a ∧ a ≤ 4) ∧ (1 ≤ b ∧ b ≤ 8)))) ∧ rK = [] ∧ rt = 0) := by
  refine Z.con_ofF tabOk 21 Try.f38 _ Try.func38 (by kernel_rfl) rfl rfl rfl rfl ?_
  repeat' ((conv => whnf); first
    | with_reducible first | refine spB_t ?_
    | with_reducible first | refine spB_yes (by decide) ?_ | refine spB_no (by decide) ?_ | refine spB_f ?_ | refine spB_not ?_ | refine spB_yes (by assumption) ?_ | refine spB_no (by assumption) ?_
    | (with_reducible refine spB_dec ?_ ?_ <;> intro _ <;> (try (exfalso; first | contradiction | omega | (rename_i hz; refine hz ?_; simp; done) | (simp only [LN] at *; omega))))
    | ((with_reducible apply ex_and); exact rfl))
  all_goals (try (conv => whnf))
  all_goals try (show Nat.ble _ _ = true; rfl)
  all_goals first
    | ((first | (with_reducible apply Z.retF1) | (with_reducible apply Z.retF2) | (with_reducible apply Z.retF0)); (focus (exact rfl)); (repeat' (first | exact trivial | (with_reducible apply Z.frz_one) | (with_reducible apply Z.frz_agg) | (with_reducible apply Z.fq_int) | (with_reducible apply Z.fq_bool) | (exact Z.frz_nil) | (exact Z.frz_osl0 rfl rfl rfl) | (with_reducible apply Z.fq_nil) | (with_reducible apply Z.fq_ro) | ((with_reducible apply Z.fq_gsl); (focus (first | rfl | exact Z.isB_map _ | exact Z.gB_snoc.symm)); (focus (exact fun _ => rfl))) | ((with_reducible apply Z.fq_osl); (focus (exact rfl)); (focus (first | exact rfl | (simp only [List.length_map, Nat.zero_add]; done) | ((try simp only [LN] at *) <;> omega))); (focus (exact fun _ => rfl))) | ((with_reducible apply Z.fq_src); (focus (exact rfl)); (focus (first | exact rfl | (simp only [List.length_map, Nat.zero_add]; done) | ((try simp only [LN] at *) <;> omega))); (focus (exact fun _ => rfl))) | exact rfl | ((apply Z.fq_osl); (focus (exact rfl)); (focus (first | exact rfl | (simp only [List.length_map, Nat.zero_add]; done) | ((try simp only [LN] at *) <;> omega))); (focus (exact fun _ => rfl))) | ((apply Z.fq_src); (focus (exact rfl)); (focus (first | exact rfl | (simp only [List.length_map, Nat.zero_add]; done) | ((try simp only [LN] at *) <;> omega))); (focus (exact fun _ => rfl))) | (apply Z.fq_ro) | (apply Z.fq_int) | (apply Z.fq_bool) | apply And.intro)); (all_goals (try exact (fun _ => none))); all_goals (first | rfl | (exact (decide_eq_true (by omega)).symm) | (exact (decide_eq_false (by omega)).symm) | (exact decide_eq_decide.2 (by omega)) | (refine decide_eq_decide.2 ?_; omega) | (simp; omega)))
    | (exfalso; rename_i hz; cases hz; done)
    | (exfalso; (try simp only [LN] at *) <;> omega)
    | (fail)

theorem rslots_con (ws : List Wk) (ps : List Pl) (id : Int) (hw : ws.length ≤ 1000) (hp : ps.length ≤ 1000) : Con Try.prog 39 [.agg [.ro false 2 ((ws).map eW), .ro false 2 ((ps).map eL)], .one (.v (.int .i64 id))] (fun rx rK rt => rx = .val (.int .i64 (slF ws id)) ∧ rK = [] ∧ rt = 0) := by
  refine Z.con_ofF tabOk 27 Try.f39 _ Try.func39 (by kernel_rfl) rfl rfl rfl rfl ?_
  repeat' ((conv => whnf); first
    | ((with_reducible apply ex_and); exact rfl))
  all_goals (try (conv => whnf))
  all_goals try (show Nat.ble _ _ = true; rfl)
  refine Z.loopK tabOk (fun zq : Nat => [(5, .val (.int .i64 (zq : Int)))]) (fun zq : Nat => ([] : Z.Kr)) (fun zq => zq ≤ ws.length ∧ slF ws id = slF (ws.drop zq) id) (fun zq => ws.length - zq) 0 1 [(1, _), (2, _)] ⟨rfl, rfl, trivial⟩ [(0, some _)] ⟨rfl, trivial⟩ ?_ ?_ rfl rfl ⟨Nat.zero_le _, rfl⟩ ?_
  · repeat' (first | exact trivial | apply And.intro | exact ⟨_, rfl, rfl⟩ | exact ⟨_, rfl, Z.Imp.refl _⟩ | exact ⟨_, rfl, Z.Imp.nilg _⟩ | exact ⟨_, rfl, Z.Imp.nilr _ _⟩)
  · repeat' (first | exact trivial | (intro b hb; cases hb; done) | exact (fun b hb => ⟨b, hb, Z.ImpO.refl b⟩) | (intro b hb; cases hb; refine ⟨_, rfl, ⟨rfl, rfl, rfl⟩, ?_⟩; (repeat' (first | exact trivial | apply And.intro | exact Z.Imp.refl _ | exact Z.Imp.nilg _ | exact Z.Imp.nilr _ _)); done) | apply And.intro)
  rintro i HINV
  dsimp only at HINV ⊢
  obtain ⟨HI, HO⟩ := HINV
  by_cases hi : i < ws.length
  · obtain ⟨x, hx⟩ := getElem?_some' (xs := ws) (i := i) hi
    rw [drop_cons hx] at HO
    simp only [slF] at HO
    repeat' ((conv => whnf); first
      | (with_reducible refine spB_dec ?_ ?_ <;> intro _ <;> (try (exfalso; first | contradiction | omega | (rename_i hz; refine hz ?_; simp; done) | (simp only [LN] at *; omega))))
      | (with_reducible refine spB_beq ?_ ?_ <;> intro _ <;> (try (exfalso; first | contradiction | omega | (rename_i hz; refine hz ?_; simp; done) | (simp only [LN] at *; omega))))
      | with_reducible first | refine Z.rowN_known hx ?_
      | ((with_reducible apply ixN_litp); (focus (exact rfl)); (focus ((try simp only [LN] at *) <;> omega)))
      | with_reducible refine wr_i64 (by first | omega | (simp only [LN] at *; omega)) ?_
      | ((with_reducible apply ex_and); exact rfl))
    all_goals (try (conv => whnf))
    all_goals try (show Nat.ble _ _ = true; rfl)
    all_goals first
      | ((refine Z.rndK ((i + 1)) (fun s => [0]) rfl rfl rfl rfl ?_ ?_ ?_ ?_); (focus (repeat' (first | exact trivial | exact Z.map_sub (Z.MapL.ren HM0 fun _ => rfl) rfl | exact Z.it_sub rfl | exact rfl | (rw [List.map_append]; exact rfl) | apply And.intro))); (focus (repeat' (first | exact trivial | exact Z.map_sub (Z.MapL.ren HM0 fun _ => rfl) rfl | exact Z.it_sub rfl | (intro b hb; cases hb; rfl) | (intro b hb; cases hb; subst hlb; rfl) | (intro b hb; cases hb; rw [List.map_append]; rfl) | (intro b hb; cases hb; done) | exact Z.blk_sub rfl rfl (ren_map fun _ => rfl) | exact Z.blk_sub rfl rfl (Z.ren_app (ren_map fun _ => rfl) (ren_map fun _ => rfl)) | exact Z.blk_sub rfl (by first | (rw [List.map_append]; rfl) | (rw [List.map_set]; rfl) | simp only [List.map_append, List.map_cons, List.map_nil, List.map_set]) (ren_map fun _ => rfl) | exact Z.gB_sub rfl rfl (ren_map fun _ => rfl) | exact Z.gB_sub' rfl (by first | rfl | (rw [List.map_append]; rfl) | simp only [List.map_append, List.map_cons, List.map_nil]) (ren_map fun _ => rfl) | apply And.intro))); (focus (refine ⟨by (try dsimp only); omega, ?_⟩; (try dsimp only); rw [HO, if_neg (by assumption)])); ((try dsimp only); omega))
      | ((first | (with_reducible apply Z.retF1) | (with_reducible apply Z.retF2) | (with_reducible apply Z.retF0)); (focus (exact rfl)); (repeat' (first | exact trivial | (with_reducible apply Z.frz_one) | (with_reducible apply Z.frz_agg) | (with_reducible apply Z.fq_int) | (with_reducible apply Z.fq_bool) | (exact Z.frz_nil) | (exact Z.frz_osl0 rfl rfl rfl) | (with_reducible apply Z.fq_nil) | (with_reducible apply Z.fq_ro) | ((with_reducible apply Z.fq_gsl); (focus (first | rfl | exact Z.isB_map _ | exact Z.gB_snoc.symm)); (focus (exact fun _ => rfl))) | ((with_reducible apply Z.fq_osl); (focus (exact rfl)); (focus (first | exact rfl | (simp only [List.length_map, Nat.zero_add]; done) | ((try simp only [LN] at *) <;> omega))); (focus (exact fun _ => rfl))) | ((with_reducible apply Z.fq_src); (focus (exact rfl)); (focus (first | exact rfl | (simp only [List.length_map, Nat.zero_add]; done) | ((try simp only [LN] at *) <;> omega))); (focus (exact fun _ => rfl))) | exact rfl | ((apply Z.fq_osl); (focus (exact rfl)); (focus (first | exact rfl | (simp only [List.length_map, Nat.zero_add]; done) | ((try simp only [LN] at *) <;> omega))); (focus (exact fun _ => rfl))) | ((apply Z.fq_src); (focus (exact rfl)); (focus (first | exact rfl | (simp only [List.length_map, Nat.zero_add]; done) | ((try simp only [LN] at *) <;> omega))); (focus (exact fun _ => rfl))) | (apply Z.fq_ro) | (apply Z.fq_int) | (apply Z.fq_bool) | apply And.intro)); (all_goals (try exact (fun _ => none))); all_goals ((rw [HO, if_pos (by assumption)])))
      | (exfalso; rename_i hz; cases hz; done)
      | (exfalso; (try simp only [LN] at *) <;> omega)
      | (fail)
  rw [drop_end hi] at HO
  repeat' ((conv => whnf); first
    | (with_reducible refine spB_dec ?_ ?_ <;> intro _ <;> (try (exfalso; first | contradiction | omega | (rename_i hz; refine hz ?_; simp; done) | (simp only [LN] at *; omega))))
    | ((with_reducible apply ex_and); exact rfl))
  all_goals (try (conv => whnf))
  all_goals try (show Nat.ble _ _ = true; rfl)
  all_goals first
    | ((first | (with_reducible apply Z.retF1) | (with_reducible apply Z.retF2) | (with_reducible apply Z.retF0)); (focus (exact rfl)); (repeat' (first | exact trivial | (with_reducible apply Z.frz_one) | (with_reducible apply Z.frz_agg) | (with_reducible apply Z.fq_int) | (with_reducible apply Z.fq_bool) | (exact Z.frz_nil) | (exact Z.frz_osl0 rfl rfl rfl) | (with_reducible apply Z.fq_nil) | (with_reducible apply Z.fq_ro) | ((with_reducible apply Z.fq_gsl); (focus (first | rfl | exact Z.isB_map _ | exact Z.gB_snoc.symm)); (focus (exact fun _ => rfl))) | ((with_reducible apply Z.fq_osl); (focus (exact rfl)); (focus (first | exact rfl | (simp only [List.length_map, Nat.zero_add]; done) | ((try simp only [LN] at *) <;> omega))); (focus (exact fun _ => rfl))) | ((with_reducible apply Z.fq_src); (focus (exact rfl)); (focus (first | exact rfl | (simp only [List.length_map, Nat.zero_add]; done) | ((try simp only [LN] at *) <;> omega))); (focus (exact fun _ => rfl))) | exact rfl | ((apply Z.fq_osl); (focus (exact rfl)); (focus (first | exact rfl | (simp only [List.length_map, Nat.zero_add]; done) | ((try simp only [LN] at *) <;> omega))); (focus (exact fun _ => rfl))) | ((apply Z.fq_src); (focus (exact rfl)); (focus (first | exact rfl | (simp only [List.length_map, Nat.zero_add]; done) | ((try simp only [LN] at *) <;> omega))); (focus (exact fun _ => rfl))) | (apply Z.fq_ro) | (apply Z.fq_int) | (apply Z.fq_bool) | apply And.intro)); (all_goals (try exact (fun _ => none))); all_goals (first | (rw [HO]; rfl) | rfl))
    | (exfalso; rename_i hz; cases hz; done)
    | (exfalso; (try simp only [LN] at *) <;> omega)
    | (fail)

theorem rwhere_con (ws : List Wk) (ps : List Pl) (id : Int) (hw : ws.length ≤ 1000) (hp : ps.length ≤ 1000) : Con Try.prog 28 [.agg [.ro false 2 ((ws).map eW), .ro false 2 ((ps).map eL)], .one (.v (.int .i64 id))] (fun rx rK rt => rx = .val (.int .i64 (whF ps id)) ∧ rK = [] ∧ rt = 0) := by
  refine Z.con_ofF tabOk 27 Try.f28 _ Try.func28 (by kernel_rfl) rfl rfl rfl rfl ?_
  repeat' ((conv => whnf); first
    | ((with_reducible apply ex_and); exact rfl))
  all_goals (try (conv => whnf))
  all_goals try (show Nat.ble _ _ = true; rfl)
  refine Z.loopK tabOk (fun zq : Nat => [(5, .val (.int .i64 (zq : Int)))]) (fun zq : Nat => ([] : Z.Kr)) (fun zq => zq ≤ ps.length ∧ whF ps id = whF (ps.drop zq) id) (fun zq => ps.length - zq) 0 1 [(1, _), (2, _)] ⟨rfl, rfl, trivial⟩ [(0, some _)] ⟨rfl, trivial⟩ ?_ ?_ rfl rfl ⟨Nat.zero_le _, rfl⟩ ?_
  · repeat' (first | exact trivial | apply And.intro | exact ⟨_, rfl, rfl⟩ | exact ⟨_, rfl, Z.Imp.refl _⟩ | exact ⟨_, rfl, Z.Imp.nilg _⟩ | exact ⟨_, rfl, Z.Imp.nilr _ _⟩)
  · repeat' (first | exact trivial | (intro b hb; cases hb; done) | exact (fun b hb => ⟨b, hb, Z.ImpO.refl b⟩) | (intro b hb; cases hb; refine ⟨_, rfl, ⟨rfl, rfl, rfl⟩, ?_⟩; (repeat' (first | exact trivial | apply And.intro | exact Z.Imp.refl _ | exact Z.Imp.nilg _ | exact Z.Imp.nilr _ _)); done) | apply And.intro)
  rintro i HINV
  dsimp only at HINV ⊢
  obtain ⟨HI, HO⟩ := HINV
  by_cases hi : i < ps.length
  · obtain ⟨x, hx⟩ := getElem?_some' (xs := ps) (i := i) hi
    rw [drop_cons hx] at HO
    simp only [whF] at HO
    repeat' ((conv => whnf); first
      | (with_reducible refine spB_dec ?_ ?_ <;> intro _ <;> (try (exfalso; first | contradiction | omega | (rename_i hz; refine hz ?_; simp; done) | (simp only [LN] at *; omega))))
      | (with_reducible refine spB_beq ?_ ?_ <;> intro _ <;> (try (exfalso; first | contradiction | omega | (rename_i hz; refine hz ?_; simp; done) | (simp only [LN] at *; omega))))
      | with_reducible first | refine Z.rowN_known hx ?_
      | ((with_reducible apply ixN_litp); (focus (exact rfl)); (focus ((try simp only [LN] at *) <;> omega)))
      | with_reducible refine wr_i64 (by first | omega | (simp only [LN] at *; omega)) ?_
      | ((with_reducible apply ex_and); exact rfl))
    all_goals (try (conv => whnf))
    all_goals try (show Nat.ble _ _ = true; rfl)
    all_goals first
      | ((refine Z.rndK ((i + 1)) (fun s => [0]) rfl rfl rfl rfl ?_ ?_ ?_ ?_); (focus (repeat' (first | exact trivial | exact Z.map_sub (Z.MapL.ren HM0 fun _ => rfl) rfl | exact Z.it_sub rfl | exact rfl | (rw [List.map_append]; exact rfl) | apply And.intro))); (focus (repeat' (first | exact trivial | exact Z.map_sub (Z.MapL.ren HM0 fun _ => rfl) rfl | exact Z.it_sub rfl | (intro b hb; cases hb; rfl) | (intro b hb; cases hb; subst hlb; rfl) | (intro b hb; cases hb; rw [List.map_append]; rfl) | (intro b hb; cases hb; done) | exact Z.blk_sub rfl rfl (ren_map fun _ => rfl) | exact Z.blk_sub rfl rfl (Z.ren_app (ren_map fun _ => rfl) (ren_map fun _ => rfl)) | exact Z.blk_sub rfl (by first | (rw [List.map_append]; rfl) | (rw [List.map_set]; rfl) | simp only [List.map_append, List.map_cons, List.map_nil, List.map_set]) (ren_map fun _ => rfl) | exact Z.gB_sub rfl rfl (ren_map fun _ => rfl) | exact Z.gB_sub' rfl (by first | rfl | (rw [List.map_append]; rfl) | simp only [List.map_append, List.map_cons, List.map_nil]) (ren_map fun _ => rfl) | apply And.intro))); (focus (refine ⟨by (try dsimp only); omega, ?_⟩; (try dsimp only); rw [HO, if_neg (by assumption)])); ((try dsimp only); omega))
      | ((first | (with_reducible apply Z.retF1) | (with_reducible apply Z.retF2) | (with_reducible apply Z.retF0)); (focus (exact rfl)); (repeat' (first | exact trivial | (with_reducible apply Z.frz_one) | (with_reducible apply Z.frz_agg) | (with_reducible apply Z.fq_int) | (with_reducible apply Z.fq_bool) | (exact Z.frz_nil) | (exact Z.frz_osl0 rfl rfl rfl) | (with_reducible apply Z.fq_nil) | (with_reducible apply Z.fq_ro) | ((with_reducible apply Z.fq_gsl); (focus (first | rfl | exact Z.isB_map _ | exact Z.gB_snoc.symm)); (focus (exact fun _ => rfl))) | ((with_reducible apply Z.fq_osl); (focus (exact rfl)); (focus (first | exact rfl | (simp only [List.length_map, Nat.zero_add]; done) | ((try simp only [LN] at *) <;> omega))); (focus (exact fun _ => rfl))) | ((with_reducible apply Z.fq_src); (focus (exact rfl)); (focus (first | exact rfl | (simp only [List.length_map, Nat.zero_add]; done) | ((try simp only [LN] at *) <;> omega))); (focus (exact fun _ => rfl))) | exact rfl | ((apply Z.fq_osl); (focus (exact rfl)); (focus (first | exact rfl | (simp only [List.length_map, Nat.zero_add]; done) | ((try simp only [LN] at *) <;> omega))); (focus (exact fun _ => rfl))) | ((apply Z.fq_src); (focus (exact rfl)); (focus (first | exact rfl | (simp only [List.length_map, Nat.zero_add]; done) | ((try simp only [LN] at *) <;> omega))); (focus (exact fun _ => rfl))) | (apply Z.fq_ro) | (apply Z.fq_int) | (apply Z.fq_bool) | apply And.intro)); (all_goals (try exact (fun _ => none))); all_goals ((rw [HO, if_pos (by assumption)])))
      | (exfalso; rename_i hz; cases hz; done)
      | (exfalso; (try simp only [LN] at *) <;> omega)
      | (fail)
  rw [drop_end hi] at HO
  repeat' ((conv => whnf); first
    | (with_reducible refine spB_dec ?_ ?_ <;> intro _ <;> (try (exfalso; first | contradiction | omega | (rename_i hz; refine hz ?_; simp; done) | (simp only [LN] at *; omega))))
    | ((with_reducible apply ex_and); exact rfl))
  all_goals (try (conv => whnf))
  all_goals try (show Nat.ble _ _ = true; rfl)
  all_goals first
    | ((first | (with_reducible apply Z.retF1) | (with_reducible apply Z.retF2) | (with_reducible apply Z.retF0)); (focus (exact rfl)); (repeat' (first | exact trivial | (with_reducible apply Z.frz_one) | (with_reducible apply Z.frz_agg) | (with_reducible apply Z.fq_int) | (with_reducible apply Z.fq_bool) | (exact Z.frz_nil) | (exact Z.frz_osl0 rfl rfl rfl) | (with_reducible apply Z.fq_nil) | (with_reducible apply Z.fq_ro) | ((with_reducible apply Z.fq_gsl); (focus (first | rfl | exact Z.isB_map _ | exact Z.gB_snoc.symm)); (focus (exact fun _ => rfl))) | ((with_reducible apply Z.fq_osl); (focus (exact rfl)); (focus (first | exact rfl | (simp only [List.length_map, Nat.zero_add]; done) | ((try simp only [LN] at *) <;> omega))); (focus (exact fun _ => rfl))) | ((with_reducible apply Z.fq_src); (focus (exact rfl)); (focus (first | exact rfl | (simp only [List.length_map, Nat.zero_add]; done) | ((try simp only [LN] at *) <;> omega))); (focus (exact fun _ => rfl))) | exact rfl | ((apply Z.fq_osl); (focus (exact rfl)); (focus (first | exact rfl | (simp only [List.length_map, Nat.zero_add]; done) | ((try simp only [LN] at *) <;> omega))); (focus (exact fun _ => rfl))) | ((apply Z.fq_src); (focus (exact rfl)); (focus (first | exact rfl | (simp only [List.length_map, Nat.zero_add]; done) | ((try simp only [LN] at *) <;> omega))); (focus (exact fun _ => rfl))) | (apply Z.fq_ro) | (apply Z.fq_int) | (apply Z.fq_bool) | apply And.intro)); (all_goals (try exact (fun _ => none))); all_goals (first | (rw [HO]; rfl) | rfl))
    | (exfalso; rename_i hz; cases hz; done)
    | (exfalso; (try simp only [LN] at *) <;> omega)
    | (fail)

theorem rat_con (ws : List Wk) (ps : List Pl) (id : Int) (hw : ws.length ≤ 1000) (hp : ps.length ≤ 1000) : Con Try.prog 29 [.agg [.ro false 2 ((ws).map eW), .ro false 2 ((ps).map eL)], .one (.v (.int .i64 id))] (fun rx rK rt => rx = .c (.ro true 1 ((atL ps id).map eI)) ∧ rK = [] ∧ rt = 0) := by
  refine Z.con_ofF tabOk 32 Try.f29 _ Try.func29 (by kernel_rfl) rfl rfl rfl rfl ?_
  repeat' ((conv => whnf); first
    | ((with_reducible apply ex_and); exact rfl))
  all_goals (try (conv => whnf))
  all_goals try (show Nat.ble _ _ = true; rfl)
  refine Z.loopK tabOk (fun zq : Nat × List Int => [(6, .val (.int .i64 (zq.1 : Int))), (5, .c (.gsl 1 (zq.2.map cI)))]) (fun zq : Nat × List Int => ([(1, (gB 1 3 (zq.2.map cI)).map Z.Ob.b)] : Z.Kr)) (fun zq => zq.1 ≤ ps.length ∧ zq.2 = atL (ps.take zq.1) id) (fun zq => ps.length - zq.1) (0, []) 2 [(1, _), (2, _)] ⟨rfl, rfl, trivial⟩ [(0, some _)] ⟨rfl, trivial⟩ ?_ ?_ rfl rfl ⟨Nat.zero_le _, rfl⟩ ?_
  · repeat' (first | exact trivial | apply And.intro | exact ⟨_, rfl, rfl⟩ | exact ⟨_, rfl, Z.Imp.refl _⟩ | exact ⟨_, rfl, Z.Imp.nilg _⟩ | exact ⟨_, rfl, Z.Imp.nilr _ _⟩)
  · repeat' (first | exact trivial | (intro b hb; cases hb; done) | exact (fun b hb => ⟨b, hb, Z.ImpO.refl b⟩) | (intro b hb; cases hb; refine ⟨_, rfl, ⟨rfl, rfl, rfl⟩, ?_⟩; (repeat' (first | exact trivial | apply And.intro | exact Z.Imp.refl _ | exact Z.Imp.nilg _ | exact Z.Imp.nilr _ _)); done) | apply And.intro)
  rintro ⟨i, acc⟩ HINV
  dsimp only at HINV ⊢
  obtain ⟨HI, HA⟩ := HINV
  have hal : acc.length ≤ i := by rw [HA]; exact Nat.le_trans atL_le (by rw [List.length_take]; omega)
  by_cases hi : i < ps.length
  · obtain ⟨x, hx⟩ := getElem?_some' (xs := ps) (i := i) hi
    repeat' ((conv => whnf); first
      | (with_reducible refine spB_dec ?_ ?_ <;> intro _ <;> (try (exfalso; first | contradiction | omega | (rename_i hz; refine hz ?_; simp; done) | (simp only [LN] at *; omega))))
      | (with_reducible refine spB_beq ?_ ?_ <;> intro _ <;> (try (exfalso; first | contradiction | omega | (rename_i hz; refine hz ?_; simp; done) | (simp only [LN] at *; omega))))
      | with_reducible first | refine Z.rowN_known hx ?_
      | ((with_reducible refine posE_pos ?_ ?_); (focus ((try simp only [LN] at *) <;> omega)))
      | ((with_reducible apply ixN_litp); (focus (exact rfl)); (focus ((try simp only [LN] at *) <;> omega)))
      | ((with_reducible refine apdN.mk ?_ ?_ ?_ ?_ ?_ ?_); (focus (first | rfl | (simp; done))); (focus (first | exact one_all (by rfl) | exact one_map (fun _ => rfl) | exact one_map2 (fun _ => rfl))); (focus ((try simp only [LN] at *) <;> omega)); (focus ((try simp only [LN] at *) <;> omega)); (focus ((try simp only [LN] at *) <;> omega)))
      | with_reducible refine wr_i64 (by first | omega | (simp only [LN] at *; omega)) ?_
      | ((with_reducible refine eqN_mk2 ?_ ?_); (focus (exact Z.kb_some rfl)))
      | ((with_reducible apply ex_and); exact rfl))
    all_goals (try (conv => whnf))
    all_goals try (show Nat.ble _ _ = true; rfl)
    all_goals first
      | ((refine Z.rndK ((i + 1, acc ++ [x.task])) (fun s => [0, s.idAt 5]) rfl rfl rfl rfl ?_ ?_ ?_ ?_); (focus (repeat' (first | exact trivial | exact Z.map_sub (Z.MapL.ren HM0 fun _ => rfl) rfl | exact Z.it_sub rfl | exact rfl | (rw [List.map_append (f := cI)]; exact rfl) | (rw [List.map_append (f := cI), List.map_append (f := cI)]; exact rfl) | (rw [List.map_append]; exact rfl) | apply And.intro))); (focus (repeat' (first | exact trivial | exact Z.map_sub (Z.MapL.ren HM0 fun _ => rfl) rfl | exact Z.it_sub rfl | ((refine Z.gB_sub' rfl ?_ (ren_map fun _ => rfl)); (rw [List.map_append (f := cI), List.map_append (f := cI)]; exact rfl)) | (intro b hb; cases hb; rfl) | (intro b hb; cases hb; subst hlb; rfl) | (intro b hb; cases hb; rw [List.map_append (f := cI)]; rfl) | (intro b hb; cases hb; rw [List.map_append]; rfl) | (intro b hb; cases hb; done) | exact Z.blk_sub rfl rfl (ren_map fun _ => rfl) | exact Z.blk_sub rfl rfl (Z.ren_app (ren_map fun _ => rfl) (ren_map fun _ => rfl)) | exact Z.blk_sub rfl (by first | (rw [List.map_append]; rfl) | (rw [List.map_set]; rfl) | simp only [List.map_append, List.map_cons, List.map_nil, List.map_set]) (ren_map fun _ => rfl) | exact Z.gB_sub rfl rfl (ren_map fun _ => rfl) | exact Z.gB_sub' rfl (by first | rfl | (rw [List.map_append]; rfl) | simp only [List.map_append, List.map_cons, List.map_nil]) (ren_map fun _ => rfl) | apply And.intro))); (focus (exact ⟨by (try dsimp only); omega, by (try dsimp only); rw [HA, atL_yes hx (by assumption)]⟩)); ((try dsimp only); omega))
      | ((refine Z.rndK ((i + 1, acc)) (fun s => [0, s.idAt 5]) rfl rfl rfl rfl ?_ ?_ ?_ ?_); (focus (repeat' (first | exact trivial | exact Z.map_sub (Z.MapL.ren HM0 fun _ => rfl) rfl | exact Z.it_sub rfl | exact rfl | (rw [List.map_append]; exact rfl) | apply And.intro))); (focus (repeat' (first | exact trivial | exact Z.map_sub (Z.MapL.ren HM0 fun _ => rfl) rfl | exact Z.it_sub rfl | (intro b hb; cases hb; rfl) | (intro b hb; cases hb; subst hlb; rfl) | (intro b hb; cases hb; rw [List.map_append]; rfl) | (intro b hb; cases hb; done) | exact Z.blk_sub rfl rfl (ren_map fun _ => rfl) | exact Z.blk_sub rfl rfl (Z.ren_app (ren_map fun _ => rfl) (ren_map fun _ => rfl)) | exact Z.blk_sub rfl (by first | (rw [List.map_append]; rfl) | (rw [List.map_set]; rfl) | simp only [List.map_append, List.map_cons, List.map_nil, List.map_set]) (ren_map fun _ => rfl) | exact Z.gB_sub rfl rfl (ren_map fun _ => rfl) | exact Z.gB_sub' rfl (by first | rfl | (rw [List.map_append]; rfl) | simp only [List.map_append, List.map_cons, List.map_nil]) (ren_map fun _ => rfl) | apply And.intro))); (focus (exact ⟨by (try dsimp only); omega, by (try dsimp only); rw [HA, atL_no hx (by assumption)]⟩)); ((try dsimp only); omega))
      | (exfalso; rename_i hz; cases hz; done)
      | (exfalso; (try simp only [LN] at *) <;> omega)
      | (fail)
  rw [take_end hi] at HA
  subst HA
  repeat' ((conv => whnf); first
    | (with_reducible refine spB_dec ?_ ?_ <;> intro _ <;> (try (exfalso; first | contradiction | omega | (rename_i hz; refine hz ?_; simp; done) | (simp only [LN] at *; omega))))
    | ((with_reducible apply ex_and); exact rfl))
  all_goals (try (conv => whnf))
  all_goals try (show Nat.ble _ _ = true; rfl)
  all_goals first
    | ((first | (with_reducible apply Z.retF1) | (with_reducible apply Z.retF2) | (with_reducible apply Z.retF0)); (focus (exact rfl)); (repeat' (first | exact trivial | (with_reducible apply Z.frz_one) | (with_reducible apply Z.frz_agg) | (with_reducible apply Z.fq_int) | (with_reducible apply Z.fq_bool) | (exact Z.frz_nil) | (exact Z.frz_osl0 rfl rfl rfl) | (with_reducible apply Z.fq_nil) | (with_reducible apply Z.fq_ro) | ((with_reducible apply Z.fq_gsl); (focus (first | rfl | exact Z.isB_map _ | exact Z.gB_snoc.symm)); (focus (exact fun _ => rfl))) | ((with_reducible apply Z.fq_osl); (focus (exact rfl)); (focus (first | exact rfl | (simp only [List.length_map, Nat.zero_add]; done) | ((try simp only [LN] at *) <;> omega))); (focus (exact fun _ => rfl))) | ((with_reducible apply Z.fq_src); (focus (exact rfl)); (focus (first | exact rfl | (simp only [List.length_map, Nat.zero_add]; done) | ((try simp only [LN] at *) <;> omega))); (focus (exact fun _ => rfl))) | exact rfl | ((apply Z.fq_osl); (focus (exact rfl)); (focus (first | exact rfl | (simp only [List.length_map, Nat.zero_add]; done) | ((try simp only [LN] at *) <;> omega))); (focus (exact fun _ => rfl))) | ((apply Z.fq_src); (focus (exact rfl)); (focus (first | exact rfl | (simp only [List.length_map, Nat.zero_add]; done) | ((try simp only [LN] at *) <;> omega))); (focus (exact fun _ => rfl))) | (apply Z.fq_ro) | (apply Z.fq_int) | (apply Z.fq_bool) | apply And.intro)); (all_goals (try exact (fun _ => none))); all_goals (rfl))
    | (exfalso; rename_i hz; cases hz; done)
    | (exfalso; (try simp only [LN] at *) <;> omega)
    | (fail)

theorem tasks_con (ws : List Wk) (ps : List Pl) (id : Int) (hw : ws.length ≤ 1000) (hp : ps.length ≤ 1000) : Con Try.prog 44 [.agg [.ro false 2 ((ws).map eW), .ro false 2 ((ps).map eL)], .one (.v (.int .i64 id))] (fun rx rK rt => rx = .c (.ro true 1 ((atL ps id).map eI)) ∧ rK = [] ∧ rt = 0) := by
  refine Z.con_ofF tabOk 25 Try.f44 _ Try.func44 (by kernel_rfl) rfl rfl rfl rfl ?_
  repeat' ((conv => whnf); first
    | ((with_reducible apply ex_and); exact rfl))
  all_goals (try (conv => whnf))
  all_goals try (show Nat.ble _ _ = true; rfl)
  refine Z.loopK tabOk (fun zq : Nat × List Int => [(10, .val (.int .i64 (zq.1 : Int))), (4, .c (.gsl 1 (zq.2.map cI)))]) (fun zq : Nat × List Int => ([(1, (gB 1 3 (zq.2.map cI)).map Z.Ob.b)] : Z.Kr)) (fun zq => zq.1 ≤ ps.length ∧ zq.2 = atL (ps.take zq.1) id) (fun zq => ps.length - zq.1) (0, []) 2 [(1, _), (8, _), (9, _)] ⟨rfl, rfl, rfl, trivial⟩ [(0, some _)] ⟨rfl, trivial⟩ ?_ ?_ rfl rfl ⟨Nat.zero_le _, rfl⟩ ?_
  · repeat' (first | exact trivial | apply And.intro | exact ⟨_, rfl, rfl⟩ | exact ⟨_, rfl, Z.Imp.refl _⟩ | exact ⟨_, rfl, Z.Imp.nilg _⟩ | exact ⟨_, rfl, Z.Imp.nilr _ _⟩)
  · repeat' (first | exact trivial | (intro b hb; cases hb; done) | exact (fun b hb => ⟨b, hb, Z.ImpO.refl b⟩) | (intro b hb; cases hb; refine ⟨_, rfl, ⟨rfl, rfl, rfl⟩, ?_⟩; (repeat' (first | exact trivial | apply And.intro | exact Z.Imp.refl _ | exact Z.Imp.nilg _ | exact Z.Imp.nilr _ _)); done) | apply And.intro)
  rintro ⟨i, acc⟩ HINV
  dsimp only at HINV ⊢
  obtain ⟨HI, HA⟩ := HINV
  have hal : acc.length ≤ i := by rw [HA]; exact Nat.le_trans atL_le (by rw [List.length_take]; omega)
  by_cases hi : i < ps.length
  · obtain ⟨x, hx⟩ := getElem?_some' (xs := ps) (i := i) hi
    repeat' ((conv => whnf); first
      | (with_reducible refine spB_dec ?_ ?_ <;> intro _ <;> (try (exfalso; first | contradiction | omega | (rename_i hz; refine hz ?_; simp; done) | (simp only [LN] at *; omega))))
      | (with_reducible refine spB_beq ?_ ?_ <;> intro _ <;> (try (exfalso; first | contradiction | omega | (rename_i hz; refine hz ?_; simp; done) | (simp only [LN] at *; omega))))
      | with_reducible first | refine Z.rowN_known hx ?_
      | ((with_reducible refine posE_pos ?_ ?_); (focus ((try simp only [LN] at *) <;> omega)))
      | ((with_reducible apply ixN_litp); (focus (exact rfl)); (focus ((try simp only [LN] at *) <;> omega)))
      | ((with_reducible refine apdN.mk ?_ ?_ ?_ ?_ ?_ ?_); (focus (first | rfl | (simp; done))); (focus (first | exact one_all (by rfl) | exact one_map (fun _ => rfl) | exact one_map2 (fun _ => rfl))); (focus ((try simp only [LN] at *) <;> omega)); (focus ((try simp only [LN] at *) <;> omega)); (focus ((try simp only [LN] at *) <;> omega)))
      | with_reducible refine wr_i64 (by first | omega | (simp only [LN] at *; omega)) ?_
      | ((with_reducible refine eqN_mk2 ?_ ?_); (focus (exact Z.kb_some rfl)))
      | ((with_reducible apply ex_and); exact rfl))
    all_goals (try (conv => whnf))
    all_goals try (show Nat.ble _ _ = true; rfl)
    all_goals first
      | ((refine Z.rndK ((i + 1, acc ++ [x.task])) (fun s => [0, s.idAt 4]) rfl rfl rfl rfl ?_ ?_ ?_ ?_); (focus (repeat' (first | exact trivial | exact Z.map_sub (Z.MapL.ren HM0 fun _ => rfl) rfl | exact Z.it_sub rfl | exact rfl | (rw [List.map_append (f := cI)]; exact rfl) | (rw [List.map_append (f := cI), List.map_append (f := cI)]; exact rfl) | (rw [List.map_append]; exact rfl) | apply And.intro))); (focus (repeat' (first | exact trivial | exact Z.map_sub (Z.MapL.ren HM0 fun _ => rfl) rfl | exact Z.it_sub rfl | ((refine Z.gB_sub' rfl ?_ (ren_map fun _ => rfl)); (rw [List.map_append (f := cI), List.map_append (f := cI)]; exact rfl)) | (intro b hb; cases hb; rfl) | (intro b hb; cases hb; subst hlb; rfl) | (intro b hb; cases hb; rw [List.map_append (f := cI)]; rfl) | (intro b hb; cases hb; rw [List.map_append]; rfl) | (intro b hb; cases hb; done) | exact Z.blk_sub rfl rfl (ren_map fun _ => rfl) | exact Z.blk_sub rfl rfl (Z.ren_app (ren_map fun _ => rfl) (ren_map fun _ => rfl)) | exact Z.blk_sub rfl (by first | (rw [List.map_append]; rfl) | (rw [List.map_set]; rfl) | simp only [List.map_append, List.map_cons, List.map_nil, List.map_set]) (ren_map fun _ => rfl) | exact Z.gB_sub rfl rfl (ren_map fun _ => rfl) | exact Z.gB_sub' rfl (by first | rfl | (rw [List.map_append]; rfl) | simp only [List.map_append, List.map_cons, List.map_nil]) (ren_map fun _ => rfl) | apply And.intro))); (focus (exact ⟨by (try dsimp only); omega, by (try dsimp only); rw [HA, atL_yes hx (by assumption)]⟩)); ((try dsimp only); omega))
      | ((refine Z.rndK ((i + 1, acc)) (fun s => [0, s.idAt 4]) rfl rfl rfl rfl ?_ ?_ ?_ ?_); (focus (repeat' (first | exact trivial | exact Z.map_sub (Z.MapL.ren HM0 fun _ => rfl) rfl | exact Z.it_sub rfl | exact rfl | (rw [List.map_append]; exact rfl) | apply And.intro))); (focus (repeat' (first | exact trivial | exact Z.map_sub (Z.MapL.ren HM0 fun _ => rfl) rfl | exact Z.it_sub rfl | (intro b hb; cases hb; rfl) | (intro b hb; cases hb; subst hlb; rfl) | (intro b hb; cases hb; rw [List.map_append]; rfl) | (intro b hb; cases hb; done) | exact Z.blk_sub rfl rfl (ren_map fun _ => rfl) | exact Z.blk_sub rfl rfl (Z.ren_app (ren_map fun _ => rfl) (ren_map fun _ => rfl)) | exact Z.blk_sub rfl (by first | (rw [List.map_append]; rfl) | (rw [List.map_set]; rfl) | simp only [List.map_append, List.map_cons, List.map_nil, List.map_set]) (ren_map fun _ => rfl) | exact Z.gB_sub rfl rfl (ren_map fun _ => rfl) | exact Z.gB_sub' rfl (by first | rfl | (rw [List.map_append]; rfl) | simp only [List.map_append, List.map_cons, List.map_nil]) (ren_map fun _ => rfl) | apply And.intro))); (focus (exact ⟨by (try dsimp only); omega, by (try dsimp only); rw [HA, atL_no hx (by assumption)]⟩)); ((try dsimp only); omega))
      | (exfalso; rename_i hz; cases hz; done)
      | (exfalso; (try simp only [LN] at *) <;> omega)
      | (fail)
  rw [take_end hi] at HA
  subst HA
  repeat' ((conv => whnf); first
    | (with_reducible refine spB_dec ?_ ?_ <;> intro _ <;> (try (exfalso; first | contradiction | omega | (rename_i hz; refine hz ?_; simp; done) | (simp only [LN] at *; omega))))
    | ((with_reducible apply ex_and); exact rfl))
  all_goals (try (conv => whnf))
  all_goals try (show Nat.ble _ _ = true; rfl)
  all_goals first
    | ((first | (with_reducible apply Z.retF1) | (with_reducible apply Z.retF2) | (with_reducible apply Z.retF0)); (focus (exact rfl)); (repeat' (first | exact trivial | (with_reducible apply Z.frz_one) | (with_reducible apply Z.frz_agg) | (with_reducible apply Z.fq_int) | (with_reducible apply Z.fq_bool) | (exact Z.frz_nil) | (exact Z.frz_osl0 rfl rfl rfl) | (with_reducible apply Z.fq_nil) | (with_reducible apply Z.fq_ro) | ((with_reducible apply Z.fq_gsl); (focus (first | rfl | exact Z.isB_map _ | exact Z.gB_snoc.symm)); (focus (exact fun _ => rfl))) | ((with_reducible apply Z.fq_osl); (focus (exact rfl)); (focus (first | exact rfl | (simp only [List.length_map, Nat.zero_add]; done) | ((try simp only [LN] at *) <;> omega))); (focus (exact fun _ => rfl))) | ((with_reducible apply Z.fq_src); (focus (exact rfl)); (focus (first | exact rfl | (simp only [List.length_map, Nat.zero_add]; done) | ((try simp only [LN] at *) <;> omega))); (focus (exact fun _ => rfl))) | exact rfl | ((apply Z.fq_osl); (focus (exact rfl)); (focus (first | exact rfl | (simp only [List.length_map, Nat.zero_add]; done) | ((try simp only [LN] at *) <;> omega))); (focus (exact fun _ => rfl))) | ((apply Z.fq_src); (focus (exact rfl)); (focus (first | exact rfl | (simp only [List.length_map, Nat.zero_add]; done) | ((try simp only [LN] at *) <;> omega))); (focus (exact fun _ => rfl))) | (apply Z.fq_ro) | (apply Z.fq_int) | (apply Z.fq_bool) | apply And.intro)); (all_goals (try exact (fun _ => none))); all_goals (rfl))
    | (exfalso; rename_i hz; cases hz; done)
    | (exfalso; (try simp only [LN] at *) <;> omega)
    | (fail)

end Go.Proofs.Ytllnmdmmmkoiaaa
