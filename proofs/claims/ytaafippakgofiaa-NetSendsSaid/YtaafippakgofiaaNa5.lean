import Derived.Test.YtaafippakgofiaaNa4
namespace Go.Proofs.Ytaafippakgofiaa
open Go Go.RowKit Wx
set_option linter.unusedVariables false
set_option linter.unusedSimpArgs false
set_option maxHeartbeats 4000000
def srch (t : Int) (ps : List Pc) : Nat := ps.findIdx (fun p => decide (t ≤ p.num))
def srt (ps : List Pc) : Prop := ∀ (i j : Nat) (x y : Pc), i < j → ps[i]? = some x → ps[j]? = some y → x.num < y.num
theorem srch_eq {t : Int} : ∀ {ps : List Pc} {i : Nat}, i ≤ ps.length → (∀ (k : Nat) (x : Pc), k < i → ps[k]? = some x → x.num < t) → (∀ x, ps[i]? = some x → t ≤ x.num) → srch t ps = i
  | [], i, h, _, _ => by have : i = 0 := by simpa using h
                         subst this; rfl
  | p :: ps, 0, _, _, h2 => by
    have := h2 p rfl
    simp [srch, List.findIdx_cons, this]
  | p :: ps, i + 1, h, h1, h2 => by
    have hp := h1 0 p (Nat.zero_lt_succ _) rfl
    have := srch_eq (t := t) (ps := ps) (i := i) (by simpa using h) (fun k x hk hx => h1 (k + 1) x (Nat.succ_lt_succ hk) (by simpa using hx)) (fun x hx => h2 x (by simpa using hx))
    unfold srch at this ⊢
    rw [List.findIdx_cons, decide_eq_false (by omega), this]; rfl
theorem okL_gt {sent : Int} : ∀ {ps : List Pc} {last : Int}, okL sent last ps = true → ∀ (j : Nat) (y : Pc), ps[j]? = some y → last < y.num
  | [], _, _, j, y, h => by simp at h
  | p :: ps, last, h, j, y, hy => by
    simp only [okL, okP, Bool.and_eq_true, decide_eq_true_eq] at h
    rcases j with _ | j
    · simp at hy; subst hy; exact h.1.1
    · have := okL_gt h.2 j y (by simpa using hy); omega
theorem okL_srt {sent : Int} : ∀ {ps : List Pc} {last : Int}, okL sent last ps = true → srt ps
  | [], _, _ => fun i j x y _ h => by simp at h
  | p :: ps, last, h => fun i j x y hij hx hy => by
    simp only [okL, Bool.and_eq_true] at h
    rcases i with _ | i
    · simp at hx; subst hx
      rcases j with _ | j
      · omega
      · exact okL_gt h.2 j y (by simpa using hy)
    · rcases j with _ | j
      · omega
      · exact okL_srt h.2 i j x y (by omega) (by simpa using hx) (by simpa using hy)
theorem okN_srt {sent : Int} {ps : List Pc} (h : okN sent ps = true) : srt ps := by
  unfold okN at h; simp only [Bool.and_eq_true] at h; exact okL_srt h.2
theorem srch_lo {ps : List Pc} {t : Int} {h : Nat} {x : Pc} (hs : srt ps) (hx : ps[h]? = some x) (hlt : x.num < t) : ∀ (k : Nat) (y : Pc), k < h + 1 → ps[k]? = some y → y.num < t := fun k y hk hy => by
  rcases Nat.lt_or_ge k h with h2 | h2
  · have := hs k _ y x h2 hy hx; omega
  · have h3 : k = h := by omega
    subst h3; rw [hx] at hy; cases hy; exact hlt
theorem srch_hi {ps : List Pc} {t : Int} {h : Nat} {x : Pc} (hs : srt ps) (hx : ps[h]? = some x) (hlt : t ≤ x.num) : ∀ (k : Nat) (y : Pc), h ≤ k → ps[k]? = some y → t ≤ y.num := fun k y hk hy => by
  rcases Nat.lt_or_ge h k with h2 | h2
  · have := hs _ k x y h2 hx hy; omega
  · have h3 : k = h := by omega
    subst h3; rw [hx] at hy; cases hy; exact hlt
theorem vN_to {z : Int} {A : Int → Prop} (v : Int) (h : z = v) (k : A v) : vN z A := ⟨v, h, k⟩
theorem search_con (t : Int) (ps : List Pc) (hl : ps.length ≤ 100) (hs : srt ps) : Con Try.prog 48 [.one (.ro false 4 (ps.map eP)), .one (.v (.int .u64 t)), .one (.fn 49 [])] (fun rx rK rt => rx = .tup [.one (.v (.int .i64 (srch t ps : Nat))), .one (.v (.bool (ps[srch t ps]?.any (fun p => p.num == t))))] ∧ rK = [] ∧ rt = 0) := by
  refine Z.con_ofF tabOk 49 Try.f48 _ Try.func48 (by kernel_rfl) rfl rfl rfl rfl ?_
  repeat' ((conv => whnf); first
    | with_reducible first | refine spB_t ?_
    | ((with_reducible apply spB_cong); (focus (simp only [beq_self_eq_true, bne_self_eq_false, Bool.true_bne, Bool.false_bne, Bool.bne_true, Bool.bne_false, Bool.true_beq, Bool.false_beq, Bool.not_true, Bool.not_false, Bool.not_not, Int.reduceBEq, Int.reduceBNe, Int.reduceLE, Int.reduceLT, Int.reduceEq, decide_true, decide_false]; rfl)))
    | with_reducible first | refine spB_yes (by decide) ?_ | refine spB_no (by decide) ?_ | refine spB_f ?_ | refine spB_not ?_ | refine spB_yes (by assumption) ?_ | refine spB_no (by assumption) ?_
    | (with_reducible refine spB_dec ?_ ?_ <;> intro _ <;> (try (exfalso; first | contradiction | omega | (rename_i hz; with_reducible exact absurd rfl hz))))
    | (with_reducible refine spB_beq ?_ ?_ <;> intro _ <;> (try (exfalso; first | contradiction | omega | (rename_i hz; with_reducible exact absurd rfl hz))))
    | (with_reducible refine spB_bne ?_ ?_ <;> intro _ <;> (try (exfalso; first | contradiction | omega | (rename_i hz; with_reducible exact absurd rfl hz))))
    | (with_reducible refine spB_mk ?_ ?_ <;> intro _ <;> (try (exfalso; first | contradiction | omega | (rename_i hz; with_reducible exact absurd rfl hz))))
    | ((with_reducible apply rowN_mk); (focus rfl))
    | ((with_reducible apply ixN_lit); (focus (exact rfl)); (focus (exact rfl)))
    | ((with_reducible apply ixN_litp); (focus (exact rfl)); (focus ((try simp only [LN] at *) <;> omega)))
    | ((with_reducible refine eqN_mk2 ?_ ?_); (focus rfl))
    | with_reducible refine wr_i64 (by first | omega | (simp only [LN] at *; omega)) ?_
    | with_reducible refine wr_u64 (by omega) ?_
    | with_reducible refine wr_u8 (by omega) ?_
    | with_reducible refine wr_u32 (by omega) ?_
    | with_reducible first | refine wr_mk _ rfl ?_
    | ((with_reducible refine ixN_nat ?_ ?_); (focus ((try simp only [LN] at *) <;> omega)))
    | ((with_reducible refine rowN_map ?_ ?_); (focus ((try simp only [LN] at *) <;> omega)); intro x hx)
    | with_reducible refine vN_mod (by omega) ?_
    | with_reducible first | refine vN_mk ?_
    | with_reducible refine nzN_mk (by omega) ?_
    | with_reducible refine eqN_dec (by omega) ?_
    | with_reducible first | refine apN_mk (by kernel_rfl) ?_
    | ((with_reducible refine eqN_mk2 ?_ ?_); (focus (exact Z.kb_some rfl)))
    | ((with_reducible apply ex_and); exact rfl))
  all_goals (try (conv => whnf))
  refine Z.loopK tabOk (fun q : Nat × Nat => [(9, .val (.int .i64 (q.1 : Int))), (10, .val (.int .i64 (q.2 : Int)))]) (fun q : Nat × Nat => ([] : Z.Kr)) (fun q => q.1 ≤ q.2 ∧ q.2 ≤ ps.length ∧ (∀ (k : Nat) (x : Pc), k < q.1 → ps[k]? = some x → x.num < t) ∧ (∀ (k : Nat) (x : Pc), q.2 ≤ k → ps[k]? = some x → t ≤ x.num)) (fun q => q.2 - q.1) (0, (ps.map eP).length) 0 [(0, _), (1, _), (2, _), (8, _)] ⟨rfl, rfl, rfl, rfl, trivial⟩ [] trivial ?_ ?_ rfl rfl ⟨Nat.zero_le _, by rw [List.length_map]; exact Nat.le_refl _, fun k x h => absurd h (Nat.not_lt_zero _), fun k x h hx => absurd (List.getElem?_eq_some_iff.1 hx).1 (by rw [List.length_map] at h; omega)⟩ ?_
  · repeat' (first | exact trivial | apply And.intro | exact ⟨_, rfl, rfl⟩ | exact ⟨_, rfl, Z.Imp.refl _⟩ | exact ⟨_, rfl, Z.Imp.nilg _⟩ | exact ⟨_, rfl, Z.Imp.nilr _ _⟩)
  · repeat' (first | exact trivial | (intro b hb; cases hb; done) | exact (fun b hb => ⟨b, hb, Z.ImpO.refl b⟩) | (intro b hb; cases hb; refine ⟨_, rfl, ⟨rfl, rfl, rfl⟩, ?_⟩; (repeat' (first | exact trivial | apply And.intro | exact Z.Imp.refl _ | exact Z.Imp.nilg _ | exact Z.Imp.nilr _ _)); done) | apply And.intro)
  rintro ⟨i, j⟩ HINV
  dsimp only at HINV ⊢
  obtain ⟨HI1, HI2, HI3, HI4⟩ := HINV
  repeat' ((conv => whnf); first
    | with_reducible first | refine spB_t ?_
    | ((with_reducible apply spB_cong); (focus (simp only [beq_self_eq_true, bne_self_eq_false, Bool.true_bne, Bool.false_bne, Bool.bne_true, Bool.bne_false, Bool.true_beq, Bool.false_beq, Bool.not_true, Bool.not_false, Bool.not_not, Int.reduceBEq, Int.reduceBNe, Int.reduceLE, Int.reduceLT, Int.reduceEq, decide_true, decide_false]; rfl)))
    | with_reducible first | refine spB_yes (by decide) ?_ | refine spB_no (by decide) ?_ | refine spB_f ?_ | refine spB_not ?_ | refine spB_yes (by assumption) ?_ | refine spB_no (by assumption) ?_
    | (with_reducible refine spB_dec ?_ ?_ <;> intro _ <;> (try (exfalso; first | contradiction | omega | (rename_i hz; with_reducible exact absurd rfl hz))))
    | (with_reducible refine spB_beq ?_ ?_ <;> intro _ <;> (try (exfalso; first | contradiction | omega | (rename_i hz; with_reducible exact absurd rfl hz))))
    | (with_reducible refine spB_bne ?_ ?_ <;> intro _ <;> (try (exfalso; first | contradiction | omega | (rename_i hz; with_reducible exact absurd rfl hz))))
    | (with_reducible refine spB_mk ?_ ?_ <;> intro _ <;> (try (exfalso; first | contradiction | omega | (rename_i hz; with_reducible exact absurd rfl hz))))
    | ((with_reducible refine vN_to (((i + j) / 2 : Nat) : Int) ?_ ?_); (focus (rw [show (2 : Int) ^ min (Int.toNat 1) IntKind.u64.bits = 2 by decide, Int.fdiv_eq_ediv_of_nonneg _ (by decide)]; omega)))
    | ((with_reducible apply rowN_mk); (focus rfl))
    | ((with_reducible apply ixN_lit); (focus (exact rfl)); (focus (exact rfl)))
    | ((with_reducible apply ixN_litp); (focus (exact rfl)); (focus ((try simp only [LN] at *) <;> omega)))
    | ((with_reducible refine eqN_mk2 ?_ ?_); (focus rfl))
    | with_reducible refine wr_i64 (by first | omega | (simp only [LN] at *; omega)) ?_
    | with_reducible refine wr_u64 (by omega) ?_
    | with_reducible refine wr_u8 (by omega) ?_
    | with_reducible refine wr_u32 (by omega) ?_
    | with_reducible first | refine wr_mk _ rfl ?_
    | ((with_reducible refine ixN_nat ?_ ?_); (focus ((try simp only [LN] at *) <;> omega)))
    | ((with_reducible refine rowN_map ?_ ?_); (focus ((try simp only [LN] at *) <;> omega)); intro x hx)
    | with_reducible refine vN_mod (by omega) ?_
    | with_reducible first | refine vN_mk ?_
    | with_reducible refine nzN_mk (by omega) ?_
    | with_reducible refine eqN_dec (by omega) ?_
    | with_reducible first | refine apN_mk (by kernel_rfl) ?_ | refine Z.callZ_in tabOk 9 Try.f49 _ Try.func49 (by kernel_rfl) rfl rfl rfl ?_ | refine Z.callZ_in tabOk 20 Try.f50 _ Try.func50 (by kernel_rfl) rfl rfl rfl ?_ | refine Z.callZ_in tabOk 6 Try.f53 _ Try.func53 (by kernel_rfl) rfl rfl rfl ?_
    | ((with_reducible refine eqN_mk2 ?_ ?_); (focus (exact Z.kb_some rfl)))
    | ((with_reducible apply ex_and); exact rfl))
  all_goals (try (conv => whnf))
  all_goals first
    | ((refine Z.rndK (((i + j) / 2 + 1, j)) (fun s => []) rfl rfl rfl rfl ?_ ?_ ?_ ?_); (focus (repeat' (first | exact trivial | exact rfl | (rw [List.map_append]; exact rfl) | apply And.intro))); (focus (repeat' (first | exact trivial | (intro b hb; cases hb; rfl) | (intro b hb; cases hb; subst hlb; rfl) | (intro b hb; cases hb; rw [List.map_append]; rfl) | (intro b hb; cases hb; done) | exact Z.blk_sub rfl rfl (ren_map fun _ => rfl) | exact Z.blk_sub rfl rfl (Z.ren_app (ren_map fun _ => rfl) (ren_map fun _ => rfl)) | exact Z.blk_sub rfl (by first | (rw [List.map_append]; rfl) | (rw [List.map_set]; rfl) | simp only [List.map_append, List.map_cons, List.map_nil, List.map_set]) (ren_map fun _ => rfl) | exact Z.gB_sub rfl rfl (ren_map fun _ => rfl) | exact Z.gB_sub' rfl (by first | rfl | (rw [List.map_append]; rfl) | simp only [List.map_append, List.map_cons, List.map_nil]) (ren_map fun _ => rfl) | apply And.intro))); (focus (exact ⟨by dsimp only; omega, HI2, srch_lo hs hx (by omega), HI4⟩)); (dsimp only; omega))
    | ((refine Z.rndK ((i, (i + j) / 2)) (fun s => []) rfl rfl rfl rfl ?_ ?_ ?_ ?_); (focus (repeat' (first | exact trivial | exact rfl | (rw [List.map_append]; exact rfl) | apply And.intro))); (focus (repeat' (first | exact trivial | (intro b hb; cases hb; rfl) | (intro b hb; cases hb; subst hlb; rfl) | (intro b hb; cases hb; rw [List.map_append]; rfl) | (intro b hb; cases hb; done) | exact Z.blk_sub rfl rfl (ren_map fun _ => rfl) | exact Z.blk_sub rfl rfl (Z.ren_app (ren_map fun _ => rfl) (ren_map fun _ => rfl)) | exact Z.blk_sub rfl (by first | (rw [List.map_append]; rfl) | (rw [List.map_set]; rfl) | simp only [List.map_append, List.map_cons, List.map_nil, List.map_set]) (ren_map fun _ => rfl) | exact Z.gB_sub rfl rfl (ren_map fun _ => rfl) | exact Z.gB_sub' rfl (by first | rfl | (rw [List.map_append]; rfl) | simp only [List.map_append, List.map_cons, List.map_nil]) (ren_map fun _ => rfl) | apply And.intro))); (focus (exact ⟨by dsimp only; omega, by dsimp only; omega, HI3, srch_hi hs hx (by omega)⟩)); (dsimp only; omega))
    | ((first | (with_reducible apply Z.retF1) | (with_reducible apply Z.retF2) | (with_reducible apply Z.retF0)); (focus (exact rfl)); (repeat' (first | exact trivial | (with_reducible apply Z.frz_one) | (with_reducible apply Z.frz_agg) | (with_reducible apply Z.fq_int) | (with_reducible apply Z.fq_bool) | (exact Z.frz_nil) | (exact Z.frz_osl0 rfl rfl rfl) | (with_reducible apply Z.fq_nil) | (with_reducible apply Z.fq_ro) | ((with_reducible apply Z.fq_gsl); (focus (first | rfl | exact Z.isB_map _ | exact Z.gB_snoc.symm)); (focus (exact fun _ => rfl))) | ((with_reducible apply Z.fq_osl); (focus (exact rfl)); (focus (first | exact rfl | (simp only [List.length_map, Nat.zero_add]; done) | ((try simp only [LN] at *) <;> omega))); (focus (exact fun _ => rfl))) | ((with_reducible apply Z.fq_src); (focus (exact rfl)); (focus (first | exact rfl | (simp only [List.length_map, Nat.zero_add]; done) | ((try simp only [LN] at *) <;> omega))); (focus (exact fun _ => rfl))) | exact rfl | ((apply Z.fq_osl); (focus (exact rfl)); (focus (first | exact rfl | (simp only [List.length_map, Nat.zero_add]; done) | ((try simp only [LN] at *) <;> omega))); (focus (exact fun _ => rfl))) | ((apply Z.fq_src); (focus (exact rfl)); (focus (first | exact rfl | (simp only [List.length_map, Nat.zero_add]; done) | ((try simp only [LN] at *) <;> omega))); (focus (exact fun _ => rfl))) | (apply Z.fq_ro) | (apply Z.fq_int) | (apply Z.fq_bool) | apply And.intro)); (all_goals (try exact (fun _ => none))); all_goals ((have hsr : srch t ps = i := srch_eq (by omega) HI3 (fun y hy => HI4 i y (by omega) hy)); first | (rw [hsr]; done) | (exfalso; have h9 := HI4 i x (by omega) hx; omega) | (have h9 := HI4 i x (by omega) hx; rw [hsr, hx]; simp only [Option.any]; symm; first | exact beq_iff_eq.2 (by omega) | (rw [show (1 == (0:Int)) = false by decide]; exact beq_eq_false_iff_ne.2 (by omega))) | (rw [hsr, List.getElem?_eq_none (by rw [List.length_map] at *; omega)]; rfl)))
    | (fail)

end Go.Proofs.Ytaafippakgofiaa
