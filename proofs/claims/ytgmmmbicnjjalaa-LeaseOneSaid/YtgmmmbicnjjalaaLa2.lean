import Derived.Test.YtgmmmbicnjjalaaLa1
import Derived.Test.YtgmmmbicnjjalaaWzm
namespace Go.Proofs.Ytgmmmbicnjjalaa
open Go Go.RowKit Wx
set_option linter.unusedVariables false
set_option linter.unusedSimpArgs false
set_option maxHeartbeats 4000000
abbrev enB (b : Bool) : A0 := .one (.v (.bool b))
theorem look_dec {z : Value} {es : Y.MS} {L : List (Int × Bool)} {k : Int} {A : A0 → Bool → Prop} {p : Int → Prop} [dp : DecidablePred p] (HM : Z.MapL .u64 enB es L) (HL : ∀ y, (Z.lookK L y).getD false = decide (p y)) (hz : Y.zeroA z = enB false) (h : ∀ ok, A (enB (decide (p k))) ok) : Z.lookN .u64 z es k A := by
  refine Z.MapL.look HM (z0 := false) hz ?_
  rw [HL]; exact h _
theorem put_dec {L : List (Int × Bool)} {k : Int} {p q : Int → Prop} [DecidablePred p] [DecidablePred q] (HL : ∀ y, (Z.lookK L y).getD false = decide (p y)) (hq : ∀ y, q y ↔ (y = k ∨ p y)) : ∀ y, (Z.lookK (Z.putK L k true) y).getD false = decide (q y) := fun y => by
  rw [Z.look_put]
  by_cases h : k = y
  · rw [if_pos h]; exact (decide_eq_true ((hq y).2 (.inl h.symm))).symm
  · rw [if_neg h, HL]; exact decide_eq_decide.2 ⟨fun g => (hq y).2 (.inr g), fun g => ((hq y).1 g).resolve_left fun e => h e.symm⟩
theorem tm_nn {a b : Int} (ha : 0 ≤ a) (hb : 0 < b) : 0 ≤ a.tmod b ∧ a.tmod b < b := ⟨Int.tmod_nonneg b ha, Int.tmod_lt_of_pos a hb⟩
theorem tm_3 (a : Int) : -3 < a.tmod 3 ∧ a.tmod 3 < 3 := ⟨by
  have := Int.tmod_lt_of_pos (-a) (show (0 : Int) < 3 by decide)
  rw [Int.neg_tmod] at this; omega, Int.tmod_lt_of_pos a (by decide)⟩
theorem tm_n {a : Int} {n : Nat} (hn : 0 < n) : ∃ k : Nat, (max a 0).tmod (n : Int) = (k : Int) ∧ k < n := by
  have h := tm_nn (a := max a 0) (b := (n : Int)) (by omega) (by omega)
  exact ⟨((max a 0).tmod (n : Int)).toNat, by omega, by omega⟩
theorem kind3 (r : Int) (h : -3 < r ∧ r < 3) : ∃ k : Int, (r + 3).tmod 3 = k ∧ ((k = 0 ∧ r = 0) ∨ (k = 1 ∧ r ≠ 0) ∨ (k = 2 ∧ r ≠ 0)) := by
  have : r = -2 ∨ r = -1 ∨ r = 0 ∨ r = 1 ∨ r = 2 := by omega
  rcases this with rfl | rfl | rfl | rfl | rfl
  · exact ⟨1, by decide, by omega⟩
  · exact ⟨2, by decide, by omega⟩
  · exact ⟨0, by decide, by omega⟩
  · exact ⟨1, by decide, by omega⟩
  · exact ⟨2, by decide, by omega⟩
theorem row_at {had : List Wh} {i : Nat} {w : Wh} (h : had[i]? = some w) : (had.map cW)[0 + i]? = some (cW w) := by rw [Nat.zero_add, List.getElem?_map, h]; rfl
theorem had_push {had : List Wh} {e h n : Int} (H : ∀ (k : Nat) (w : Wh), had[k]? = some w → 1 ≤ w.num ∧ w.num ≤ 3 ∧ w.ep = (k : Int) + 1 ∧ ((k : Int) + 1 = e → w.num = h)) (he : e = (had.length : Int)) (hn : 1 ≤ n ∧ n ≤ 3) : ∀ (k : Nat) (w : Wh), (had ++ [⟨n, e + 1⟩])[k]? = some w → 1 ≤ w.num ∧ w.num ≤ 3 ∧ w.ep = (k : Int) + 1 ∧ ((k : Int) + 1 = e + 1 → w.num = n) := fun k w hk => by
  by_cases h1 : k < had.length
  · rw [List.getElem?_append_left h1] at hk
    obtain ⟨a, b, c, d⟩ := H k w hk
    exact ⟨a, b, c, fun h9 => by omega⟩
  · rw [List.getElem?_append_right (by omega)] at hk
    have h2 : k - had.length = 0 := by
      have := (List.getElem?_eq_some_iff.1 hk).1
      simp at this; omega
    rw [h2] at hk
    simp at hk
    subst hk
    exact ⟨hn.1, hn.2, by show e + 1 = _; omega, fun _ => rfl⟩
theorem leaseone_con (l : List Dd) (hl : l.length ≤ 9223372036854775807) : Con Try.prog 5 [.one (.ro false 5 (l.map eDd))] (fun rx rK rt => rx = .val (.bool true) ∧ rK = [] ∧ rt = 0) := by
  refine Z.con_ofF tabOk 219 Try.f5 _ Try.func5 (by kernel_rfl) rfl rfl rfl rfl ?_
  repeat' ((conv => whnf); first
    | ((with_reducible apply spB_cong); (focus (simp only [beq_self_eq_true, bne_self_eq_false, Bool.true_bne, Bool.false_bne, Bool.bne_true, Bool.bne_false, Bool.true_beq, Bool.false_beq, Bool.not_true, Bool.not_false, Bool.not_not, Int.reduceBEq, Int.reduceBNe, Int.reduceLE, Int.reduceLT, Int.reduceEq, decide_true, decide_false]; rfl)))
    | with_reducible first | refine spB_yes (by decide) ?_ | refine spB_no (by decide) ?_ | refine spB_f ?_ | refine spB_not ?_ | refine spB_yes (by assumption) ?_ | refine spB_no (by assumption) ?_
    | ((first | (with_reducible refine Z.conZ_mz ?_ (wakes_con) ?_) | (with_reducible refine Z.callZ_mk ?_ (wakes_con) ?_)); (focus ((repeat' (first | exact trivial | exact rfl | exact Z.low_nil | exact Z.low_nil2 | exact low_osl (fun _ => rfl) | (refine Z.low_osln ?_ (fun _ => rfl); (simp only [List.length_map]; done)) | exact low_oslr (fun _ => rfl) | exact Z.low_gslm (by first | rfl | exact Z.kb_some rfl) (fun _ => rfl) | exact .inl rfl | exact .inr ⟨_, rfl⟩ | apply And.intro)); done)))
    | (focus (exact (rfl : Nat.ble _ _ = true))))
  all_goals (try (conv => whnf))
  all_goals try (show Nat.ble _ _ = true; rfl)
  all_goals try (exfalso; rename_i hz; cases hz; done)
  refine Z.loopK tabOk (fun zq : Nat × Int × Int × Int × Int × List Wh × Y.MS => [(23, .val (.int .i64 (zq.1 : Int))), (4, .val (.int .i64 zq.2.2.2.2.1)), (5, .c (.gsl 2 (zq.2.2.2.2.2.1.map cW)))]) (fun zq : Nat × Int × Int × Int × Int × List Wh × Y.MS => ([(0, some (Z.Ob.b ⟨[[.v (.int .u64 zq.2.1), .v (.int .i64 zq.2.2.1), .v (.int .i64 zq.2.2.2.1)]], 3, 24, true⟩)), (1, some (Z.Ob.m zq.2.2.2.2.2.2)), (2, (gB 2 35 (zq.2.2.2.2.2.1.map cW)).map Z.Ob.b)] : Z.Kr)) (fun zq => zq.1 ≤ l.length ∧ zq.1 ≤ 80 ∧ (0 ≤ zq.2.2.2.2.1 ∧ zq.2.2.2.2.1 ≤ 20 * (zq.1 : Int)) ∧ zq.2.2.2.2.2.1.length ≤ zq.1 ∧ zq.2.1 = (zq.2.2.2.2.2.1.length : Int) ∧ (∀ (k : Nat) (w : Wh), zq.2.2.2.2.2.1[k]? = some w → 1 ≤ w.num ∧ w.num ≤ 3 ∧ w.ep = (k : Int) + 1 ∧ ((k : Int) + 1 = zq.2.1 → w.num = zq.2.2.1)) ∧ ((zq.2.1 = 0 ∧ zq.2.2.1 = 0 ∧ zq.2.2.2.1 = 0) ∨ (1 ≤ zq.2.1 ∧ zq.2.1 ≤ 1000 ∧ 1 ≤ zq.2.2.1 ∧ zq.2.2.1 ≤ 3 ∧ 0 ≤ zq.2.2.2.1 ∧ zq.2.2.2.1 ≤ zq.2.2.2.2.1 + 10)) ∧ (∃ L, Z.MapL .u64 enB zq.2.2.2.2.2.2 L ∧ ∀ y, (Z.lookK L y).getD false = decide (1 ≤ y ∧ y < zq.2.1))) (fun zq => l.length - zq.1) (0, 0, 0, 0, 0, [], ⟨[], 0⟩) 3 [(3, _), (6, _), (21, _), (22, _)] ⟨rfl, rfl, rfl, rfl, trivial⟩ [] trivial ?_ ?_ rfl rfl ⟨Nat.zero_le _, by decide, by decide, by decide, rfl, fun k w hk => by simp at hk, .inl ⟨rfl, rfl, rfl⟩, [], Z.MapL.nil, fun y => (decide_eq_false (by dsimp only; omega)).symm⟩ ?_
  · repeat' (first | exact trivial | apply And.intro | exact ⟨_, rfl, rfl⟩ | exact ⟨_, rfl, Z.Imp.refl _⟩ | exact ⟨_, rfl, Z.Imp.nilg _⟩ | exact ⟨_, rfl, Z.Imp.nilr _ _⟩)
  · repeat' (first | exact trivial | (intro b hb; cases hb; done) | exact (fun b hb => ⟨b, hb, Z.ImpO.refl b⟩) | (intro b hb; cases hb; refine ⟨_, rfl, ⟨rfl, rfl, rfl⟩, ?_⟩; (repeat' (first | exact trivial | apply And.intro | exact Z.Imp.refl _ | exact Z.Imp.nilg _ | exact Z.Imp.nilr _ _)); done) | apply And.intro)
  rintro ⟨i, e, h, u, now, had, es⟩ HINV
  dsimp only at HINV ⊢
  obtain ⟨H1, H2, H3, H4, H5, H6, H7, L, HM, HL⟩ := HINV
  by_cases hil : i < l.length
  rotate_left
  · skip
    repeat' ((conv => whnf); first
      | (with_reducible refine spB_dec ?_ ?_ <;> intro _ <;> (try (exfalso; first | contradiction | omega | (rename_i hz; exact hz (by simp; done)) | (simp only [LN] at *; omega))))
      | (focus (exact (rfl : Nat.ble _ _ = true))))
    all_goals (try (conv => whnf))
    all_goals try (show Nat.ble _ _ = true; rfl)
    all_goals first
      | ((first | (with_reducible apply Z.retF1) | (with_reducible apply Z.retF2) | (with_reducible apply Z.retF0)); (focus (exact rfl)); (repeat' (first | exact trivial | (with_reducible apply Z.frz_one) | (with_reducible apply Z.frz_agg) | (with_reducible apply Z.fq_int) | (with_reducible apply Z.fq_bool) | (exact Z.frz_nil) | (exact Z.frz_osl0 rfl rfl rfl) | (with_reducible apply Z.fq_nil) | (with_reducible apply Z.fq_ro) | ((with_reducible apply Z.fq_gsl); (focus (first | rfl | exact Z.isB_map _ | exact Z.gB_snoc.symm)); (focus (exact fun _ => rfl))) | ((with_reducible apply Z.fq_osl); (focus (exact rfl)); (focus (first | exact rfl | (simp only [List.length_map, Nat.zero_add]; done) | ((try simp only [LN] at *) <;> omega))); (focus (exact fun _ => rfl))) | ((with_reducible apply Z.fq_src); (focus (exact rfl)); (focus (first | exact rfl | (simp only [List.length_map, Nat.zero_add]; done) | ((try simp only [LN] at *) <;> omega))); (focus (exact fun _ => rfl))) | exact rfl | ((apply Z.fq_osl); (focus (exact rfl)); (focus (first | exact rfl | (simp only [List.length_map, Nat.zero_add]; done) | ((try simp only [LN] at *) <;> omega))); (focus (exact fun _ => rfl))) | ((apply Z.fq_src); (focus (exact rfl)); (focus (first | exact rfl | (simp only [List.length_map, Nat.zero_add]; done) | ((try simp only [LN] at *) <;> omega))); (focus (exact fun _ => rfl))) | (apply Z.fq_ro) | (apply Z.fq_int) | (apply Z.fq_bool) | apply And.intro)); (all_goals (try exact (fun _ => none))); all_goals (rfl))
      | (exfalso; rename_i hz; cases hz; done)
      | (exfalso; (try simp only [LN] at *) <;> omega)
      | (fail)
  by_cases h80 : i = 80
  · skip
    repeat' ((conv => whnf); first
      | (with_reducible refine spB_dec ?_ ?_ <;> intro _ <;> (try (exfalso; first | contradiction | omega | (rename_i hz; exact hz (by simp; done)) | (simp only [LN] at *; omega))))
      | (with_reducible refine spB_beq ?_ ?_ <;> intro _ <;> (try (exfalso; first | contradiction | omega | (rename_i hz; exact hz (by simp; done)) | (simp only [LN] at *; omega))))
      | ((with_reducible apply ixN_litp); (focus (exact rfl)); (focus ((try simp only [LN] at *) <;> omega)))
      | ((with_reducible refine rowN_map ?_ ?_); (focus ((try simp only [LN] at *) <;> omega)); intro x hx)
      | (focus (exact (rfl : Nat.ble _ _ = true))))
    all_goals (try (conv => whnf))
    all_goals try (show Nat.ble _ _ = true; rfl)
    all_goals first
      | ((first | (with_reducible apply Z.retF1) | (with_reducible apply Z.retF2) | (with_reducible apply Z.retF0)); (focus (exact rfl)); (repeat' (first | exact trivial | (with_reducible apply Z.frz_one) | (with_reducible apply Z.frz_agg) | (with_reducible apply Z.fq_int) | (with_reducible apply Z.fq_bool) | (exact Z.frz_nil) | (exact Z.frz_osl0 rfl rfl rfl) | (with_reducible apply Z.fq_nil) | (with_reducible apply Z.fq_ro) | ((with_reducible apply Z.fq_gsl); (focus (first | rfl | exact Z.isB_map _ | exact Z.gB_snoc.symm)); (focus (exact fun _ => rfl))) | ((with_reducible apply Z.fq_osl); (focus (exact rfl)); (focus (first | exact rfl | (simp only [List.length_map, Nat.zero_add]; done) | ((try simp only [LN] at *) <;> omega))); (focus (exact fun _ => rfl))) | ((with_reducible apply Z.fq_src); (focus (exact rfl)); (focus (first | exact rfl | (simp only [List.length_map, Nat.zero_add]; done) | ((try simp only [LN] at *) <;> omega))); (focus (exact fun _ => rfl))) | exact rfl | ((apply Z.fq_osl); (focus (exact rfl)); (focus (first | exact rfl | (simp only [List.length_map, Nat.zero_add]; done) | ((try simp only [LN] at *) <;> omega))); (focus (exact fun _ => rfl))) | ((apply Z.fq_src); (focus (exact rfl)); (focus (first | exact rfl | (simp only [List.length_map, Nat.zero_add]; done) | ((try simp only [LN] at *) <;> omega))); (focus (exact fun _ => rfl))) | (apply Z.fq_ro) | (apply Z.fq_int) | (apply Z.fq_bool) | apply And.intro)); (all_goals (try exact (fun _ => none))); all_goals (rfl))
      | (exfalso; rename_i hz; cases hz; done)
      | (exfalso; (try simp only [LN] at *) <;> omega)
      | (fail)
  obtain ⟨o, ho⟩ := getElem?_some' (xs := l) (i := i) hil
  obtain ⟨a9, ha⟩ : ∃ a, (max o.ahead 0).tmod 20 = a := ⟨_, rfl⟩
  obtain ⟨s9, hs⟩ : ∃ a, (max o.span 0).tmod 10 = a := ⟨_, rfl⟩
  obtain ⟨w9, hw⟩ : ∃ a, (max o.who 0).tmod 3 = a := ⟨_, rfl⟩
  obtain ⟨r9, hr⟩ : ∃ a, o.kind.tmod 3 = a := ⟨_, rfl⟩
  have ha9 := tm_nn (a := max o.ahead 0) (b := 20) (by omega) (by omega)
  have hs9 := tm_nn (a := max o.span 0) (b := 10) (by omega) (by omega)
  have hw9 := tm_nn (a := max o.who 0) (b := 3) (by omega) (by omega)
  have hr9 := tm_3 o.kind
  rw [ha] at ha9; rw [hs] at hs9; rw [hw] at hw9; rw [hr] at hr9
  obtain ⟨k9, hk, hk9⟩ := kind3 r9 hr9
  have HX : (e = 0 ∧ h = 0 ∧ u = 0) ∨ (1 ≤ e ∧ e ≤ 1000 ∧ 1 ≤ h ∧ h ≤ 3 ∧ 0 ≤ u ∧ u ≤ 10000) := by omega
  rcases hk9 with ⟨rfl, rfl⟩ | ⟨rfl, hr0⟩ | ⟨rfl, hr0⟩
  · by_cases hh : 0 < e ∧ now + a9 < u
    · have c1 := acq_no e h u (w9 + 1) (now + a9) (s9 + 1) HX (by omega) (by omega) (by omega) hh
      repeat' ((conv => whnf); first
        | with_reducible first | refine spB_t ?_
        | ((with_reducible apply spB_cong); (focus (simp only [beq_self_eq_true, bne_self_eq_false, Bool.true_bne, Bool.false_bne, Bool.bne_true, Bool.bne_false, Bool.true_beq, Bool.false_beq, Bool.not_true, Bool.not_false, Bool.not_not, Int.reduceBEq, Int.reduceBNe, Int.reduceLE, Int.reduceLT, Int.reduceEq, decide_true, decide_false]; rfl)))
        | with_reducible first | refine spB_yes (by decide) ?_ | refine spB_no (by decide) ?_ | refine spB_f ?_ | refine spB_not ?_ | refine spB_yes (by assumption) ?_ | refine spB_no (by assumption) ?_
        | (with_reducible refine spB_dec ?_ ?_ <;> intro _ <;> (try (exfalso; first | contradiction | omega | (rename_i hz; exact hz (by simp; done)) | (simp only [LN] at *; omega))))
        | (with_reducible refine spB_beq ?_ ?_ <;> intro _ <;> (try (exfalso; first | contradiction | omega | (rename_i hz; exact hz (by simp; done)) | (simp only [LN] at *; omega))))
        | (with_reducible refine spB_bne ?_ ?_ <;> intro _ <;> (try (exfalso; first | contradiction | omega | (rename_i hz; exact hz (by simp; done)) | (simp only [LN] at *; omega))))
        | with_reducible first | refine Z.rowN_known ho ?_
        | ((with_reducible refine vN_to a9 ?_ ?_); (focus (exact ha)))
        | ((with_reducible refine vN_to s9 ?_ ?_); (focus (exact hs)))
        | ((with_reducible refine vN_to w9 ?_ ?_); (focus (exact hw)))
        | ((with_reducible apply ixN_litp); (focus (exact rfl)); (focus ((try simp only [LN] at *) <;> omega)))
        | with_reducible refine wr_i64 (by first | omega | (simp only [LN] at *; omega)) ?_
        | with_reducible refine vN_mod (by omega) ?_
        | with_reducible first | refine vN_mk ?_
        | with_reducible refine nzN_mk (by omega) ?_
        | ((first | (with_reducible refine Z.conZ_mz ?_ (c1) ?_) | (with_reducible refine Z.callZ_mk ?_ (c1) ?_)); (focus ((repeat' (first | exact trivial | exact rfl | exact Z.low_nil | exact Z.low_nil2 | exact low_osl (fun _ => rfl) | (refine Z.low_osln ?_ (fun _ => rfl); (simp only [List.length_map]; done)) | exact low_oslr (fun _ => rfl) | exact Z.low_gslm (by first | rfl | exact Z.kb_some rfl) (fun _ => rfl) | exact .inl rfl | exact .inr ⟨_, rfl⟩ | apply And.intro)); done)))
        | (focus (exact (rfl : Nat.ble _ _ = true))))
      all_goals (try (conv => whnf))
      all_goals try (show Nat.ble _ _ = true; rfl)
      all_goals first
        | ((refine Z.rndK ((i + 1, e, h, u, now + a9, had, es)) (fun s => [0, 1, s.idAt 5]) rfl rfl rfl rfl ?_ ?_ ?_ ?_); (focus (repeat' (first | exact trivial | exact Z.map_sub (Z.MapL.ren HM fun _ => rfl) rfl | exact rfl | (rw [List.map_append]; exact rfl) | apply And.intro))); (focus (repeat' (first | exact trivial | exact Z.map_sub (Z.MapL.ren HM fun _ => rfl) rfl | (intro b hb; cases hb; rfl) | (intro b hb; cases hb; subst hlb; rfl) | (intro b hb; cases hb; rw [List.map_append]; rfl) | (intro b hb; cases hb; done) | exact Z.blk_sub rfl rfl (ren_map fun _ => rfl) | exact Z.blk_sub rfl rfl (Z.ren_app (ren_map fun _ => rfl) (ren_map fun _ => rfl)) | exact Z.blk_sub rfl (by first | (rw [List.map_append]; rfl) | (rw [List.map_set]; rfl) | simp only [List.map_append, List.map_cons, List.map_nil, List.map_set]) (ren_map fun _ => rfl) | exact Z.gB_sub rfl rfl (ren_map fun _ => rfl) | exact Z.gB_sub' rfl (by first | rfl | (rw [List.map_append]; rfl) | simp only [List.map_append, List.map_cons, List.map_nil]) (ren_map fun _ => rfl) | apply And.intro))); (focus (dsimp only; exact ⟨by omega, by omega, by omega, by omega, H5, H6, by omega, L, HM, HL⟩)); ((try dsimp only); omega))
        | (exfalso; rename_i hz; cases hz; done)
        | (exfalso; (try simp only [LN] at *) <;> omega)
        | (fail)
    · have c1 := acq_yes e h u (w9 + 1) (now + a9) (s9 + 1) HX (by omega) (by omega) (by omega) hh
      by_cases hne : had.length = 0
      · skip
        repeat' ((conv => whnf); first
          | with_reducible first | refine spB_t ?_
          | ((with_reducible apply spB_cong); (focus (simp only [beq_self_eq_true, bne_self_eq_false, Bool.true_bne, Bool.false_bne, Bool.bne_true, Bool.bne_false, Bool.true_beq, Bool.false_beq, Bool.not_true, Bool.not_false, Bool.not_not, Int.reduceBEq, Int.reduceBNe, Int.reduceLE, Int.reduceLT, Int.reduceEq, decide_true, decide_false]; rfl)))
          | with_reducible first | refine spB_yes (by decide) ?_ | refine spB_no (by decide) ?_ | refine spB_f ?_ | refine spB_not ?_ | refine spB_yes (by assumption) ?_ | refine spB_no (by assumption) ?_
          | (with_reducible refine spB_dec ?_ ?_ <;> intro _ <;> (try (exfalso; first | contradiction | omega | (rename_i hz; exact hz (by simp; done)) | (simp only [LN] at *; omega))))
          | (with_reducible refine spB_beq ?_ ?_ <;> intro _ <;> (try (exfalso; first | contradiction | omega | (rename_i hz; exact hz (by simp; done)) | (simp only [LN] at *; omega))))
          | with_reducible first | refine Z.rowN_known ho ?_
          | ((with_reducible refine vN_to a9 ?_ ?_); (focus (exact ha)))
          | ((with_reducible refine vN_to s9 ?_ ?_); (focus (exact hs)))
          | ((with_reducible refine vN_to w9 ?_ ?_); (focus (exact hw)))
          | ((with_reducible apply ixN_litp); (focus (exact rfl)); (focus ((try simp only [LN] at *) <;> omega)))
          | with_reducible refine wr_i64 (by first | omega | (simp only [LN] at *; omega)) ?_
          | with_reducible refine vN_mod (by omega) ?_
          | with_reducible first | refine vN_mk ?_
          | with_reducible refine nzN_mk (by omega) ?_
          | ((first | (with_reducible refine Z.conZ_mz ?_ (c1) ?_) | (with_reducible refine Z.callZ_mk ?_ (c1) ?_)); (focus ((repeat' (first | exact trivial | exact rfl | exact Z.low_nil | exact Z.low_nil2 | exact low_osl (fun _ => rfl) | (refine Z.low_osln ?_ (fun _ => rfl); (simp only [List.length_map]; done)) | exact low_oslr (fun _ => rfl) | exact Z.low_gslm (by first | rfl | exact Z.kb_some rfl) (fun _ => rfl) | exact .inl rfl | exact .inr ⟨_, rfl⟩ | apply And.intro)); done)))
          | (focus (exact (rfl : Nat.ble _ _ = true))))
        all_goals (try (conv => whnf))
        all_goals try (show Nat.ble _ _ = true; rfl)
        all_goals try (exfalso; rename_i hz; cases hz; done)
        all_goals try (exfalso; (try simp only [LN] at *) <;> omega)
        refine Z.loopK tabOk (fun zq : Nat × Y.MS => [(86, .val (.int .i64 (zq.1 : Int)))]) (fun zq : Nat × Y.MS => ([(1, some (Z.Ob.m zq.2)), (2, (gB 2 35 (had.map cW)).map Z.Ob.b)] : Z.Kr)) (fun zq => zq.1 ≤ had.length ∧ ∃ L, Z.MapL .u64 enB zq.2 L ∧ ∀ y, (Z.lookK L y).getD false = decide (1 ≤ y ∧ (y < e ∨ y ≤ (zq.1 : Int)))) (fun zq => had.length - zq.1) (0, es) 6 [(3, _), (4, _), (5, _), (6, _), (10, _), (11, _), (12, _), (21, _), (22, _), (23, _), (84, _), (85, _)] ⟨rfl, rfl, rfl, rfl, rfl, rfl, rfl, rfl, rfl, rfl, rfl, rfl, trivial⟩ [(0, some _), (3, some _), (4, some _), (5, some _)] ⟨rfl, rfl, rfl, rfl, trivial⟩ ?_ ?_ rfl rfl ⟨Nat.zero_le _, L, HM, fun y => (HL y).trans (decide_eq_decide.2 (by dsimp only; omega))⟩ ?_
        · repeat' (first | exact trivial | apply And.intro | exact ⟨_, rfl, rfl⟩ | exact ⟨_, rfl, Z.Imp.refl _⟩ | exact ⟨_, rfl, Z.Imp.nilg _⟩ | exact ⟨_, rfl, Z.Imp.nilr _ _⟩)
        · repeat' (first | exact trivial | (intro b hb; cases hb; done) | exact (fun b hb => ⟨b, hb, Z.ImpO.refl b⟩) | (intro b hb; cases hb; refine ⟨_, rfl, ⟨rfl, rfl, rfl⟩, ?_⟩; (repeat' (first | exact trivial | apply And.intro | exact Z.Imp.refl _ | exact Z.Imp.nilg _ | exact Z.Imp.nilr _ _)); done) | apply And.intro)
        rintro ⟨j, es2⟩ HINV
        dsimp only at HINV ⊢
        obtain ⟨HJ, L, HM, HL⟩ := HINV
        have hj9 : j = had.length := by omega
        have HW2 : ∀ (k : Nat) (w : Wh), (had ++ [(⟨w9 + 1, e + 1⟩ : Wh)])[k]? = some w → 1 ≤ w.num ∧ w.num ≤ 3 ∧ w.ep = (k : Int) + 1 ∧ ((k : Int) + 1 = e + 1 → w.num = w9 + 1) := had_push H6 H5 (by omega)
        repeat' ((conv => whnf); first
          | ((with_reducible apply spB_cong); (focus (simp only [beq_self_eq_true, bne_self_eq_false, Bool.true_bne, Bool.false_bne, Bool.bne_true, Bool.bne_false, Bool.true_beq, Bool.false_beq, Bool.not_true, Bool.not_false, Bool.not_not, Int.reduceBEq, Int.reduceBNe, Int.reduceLE, Int.reduceLT, Int.reduceEq, decide_true, decide_false]; rfl)))
          | with_reducible first | refine spB_yes (by decide) ?_ | refine spB_no (by decide) ?_ | refine spB_f ?_ | refine spB_not ?_ | refine spB_yes (by assumption) ?_ | refine spB_no (by assumption) ?_
          | (with_reducible refine spB_dec ?_ ?_ <;> intro _ <;> (try (exfalso; first | contradiction | omega | (rename_i hz; exact hz (by simp; done)) | (simp only [LN] at *; omega))))
          | ((with_reducible refine posE_pos ?_ ?_); (focus ((try simp only [LN] at *) <;> omega)))
          | ((with_reducible refine apdN.mk ?_ ?_ ?_ ?_ ?_ ?_); (focus (first | rfl | (simp; done))); (focus (first | exact one_all (by rfl) | exact one_map (fun _ => rfl) | exact one_map2 (fun _ => rfl))); (focus ((try simp only [LN] at *) <;> omega)); (focus ((try simp only [LN] at *) <;> omega)); (focus ((try simp only [LN] at *) <;> omega)))
          | ((with_reducible refine eqN_mk2 ?_ ?_); (focus (exact Z.kb_some rfl)))
          | (focus (exact (rfl : Nat.ble _ _ = true))))
        all_goals (try (conv => whnf))
        all_goals try (show Nat.ble _ _ = true; rfl)
        all_goals try (exfalso; rename_i hz; cases hz; done)
        all_goals try (exfalso; (try simp only [LN] at *) <;> omega)
        refine Z.loopK tabOk (fun zq : Nat × Int => [(175, .val (.int .i64 (zq.1 : Int))), (15, .val (.int .i64 zq.2)), (5, .c (.gsl 7 ((had ++ [(⟨w9 + 1, e + 1⟩ : Wh)]).map cW))), (173, .c (.gsl 7 ((had ++ [(⟨w9 + 1, e + 1⟩ : Wh)]).map cW))), (174, .val (.int .i64 (((had.length + 1) : Nat) : Int)))]) (fun zq : Nat × Int => ([(7, some (Z.Ob.b ⟨(had ++ [(⟨w9 + 1, e + 1⟩ : Wh)]).map cW, 2, 35, false⟩))] : Z.Kr)) (fun zq => zq.1 ≤ (had.length + 1) ∧ (zq.1 < (had.length + 1) → zq.2 = 0) ∧ (zq.1 = (had.length + 1) → now + a9 < (now + a9 + (s9 + 1)) → zq.2 = 1) ∧ (zq.1 = (had.length + 1) → ¬ now + a9 < (now + a9 + (s9 + 1)) → zq.2 = 0)) (fun zq => (had.length + 1) - zq.1) (0, 0) 8 [(3, _), (4, _), (6, _), (21, _), (22, _), (23, _)] ⟨rfl, rfl, rfl, rfl, rfl, rfl, trivial⟩ [(0, some _), (1, some _), (3, some _), (4, some _), (5, some _), (6, some _)] ⟨rfl, rfl, rfl, rfl, rfl, rfl, trivial⟩ ?_ ?_ rfl rfl ⟨Nat.zero_le _, fun _ => rfl, fun h9 => absurd h9 (by dsimp only; omega), fun h9 => absurd h9 (by dsimp only; omega)⟩ ?_
        · repeat' (first | exact trivial | apply And.intro | exact ⟨_, rfl, rfl⟩ | exact ⟨_, rfl, Z.Imp.refl _⟩ | exact ⟨_, rfl, Z.Imp.nilg _⟩ | exact ⟨_, rfl, Z.Imp.nilr _ _⟩ | (refine ⟨_, rfl, ?_⟩; refine Z.Imp.of_eq ?_; (first | (show Ce.gsl _ _ = Ce.gsl _ _; rw [List.map_append (f := cW)]; rfl) | (simp; done)); done))
        · repeat' (first | exact trivial | (intro b hb; cases hb; done) | exact (fun b hb => ⟨b, hb, Z.ImpO.refl b⟩) | (intro b hb; cases hb; refine ⟨_, rfl, ⟨rfl, rfl, rfl⟩, ?_⟩; (repeat' (first | exact trivial | apply And.intro | exact Z.Imp.refl _ | exact Z.Imp.nilg _ | exact Z.Imp.nilr _ _)); done) | (intro b hb; cases hb; refine ⟨_, rfl, ⟨rfl, rfl, rfl⟩, Z.imp_eq ?_⟩; (rw [List.map_append (f := cW)]; rfl); done) | apply And.intro)
        rintro ⟨j2, hc⟩ HINV
        dsimp only at HINV ⊢
        obtain ⟨HJ2, HC1, HC2, HC3⟩ := HINV
        by_cases hj2 : j2 < (had.length + 1)
        · obtain ⟨w, hwj⟩ := getElem?_some' (xs := (had ++ [(⟨w9 + 1, e + 1⟩ : Wh)])) (i := j2) (by (try simp only [LN] at *) <;> omega)
          obtain ⟨g1, g2, g3, g4⟩ := HW2 j2 w hwj
          have hc0 := HC1 hj2
          subst hc0
          repeat' ((conv => whnf); first
            | (with_reducible refine spB_dec ?_ ?_ <;> intro _ <;> (try (exfalso; first | contradiction | omega | (rename_i hz; refine hz (decide_eq_decide.2 ?_); omega) | (rename_i hz; split at hz <;> omega) | (rename_i hz; refine hz ?_; simp; done) | (simp only [LN] at *; omega))))
            | (with_reducible refine spB_bne ?_ ?_ <;> intro _ <;> (try (exfalso; first | contradiction | omega | (rename_i hz; refine hz (decide_eq_decide.2 ?_); omega) | (rename_i hz; split at hz <;> omega) | (rename_i hz; refine hz ?_; simp; done) | (simp only [LN] at *; omega))))
            | ((with_reducible refine look_dec HM HL ?_ ?_); (focus rfl); (intro okk))
            | ((with_reducible refine rowN_mk (cW w) ?_ ?_); (focus (exact row_at hwj)))
            | ((with_reducible apply ixN_litp); (focus (exact rfl)); (focus ((try simp only [LN] at *) <;> omega)))
            | with_reducible refine wr_i64 (by first | omega | (simp only [LN] at *; omega)) ?_
            | ((first | (with_reducible apply Z.conZ_mz ?_ (stale_con _ _ _ _ ?_) ?_) | (with_reducible apply Z.callZ_mk ?_ (stale_con _ _ _ _ ?_) ?_)); (rotate_left 4); (focus ((repeat' (first | exact trivial | exact rfl | exact Z.low_nil | exact Z.low_nil2 | exact low_osl (fun _ => rfl) | (refine Z.low_osln ?_ (fun _ => rfl); (simp only [List.length_map]; done)) | exact low_oslr (fun _ => rfl) | exact Z.low_gslm (by first | rfl | exact Z.kb_some rfl) (fun _ => rfl) | exact .inl rfl | exact .inr ⟨_, rfl⟩ | apply And.intro)); done)); (iterate 1 (focus (first | assumption | omega | ((try simp only [LN] at *); omega)))))
            | ((first | (with_reducible apply Z.conZ_mz ?_ (holds_con _ _ _ _ _ _ ?_) ?_) | (with_reducible apply Z.callZ_mk ?_ (holds_con _ _ _ _ _ _ ?_) ?_)); (rotate_left 6); (focus ((repeat' (first | exact trivial | exact rfl | exact Z.low_nil | exact Z.low_nil2 | exact low_osl (fun _ => rfl) | (refine Z.low_osln ?_ (fun _ => rfl); (simp only [List.length_map]; done)) | exact low_oslr (fun _ => rfl) | exact Z.low_gslm (by first | rfl | exact Z.kb_some rfl) (fun _ => rfl) | exact .inl rfl | exact .inr ⟨_, rfl⟩ | apply And.intro)); done)); (iterate 1 (focus (first | assumption | omega | ((try simp only [LN] at *); omega)))))
            | with_reducible first | refine Z.drawZ_rule tabOk mixOk ?_ | refine Z.apZ_mk (by kernel_rfl) ?_
            | (focus (exact (rfl : Nat.ble _ _ = true))))
          all_goals (try (conv => whnf))
          all_goals try (show Nat.ble _ _ = true; rfl)
          all_goals first
            | ((refine Z.rndK ((j2 + 1, 0)) (fun s => [0, 1, 2, 3, 4, 5, 6, 7]) rfl rfl rfl rfl ?_ ?_ ?_ ?_); (focus (repeat' (first | exact trivial | exact Z.map_sub (Z.MapL.ren HM fun _ => rfl) rfl | exact rfl | (rw [List.map_append]; exact rfl) | apply And.intro))); (focus (repeat' (first | exact trivial | exact Z.map_sub (Z.MapL.ren HM fun _ => rfl) rfl | (intro b hb; cases hb; rfl) | (intro b hb; cases hb; subst hlb; rfl) | (intro b hb; cases hb; rw [List.map_append]; rfl) | (intro b hb; cases hb; done) | exact Z.blk_sub rfl rfl (ren_map fun _ => rfl) | exact Z.blk_sub rfl rfl (Z.ren_app (ren_map fun _ => rfl) (ren_map fun _ => rfl)) | exact Z.blk_sub rfl (by first | (rw [List.map_append]; rfl) | (rw [List.map_set]; rfl) | simp only [List.map_append, List.map_cons, List.map_nil, List.map_set]) (ren_map fun _ => rfl) | exact Z.gB_sub rfl rfl (ren_map fun _ => rfl) | exact Z.gB_sub' rfl (by first | rfl | (rw [List.map_append]; rfl) | simp only [List.map_append, List.map_cons, List.map_nil]) (ren_map fun _ => rfl) | apply And.intro))); (focus (((try dsimp only); refine ⟨by omega, fun h9 => ?_, fun h9 h8 => ?_, fun h9 h8 => ?_⟩ <;> omega))); ((try dsimp only); omega))
            | ((refine Z.rndK ((j2 + 1, 1)) (fun s => [0, 1, 2, 3, 4, 5, 6, 7]) rfl rfl rfl rfl ?_ ?_ ?_ ?_); (focus (repeat' (first | exact trivial | exact Z.map_sub (Z.MapL.ren HM fun _ => rfl) rfl | exact rfl | (rw [List.map_append]; exact rfl) | apply And.intro))); (focus (repeat' (first | exact trivial | exact Z.map_sub (Z.MapL.ren HM fun _ => rfl) rfl | (intro b hb; cases hb; rfl) | (intro b hb; cases hb; subst hlb; rfl) | (intro b hb; cases hb; rw [List.map_append]; rfl) | (intro b hb; cases hb; done) | exact Z.blk_sub rfl rfl (ren_map fun _ => rfl) | exact Z.blk_sub rfl rfl (Z.ren_app (ren_map fun _ => rfl) (ren_map fun _ => rfl)) | exact Z.blk_sub rfl (by first | (rw [List.map_append]; rfl) | (rw [List.map_set]; rfl) | simp only [List.map_append, List.map_cons, List.map_nil, List.map_set]) (ren_map fun _ => rfl) | exact Z.gB_sub rfl rfl (ren_map fun _ => rfl) | exact Z.gB_sub' rfl (by first | rfl | (rw [List.map_append]; rfl) | simp only [List.map_append, List.map_cons, List.map_nil]) (ren_map fun _ => rfl) | apply And.intro))); (focus (((try dsimp only); refine ⟨by omega, fun h9 => ?_, fun h9 h8 => ?_, fun h9 h8 => ?_⟩ <;> omega))); ((try dsimp only); omega))
            | (exfalso; rename_i hz; cases hz; done)
            | (exfalso; (try simp only [LN] at *) <;> omega)
            | (exfalso; first | contradiction | omega | (rename_i hz; refine hz (decide_eq_decide.2 ?_); omega) | (rename_i hz; split at hz <;> omega) | (rename_i hz; refine hz ?_; simp; done) | (simp only [LN] at *; omega))
            | (fail)
        · have hj3 : j2 = (had.length + 1) := by omega
          have hcc : (hc = 1 ∧ now + a9 < (now + a9 + (s9 + 1))) ∨ (hc = 0 ∧ ¬ now + a9 < (now + a9 + (s9 + 1))) := by by_cases h9 : now + a9 < (now + a9 + (s9 + 1)); exact .inl ⟨HC2 hj3 h9, h9⟩; exact .inr ⟨HC3 hj3 h9, h9⟩
          rcases hcc with ⟨rfl, hcu⟩ | ⟨rfl, hcu⟩
          · have hlf : (if 0 < (e + 1) ∧ now + a9 < (now + a9 + (s9 + 1)) then (now + a9 + (s9 + 1)) - (now + a9) else 0) = (now + a9 + (s9 + 1)) - (now + a9) := if_pos ⟨by omega, hcu⟩
            repeat' ((conv => whnf); first
              | ((with_reducible apply spB_cong); (focus (simp only [beq_self_eq_true, bne_self_eq_false, Bool.true_bne, Bool.false_bne, Bool.bne_true, Bool.bne_false, Bool.true_beq, Bool.false_beq, Bool.not_true, Bool.not_false, Bool.not_not, Int.reduceBEq, Int.reduceBNe, Int.reduceLE, Int.reduceLT, Int.reduceEq, decide_true, decide_false, hlf]; rfl)))
              | with_reducible first | refine spB_yes (by decide) ?_ | refine spB_no (by decide) ?_ | refine spB_f ?_ | refine spB_not ?_ | refine spB_yes (by assumption) ?_ | refine spB_no (by assumption) ?_
              | (with_reducible refine spB_dec ?_ ?_ <;> intro _ <;> (try (exfalso; first | contradiction | omega | (rename_i hz; refine hz (decide_eq_decide.2 ?_); omega) | (rename_i hz; split at hz <;> omega) | (rename_i hz; refine hz ?_; simp; done) | (simp only [LN] at *; omega))))
              | with_reducible refine wr_i64 (by first | omega | (simp only [LN] at *; omega)) ?_
              | ((first | (with_reducible apply Z.conZ_mz ?_ (check_con _ _ _ ?_) ?_) | (with_reducible apply Z.callZ_mk ?_ (check_con _ _ _ ?_) ?_)); (rotate_left 3); (focus ((repeat' (first | exact trivial | exact rfl | exact Z.low_nil | exact Z.low_nil2 | exact low_osl (fun _ => rfl) | (refine Z.low_osln ?_ (fun _ => rfl); (simp only [List.length_map]; done)) | exact low_oslr (fun _ => rfl) | exact Z.low_gslm (by first | rfl | exact Z.kb_some rfl) (fun _ => rfl) | exact .inl rfl | exact .inr ⟨_, rfl⟩ | apply And.intro)); done)); (iterate 1 (focus (first | assumption | omega | ((try simp only [LN] at *); omega)))))
              | ((first | (with_reducible apply Z.conZ_mz ?_ (left_con _ _ _ _ ?_ ?_) ?_) | (with_reducible apply Z.callZ_mk ?_ (left_con _ _ _ _ ?_ ?_) ?_)); (rotate_left 4); (focus ((repeat' (first | exact trivial | exact rfl | exact Z.low_nil | exact Z.low_nil2 | exact low_osl (fun _ => rfl) | (refine Z.low_osln ?_ (fun _ => rfl); (simp only [List.length_map]; done)) | exact low_oslr (fun _ => rfl) | exact Z.low_gslm (by first | rfl | exact Z.kb_some rfl) (fun _ => rfl) | exact .inl rfl | exact .inr ⟨_, rfl⟩ | apply And.intro)); done)); (iterate 2 (focus (first | assumption | omega | ((try simp only [LN] at *); omega)))))
              | (focus (exact (rfl : Nat.ble _ _ = true))))
            all_goals (try (conv => whnf))
            all_goals try (show Nat.ble _ _ = true; rfl)
            all_goals first
              | ((refine Z.rndK ((i + 1, (e + 1), (w9 + 1), (now + a9 + (s9 + 1)), now + a9, (had ++ [(⟨w9 + 1, e + 1⟩ : Wh)]), es2)) (fun s => [0, 1, s.idAt 5]) rfl rfl rfl rfl ?_ ?_ ?_ ?_); (focus (repeat' (first | exact trivial | exact Z.map_sub (Z.MapL.ren HM fun _ => rfl) rfl | exact rfl | (rw [List.map_append (f := cW)]; exact rfl) | (rw [List.map_append (f := cW), List.map_append (f := cW)]; exact rfl) | (rw [List.map_append]; exact rfl) | apply And.intro))); (focus (repeat' (first | exact trivial | exact Z.map_sub (Z.MapL.ren HM fun _ => rfl) rfl | ((refine Z.gB_sub' rfl ?_ (ren_map fun _ => rfl)); (rw [List.map_append (f := cW), List.map_append (f := cW)]; exact rfl)) | (intro b hb; cases hb; rfl) | (intro b hb; cases hb; subst hlb; rfl) | (intro b hb; cases hb; rw [List.map_append (f := cW)]; rfl) | (intro b hb; cases hb; rw [List.map_append]; rfl) | (intro b hb; cases hb; done) | exact Z.blk_sub rfl rfl (ren_map fun _ => rfl) | exact Z.blk_sub rfl rfl (Z.ren_app (ren_map fun _ => rfl) (ren_map fun _ => rfl)) | exact Z.blk_sub rfl (by first | (rw [List.map_append]; rfl) | (rw [List.map_set]; rfl) | simp only [List.map_append, List.map_cons, List.map_nil, List.map_set]) (ren_map fun _ => rfl) | exact Z.gB_sub rfl rfl (ren_map fun _ => rfl) | exact Z.gB_sub' rfl (by first | rfl | (rw [List.map_append]; rfl) | simp only [List.map_append, List.map_cons, List.map_nil]) (ren_map fun _ => rfl) | apply And.intro))); (focus (dsimp only; exact ⟨by omega, by omega, by omega, by (try simp only [LN] at *) <;> omega, by (try simp only [LN] at *) <;> omega, HW2, by omega, _, HM, fun y => (HL y).trans (decide_eq_decide.2 (by omega))⟩)); ((try dsimp only); omega))
              | (exfalso; rename_i hz; cases hz; done)
              | (exfalso; (try simp only [LN] at *) <;> omega)
              | (exfalso; first | contradiction | omega | (rename_i hz; refine hz (decide_eq_decide.2 ?_); omega) | (rename_i hz; split at hz <;> omega) | (rename_i hz; refine hz ?_; simp; done) | (simp only [LN] at *; omega))
              | (fail)
          · have hlf : (if 0 < (e + 1) ∧ now + a9 < (now + a9 + (s9 + 1)) then (now + a9 + (s9 + 1)) - (now + a9) else 0) = 0 := if_neg fun h9 => hcu h9.2
            repeat' ((conv => whnf); first
              | (with_reducible refine spB_dec ?_ ?_ <;> intro _ <;> (try (exfalso; first | contradiction | omega | (rename_i hz; refine hz (decide_eq_decide.2 ?_); omega) | (rename_i hz; split at hz <;> omega) | (rename_i hz; refine hz ?_; simp; done) | (simp only [LN] at *; omega))))
              | (focus (exact (rfl : Nat.ble _ _ = true))))
            all_goals (try (conv => whnf))
            all_goals try (show Nat.ble _ _ = true; rfl)
            all_goals first
              | ((refine Z.rndK ((i + 1, (e + 1), (w9 + 1), (now + a9 + (s9 + 1)), now + a9, (had ++ [(⟨w9 + 1, e + 1⟩ : Wh)]), es2)) (fun s => [0, 1, s.idAt 5]) rfl rfl rfl rfl ?_ ?_ ?_ ?_); (focus (repeat' (first | exact trivial | exact Z.map_sub (Z.MapL.ren HM fun _ => rfl) rfl | exact rfl | (rw [List.map_append (f := cW)]; exact rfl) | (rw [List.map_append (f := cW), List.map_append (f := cW)]; exact rfl) | (rw [List.map_append]; exact rfl) | apply And.intro))); (focus (repeat' (first | exact trivial | exact Z.map_sub (Z.MapL.ren HM fun _ => rfl) rfl | ((refine Z.gB_sub' rfl ?_ (ren_map fun _ => rfl)); (rw [List.map_append (f := cW), List.map_append (f := cW)]; exact rfl)) | (intro b hb; cases hb; rfl) | (intro b hb; cases hb; subst hlb; rfl) | (intro b hb; cases hb; rw [List.map_append (f := cW)]; rfl) | (intro b hb; cases hb; rw [List.map_append]; rfl) | (intro b hb; cases hb; done) | exact Z.blk_sub rfl rfl (ren_map fun _ => rfl) | exact Z.blk_sub rfl rfl (Z.ren_app (ren_map fun _ => rfl) (ren_map fun _ => rfl)) | exact Z.blk_sub rfl (by first | (rw [List.map_append]; rfl) | (rw [List.map_set]; rfl) | simp only [List.map_append, List.map_cons, List.map_nil, List.map_set]) (ren_map fun _ => rfl) | exact Z.gB_sub rfl rfl (ren_map fun _ => rfl) | exact Z.gB_sub' rfl (by first | rfl | (rw [List.map_append]; rfl) | simp only [List.map_append, List.map_cons, List.map_nil]) (ren_map fun _ => rfl) | apply And.intro))); (focus (dsimp only; exact ⟨by omega, by omega, by omega, by (try simp only [LN] at *) <;> omega, by (try simp only [LN] at *) <;> omega, HW2, by omega, _, HM, fun y => (HL y).trans (decide_eq_decide.2 (by omega))⟩)); ((try dsimp only); omega))
              | (exfalso; rename_i hz; cases hz; done)
              | (exfalso; (try simp only [LN] at *) <;> omega)
              | (exfalso; first | contradiction | omega | (rename_i hz; refine hz (decide_eq_decide.2 ?_); omega) | (rename_i hz; split at hz <;> omega) | (rename_i hz; refine hz ?_; simp; done) | (simp only [LN] at *; omega))
              | (fail)
      · have hgB : gB 2 35 (had.map cW) = some ⟨had.map cW, 2, 35, false⟩ := gB_ne (fun h9 => by have := congrArg List.length h9; simp at this; subst this; simp at hne)
        rw [hgB]
        repeat' ((conv => whnf); first
          | with_reducible first | refine spB_t ?_
          | ((with_reducible apply spB_cong); (focus (simp only [beq_self_eq_true, bne_self_eq_false, Bool.true_bne, Bool.false_bne, Bool.bne_true, Bool.bne_false, Bool.true_beq, Bool.false_beq, Bool.not_true, Bool.not_false, Bool.not_not, Int.reduceBEq, Int.reduceBNe, Int.reduceLE, Int.reduceLT, Int.reduceEq, decide_true, decide_false]; rfl)))
          | (with_reducible refine spB_dec ?_ ?_ <;> intro _ <;> (try (exfalso; first | contradiction | omega | (rename_i hz; exact hz (by simp; done)) | (simp only [LN] at *; omega))))
          | (with_reducible refine spB_beq ?_ ?_ <;> intro _ <;> (try (exfalso; first | contradiction | omega | (rename_i hz; exact hz (by simp; done)) | (simp only [LN] at *; omega))))
          | (with_reducible refine spB_bne ?_ ?_ <;> intro _ <;> (try (exfalso; first | contradiction | omega | (rename_i hz; exact hz (by simp; done)) | (simp only [LN] at *; omega))))
          | with_reducible first | refine Z.rowN_known ho ?_
          | ((with_reducible refine vN_to a9 ?_ ?_); (focus (exact ha)))
          | ((with_reducible refine vN_to s9 ?_ ?_); (focus (exact hs)))
          | ((with_reducible refine vN_to w9 ?_ ?_); (focus (exact hw)))
          | ((with_reducible apply ixN_litp); (focus (exact rfl)); (focus ((try simp only [LN] at *) <;> omega)))
          | with_reducible refine wr_i64 (by first | omega | (simp only [LN] at *; omega)) ?_
          | with_reducible refine vN_mod (by omega) ?_
          | with_reducible first | refine vN_mk ?_
          | with_reducible refine nzN_mk (by omega) ?_
          | ((first | (with_reducible refine Z.conZ_mz ?_ (c1) ?_) | (with_reducible refine Z.callZ_mk ?_ (c1) ?_)); (focus ((repeat' (first | exact trivial | exact rfl | exact Z.low_nil | exact Z.low_nil2 | exact low_osl (fun _ => rfl) | (refine Z.low_osln ?_ (fun _ => rfl); (simp only [List.length_map]; done)) | exact low_oslr (fun _ => rfl) | exact Z.low_gslm (by first | rfl | exact Z.kb_some rfl) (fun _ => rfl) | exact .inl rfl | exact .inr ⟨_, rfl⟩ | apply And.intro)); done)))
          | (focus (exact (rfl : Nat.ble _ _ = true))))
        all_goals (try (conv => whnf))
        all_goals try (show Nat.ble _ _ = true; rfl)
        all_goals try (exfalso; rename_i hz; cases hz; done)
        all_goals try (exfalso; (try simp only [LN] at *) <;> omega)
        refine Z.loopK tabOk (fun zq : Nat × Y.MS => [(86, .val (.int .i64 (zq.1 : Int)))]) (fun zq : Nat × Y.MS => ([(1, some (Z.Ob.m zq.2)), (2, some (Z.Ob.b ⟨had.map cW, 2, 35, false⟩))] : Z.Kr)) (fun zq => zq.1 ≤ had.length ∧ ∃ L, Z.MapL .u64 enB zq.2 L ∧ ∀ y, (Z.lookK L y).getD false = decide (1 ≤ y ∧ (y < e ∨ y ≤ (zq.1 : Int)))) (fun zq => had.length - zq.1) (0, es) 6 [(3, _), (4, _), (5, _), (6, _), (10, _), (11, _), (12, _), (21, _), (22, _), (23, _), (84, _), (85, _)] ⟨rfl, rfl, rfl, rfl, rfl, rfl, rfl, rfl, rfl, rfl, rfl, rfl, trivial⟩ [(0, some _), (3, some _), (4, some _), (5, some _)] ⟨rfl, rfl, rfl, rfl, trivial⟩ ?_ ?_ rfl rfl ⟨Nat.zero_le _, L, HM, fun y => (HL y).trans (decide_eq_decide.2 (by dsimp only; omega))⟩ ?_
        · repeat' (first | exact trivial | apply And.intro | exact ⟨_, rfl, rfl⟩ | exact ⟨_, rfl, Z.Imp.refl _⟩ | exact ⟨_, rfl, Z.Imp.nilg _⟩ | exact ⟨_, rfl, Z.Imp.nilr _ _⟩)
        · repeat' (first | exact trivial | (intro b hb; cases hb; done) | exact (fun b hb => ⟨b, hb, Z.ImpO.refl b⟩) | (intro b hb; cases hb; refine ⟨_, rfl, ⟨rfl, rfl, rfl⟩, ?_⟩; (repeat' (first | exact trivial | apply And.intro | exact Z.Imp.refl _ | exact Z.Imp.nilg _ | exact Z.Imp.nilr _ _)); done) | apply And.intro)
        rintro ⟨j, es2⟩ HINV
        dsimp only at HINV ⊢
        obtain ⟨HJ, L, HM, HL⟩ := HINV
        by_cases hjl : j < had.length
        · obtain ⟨w, hwj⟩ := getElem?_some' (xs := had) (i := j) hjl
          obtain ⟨g1, g2, g3, g4⟩ := H6 j w hwj
          repeat' ((conv => whnf); first
            | with_reducible first | refine spB_yes (by decide) ?_ | refine spB_no (by decide) ?_ | refine spB_f ?_ | refine spB_not ?_ | refine spB_yes (by assumption) ?_ | refine spB_no (by assumption) ?_
            | (with_reducible refine spB_dec ?_ ?_ <;> intro _ <;> (try (exfalso; first | contradiction | omega | (rename_i hz; exact hz (by simp; done)) | (simp only [LN] at *; omega))))
            | ((with_reducible refine Z.MapL.upd' HM (v := true) ?_ ?_); (focus rfl); (intro es3 HM))
            | ((with_reducible refine rowN_mk (cW w) ?_ ?_); (focus (exact row_at hwj)))
            | ((with_reducible apply ixN_litp); (focus (exact rfl)); (focus ((try simp only [LN] at *) <;> omega)))
            | with_reducible refine wr_i64 (by first | omega | (simp only [LN] at *; omega)) ?_
            | ((first | (with_reducible apply Z.conZ_mz ?_ (holds_con _ _ _ _ _ _ ?_) ?_) | (with_reducible apply Z.callZ_mk ?_ (holds_con _ _ _ _ _ _ ?_) ?_)); (rotate_left 6); (focus ((repeat' (first | exact trivial | exact rfl | exact Z.low_nil | exact Z.low_nil2 | exact low_osl (fun _ => rfl) | (refine Z.low_osln ?_ (fun _ => rfl); (simp only [List.length_map]; done)) | exact low_oslr (fun _ => rfl) | exact Z.low_gslm (by first | rfl | exact Z.kb_some rfl) (fun _ => rfl) | exact .inl rfl | exact .inr ⟨_, rfl⟩ | apply And.intro)); done)); (iterate 1 (focus (first | assumption | omega | ((try simp only [LN] at *); omega)))))
            | (focus (exact (rfl : Nat.ble _ _ = true))))
          all_goals (try (conv => whnf))
          all_goals try (show Nat.ble _ _ = true; rfl)
          all_goals first
            | ((refine Z.rndK ((j + 1, es3)) (fun s => [0, 1, 2, 3, 4, 5]) rfl rfl rfl rfl ?_ ?_ ?_ ?_); (focus (repeat' (first | exact trivial | exact Z.map_sub (Z.MapL.ren HM fun _ => rfl) rfl | exact rfl | (rw [List.map_append]; exact rfl) | apply And.intro))); (focus (repeat' (first | exact trivial | exact Z.map_sub (Z.MapL.ren HM fun _ => rfl) rfl | (intro b hb; cases hb; rfl) | (intro b hb; cases hb; subst hlb; rfl) | (intro b hb; cases hb; rw [List.map_append]; rfl) | (intro b hb; cases hb; done) | exact Z.blk_sub rfl rfl (ren_map fun _ => rfl) | exact Z.blk_sub rfl rfl (Z.ren_app (ren_map fun _ => rfl) (ren_map fun _ => rfl)) | exact Z.blk_sub rfl (by first | (rw [List.map_append]; rfl) | (rw [List.map_set]; rfl) | simp only [List.map_append, List.map_cons, List.map_nil, List.map_set]) (ren_map fun _ => rfl) | exact Z.gB_sub rfl rfl (ren_map fun _ => rfl) | exact Z.gB_sub' rfl (by first | rfl | (rw [List.map_append]; rfl) | simp only [List.map_append, List.map_cons, List.map_nil]) (ren_map fun _ => rfl) | apply And.intro))); (focus (refine ⟨by dsimp only; omega, _, HM, put_dec HL (fun y => ?_)⟩; dsimp only; omega)); ((try dsimp only); omega))
            | (exfalso; rename_i hz; cases hz; done)
            | (exfalso; (try simp only [LN] at *) <;> omega)
            | (fail)
        have hj9 : j = had.length := by omega
        have HW2 : ∀ (k : Nat) (w : Wh), (had ++ [(⟨w9 + 1, e + 1⟩ : Wh)])[k]? = some w → 1 ≤ w.num ∧ w.num ≤ 3 ∧ w.ep = (k : Int) + 1 ∧ ((k : Int) + 1 = e + 1 → w.num = w9 + 1) := had_push H6 H5 (by omega)
        repeat' ((conv => whnf); first
          | ((with_reducible apply spB_cong); (focus (simp only [beq_self_eq_true, bne_self_eq_false, Bool.true_bne, Bool.false_bne, Bool.bne_true, Bool.bne_false, Bool.true_beq, Bool.false_beq, Bool.not_true, Bool.not_false, Bool.not_not, Int.reduceBEq, Int.reduceBNe, Int.reduceLE, Int.reduceLT, Int.reduceEq, decide_true, decide_false]; rfl)))
          | with_reducible first | refine spB_yes (by decide) ?_ | refine spB_no (by decide) ?_ | refine spB_f ?_ | refine spB_not ?_ | refine spB_yes (by assumption) ?_ | refine spB_no (by assumption) ?_
          | (with_reducible refine spB_dec ?_ ?_ <;> intro _ <;> (try (exfalso; first | contradiction | omega | (rename_i hz; exact hz (by simp; done)) | (simp only [LN] at *; omega))))
          | ((with_reducible refine eqN_mk2 ?_ ?_); (focus (rw [hgB]; first | exact rfl | exact Z.kb_some rfl)))
          | ((with_reducible refine posE_pos ?_ ?_); (focus ((try simp only [LN] at *) <;> omega)))
          | ((with_reducible refine apdN.mk ?_ ?_ ?_ ?_ ?_ ?_); (focus (first | rfl | (simp; done))); (focus (first | exact one_all (by rfl) | exact one_map (fun _ => rfl) | exact one_map2 (fun _ => rfl))); (focus ((try simp only [LN] at *) <;> omega)); (focus ((try simp only [LN] at *) <;> omega)); (focus ((try simp only [LN] at *) <;> omega)))
          | (focus (exact (rfl : Nat.ble _ _ = true))))
        all_goals (try (conv => whnf))
        all_goals try (show Nat.ble _ _ = true; rfl)
        all_goals try (exfalso; rename_i hz; cases hz; done)
        all_goals try (exfalso; (try simp only [LN] at *) <;> omega)
        refine Z.loopK tabOk (fun zq : Nat × Int => [(175, .val (.int .i64 (zq.1 : Int))), (15, .val (.int .i64 zq.2)), (5, .c (.gsl 7 ((had ++ [(⟨w9 + 1, e + 1⟩ : Wh)]).map cW))), (173, .c (.gsl 7 ((had ++ [(⟨w9 + 1, e + 1⟩ : Wh)]).map cW))), (174, .val (.int .i64 (((had.length + 1) : Nat) : Int)))]) (fun zq : Nat × Int => ([(7, some (Z.Ob.b ⟨(had ++ [(⟨w9 + 1, e + 1⟩ : Wh)]).map cW, 2, 35, false⟩))] : Z.Kr)) (fun zq => zq.1 ≤ (had.length + 1) ∧ (zq.1 < (had.length + 1) → zq.2 = 0) ∧ (zq.1 = (had.length + 1) → now + a9 < (now + a9 + (s9 + 1)) → zq.2 = 1) ∧ (zq.1 = (had.length + 1) → ¬ now + a9 < (now + a9 + (s9 + 1)) → zq.2 = 0)) (fun zq => (had.length + 1) - zq.1) (0, 0) 8 [(3, _), (4, _), (6, _), (21, _), (22, _), (23, _)] ⟨rfl, rfl, rfl, rfl, rfl, rfl, trivial⟩ [(0, some _), (1, some _), (3, some _), (4, some _), (5, some _), (6, some _)] ⟨rfl, rfl, rfl, rfl, rfl, rfl, trivial⟩ ?_ ?_ rfl rfl ⟨Nat.zero_le _, fun _ => rfl, fun h9 => absurd h9 (by dsimp only; omega), fun h9 => absurd h9 (by dsimp only; omega)⟩ ?_
        · repeat' (first | exact trivial | apply And.intro | exact ⟨_, rfl, rfl⟩ | exact ⟨_, rfl, Z.Imp.refl _⟩ | exact ⟨_, rfl, Z.Imp.nilg _⟩ | exact ⟨_, rfl, Z.Imp.nilr _ _⟩ | (refine ⟨_, rfl, ?_⟩; refine Z.Imp.of_eq ?_; (first | (show Ce.gsl _ _ = Ce.gsl _ _; rw [List.map_append (f := cW)]; rfl) | (simp; done)); done))
        · repeat' (first | exact trivial | (intro b hb; cases hb; done) | exact (fun b hb => ⟨b, hb, Z.ImpO.refl b⟩) | (intro b hb; cases hb; refine ⟨_, rfl, ⟨rfl, rfl, rfl⟩, ?_⟩; (repeat' (first | exact trivial | apply And.intro | exact Z.Imp.refl _ | exact Z.Imp.nilg _ | exact Z.Imp.nilr _ _)); done) | (intro b hb; cases hb; refine ⟨_, rfl, ⟨rfl, rfl, rfl⟩, Z.imp_eq ?_⟩; (rw [List.map_append (f := cW)]; rfl); done) | apply And.intro)
        rintro ⟨j2, hc⟩ HINV
        dsimp only at HINV ⊢
        obtain ⟨HJ2, HC1, HC2, HC3⟩ := HINV
        by_cases hj2 : j2 < (had.length + 1)
        · obtain ⟨w, hwj⟩ := getElem?_some' (xs := (had ++ [(⟨w9 + 1, e + 1⟩ : Wh)])) (i := j2) (by (try simp only [LN] at *) <;> omega)
          obtain ⟨g1, g2, g3, g4⟩ := HW2 j2 w hwj
          have hc0 := HC1 hj2
          subst hc0
          repeat' ((conv => whnf); first
            | (with_reducible refine spB_dec ?_ ?_ <;> intro _ <;> (try (exfalso; first | contradiction | omega | (rename_i hz; refine hz (decide_eq_decide.2 ?_); omega) | (rename_i hz; split at hz <;> omega) | (rename_i hz; refine hz ?_; simp; done) | (simp only [LN] at *; omega))))
            | (with_reducible refine spB_bne ?_ ?_ <;> intro _ <;> (try (exfalso; first | contradiction | omega | (rename_i hz; refine hz (decide_eq_decide.2 ?_); omega) | (rename_i hz; split at hz <;> omega) | (rename_i hz; refine hz ?_; simp; done) | (simp only [LN] at *; omega))))
            | ((with_reducible refine look_dec HM HL ?_ ?_); (focus rfl); (intro okk))
            | ((with_reducible refine rowN_mk (cW w) ?_ ?_); (focus (exact row_at hwj)))
            | ((with_reducible apply ixN_litp); (focus (exact rfl)); (focus ((try simp only [LN] at *) <;> omega)))
            | with_reducible refine wr_i64 (by first | omega | (simp only [LN] at *; omega)) ?_
            | ((first | (with_reducible apply Z.conZ_mz ?_ (stale_con _ _ _ _ ?_) ?_) | (with_reducible apply Z.callZ_mk ?_ (stale_con _ _ _ _ ?_) ?_)); (rotate_left 4); (focus ((repeat' (first | exact trivial | exact rfl | exact Z.low_nil | exact Z.low_nil2 | exact low_osl (fun _ => rfl) | (refine Z.low_osln ?_ (fun _ => rfl); (simp only [List.length_map]; done)) | exact low_oslr (fun _ => rfl) | exact Z.low_gslm (by first | rfl | exact Z.kb_some rfl) (fun _ => rfl) | exact .inl rfl | exact .inr ⟨_, rfl⟩ | apply And.intro)); done)); (iterate 1 (focus (first | assumption | omega | ((try simp only [LN] at *); omega)))))
            | ((first | (with_reducible apply Z.conZ_mz ?_ (holds_con _ _ _ _ _ _ ?_) ?_) | (with_reducible apply Z.callZ_mk ?_ (holds_con _ _ _ _ _ _ ?_) ?_)); (rotate_left 6); (focus ((repeat' (first | exact trivial | exact rfl | exact Z.low_nil | exact Z.low_nil2 | exact low_osl (fun _ => rfl) | (refine Z.low_osln ?_ (fun _ => rfl); (simp only [List.length_map]; done)) | exact low_oslr (fun _ => rfl) | exact Z.low_gslm (by first | rfl | exact Z.kb_some rfl) (fun _ => rfl) | exact .inl rfl | exact .inr ⟨_, rfl⟩ | apply And.intro)); done)); (iterate 1 (focus (first | assumption | omega | ((try simp only [LN] at *); omega)))))
            | with_reducible first | refine Z.drawZ_rule tabOk mixOk ?_ | refine Z.apZ_mk (by kernel_rfl) ?_
            | (focus (exact (rfl : Nat.ble _ _ = true))))
          all_goals (try (conv => whnf))
          all_goals try (show Nat.ble _ _ = true; rfl)
          all_goals first
            | ((refine Z.rndK ((j2 + 1, 0)) (fun s => [0, 1, 2, 3, 4, 5, 6, 7]) rfl rfl rfl rfl ?_ ?_ ?_ ?_); (focus (repeat' (first | exact trivial | exact Z.map_sub (Z.MapL.ren HM fun _ => rfl) rfl | exact rfl | (rw [List.map_append]; exact rfl) | apply And.intro))); (focus (repeat' (first | exact trivial | exact Z.map_sub (Z.MapL.ren HM fun _ => rfl) rfl | (intro b hb; cases hb; rfl) | (intro b hb; cases hb; subst hlb; rfl) | (intro b hb; cases hb; rw [List.map_append]; rfl) | (intro b hb; cases hb; done) | exact Z.blk_sub rfl rfl (ren_map fun _ => rfl) | exact Z.blk_sub rfl rfl (Z.ren_app (ren_map fun _ => rfl) (ren_map fun _ => rfl)) | exact Z.blk_sub rfl (by first | (rw [List.map_append]; rfl) | (rw [List.map_set]; rfl) | simp only [List.map_append, List.map_cons, List.map_nil, List.map_set]) (ren_map fun _ => rfl) | exact Z.gB_sub rfl rfl (ren_map fun _ => rfl) | exact Z.gB_sub' rfl (by first | rfl | (rw [List.map_append]; rfl) | simp only [List.map_append, List.map_cons, List.map_nil]) (ren_map fun _ => rfl) | apply And.intro))); (focus (((try dsimp only); refine ⟨by omega, fun h9 => ?_, fun h9 h8 => ?_, fun h9 h8 => ?_⟩ <;> omega))); ((try dsimp only); omega))
            | ((refine Z.rndK ((j2 + 1, 1)) (fun s => [0, 1, 2, 3, 4, 5, 6, 7]) rfl rfl rfl rfl ?_ ?_ ?_ ?_); (focus (repeat' (first | exact trivial | exact Z.map_sub (Z.MapL.ren HM fun _ => rfl) rfl | exact rfl | (rw [List.map_append]; exact rfl) | apply And.intro))); (focus (repeat' (first | exact trivial | exact Z.map_sub (Z.MapL.ren HM fun _ => rfl) rfl | (intro b hb; cases hb; rfl) | (intro b hb; cases hb; subst hlb; rfl) | (intro b hb; cases hb; rw [List.map_append]; rfl) | (intro b hb; cases hb; done) | exact Z.blk_sub rfl rfl (ren_map fun _ => rfl) | exact Z.blk_sub rfl rfl (Z.ren_app (ren_map fun _ => rfl) (ren_map fun _ => rfl)) | exact Z.blk_sub rfl (by first | (rw [List.map_append]; rfl) | (rw [List.map_set]; rfl) | simp only [List.map_append, List.map_cons, List.map_nil, List.map_set]) (ren_map fun _ => rfl) | exact Z.gB_sub rfl rfl (ren_map fun _ => rfl) | exact Z.gB_sub' rfl (by first | rfl | (rw [List.map_append]; rfl) | simp only [List.map_append, List.map_cons, List.map_nil]) (ren_map fun _ => rfl) | apply And.intro))); (focus (((try dsimp only); refine ⟨by omega, fun h9 => ?_, fun h9 h8 => ?_, fun h9 h8 => ?_⟩ <;> omega))); ((try dsimp only); omega))
            | (exfalso; rename_i hz; cases hz; done)
            | (exfalso; (try simp only [LN] at *) <;> omega)
            | (exfalso; first | contradiction | omega | (rename_i hz; refine hz (decide_eq_decide.2 ?_); omega) | (rename_i hz; split at hz <;> omega) | (rename_i hz; refine hz ?_; simp; done) | (simp only [LN] at *; omega))
            | (fail)
        · have hj3 : j2 = (had.length + 1) := by omega
          have hcc : (hc = 1 ∧ now + a9 < (now + a9 + (s9 + 1))) ∨ (hc = 0 ∧ ¬ now + a9 < (now + a9 + (s9 + 1))) := by by_cases h9 : now + a9 < (now + a9 + (s9 + 1)); exact .inl ⟨HC2 hj3 h9, h9⟩; exact .inr ⟨HC3 hj3 h9, h9⟩
          rcases hcc with ⟨rfl, hcu⟩ | ⟨rfl, hcu⟩
          · have hlf : (if 0 < (e + 1) ∧ now + a9 < (now + a9 + (s9 + 1)) then (now + a9 + (s9 + 1)) - (now + a9) else 0) = (now + a9 + (s9 + 1)) - (now + a9) := if_pos ⟨by omega, hcu⟩
            repeat' ((conv => whnf); first
              | ((with_reducible apply spB_cong); (focus (simp only [beq_self_eq_true, bne_self_eq_false, Bool.true_bne, Bool.false_bne, Bool.bne_true, Bool.bne_false, Bool.true_beq, Bool.false_beq, Bool.not_true, Bool.not_false, Bool.not_not, Int.reduceBEq, Int.reduceBNe, Int.reduceLE, Int.reduceLT, Int.reduceEq, decide_true, decide_false, hlf]; rfl)))
              | with_reducible first | refine spB_yes (by decide) ?_ | refine spB_no (by decide) ?_ | refine spB_f ?_ | refine spB_not ?_ | refine spB_yes (by assumption) ?_ | refine spB_no (by assumption) ?_
              | (with_reducible refine spB_dec ?_ ?_ <;> intro _ <;> (try (exfalso; first | contradiction | omega | (rename_i hz; refine hz (decide_eq_decide.2 ?_); omega) | (rename_i hz; split at hz <;> omega) | (rename_i hz; refine hz ?_; simp; done) | (simp only [LN] at *; omega))))
              | with_reducible refine wr_i64 (by first | omega | (simp only [LN] at *; omega)) ?_
              | ((first | (with_reducible apply Z.conZ_mz ?_ (check_con _ _ _ ?_) ?_) | (with_reducible apply Z.callZ_mk ?_ (check_con _ _ _ ?_) ?_)); (rotate_left 3); (focus ((repeat' (first | exact trivial | exact rfl | exact Z.low_nil | exact Z.low_nil2 | exact low_osl (fun _ => rfl) | (refine Z.low_osln ?_ (fun _ => rfl); (simp only [List.length_map]; done)) | exact low_oslr (fun _ => rfl) | exact Z.low_gslm (by first | rfl | exact Z.kb_some rfl) (fun _ => rfl) | exact .inl rfl | exact .inr ⟨_, rfl⟩ | apply And.intro)); done)); (iterate 1 (focus (first | assumption | omega | ((try simp only [LN] at *); omega)))))
              | ((first | (with_reducible apply Z.conZ_mz ?_ (left_con _ _ _ _ ?_ ?_) ?_) | (with_reducible apply Z.callZ_mk ?_ (left_con _ _ _ _ ?_ ?_) ?_)); (rotate_left 4); (focus ((repeat' (first | exact trivial | exact rfl | exact Z.low_nil | exact Z.low_nil2 | exact low_osl (fun _ => rfl) | (refine Z.low_osln ?_ (fun _ => rfl); (simp only [List.length_map]; done)) | exact low_oslr (fun _ => rfl) | exact Z.low_gslm (by first | rfl | exact Z.kb_some rfl) (fun _ => rfl) | exact .inl rfl | exact .inr ⟨_, rfl⟩ | apply And.intro)); done)); (iterate 2 (focus (first | assumption | omega | ((try simp only [LN] at *); omega)))))
              | (focus (exact (rfl : Nat.ble _ _ = true))))
            all_goals (try (conv => whnf))
            all_goals try (show Nat.ble _ _ = true; rfl)
            all_goals first
              | ((refine Z.rndK ((i + 1, (e + 1), (w9 + 1), (now + a9 + (s9 + 1)), now + a9, (had ++ [(⟨w9 + 1, e + 1⟩ : Wh)]), es2)) (fun s => [0, 1, s.idAt 5]) rfl rfl rfl rfl ?_ ?_ ?_ ?_); (focus (repeat' (first | exact trivial | exact Z.map_sub (Z.MapL.ren HM fun _ => rfl) rfl | exact rfl | (rw [List.map_append (f := cW)]; exact rfl) | (rw [List.map_append (f := cW), List.map_append (f := cW)]; exact rfl) | (rw [List.map_append]; exact rfl) | apply And.intro))); (focus (repeat' (first | exact trivial | exact Z.map_sub (Z.MapL.ren HM fun _ => rfl) rfl | ((refine Z.gB_sub' rfl ?_ (ren_map fun _ => rfl)); (rw [List.map_append (f := cW), List.map_append (f := cW)]; exact rfl)) | (intro b hb; cases hb; rfl) | (intro b hb; cases hb; subst hlb; rfl) | (intro b hb; cases hb; rw [List.map_append (f := cW)]; rfl) | (intro b hb; cases hb; rw [List.map_append]; rfl) | (intro b hb; cases hb; done) | exact Z.blk_sub rfl rfl (ren_map fun _ => rfl) | exact Z.blk_sub rfl rfl (Z.ren_app (ren_map fun _ => rfl) (ren_map fun _ => rfl)) | exact Z.blk_sub rfl (by first | (rw [List.map_append]; rfl) | (rw [List.map_set]; rfl) | simp only [List.map_append, List.map_cons, List.map_nil, List.map_set]) (ren_map fun _ => rfl) | exact Z.gB_sub rfl rfl (ren_map fun _ => rfl) | exact Z.gB_sub' rfl (by first | rfl | (rw [List.map_append]; rfl) | simp only [List.map_append, List.map_cons, List.map_nil]) (ren_map fun _ => rfl) | apply And.intro))); (focus (dsimp only; exact ⟨by omega, by omega, by omega, by (try simp only [LN] at *) <;> omega, by (try simp only [LN] at *) <;> omega, HW2, by omega, _, HM, fun y => (HL y).trans (decide_eq_decide.2 (by omega))⟩)); ((try dsimp only); omega))
              | (exfalso; rename_i hz; cases hz; done)
              | (exfalso; (try simp only [LN] at *) <;> omega)
              | (exfalso; first | contradiction | omega | (rename_i hz; refine hz (decide_eq_decide.2 ?_); omega) | (rename_i hz; split at hz <;> omega) | (rename_i hz; refine hz ?_; simp; done) | (simp only [LN] at *; omega))
              | (fail)
          · have hlf : (if 0 < (e + 1) ∧ now + a9 < (now + a9 + (s9 + 1)) then (now + a9 + (s9 + 1)) - (now + a9) else 0) = 0 := if_neg fun h9 => hcu h9.2
            repeat' ((conv => whnf); first
              | (with_reducible refine spB_dec ?_ ?_ <;> intro _ <;> (try (exfalso; first | contradiction | omega | (rename_i hz; refine hz (decide_eq_decide.2 ?_); omega) | (rename_i hz; split at hz <;> omega) | (rename_i hz; refine hz ?_; simp; done) | (simp only [LN] at *; omega))))
              | (focus (exact (rfl : Nat.ble _ _ = true))))
            all_goals (try (conv => whnf))
            all_goals try (show Nat.ble _ _ = true; rfl)
            all_goals first
              | ((refine Z.rndK ((i + 1, (e + 1), (w9 + 1), (now + a9 + (s9 + 1)), now + a9, (had ++ [(⟨w9 + 1, e + 1⟩ : Wh)]), es2)) (fun s => [0, 1, s.idAt 5]) rfl rfl rfl rfl ?_ ?_ ?_ ?_); (focus (repeat' (first | exact trivial | exact Z.map_sub (Z.MapL.ren HM fun _ => rfl) rfl | exact rfl | (rw [List.map_append (f := cW)]; exact rfl) | (rw [List.map_append (f := cW), List.map_append (f := cW)]; exact rfl) | (rw [List.map_append]; exact rfl) | apply And.intro))); (focus (repeat' (first | exact trivial | exact Z.map_sub (Z.MapL.ren HM fun _ => rfl) rfl | ((refine Z.gB_sub' rfl ?_ (ren_map fun _ => rfl)); (rw [List.map_append (f := cW), List.map_append (f := cW)]; exact rfl)) | (intro b hb; cases hb; rfl) | (intro b hb; cases hb; subst hlb; rfl) | (intro b hb; cases hb; rw [List.map_append (f := cW)]; rfl) | (intro b hb; cases hb; rw [List.map_append]; rfl) | (intro b hb; cases hb; done) | exact Z.blk_sub rfl rfl (ren_map fun _ => rfl) | exact Z.blk_sub rfl rfl (Z.ren_app (ren_map fun _ => rfl) (ren_map fun _ => rfl)) | exact Z.blk_sub rfl (by first | (rw [List.map_append]; rfl) | (rw [List.map_set]; rfl) | simp only [List.map_append, List.map_cons, List.map_nil, List.map_set]) (ren_map fun _ => rfl) | exact Z.gB_sub rfl rfl (ren_map fun _ => rfl) | exact Z.gB_sub' rfl (by first | rfl | (rw [List.map_append]; rfl) | simp only [List.map_append, List.map_cons, List.map_nil]) (ren_map fun _ => rfl) | apply And.intro))); (focus (dsimp only; exact ⟨by omega, by omega, by omega, by (try simp only [LN] at *) <;> omega, by (try simp only [LN] at *) <;> omega, HW2, by omega, _, HM, fun y => (HL y).trans (decide_eq_decide.2 (by omega))⟩)); ((try dsimp only); omega))
              | (exfalso; rename_i hz; cases hz; done)
              | (exfalso; (try simp only [LN] at *) <;> omega)
              | (exfalso; first | contradiction | omega | (rename_i hz; refine hz (decide_eq_decide.2 ?_); omega) | (rename_i hz; split at hz <;> omega) | (rename_i hz; refine hz ?_; simp; done) | (simp only [LN] at *; omega))
              | (fail)
  · by_cases hne : had.length = 0
    · have hrr := refR_no (e := e) (h := h) (u := u) (who := w9 + 1) (ep := 0) (now := now + a9) (by intro h9; omega)
      have c1 := ren_no e h u (w9 + 1) 0 (now + a9) (s9 + 1) _ HX (by omega) (by omega) (by omega) rfl hrr
      generalize refR e h u (w9 + 1) 0 (now + a9) = r at *
      repeat' ((conv => whnf); first
        | with_reducible first | refine spB_t ?_
        | ((with_reducible apply spB_cong); (focus (simp only [beq_self_eq_true, bne_self_eq_false, Bool.true_bne, Bool.false_bne, Bool.bne_true, Bool.bne_false, Bool.true_beq, Bool.false_beq, Bool.not_true, Bool.not_false, Bool.not_not, Int.reduceBEq, Int.reduceBNe, Int.reduceLE, Int.reduceLT, Int.reduceEq, decide_true, decide_false]; rfl)))
        | with_reducible first | refine spB_yes (by decide) ?_ | refine spB_no (by decide) ?_ | refine spB_f ?_ | refine spB_not ?_ | refine spB_yes (by assumption) ?_ | refine spB_no (by assumption) ?_
        | (with_reducible refine spB_dec ?_ ?_ <;> intro _ <;> (try (exfalso; first | contradiction | omega | (rename_i hz; refine hz (decide_eq_decide.2 ?_); omega) | (rename_i hz; split at hz <;> omega) | (rename_i hz; refine hz ?_; simp; done) | (simp only [LN] at *; omega))))
        | (with_reducible refine spB_beq ?_ ?_ <;> intro _ <;> (try (exfalso; first | contradiction | omega | (rename_i hz; refine hz (decide_eq_decide.2 ?_); omega) | (rename_i hz; split at hz <;> omega) | (rename_i hz; refine hz ?_; simp; done) | (simp only [LN] at *; omega))))
        | (with_reducible refine spB_bne ?_ ?_ <;> intro _ <;> (try (exfalso; first | contradiction | omega | (rename_i hz; refine hz (decide_eq_decide.2 ?_); omega) | (rename_i hz; split at hz <;> omega) | (rename_i hz; refine hz ?_; simp; done) | (simp only [LN] at *; omega))))
        | with_reducible first | refine Z.rowN_known ho ?_
        | ((with_reducible refine vN_to a9 ?_ ?_); (focus (exact ha)))
        | ((with_reducible refine vN_to s9 ?_ ?_); (focus (exact hs)))
        | ((with_reducible refine vN_to w9 ?_ ?_); (focus (exact hw)))
        | ((with_reducible refine vN_to r9 ?_ ?_); (focus (exact hr)))
        | ((with_reducible refine vN_to 1 ?_ ?_); (focus (exact hk)))
        | ((with_reducible apply ixN_litp); (focus (exact rfl)); (focus ((try simp only [LN] at *) <;> omega)))
        | with_reducible refine wr_i64 (by first | omega | (simp only [LN] at *; omega)) ?_
        | with_reducible refine nzN_mk (by omega) ?_
        | ((first | (with_reducible refine Z.conZ_mz ?_ (c1) ?_) | (with_reducible refine Z.callZ_mk ?_ (c1) ?_)); (focus ((repeat' (first | exact trivial | exact rfl | exact Z.low_nil | exact Z.low_nil2 | exact low_osl (fun _ => rfl) | (refine Z.low_osln ?_ (fun _ => rfl); (simp only [List.length_map]; done)) | exact low_oslr (fun _ => rfl) | exact Z.low_gslm (by first | rfl | exact Z.kb_some rfl) (fun _ => rfl) | exact .inl rfl | exact .inr ⟨_, rfl⟩ | apply And.intro)); done)))
        | (focus (exact (rfl : Nat.ble _ _ = true))))
      all_goals (try (conv => whnf))
      all_goals try (show Nat.ble _ _ = true; rfl)
      all_goals first
        | ((refine Z.rndK ((i + 1, e, h, u, now + a9, had, es)) (fun s => [0, 1, s.idAt 5]) rfl rfl rfl rfl ?_ ?_ ?_ ?_); (focus (repeat' (first | exact trivial | exact Z.map_sub (Z.MapL.ren HM fun _ => rfl) rfl | exact rfl | (rw [List.map_append]; exact rfl) | apply And.intro))); (focus (repeat' (first | exact trivial | exact Z.map_sub (Z.MapL.ren HM fun _ => rfl) rfl | (intro b hb; cases hb; rfl) | (intro b hb; cases hb; subst hlb; rfl) | (intro b hb; cases hb; rw [List.map_append]; rfl) | (intro b hb; cases hb; done) | exact Z.blk_sub rfl rfl (ren_map fun _ => rfl) | exact Z.blk_sub rfl rfl (Z.ren_app (ren_map fun _ => rfl) (ren_map fun _ => rfl)) | exact Z.blk_sub rfl (by first | (rw [List.map_append]; rfl) | (rw [List.map_set]; rfl) | simp only [List.map_append, List.map_cons, List.map_nil, List.map_set]) (ren_map fun _ => rfl) | exact Z.gB_sub rfl rfl (ren_map fun _ => rfl) | exact Z.gB_sub' rfl (by first | rfl | (rw [List.map_append]; rfl) | simp only [List.map_append, List.map_cons, List.map_nil]) (ren_map fun _ => rfl) | apply And.intro))); (focus (dsimp only; exact ⟨by omega, by omega, by omega, by omega, H5, H6, by omega, L, HM, HL⟩)); ((try dsimp only); omega))
        | (exfalso; rename_i hz; cases hz; done)
        | (exfalso; (try simp only [LN] at *) <;> omega)
        | (exfalso; first | contradiction | omega | (rename_i hz; refine hz (decide_eq_decide.2 ?_); omega) | (rename_i hz; split at hz <;> omega) | (rename_i hz; refine hz ?_; simp; done) | (simp only [LN] at *; omega))
        | (fail)
    · have hgB : gB 2 35 (had.map cW) = some ⟨had.map cW, 2, 35, false⟩ := gB_ne (fun h9 => by have := congrArg List.length h9; simp at this; subst this; simp at hne)
      rw [hgB]
      obtain ⟨k, hki, hkl⟩ := tm_n (a := o.had) (n := had.length) (by omega)
      obtain ⟨w, hwj⟩ := getElem?_some' (xs := had) (i := k) hkl
      obtain ⟨g1, g2, g3, g4⟩ := H6 k w hwj
      by_cases hy : w.ep = e ∧ w.num = h ∧ 0 < e ∧ now + a9 < u
      rotate_left
      · have hrr := refR_no hy
        have c1 := ren_no e h u w.num w.ep (now + a9) (s9 + 1) _ HX (by omega) (by omega) (by omega) rfl hrr
        generalize refR e h u w.num w.ep (now + a9) = r at *
        repeat' ((conv => whnf); first
          | with_reducible first | refine spB_t ?_
          | ((with_reducible apply spB_cong); (focus (simp only [beq_self_eq_true, bne_self_eq_false, Bool.true_bne, Bool.false_bne, Bool.bne_true, Bool.bne_false, Bool.true_beq, Bool.false_beq, Bool.not_true, Bool.not_false, Bool.not_not, Int.reduceBEq, Int.reduceBNe, Int.reduceLE, Int.reduceLT, Int.reduceEq, decide_true, decide_false]; rfl)))
          | with_reducible first | refine spB_yes (by decide) ?_ | refine spB_no (by decide) ?_ | refine spB_f ?_ | refine spB_not ?_ | refine spB_yes (by assumption) ?_ | refine spB_no (by assumption) ?_
          | (with_reducible refine spB_dec ?_ ?_ <;> intro _ <;> (try (exfalso; first | contradiction | omega | (rename_i hz; refine hz (decide_eq_decide.2 ?_); omega) | (rename_i hz; split at hz <;> omega) | (rename_i hz; refine hz ?_; simp; done) | (simp only [LN] at *; omega))))
          | (with_reducible refine spB_beq ?_ ?_ <;> intro _ <;> (try (exfalso; first | contradiction | omega | (rename_i hz; refine hz (decide_eq_decide.2 ?_); omega) | (rename_i hz; split at hz <;> omega) | (rename_i hz; refine hz ?_; simp; done) | (simp only [LN] at *; omega))))
          | (with_reducible refine spB_bne ?_ ?_ <;> intro _ <;> (try (exfalso; first | contradiction | omega | (rename_i hz; refine hz (decide_eq_decide.2 ?_); omega) | (rename_i hz; split at hz <;> omega) | (rename_i hz; refine hz ?_; simp; done) | (simp only [LN] at *; omega))))
          | with_reducible first | refine Z.rowN_known ho ?_
          | ((with_reducible refine vN_to a9 ?_ ?_); (focus (exact ha)))
          | ((with_reducible refine vN_to s9 ?_ ?_); (focus (exact hs)))
          | ((with_reducible refine vN_to w9 ?_ ?_); (focus (exact hw)))
          | ((with_reducible refine vN_to r9 ?_ ?_); (focus (exact hr)))
          | ((with_reducible refine vN_to 1 ?_ ?_); (focus (exact hk)))
          | ((with_reducible refine vN_to (k : Int) ?_ ?_); (focus (rw [List.length_map]; exact hki)))
          | ((with_reducible refine ixN_mk k ?_ ?_ ?_); (focus omega); (focus ((try simp only [LN] at *) <;> omega)))
          | ((with_reducible refine rowN_mk (cW w) ?_ ?_); (focus (exact row_at hwj)))
          | ((with_reducible apply ixN_litp); (focus (exact rfl)); (focus ((try simp only [LN] at *) <;> omega)))
          | with_reducible refine wr_i64 (by first | omega | (simp only [LN] at *; omega)) ?_
          | with_reducible refine nzN_mk (by omega) ?_
          | ((first | (with_reducible refine Z.conZ_mz ?_ (c1) ?_) | (with_reducible refine Z.callZ_mk ?_ (c1) ?_)); (focus ((repeat' (first | exact trivial | exact rfl | exact Z.low_nil | exact Z.low_nil2 | exact low_osl (fun _ => rfl) | (refine Z.low_osln ?_ (fun _ => rfl); (simp only [List.length_map]; done)) | exact low_oslr (fun _ => rfl) | exact Z.low_gslm (by first | rfl | exact Z.kb_some rfl) (fun _ => rfl) | exact .inl rfl | exact .inr ⟨_, rfl⟩ | apply And.intro)); done)))
          | (focus (exact (rfl : Nat.ble _ _ = true))))
        all_goals (try (conv => whnf))
        all_goals try (show Nat.ble _ _ = true; rfl)
        all_goals first
          | ((refine Z.rndK ((i + 1, e, h, u, now + a9, had, es)) (fun s => [0, 1, s.idAt 5]) rfl rfl rfl rfl ?_ ?_ ?_ ?_); (focus (repeat' (first | exact trivial | exact Z.map_sub (Z.MapL.ren HM fun _ => rfl) rfl | exact rfl | (rw [List.map_append]; exact rfl) | apply And.intro))); (focus (repeat' (first | exact trivial | exact Z.map_sub (Z.MapL.ren HM fun _ => rfl) rfl | (intro b hb; cases hb; rfl) | (intro b hb; cases hb; subst hlb; rfl) | (intro b hb; cases hb; rw [List.map_append]; rfl) | (intro b hb; cases hb; done) | exact Z.blk_sub rfl rfl (ren_map fun _ => rfl) | exact Z.blk_sub rfl rfl (Z.ren_app (ren_map fun _ => rfl) (ren_map fun _ => rfl)) | exact Z.blk_sub rfl (by first | (rw [List.map_append]; rfl) | (rw [List.map_set]; rfl) | simp only [List.map_append, List.map_cons, List.map_nil, List.map_set]) (ren_map fun _ => rfl) | exact Z.gB_sub rfl rfl (ren_map fun _ => rfl) | exact Z.gB_sub' rfl (by first | rfl | (rw [List.map_append]; rfl) | simp only [List.map_append, List.map_cons, List.map_nil]) (ren_map fun _ => rfl) | apply And.intro))); (focus (dsimp only; exact ⟨by omega, by omega, by omega, by omega, H5, H6, by omega, L, HM, HL⟩)); ((try dsimp only); omega))
          | (exfalso; rename_i hz; cases hz; done)
          | (exfalso; (try simp only [LN] at *) <;> omega)
          | (exfalso; first | contradiction | omega | (rename_i hz; refine hz (decide_eq_decide.2 ?_); omega) | (rename_i hz; split at hz <;> omega) | (rename_i hz; refine hz ?_; simp; done) | (simp only [LN] at *; omega))
          | (fail)
      have c1 := ren_yes e h u w.num w.ep (now + a9) (s9 + 1) HX (by omega) (by omega) (by omega) (refR_yes hy)
      repeat' ((conv => whnf); first
        | with_reducible first | refine spB_t ?_
        | ((with_reducible apply spB_cong); (focus (simp only [beq_self_eq_true, bne_self_eq_false, Bool.true_bne, Bool.false_bne, Bool.bne_true, Bool.bne_false, Bool.true_beq, Bool.false_beq, Bool.not_true, Bool.not_false, Bool.not_not, Int.reduceBEq, Int.reduceBNe, Int.reduceLE, Int.reduceLT, Int.reduceEq, decide_true, decide_false]; rfl)))
        | with_reducible first | refine spB_yes (by decide) ?_ | refine spB_no (by decide) ?_ | refine spB_f ?_ | refine spB_not ?_ | refine spB_yes (by assumption) ?_ | refine spB_no (by assumption) ?_
        | (with_reducible refine spB_dec ?_ ?_ <;> intro _ <;> (try (exfalso; first | contradiction | omega | (rename_i hz; refine hz (decide_eq_decide.2 ?_); omega) | (rename_i hz; split at hz <;> omega) | (rename_i hz; refine hz ?_; simp; done) | (simp only [LN] at *; omega))))
        | (with_reducible refine spB_beq ?_ ?_ <;> intro _ <;> (try (exfalso; first | contradiction | omega | (rename_i hz; refine hz (decide_eq_decide.2 ?_); omega) | (rename_i hz; split at hz <;> omega) | (rename_i hz; refine hz ?_; simp; done) | (simp only [LN] at *; omega))))
        | (with_reducible refine spB_bne ?_ ?_ <;> intro _ <;> (try (exfalso; first | contradiction | omega | (rename_i hz; refine hz (decide_eq_decide.2 ?_); omega) | (rename_i hz; split at hz <;> omega) | (rename_i hz; refine hz ?_; simp; done) | (simp only [LN] at *; omega))))
        | with_reducible first | refine Z.rowN_known ho ?_
        | ((with_reducible refine vN_to a9 ?_ ?_); (focus (exact ha)))
        | ((with_reducible refine vN_to s9 ?_ ?_); (focus (exact hs)))
        | ((with_reducible refine vN_to w9 ?_ ?_); (focus (exact hw)))
        | ((with_reducible refine vN_to r9 ?_ ?_); (focus (exact hr)))
        | ((with_reducible refine vN_to 1 ?_ ?_); (focus (exact hk)))
        | ((with_reducible refine look_dec HM HL ?_ ?_); (focus rfl); (intro okk))
        | ((with_reducible refine vN_to (k : Int) ?_ ?_); (focus (rw [List.length_map]; exact hki)))
        | ((with_reducible refine ixN_mk k ?_ ?_ ?_); (focus omega); (focus ((try simp only [LN] at *) <;> omega)))
        | ((with_reducible refine rowN_mk (cW w) ?_ ?_); (focus (exact row_at hwj)))
        | ((with_reducible apply ixN_litp); (focus (exact rfl)); (focus ((try simp only [LN] at *) <;> omega)))
        | with_reducible refine wr_i64 (by first | omega | (simp only [LN] at *; omega)) ?_
        | with_reducible refine nzN_mk (by omega) ?_
        | ((first | (with_reducible refine Z.conZ_mz ?_ (c1) ?_) | (with_reducible refine Z.callZ_mk ?_ (c1) ?_)); (focus ((repeat' (first | exact trivial | exact rfl | exact Z.low_nil | exact Z.low_nil2 | exact low_osl (fun _ => rfl) | (refine Z.low_osln ?_ (fun _ => rfl); (simp only [List.length_map]; done)) | exact low_oslr (fun _ => rfl) | exact Z.low_gslm (by first | rfl | exact Z.kb_some rfl) (fun _ => rfl) | exact .inl rfl | exact .inr ⟨_, rfl⟩ | apply And.intro)); done)))
        | ((first | (with_reducible apply Z.conZ_mz ?_ (holds_con _ _ _ _ _ _ ?_) ?_) | (with_reducible apply Z.callZ_mk ?_ (holds_con _ _ _ _ _ _ ?_) ?_)); (rotate_left 6); (focus ((repeat' (first | exact trivial | exact rfl | exact Z.low_nil | exact Z.low_nil2 | exact low_osl (fun _ => rfl) | (refine Z.low_osln ?_ (fun _ => rfl); (simp only [List.length_map]; done)) | exact low_oslr (fun _ => rfl) | exact Z.low_gslm (by first | rfl | exact Z.kb_some rfl) (fun _ => rfl) | exact .inl rfl | exact .inr ⟨_, rfl⟩ | apply And.intro)); done)); (iterate 1 (focus (first | assumption | omega | ((try simp only [LN] at *); omega)))))
        | (focus (exact (rfl : Nat.ble _ _ = true))))
      all_goals (try (conv => whnf))
      all_goals try (show Nat.ble _ _ = true; rfl)
      all_goals try (exfalso; rename_i hz; cases hz; done)
      all_goals try (exfalso; (try simp only [LN] at *) <;> omega)
      all_goals try (exfalso; first | contradiction | omega | (rename_i hz; refine hz (decide_eq_decide.2 ?_); omega) | (rename_i hz; split at hz <;> omega) | (rename_i hz; refine hz ?_; simp; done) | (simp only [LN] at *; omega))
      refine Z.loopK tabOk (fun zq : Nat × Int => [(175, .val (.int .i64 (zq.1 : Int))), (15, .val (.int .i64 zq.2))]) (fun zq : Nat × Int => ([] : Z.Kr)) (fun zq => zq.1 ≤ had.length ∧ (zq.1 < had.length → zq.2 = 0) ∧ (zq.1 = had.length → now + a9 < (max u (now + a9 + (s9 + 1))) → zq.2 = 1) ∧ (zq.1 = had.length → ¬ now + a9 < (max u (now + a9 + (s9 + 1))) → zq.2 = 0)) (fun zq => had.length - zq.1) (0, 0) 6 [(3, _), (4, _), (5, _), (6, _), (21, _), (22, _), (23, _), (173, _), (174, _)] ⟨rfl, rfl, rfl, rfl, rfl, rfl, rfl, rfl, rfl, trivial⟩ [(0, some _), (1, some _), (2, some _), (3, some _), (4, some _), (5, some _)] ⟨rfl, rfl, rfl, rfl, rfl, rfl, trivial⟩ ?_ ?_ rfl rfl ⟨Nat.zero_le _, fun _ => rfl, fun h9 => absurd h9 (by dsimp only; omega), fun h9 => absurd h9 (by dsimp only; omega)⟩ ?_
      · repeat' (first | exact trivial | apply And.intro | exact ⟨_, rfl, rfl⟩ | exact ⟨_, rfl, Z.Imp.refl _⟩ | exact ⟨_, rfl, Z.Imp.nilg _⟩ | exact ⟨_, rfl, Z.Imp.nilr _ _⟩)
      · repeat' (first | exact trivial | (intro b hb; cases hb; done) | exact (fun b hb => ⟨b, hb, Z.ImpO.refl b⟩) | (intro b hb; cases hb; refine ⟨_, rfl, ⟨rfl, rfl, rfl⟩, ?_⟩; (repeat' (first | exact trivial | apply And.intro | exact Z.Imp.refl _ | exact Z.Imp.nilg _ | exact Z.Imp.nilr _ _)); done) | apply And.intro)
      rintro ⟨j2, hc⟩ HINV
      dsimp only at HINV ⊢
      obtain ⟨HJ2, HC1, HC2, HC3⟩ := HINV
      by_cases hj2 : j2 < had.length
      · obtain ⟨w, hwj⟩ := getElem?_some' (xs := had) (i := j2) (by (try simp only [LN] at *) <;> omega)
        obtain ⟨g1, g2, g3, g4⟩ := H6 j2 w hwj
        have hc0 := HC1 hj2
        subst hc0
        repeat' ((conv => whnf); first
          | (with_reducible refine spB_dec ?_ ?_ <;> intro _ <;> (try (exfalso; first | contradiction | omega | (rename_i hz; refine hz (decide_eq_decide.2 ?_); omega) | (rename_i hz; split at hz <;> omega) | (rename_i hz; refine hz ?_; simp; done) | (simp only [LN] at *; omega))))
          | (with_reducible refine spB_bne ?_ ?_ <;> intro _ <;> (try (exfalso; first | contradiction | omega | (rename_i hz; refine hz (decide_eq_decide.2 ?_); omega) | (rename_i hz; split at hz <;> omega) | (rename_i hz; refine hz ?_; simp; done) | (simp only [LN] at *; omega))))
          | ((with_reducible refine look_dec HM HL ?_ ?_); (focus rfl); (intro okk))
          | ((with_reducible refine rowN_mk (cW w) ?_ ?_); (focus (exact row_at hwj)))
          | ((with_reducible apply ixN_litp); (focus (exact rfl)); (focus ((try simp only [LN] at *) <;> omega)))
          | with_reducible refine wr_i64 (by first | omega | (simp only [LN] at *; omega)) ?_
          | ((first | (with_reducible apply Z.conZ_mz ?_ (stale_con _ _ _ _ ?_) ?_) | (with_reducible apply Z.callZ_mk ?_ (stale_con _ _ _ _ ?_) ?_)); (rotate_left 4); (focus ((repeat' (first | exact trivial | exact rfl | exact Z.low_nil | exact Z.low_nil2 | exact low_osl (fun _ => rfl) | (refine Z.low_osln ?_ (fun _ => rfl); (simp only [List.length_map]; done)) | exact low_oslr (fun _ => rfl) | exact Z.low_gslm (by first | rfl | exact Z.kb_some rfl) (fun _ => rfl) | exact .inl rfl | exact .inr ⟨_, rfl⟩ | apply And.intro)); done)); (iterate 1 (focus (first | assumption | omega | ((try simp only [LN] at *); omega)))))
          | ((first | (with_reducible apply Z.conZ_mz ?_ (holds_con _ _ _ _ _ _ ?_) ?_) | (with_reducible apply Z.callZ_mk ?_ (holds_con _ _ _ _ _ _ ?_) ?_)); (rotate_left 6); (focus ((repeat' (first | exact trivial | exact rfl | exact Z.low_nil | exact Z.low_nil2 | exact low_osl (fun _ => rfl) | (refine Z.low_osln ?_ (fun _ => rfl); (simp only [List.length_map]; done)) | exact low_oslr (fun _ => rfl) | exact Z.low_gslm (by first | rfl | exact Z.kb_some rfl) (fun _ => rfl) | exact .inl rfl | exact .inr ⟨_, rfl⟩ | apply And.intro)); done)); (iterate 1 (focus (first | assumption | omega | ((try simp only [LN] at *); omega)))))
          | with_reducible first | refine Z.drawZ_rule tabOk mixOk ?_ | refine Z.apZ_mk (by kernel_rfl) ?_
          | (focus (exact (rfl : Nat.ble _ _ = true))))
        all_goals (try (conv => whnf))
        all_goals try (show Nat.ble _ _ = true; rfl)
        all_goals first
          | ((refine Z.rndK ((j2 + 1, 0)) (fun s => [0, 1, 2, 3, 4, 5]) rfl rfl rfl rfl ?_ ?_ ?_ ?_); (focus (repeat' (first | exact trivial | exact Z.map_sub (Z.MapL.ren HM fun _ => rfl) rfl | exact rfl | (rw [List.map_append]; exact rfl) | apply And.intro))); (focus (repeat' (first | exact trivial | exact Z.map_sub (Z.MapL.ren HM fun _ => rfl) rfl | (intro b hb; cases hb; rfl) | (intro b hb; cases hb; subst hlb; rfl) | (intro b hb; cases hb; rw [List.map_append]; rfl) | (intro b hb; cases hb; done) | exact Z.blk_sub rfl rfl (ren_map fun _ => rfl) | exact Z.blk_sub rfl rfl (Z.ren_app (ren_map fun _ => rfl) (ren_map fun _ => rfl)) | exact Z.blk_sub rfl (by first | (rw [List.map_append]; rfl) | (rw [List.map_set]; rfl) | simp only [List.map_append, List.map_cons, List.map_nil, List.map_set]) (ren_map fun _ => rfl) | exact Z.gB_sub rfl rfl (ren_map fun _ => rfl) | exact Z.gB_sub' rfl (by first | rfl | (rw [List.map_append]; rfl) | simp only [List.map_append, List.map_cons, List.map_nil]) (ren_map fun _ => rfl) | apply And.intro))); (focus (((try dsimp only); refine ⟨by omega, fun h9 => ?_, fun h9 h8 => ?_, fun h9 h8 => ?_⟩ <;> omega))); ((try dsimp only); omega))
          | ((refine Z.rndK ((j2 + 1, 1)) (fun s => [0, 1, 2, 3, 4, 5]) rfl rfl rfl rfl ?_ ?_ ?_ ?_); (focus (repeat' (first | exact trivial | exact Z.map_sub (Z.MapL.ren HM fun _ => rfl) rfl | exact rfl | (rw [List.map_append]; exact rfl) | apply And.intro))); (focus (repeat' (first | exact trivial | exact Z.map_sub (Z.MapL.ren HM fun _ => rfl) rfl | (intro b hb; cases hb; rfl) | (intro b hb; cases hb; subst hlb; rfl) | (intro b hb; cases hb; rw [List.map_append]; rfl) | (intro b hb; cases hb; done) | exact Z.blk_sub rfl rfl (ren_map fun _ => rfl) | exact Z.blk_sub rfl rfl (Z.ren_app (ren_map fun _ => rfl) (ren_map fun _ => rfl)) | exact Z.blk_sub rfl (by first | (rw [List.map_append]; rfl) | (rw [List.map_set]; rfl) | simp only [List.map_append, List.map_cons, List.map_nil, List.map_set]) (ren_map fun _ => rfl) | exact Z.gB_sub rfl rfl (ren_map fun _ => rfl) | exact Z.gB_sub' rfl (by first | rfl | (rw [List.map_append]; rfl) | simp only [List.map_append, List.map_cons, List.map_nil]) (ren_map fun _ => rfl) | apply And.intro))); (focus (((try dsimp only); refine ⟨by omega, fun h9 => ?_, fun h9 h8 => ?_, fun h9 h8 => ?_⟩ <;> omega))); ((try dsimp only); omega))
          | (exfalso; rename_i hz; cases hz; done)
          | (exfalso; (try simp only [LN] at *) <;> omega)
          | (exfalso; first | contradiction | omega | (rename_i hz; refine hz (decide_eq_decide.2 ?_); omega) | (rename_i hz; split at hz <;> omega) | (rename_i hz; refine hz ?_; simp; done) | (simp only [LN] at *; omega))
          | (fail)
      · have hj3 : j2 = had.length := by omega
        have hcc : (hc = 1 ∧ now + a9 < (max u (now + a9 + (s9 + 1)))) ∨ (hc = 0 ∧ ¬ now + a9 < (max u (now + a9 + (s9 + 1)))) := by by_cases h9 : now + a9 < (max u (now + a9 + (s9 + 1))); exact .inl ⟨HC2 hj3 h9, h9⟩; exact .inr ⟨HC3 hj3 h9, h9⟩
        rcases hcc with ⟨rfl, hcu⟩ | ⟨rfl, hcu⟩
        · have hlf : (if 0 < e ∧ now + a9 < (max u (now + a9 + (s9 + 1))) then (max u (now + a9 + (s9 + 1))) - (now + a9) else 0) = (max u (now + a9 + (s9 + 1))) - (now + a9) := if_pos ⟨by omega, hcu⟩
          repeat' ((conv => whnf); first
            | ((with_reducible apply spB_cong); (focus (simp only [beq_self_eq_true, bne_self_eq_false, Bool.true_bne, Bool.false_bne, Bool.bne_true, Bool.bne_false, Bool.true_beq, Bool.false_beq, Bool.not_true, Bool.not_false, Bool.not_not, Int.reduceBEq, Int.reduceBNe, Int.reduceLE, Int.reduceLT, Int.reduceEq, decide_true, decide_false, hlf]; rfl)))
            | with_reducible first | refine spB_yes (by decide) ?_ | refine spB_no (by decide) ?_ | refine spB_f ?_ | refine spB_not ?_ | refine spB_yes (by assumption) ?_ | refine spB_no (by assumption) ?_
            | (with_reducible refine spB_dec ?_ ?_ <;> intro _ <;> (try (exfalso; first | contradiction | omega | (rename_i hz; refine hz (decide_eq_decide.2 ?_); omega) | (rename_i hz; split at hz <;> omega) | (rename_i hz; refine hz ?_; simp; done) | (simp only [LN] at *; omega))))
            | with_reducible refine wr_i64 (by first | omega | (simp only [LN] at *; omega)) ?_
            | ((first | (with_reducible apply Z.conZ_mz ?_ (check_con _ _ _ ?_) ?_) | (with_reducible apply Z.callZ_mk ?_ (check_con _ _ _ ?_) ?_)); (rotate_left 3); (focus ((repeat' (first | exact trivial | exact rfl | exact Z.low_nil | exact Z.low_nil2 | exact low_osl (fun _ => rfl) | (refine Z.low_osln ?_ (fun _ => rfl); (simp only [List.length_map]; done)) | exact low_oslr (fun _ => rfl) | exact Z.low_gslm (by first | rfl | exact Z.kb_some rfl) (fun _ => rfl) | exact .inl rfl | exact .inr ⟨_, rfl⟩ | apply And.intro)); done)); (iterate 1 (focus (first | assumption | omega | ((try simp only [LN] at *); omega)))))
            | ((first | (with_reducible apply Z.conZ_mz ?_ (left_con _ _ _ _ ?_ ?_) ?_) | (with_reducible apply Z.callZ_mk ?_ (left_con _ _ _ _ ?_ ?_) ?_)); (rotate_left 4); (focus ((repeat' (first | exact trivial | exact rfl | exact Z.low_nil | exact Z.low_nil2 | exact low_osl (fun _ => rfl) | (refine Z.low_osln ?_ (fun _ => rfl); (simp only [List.length_map]; done)) | exact low_oslr (fun _ => rfl) | exact Z.low_gslm (by first | rfl | exact Z.kb_some rfl) (fun _ => rfl) | exact .inl rfl | exact .inr ⟨_, rfl⟩ | apply And.intro)); done)); (iterate 2 (focus (first | assumption | omega | ((try simp only [LN] at *); omega)))))
            | (focus (exact (rfl : Nat.ble _ _ = true))))
          all_goals (try (conv => whnf))
          all_goals try (show Nat.ble _ _ = true; rfl)
          all_goals first
            | ((refine Z.rndK ((i + 1, e, h, (max u (now + a9 + (s9 + 1))), now + a9, had, es)) (fun s => [0, 1, s.idAt 5]) rfl rfl rfl rfl ?_ ?_ ?_ ?_); (focus (repeat' (first | exact trivial | exact Z.map_sub (Z.MapL.ren HM fun _ => rfl) rfl | exact rfl | (rw [List.map_append (f := cW)]; exact rfl) | (rw [List.map_append (f := cW), List.map_append (f := cW)]; exact rfl) | (rw [List.map_append]; exact rfl) | apply And.intro))); (focus (repeat' (first | exact trivial | exact Z.map_sub (Z.MapL.ren HM fun _ => rfl) rfl | ((refine Z.gB_sub' rfl ?_ (ren_map fun _ => rfl)); (rw [List.map_append (f := cW), List.map_append (f := cW)]; exact rfl)) | (intro b hb; cases hb; rfl) | (intro b hb; cases hb; subst hlb; rfl) | (intro b hb; cases hb; rw [List.map_append (f := cW)]; rfl) | (intro b hb; cases hb; rw [List.map_append]; rfl) | (intro b hb; cases hb; done) | exact Z.blk_sub rfl rfl (ren_map fun _ => rfl) | exact Z.blk_sub rfl rfl (Z.ren_app (ren_map fun _ => rfl) (ren_map fun _ => rfl)) | exact Z.blk_sub rfl (by first | (rw [List.map_append]; rfl) | (rw [List.map_set]; rfl) | simp only [List.map_append, List.map_cons, List.map_nil, List.map_set]) (ren_map fun _ => rfl) | exact Z.gB_sub rfl rfl (ren_map fun _ => rfl) | exact Z.gB_sub' rfl (by first | rfl | (rw [List.map_append]; rfl) | simp only [List.map_append, List.map_cons, List.map_nil]) (ren_map fun _ => rfl) | apply And.intro))); (focus (dsimp only; exact ⟨by omega, by omega, by omega, by (try simp only [LN] at *) <;> omega, by (try simp only [LN] at *) <;> omega, H6, by omega, _, HM, fun y => (HL y).trans (decide_eq_decide.2 (by omega))⟩)); ((try dsimp only); omega))
            | (exfalso; rename_i hz; cases hz; done)
            | (exfalso; (try simp only [LN] at *) <;> omega)
            | (exfalso; first | contradiction | omega | (rename_i hz; refine hz (decide_eq_decide.2 ?_); omega) | (rename_i hz; split at hz <;> omega) | (rename_i hz; refine hz ?_; simp; done) | (simp only [LN] at *; omega))
            | (fail)
        · have hlf : (if 0 < e ∧ now + a9 < (max u (now + a9 + (s9 + 1))) then (max u (now + a9 + (s9 + 1))) - (now + a9) else 0) = 0 := if_neg fun h9 => hcu h9.2
          repeat' ((conv => whnf); first
            | (with_reducible refine spB_dec ?_ ?_ <;> intro _ <;> (try (exfalso; first | contradiction | omega | (rename_i hz; refine hz (decide_eq_decide.2 ?_); omega) | (rename_i hz; split at hz <;> omega) | (rename_i hz; refine hz ?_; simp; done) | (simp only [LN] at *; omega))))
            | (focus (exact (rfl : Nat.ble _ _ = true))))
          all_goals (try (conv => whnf))
          all_goals try (show Nat.ble _ _ = true; rfl)
          all_goals first
            | ((refine Z.rndK ((i + 1, e, h, (max u (now + a9 + (s9 + 1))), now + a9, had, es)) (fun s => [0, 1, s.idAt 5]) rfl rfl rfl rfl ?_ ?_ ?_ ?_); (focus (repeat' (first | exact trivial | exact Z.map_sub (Z.MapL.ren HM fun _ => rfl) rfl | exact rfl | (rw [List.map_append (f := cW)]; exact rfl) | (rw [List.map_append (f := cW), List.map_append (f := cW)]; exact rfl) | (rw [List.map_append]; exact rfl) | apply And.intro))); (focus (repeat' (first | exact trivial | exact Z.map_sub (Z.MapL.ren HM fun _ => rfl) rfl | ((refine Z.gB_sub' rfl ?_ (ren_map fun _ => rfl)); (rw [List.map_append (f := cW), List.map_append (f := cW)]; exact rfl)) | (intro b hb; cases hb; rfl) | (intro b hb; cases hb; subst hlb; rfl) | (intro b hb; cases hb; rw [List.map_append (f := cW)]; rfl) | (intro b hb; cases hb; rw [List.map_append]; rfl) | (intro b hb; cases hb; done) | exact Z.blk_sub rfl rfl (ren_map fun _ => rfl) | exact Z.blk_sub rfl rfl (Z.ren_app (ren_map fun _ => rfl) (ren_map fun _ => rfl)) | exact Z.blk_sub rfl (by first | (rw [List.map_append]; rfl) | (rw [List.map_set]; rfl) | simp only [List.map_append, List.map_cons, List.map_nil, List.map_set]) (ren_map fun _ => rfl) | exact Z.gB_sub rfl rfl (ren_map fun _ => rfl) | exact Z.gB_sub' rfl (by first | rfl | (rw [List.map_append]; rfl) | simp only [List.map_append, List.map_cons, List.map_nil]) (ren_map fun _ => rfl) | apply And.intro))); (focus (dsimp only; exact ⟨by omega, by omega, by omega, by (try simp only [LN] at *) <;> omega, by (try simp only [LN] at *) <;> omega, H6, by omega, _, HM, fun y => (HL y).trans (decide_eq_decide.2 (by omega))⟩)); ((try dsimp only); omega))
            | (exfalso; rename_i hz; cases hz; done)
            | (exfalso; (try simp only [LN] at *) <;> omega)
            | (exfalso; first | contradiction | omega | (rename_i hz; refine hz (decide_eq_decide.2 ?_); omega) | (rename_i hz; split at hz <;> omega) | (rename_i hz; refine hz ?_; simp; done) | (simp only [LN] at *; omega))
            | (fail)
  · by_cases hne : had.length = 0
    · have hrr := refR_no (e := e) (h := h) (u := u) (who := w9 + 1) (ep := 0) (now := now + a9) (by intro h9; omega)
      have c1 := yie_no e h u (w9 + 1) 0 (now + a9) _ HX (by omega) (by omega) rfl hrr
      generalize refR e h u (w9 + 1) 0 (now + a9) = r at *
      repeat' ((conv => whnf); first
        | with_reducible first | refine spB_t ?_
        | ((with_reducible apply spB_cong); (focus (simp only [beq_self_eq_true, bne_self_eq_false, Bool.true_bne, Bool.false_bne, Bool.bne_true, Bool.bne_false, Bool.true_beq, Bool.false_beq, Bool.not_true, Bool.not_false, Bool.not_not, Int.reduceBEq, Int.reduceBNe, Int.reduceLE, Int.reduceLT, Int.reduceEq, decide_true, decide_false]; rfl)))
        | with_reducible first | refine spB_yes (by decide) ?_ | refine spB_no (by decide) ?_ | refine spB_f ?_ | refine spB_not ?_ | refine spB_yes (by assumption) ?_ | refine spB_no (by assumption) ?_
        | (with_reducible refine spB_dec ?_ ?_ <;> intro _ <;> (try (exfalso; first | contradiction | omega | (rename_i hz; refine hz (decide_eq_decide.2 ?_); omega) | (rename_i hz; split at hz <;> omega) | (rename_i hz; refine hz ?_; simp; done) | (simp only [LN] at *; omega))))
        | (with_reducible refine spB_beq ?_ ?_ <;> intro _ <;> (try (exfalso; first | contradiction | omega | (rename_i hz; refine hz (decide_eq_decide.2 ?_); omega) | (rename_i hz; split at hz <;> omega) | (rename_i hz; refine hz ?_; simp; done) | (simp only [LN] at *; omega))))
        | (with_reducible refine spB_bne ?_ ?_ <;> intro _ <;> (try (exfalso; first | contradiction | omega | (rename_i hz; refine hz (decide_eq_decide.2 ?_); omega) | (rename_i hz; split at hz <;> omega) | (rename_i hz; refine hz ?_; simp; done) | (simp only [LN] at *; omega))))
        | with_reducible first | refine Z.rowN_known ho ?_
        | ((with_reducible refine vN_to a9 ?_ ?_); (focus (exact ha)))
        | ((with_reducible refine vN_to s9 ?_ ?_); (focus (exact hs)))
        | ((with_reducible refine vN_to w9 ?_ ?_); (focus (exact hw)))
        | ((with_reducible refine vN_to r9 ?_ ?_); (focus (exact hr)))
        | ((with_reducible refine vN_to 2 ?_ ?_); (focus (exact hk)))
        | ((with_reducible apply ixN_litp); (focus (exact rfl)); (focus ((try simp only [LN] at *) <;> omega)))
        | with_reducible refine wr_i64 (by first | omega | (simp only [LN] at *; omega)) ?_
        | with_reducible refine nzN_mk (by omega) ?_
        | ((first | (with_reducible refine Z.conZ_mz ?_ (c1) ?_) | (with_reducible refine Z.callZ_mk ?_ (c1) ?_)); (focus ((repeat' (first | exact trivial | exact rfl | exact Z.low_nil | exact Z.low_nil2 | exact low_osl (fun _ => rfl) | (refine Z.low_osln ?_ (fun _ => rfl); (simp only [List.length_map]; done)) | exact low_oslr (fun _ => rfl) | exact Z.low_gslm (by first | rfl | exact Z.kb_some rfl) (fun _ => rfl) | exact .inl rfl | exact .inr ⟨_, rfl⟩ | apply And.intro)); done)))
        | (focus (exact (rfl : Nat.ble _ _ = true))))
      all_goals (try (conv => whnf))
      all_goals try (show Nat.ble _ _ = true; rfl)
      all_goals first
        | ((refine Z.rndK ((i + 1, e, h, u, now + a9, had, es)) (fun s => [0, 1, s.idAt 5]) rfl rfl rfl rfl ?_ ?_ ?_ ?_); (focus (repeat' (first | exact trivial | exact Z.map_sub (Z.MapL.ren HM fun _ => rfl) rfl | exact rfl | (rw [List.map_append]; exact rfl) | apply And.intro))); (focus (repeat' (first | exact trivial | exact Z.map_sub (Z.MapL.ren HM fun _ => rfl) rfl | (intro b hb; cases hb; rfl) | (intro b hb; cases hb; subst hlb; rfl) | (intro b hb; cases hb; rw [List.map_append]; rfl) | (intro b hb; cases hb; done) | exact Z.blk_sub rfl rfl (ren_map fun _ => rfl) | exact Z.blk_sub rfl rfl (Z.ren_app (ren_map fun _ => rfl) (ren_map fun _ => rfl)) | exact Z.blk_sub rfl (by first | (rw [List.map_append]; rfl) | (rw [List.map_set]; rfl) | simp only [List.map_append, List.map_cons, List.map_nil, List.map_set]) (ren_map fun _ => rfl) | exact Z.gB_sub rfl rfl (ren_map fun _ => rfl) | exact Z.gB_sub' rfl (by first | rfl | (rw [List.map_append]; rfl) | simp only [List.map_append, List.map_cons, List.map_nil]) (ren_map fun _ => rfl) | apply And.intro))); (focus (dsimp only; exact ⟨by omega, by omega, by omega, by omega, H5, H6, by omega, L, HM, HL⟩)); ((try dsimp only); omega))
        | (exfalso; rename_i hz; cases hz; done)
        | (exfalso; (try simp only [LN] at *) <;> omega)
        | (exfalso; first | contradiction | omega | (rename_i hz; refine hz (decide_eq_decide.2 ?_); omega) | (rename_i hz; split at hz <;> omega) | (rename_i hz; refine hz ?_; simp; done) | (simp only [LN] at *; omega))
        | (fail)
    · have hgB : gB 2 35 (had.map cW) = some ⟨had.map cW, 2, 35, false⟩ := gB_ne (fun h9 => by have := congrArg List.length h9; simp at this; subst this; simp at hne)
      rw [hgB]
      obtain ⟨k, hki, hkl⟩ := tm_n (a := o.had) (n := had.length) (by omega)
      obtain ⟨w, hwj⟩ := getElem?_some' (xs := had) (i := k) hkl
      obtain ⟨g1, g2, g3, g4⟩ := H6 k w hwj
      by_cases hy : w.ep = e ∧ w.num = h ∧ 0 < e ∧ now + a9 < u
      rotate_left
      · have hrr := refR_no hy
        have c1 := yie_no e h u w.num w.ep (now + a9) _ HX (by omega) (by omega) rfl hrr
        generalize refR e h u w.num w.ep (now + a9) = r at *
        repeat' ((conv => whnf); first
          | with_reducible first | refine spB_t ?_
          | ((with_reducible apply spB_cong); (focus (simp only [beq_self_eq_true, bne_self_eq_false, Bool.true_bne, Bool.false_bne, Bool.bne_true, Bool.bne_false, Bool.true_beq, Bool.false_beq, Bool.not_true, Bool.not_false, Bool.not_not, Int.reduceBEq, Int.reduceBNe, Int.reduceLE, Int.reduceLT, Int.reduceEq, decide_true, decide_false]; rfl)))
          | with_reducible first | refine spB_yes (by decide) ?_ | refine spB_no (by decide) ?_ | refine spB_f ?_ | refine spB_not ?_ | refine spB_yes (by assumption) ?_ | refine spB_no (by assumption) ?_
          | (with_reducible refine spB_dec ?_ ?_ <;> intro _ <;> (try (exfalso; first | contradiction | omega | (rename_i hz; refine hz (decide_eq_decide.2 ?_); omega) | (rename_i hz; split at hz <;> omega) | (rename_i hz; refine hz ?_; simp; done) | (simp only [LN] at *; omega))))
          | (with_reducible refine spB_beq ?_ ?_ <;> intro _ <;> (try (exfalso; first | contradiction | omega | (rename_i hz; refine hz (decide_eq_decide.2 ?_); omega) | (rename_i hz; split at hz <;> omega) | (rename_i hz; refine hz ?_; simp; done) | (simp only [LN] at *; omega))))
          | (with_reducible refine spB_bne ?_ ?_ <;> intro _ <;> (try (exfalso; first | contradiction | omega | (rename_i hz; refine hz (decide_eq_decide.2 ?_); omega) | (rename_i hz; split at hz <;> omega) | (rename_i hz; refine hz ?_; simp; done) | (simp only [LN] at *; omega))))
          | with_reducible first | refine Z.rowN_known ho ?_
          | ((with_reducible refine vN_to a9 ?_ ?_); (focus (exact ha)))
          | ((with_reducible refine vN_to s9 ?_ ?_); (focus (exact hs)))
          | ((with_reducible refine vN_to w9 ?_ ?_); (focus (exact hw)))
          | ((with_reducible refine vN_to r9 ?_ ?_); (focus (exact hr)))
          | ((with_reducible refine vN_to 2 ?_ ?_); (focus (exact hk)))
          | ((with_reducible refine vN_to (k : Int) ?_ ?_); (focus (rw [List.length_map]; exact hki)))
          | ((with_reducible refine ixN_mk k ?_ ?_ ?_); (focus omega); (focus ((try simp only [LN] at *) <;> omega)))
          | ((with_reducible refine rowN_mk (cW w) ?_ ?_); (focus (exact row_at hwj)))
          | ((with_reducible apply ixN_litp); (focus (exact rfl)); (focus ((try simp only [LN] at *) <;> omega)))
          | with_reducible refine wr_i64 (by first | omega | (simp only [LN] at *; omega)) ?_
          | with_reducible refine nzN_mk (by omega) ?_
          | ((first | (with_reducible refine Z.conZ_mz ?_ (c1) ?_) | (with_reducible refine Z.callZ_mk ?_ (c1) ?_)); (focus ((repeat' (first | exact trivial | exact rfl | exact Z.low_nil | exact Z.low_nil2 | exact low_osl (fun _ => rfl) | (refine Z.low_osln ?_ (fun _ => rfl); (simp only [List.length_map]; done)) | exact low_oslr (fun _ => rfl) | exact Z.low_gslm (by first | rfl | exact Z.kb_some rfl) (fun _ => rfl) | exact .inl rfl | exact .inr ⟨_, rfl⟩ | apply And.intro)); done)))
          | (focus (exact (rfl : Nat.ble _ _ = true))))
        all_goals (try (conv => whnf))
        all_goals try (show Nat.ble _ _ = true; rfl)
        all_goals first
          | ((refine Z.rndK ((i + 1, e, h, u, now + a9, had, es)) (fun s => [0, 1, s.idAt 5]) rfl rfl rfl rfl ?_ ?_ ?_ ?_); (focus (repeat' (first | exact trivial | exact Z.map_sub (Z.MapL.ren HM fun _ => rfl) rfl | exact rfl | (rw [List.map_append]; exact rfl) | apply And.intro))); (focus (repeat' (first | exact trivial | exact Z.map_sub (Z.MapL.ren HM fun _ => rfl) rfl | (intro b hb; cases hb; rfl) | (intro b hb; cases hb; subst hlb; rfl) | (intro b hb; cases hb; rw [List.map_append]; rfl) | (intro b hb; cases hb; done) | exact Z.blk_sub rfl rfl (ren_map fun _ => rfl) | exact Z.blk_sub rfl rfl (Z.ren_app (ren_map fun _ => rfl) (ren_map fun _ => rfl)) | exact Z.blk_sub rfl (by first | (rw [List.map_append]; rfl) | (rw [List.map_set]; rfl) | simp only [List.map_append, List.map_cons, List.map_nil, List.map_set]) (ren_map fun _ => rfl) | exact Z.gB_sub rfl rfl (ren_map fun _ => rfl) | exact Z.gB_sub' rfl (by first | rfl | (rw [List.map_append]; rfl) | simp only [List.map_append, List.map_cons, List.map_nil]) (ren_map fun _ => rfl) | apply And.intro))); (focus (dsimp only; exact ⟨by omega, by omega, by omega, by omega, H5, H6, by omega, L, HM, HL⟩)); ((try dsimp only); omega))
          | (exfalso; rename_i hz; cases hz; done)
          | (exfalso; (try simp only [LN] at *) <;> omega)
          | (exfalso; first | contradiction | omega | (rename_i hz; refine hz (decide_eq_decide.2 ?_); omega) | (rename_i hz; split at hz <;> omega) | (rename_i hz; refine hz ?_; simp; done) | (simp only [LN] at *; omega))
          | (fail)
      have c1 := yie_yes e h u w.num w.ep (now + a9) HX (by omega) (by omega) (refR_yes hy)
      repeat' ((conv => whnf); first
        | with_reducible first | refine spB_t ?_
        | ((with_reducible apply spB_cong); (focus (simp only [beq_self_eq_true, bne_self_eq_false, Bool.true_bne, Bool.false_bne, Bool.bne_true, Bool.bne_false, Bool.true_beq, Bool.false_beq, Bool.not_true, Bool.not_false, Bool.not_not, Int.reduceBEq, Int.reduceBNe, Int.reduceLE, Int.reduceLT, Int.reduceEq, decide_true, decide_false]; rfl)))
        | with_reducible first | refine spB_yes (by decide) ?_ | refine spB_no (by decide) ?_ | refine spB_f ?_ | refine spB_not ?_ | refine spB_yes (by assumption) ?_ | refine spB_no (by assumption) ?_
        | (with_reducible refine spB_dec ?_ ?_ <;> intro _ <;> (try (exfalso; first | contradiction | omega | (rename_i hz; refine hz (decide_eq_decide.2 ?_); omega) | (rename_i hz; split at hz <;> omega) | (rename_i hz; refine hz ?_; simp; done) | (simp only [LN] at *; omega))))
        | (with_reducible refine spB_beq ?_ ?_ <;> intro _ <;> (try (exfalso; first | contradiction | omega | (rename_i hz; refine hz (decide_eq_decide.2 ?_); omega) | (rename_i hz; split at hz <;> omega) | (rename_i hz; refine hz ?_; simp; done) | (simp only [LN] at *; omega))))
        | (with_reducible refine spB_bne ?_ ?_ <;> intro _ <;> (try (exfalso; first | contradiction | omega | (rename_i hz; refine hz (decide_eq_decide.2 ?_); omega) | (rename_i hz; split at hz <;> omega) | (rename_i hz; refine hz ?_; simp; done) | (simp only [LN] at *; omega))))
        | with_reducible first | refine Z.rowN_known ho ?_
        | ((with_reducible refine vN_to a9 ?_ ?_); (focus (exact ha)))
        | ((with_reducible refine vN_to s9 ?_ ?_); (focus (exact hs)))
        | ((with_reducible refine vN_to w9 ?_ ?_); (focus (exact hw)))
        | ((with_reducible refine vN_to r9 ?_ ?_); (focus (exact hr)))
        | ((with_reducible refine vN_to 2 ?_ ?_); (focus (exact hk)))
        | ((with_reducible refine vN_to (k : Int) ?_ ?_); (focus (rw [List.length_map]; exact hki)))
        | ((with_reducible refine ixN_mk k ?_ ?_ ?_); (focus omega); (focus ((try simp only [LN] at *) <;> omega)))
        | ((with_reducible refine rowN_mk (cW w) ?_ ?_); (focus (exact row_at hwj)))
        | ((with_reducible apply ixN_litp); (focus (exact rfl)); (focus ((try simp only [LN] at *) <;> omega)))
        | with_reducible refine wr_i64 (by first | omega | (simp only [LN] at *; omega)) ?_
        | with_reducible refine nzN_mk (by omega) ?_
        | ((first | (with_reducible refine Z.conZ_mz ?_ (c1) ?_) | (with_reducible refine Z.callZ_mk ?_ (c1) ?_)); (focus ((repeat' (first | exact trivial | exact rfl | exact Z.low_nil | exact Z.low_nil2 | exact low_osl (fun _ => rfl) | (refine Z.low_osln ?_ (fun _ => rfl); (simp only [List.length_map]; done)) | exact low_oslr (fun _ => rfl) | exact Z.low_gslm (by first | rfl | exact Z.kb_some rfl) (fun _ => rfl) | exact .inl rfl | exact .inr ⟨_, rfl⟩ | apply And.intro)); done)))
        | ((first | (with_reducible apply Z.conZ_mz ?_ (left_con _ _ _ _ ?_ ?_) ?_) | (with_reducible apply Z.callZ_mk ?_ (left_con _ _ _ _ ?_ ?_) ?_)); (rotate_left 4); (focus ((repeat' (first | exact trivial | exact rfl | exact Z.low_nil | exact Z.low_nil2 | exact low_osl (fun _ => rfl) | (refine Z.low_osln ?_ (fun _ => rfl); (simp only [List.length_map]; done)) | exact low_oslr (fun _ => rfl) | exact Z.low_gslm (by first | rfl | exact Z.kb_some rfl) (fun _ => rfl) | exact .inl rfl | exact .inr ⟨_, rfl⟩ | apply And.intro)); done)); (iterate 2 (focus (first | assumption | omega | ((try simp only [LN] at *); omega)))))
        | (focus (exact (rfl : Nat.ble _ _ = true))))
      all_goals (try (conv => whnf))
      all_goals try (show Nat.ble _ _ = true; rfl)
      all_goals try (exfalso; rename_i hz; cases hz; done)
      all_goals try (exfalso; (try simp only [LN] at *) <;> omega)
      all_goals try (exfalso; first | contradiction | omega | (rename_i hz; refine hz (decide_eq_decide.2 ?_); omega) | (rename_i hz; split at hz <;> omega) | (rename_i hz; refine hz ?_; simp; done) | (simp only [LN] at *; omega))
      refine Z.loopK tabOk (fun zq : Nat × Int => [(175, .val (.int .i64 (zq.1 : Int))), (15, .val (.int .i64 zq.2))]) (fun zq : Nat × Int => ([] : Z.Kr)) (fun zq => zq.1 ≤ had.length ∧ (zq.1 < had.length → zq.2 = 0) ∧ (zq.1 = had.length → now + a9 < (now + a9) → zq.2 = 1) ∧ (zq.1 = had.length → ¬ now + a9 < (now + a9) → zq.2 = 0)) (fun zq => had.length - zq.1) (0, 0) 6 [(3, _), (4, _), (5, _), (6, _), (21, _), (22, _), (23, _), (173, _), (174, _)] ⟨rfl, rfl, rfl, rfl, rfl, rfl, rfl, rfl, rfl, trivial⟩ [(0, some _), (1, some _), (2, some _), (3, some _), (4, some _), (5, some _)] ⟨rfl, rfl, rfl, rfl, rfl, rfl, trivial⟩ ?_ ?_ rfl rfl ⟨Nat.zero_le _, fun _ => rfl, fun h9 => absurd h9 (by dsimp only; omega), fun h9 => absurd h9 (by dsimp only; omega)⟩ ?_
      · repeat' (first | exact trivial | apply And.intro | exact ⟨_, rfl, rfl⟩ | exact ⟨_, rfl, Z.Imp.refl _⟩ | exact ⟨_, rfl, Z.Imp.nilg _⟩ | exact ⟨_, rfl, Z.Imp.nilr _ _⟩)
      · repeat' (first | exact trivial | (intro b hb; cases hb; done) | exact (fun b hb => ⟨b, hb, Z.ImpO.refl b⟩) | (intro b hb; cases hb; refine ⟨_, rfl, ⟨rfl, rfl, rfl⟩, ?_⟩; (repeat' (first | exact trivial | apply And.intro | exact Z.Imp.refl _ | exact Z.Imp.nilg _ | exact Z.Imp.nilr _ _)); done) | apply And.intro)
      rintro ⟨j2, hc⟩ HINV
      dsimp only at HINV ⊢
      obtain ⟨HJ2, HC1, HC2, HC3⟩ := HINV
      by_cases hj2 : j2 < had.length
      · obtain ⟨w, hwj⟩ := getElem?_some' (xs := had) (i := j2) (by (try simp only [LN] at *) <;> omega)
        obtain ⟨g1, g2, g3, g4⟩ := H6 j2 w hwj
        have hc0 := HC1 hj2
        subst hc0
        repeat' ((conv => whnf); first
          | (with_reducible refine spB_dec ?_ ?_ <;> intro _ <;> (try (exfalso; first | contradiction | omega | (rename_i hz; refine hz (decide_eq_decide.2 ?_); omega) | (rename_i hz; split at hz <;> omega) | (rename_i hz; refine hz ?_; simp; done) | (simp only [LN] at *; omega))))
          | (with_reducible refine spB_bne ?_ ?_ <;> intro _ <;> (try (exfalso; first | contradiction | omega | (rename_i hz; refine hz (decide_eq_decide.2 ?_); omega) | (rename_i hz; split at hz <;> omega) | (rename_i hz; refine hz ?_; simp; done) | (simp only [LN] at *; omega))))
          | ((with_reducible refine look_dec HM HL ?_ ?_); (focus rfl); (intro okk))
          | ((with_reducible refine rowN_mk (cW w) ?_ ?_); (focus (exact row_at hwj)))
          | ((with_reducible apply ixN_litp); (focus (exact rfl)); (focus ((try simp only [LN] at *) <;> omega)))
          | with_reducible refine wr_i64 (by first | omega | (simp only [LN] at *; omega)) ?_
          | ((first | (with_reducible apply Z.conZ_mz ?_ (stale_con _ _ _ _ ?_) ?_) | (with_reducible apply Z.callZ_mk ?_ (stale_con _ _ _ _ ?_) ?_)); (rotate_left 4); (focus ((repeat' (first | exact trivial | exact rfl | exact Z.low_nil | exact Z.low_nil2 | exact low_osl (fun _ => rfl) | (refine Z.low_osln ?_ (fun _ => rfl); (simp only [List.length_map]; done)) | exact low_oslr (fun _ => rfl) | exact Z.low_gslm (by first | rfl | exact Z.kb_some rfl) (fun _ => rfl) | exact .inl rfl | exact .inr ⟨_, rfl⟩ | apply And.intro)); done)); (iterate 1 (focus (first | assumption | omega | ((try simp only [LN] at *); omega)))))
          | ((first | (with_reducible apply Z.conZ_mz ?_ (holds_con _ _ _ _ _ _ ?_) ?_) | (with_reducible apply Z.callZ_mk ?_ (holds_con _ _ _ _ _ _ ?_) ?_)); (rotate_left 6); (focus ((repeat' (first | exact trivial | exact rfl | exact Z.low_nil | exact Z.low_nil2 | exact low_osl (fun _ => rfl) | (refine Z.low_osln ?_ (fun _ => rfl); (simp only [List.length_map]; done)) | exact low_oslr (fun _ => rfl) | exact Z.low_gslm (by first | rfl | exact Z.kb_some rfl) (fun _ => rfl) | exact .inl rfl | exact .inr ⟨_, rfl⟩ | apply And.intro)); done)); (iterate 1 (focus (first | assumption | omega | ((try simp only [LN] at *); omega)))))
          | with_reducible first | refine Z.drawZ_rule tabOk mixOk ?_ | refine Z.apZ_mk (by kernel_rfl) ?_
          | (focus (exact (rfl : Nat.ble _ _ = true))))
        all_goals (try (conv => whnf))
        all_goals try (show Nat.ble _ _ = true; rfl)
        all_goals first
          | ((refine Z.rndK ((j2 + 1, 0)) (fun s => [0, 1, 2, 3, 4, 5]) rfl rfl rfl rfl ?_ ?_ ?_ ?_); (focus (repeat' (first | exact trivial | exact Z.map_sub (Z.MapL.ren HM fun _ => rfl) rfl | exact rfl | (rw [List.map_append]; exact rfl) | apply And.intro))); (focus (repeat' (first | exact trivial | exact Z.map_sub (Z.MapL.ren HM fun _ => rfl) rfl | (intro b hb; cases hb; rfl) | (intro b hb; cases hb; subst hlb; rfl) | (intro b hb; cases hb; rw [List.map_append]; rfl) | (intro b hb; cases hb; done) | exact Z.blk_sub rfl rfl (ren_map fun _ => rfl) | exact Z.blk_sub rfl rfl (Z.ren_app (ren_map fun _ => rfl) (ren_map fun _ => rfl)) | exact Z.blk_sub rfl (by first | (rw [List.map_append]; rfl) | (rw [List.map_set]; rfl) | simp only [List.map_append, List.map_cons, List.map_nil, List.map_set]) (ren_map fun _ => rfl) | exact Z.gB_sub rfl rfl (ren_map fun _ => rfl) | exact Z.gB_sub' rfl (by first | rfl | (rw [List.map_append]; rfl) | simp only [List.map_append, List.map_cons, List.map_nil]) (ren_map fun _ => rfl) | apply And.intro))); (focus (((try dsimp only); refine ⟨by omega, fun h9 => ?_, fun h9 h8 => ?_, fun h9 h8 => ?_⟩ <;> omega))); ((try dsimp only); omega))
          | ((refine Z.rndK ((j2 + 1, 1)) (fun s => [0, 1, 2, 3, 4, 5]) rfl rfl rfl rfl ?_ ?_ ?_ ?_); (focus (repeat' (first | exact trivial | exact Z.map_sub (Z.MapL.ren HM fun _ => rfl) rfl | exact rfl | (rw [List.map_append]; exact rfl) | apply And.intro))); (focus (repeat' (first | exact trivial | exact Z.map_sub (Z.MapL.ren HM fun _ => rfl) rfl | (intro b hb; cases hb; rfl) | (intro b hb; cases hb; subst hlb; rfl) | (intro b hb; cases hb; rw [List.map_append]; rfl) | (intro b hb; cases hb; done) | exact Z.blk_sub rfl rfl (ren_map fun _ => rfl) | exact Z.blk_sub rfl rfl (Z.ren_app (ren_map fun _ => rfl) (ren_map fun _ => rfl)) | exact Z.blk_sub rfl (by first | (rw [List.map_append]; rfl) | (rw [List.map_set]; rfl) | simp only [List.map_append, List.map_cons, List.map_nil, List.map_set]) (ren_map fun _ => rfl) | exact Z.gB_sub rfl rfl (ren_map fun _ => rfl) | exact Z.gB_sub' rfl (by first | rfl | (rw [List.map_append]; rfl) | simp only [List.map_append, List.map_cons, List.map_nil]) (ren_map fun _ => rfl) | apply And.intro))); (focus (((try dsimp only); refine ⟨by omega, fun h9 => ?_, fun h9 h8 => ?_, fun h9 h8 => ?_⟩ <;> omega))); ((try dsimp only); omega))
          | (exfalso; rename_i hz; cases hz; done)
          | (exfalso; (try simp only [LN] at *) <;> omega)
          | (exfalso; first | contradiction | omega | (rename_i hz; refine hz (decide_eq_decide.2 ?_); omega) | (rename_i hz; split at hz <;> omega) | (rename_i hz; refine hz ?_; simp; done) | (simp only [LN] at *; omega))
          | (fail)
      · have hj3 : j2 = had.length := by omega
        have hcc : (hc = 1 ∧ now + a9 < (now + a9)) ∨ (hc = 0 ∧ ¬ now + a9 < (now + a9)) := by by_cases h9 : now + a9 < (now + a9); exact .inl ⟨HC2 hj3 h9, h9⟩; exact .inr ⟨HC3 hj3 h9, h9⟩
        rcases hcc with ⟨rfl, hcu⟩ | ⟨rfl, hcu⟩
        · have hlf : (if 0 < e ∧ now + a9 < (now + a9) then (now + a9) - (now + a9) else 0) = (now + a9) - (now + a9) := if_pos ⟨by omega, hcu⟩
          repeat' ((conv => whnf); first
            | (with_reducible refine spB_dec ?_ ?_ <;> intro _ <;> (try (exfalso; first | contradiction | omega | (rename_i hz; refine hz (decide_eq_decide.2 ?_); omega) | (rename_i hz; split at hz <;> omega) | (rename_i hz; refine hz ?_; simp; done) | (simp only [LN] at *; omega))))
            | (focus (exact (rfl : Nat.ble _ _ = true))))
          all_goals (try (conv => whnf))
          all_goals try (show Nat.ble _ _ = true; rfl)
          all_goals first
            | ((refine Z.rndK ((i + 1, e, h, (now + a9), now + a9, had, es)) (fun s => [0, 1, s.idAt 5]) rfl rfl rfl rfl ?_ ?_ ?_ ?_); (focus (repeat' (first | exact trivial | exact Z.map_sub (Z.MapL.ren HM fun _ => rfl) rfl | exact rfl | (rw [List.map_append (f := cW)]; exact rfl) | (rw [List.map_append (f := cW), List.map_append (f := cW)]; exact rfl) | (rw [List.map_append]; exact rfl) | apply And.intro))); (focus (repeat' (first | exact trivial | exact Z.map_sub (Z.MapL.ren HM fun _ => rfl) rfl | ((refine Z.gB_sub' rfl ?_ (ren_map fun _ => rfl)); (rw [List.map_append (f := cW), List.map_append (f := cW)]; exact rfl)) | (intro b hb; cases hb; rfl) | (intro b hb; cases hb; subst hlb; rfl) | (intro b hb; cases hb; rw [List.map_append (f := cW)]; rfl) | (intro b hb; cases hb; rw [List.map_append]; rfl) | (intro b hb; cases hb; done) | exact Z.blk_sub rfl rfl (ren_map fun _ => rfl) | exact Z.blk_sub rfl rfl (Z.ren_app (ren_map fun _ => rfl) (ren_map fun _ => rfl)) | exact Z.blk_sub rfl (by first | (rw [List.map_append]; rfl) | (rw [List.map_set]; rfl) | simp only [List.map_append, List.map_cons, List.map_nil, List.map_set]) (ren_map fun _ => rfl) | exact Z.gB_sub rfl rfl (ren_map fun _ => rfl) | exact Z.gB_sub' rfl (by first | rfl | (rw [List.map_append]; rfl) | simp only [List.map_append, List.map_cons, List.map_nil]) (ren_map fun _ => rfl) | apply And.intro))); (focus (dsimp only; exact ⟨by omega, by omega, by omega, by (try simp only [LN] at *) <;> omega, by (try simp only [LN] at *) <;> omega, H6, by omega, _, HM, fun y => (HL y).trans (decide_eq_decide.2 (by omega))⟩)); ((try dsimp only); omega))
            | (exfalso; rename_i hz; cases hz; done)
            | (exfalso; (try simp only [LN] at *) <;> omega)
            | (exfalso; first | contradiction | omega | (rename_i hz; refine hz (decide_eq_decide.2 ?_); omega) | (rename_i hz; split at hz <;> omega) | (rename_i hz; refine hz ?_; simp; done) | (simp only [LN] at *; omega))
            | (fail)
        · have hlf : (if 0 < e ∧ now + a9 < (now + a9) then (now + a9) - (now + a9) else 0) = 0 := if_neg fun h9 => hcu h9.2
          repeat' ((conv => whnf); first
            | ((with_reducible apply spB_cong); (focus (simp only [beq_self_eq_true, bne_self_eq_false, Bool.true_bne, Bool.false_bne, Bool.bne_true, Bool.bne_false, Bool.true_beq, Bool.false_beq, Bool.not_true, Bool.not_false, Bool.not_not, Int.reduceBEq, Int.reduceBNe, Int.reduceLE, Int.reduceLT, Int.reduceEq, decide_true, decide_false, hlf]; rfl)))
            | with_reducible first | refine spB_yes (by decide) ?_ | refine spB_no (by decide) ?_ | refine spB_f ?_ | refine spB_not ?_ | refine spB_yes (by assumption) ?_ | refine spB_no (by assumption) ?_
            | (with_reducible refine spB_dec ?_ ?_ <;> intro _ <;> (try (exfalso; first | contradiction | omega | (rename_i hz; refine hz (decide_eq_decide.2 ?_); omega) | (rename_i hz; split at hz <;> omega) | (rename_i hz; refine hz ?_; simp; done) | (simp only [LN] at *; omega))))
            | with_reducible refine wr_i64 (by first | omega | (simp only [LN] at *; omega)) ?_
            | ((first | (with_reducible apply Z.conZ_mz ?_ (check_con _ _ _ ?_) ?_) | (with_reducible apply Z.callZ_mk ?_ (check_con _ _ _ ?_) ?_)); (rotate_left 3); (focus ((repeat' (first | exact trivial | exact rfl | exact Z.low_nil | exact Z.low_nil2 | exact low_osl (fun _ => rfl) | (refine Z.low_osln ?_ (fun _ => rfl); (simp only [List.length_map]; done)) | exact low_oslr (fun _ => rfl) | exact Z.low_gslm (by first | rfl | exact Z.kb_some rfl) (fun _ => rfl) | exact .inl rfl | exact .inr ⟨_, rfl⟩ | apply And.intro)); done)); (iterate 1 (focus (first | assumption | omega | ((try simp only [LN] at *); omega)))))
            | ((first | (with_reducible apply Z.conZ_mz ?_ (left_con _ _ _ _ ?_ ?_) ?_) | (with_reducible apply Z.callZ_mk ?_ (left_con _ _ _ _ ?_ ?_) ?_)); (rotate_left 4); (focus ((repeat' (first | exact trivial | exact rfl | exact Z.low_nil | exact Z.low_nil2 | exact low_osl (fun _ => rfl) | (refine Z.low_osln ?_ (fun _ => rfl); (simp only [List.length_map]; done)) | exact low_oslr (fun _ => rfl) | exact Z.low_gslm (by first | rfl | exact Z.kb_some rfl) (fun _ => rfl) | exact .inl rfl | exact .inr ⟨_, rfl⟩ | apply And.intro)); done)); (iterate 2 (focus (first | assumption | omega | ((try simp only [LN] at *); omega)))))
            | (focus (exact (rfl : Nat.ble _ _ = true))))
          all_goals (try (conv => whnf))
          all_goals try (show Nat.ble _ _ = true; rfl)
          all_goals first
            | ((refine Z.rndK ((i + 1, e, h, (now + a9), now + a9, had, es)) (fun s => [0, 1, s.idAt 5]) rfl rfl rfl rfl ?_ ?_ ?_ ?_); (focus (repeat' (first | exact trivial | exact Z.map_sub (Z.MapL.ren HM fun _ => rfl) rfl | exact rfl | (rw [List.map_append (f := cW)]; exact rfl) | (rw [List.map_append (f := cW), List.map_append (f := cW)]; exact rfl) | (rw [List.map_append]; exact rfl) | apply And.intro))); (focus (repeat' (first | exact trivial | exact Z.map_sub (Z.MapL.ren HM fun _ => rfl) rfl | ((refine Z.gB_sub' rfl ?_ (ren_map fun _ => rfl)); (rw [List.map_append (f := cW), List.map_append (f := cW)]; exact rfl)) | (intro b hb; cases hb; rfl) | (intro b hb; cases hb; subst hlb; rfl) | (intro b hb; cases hb; rw [List.map_append (f := cW)]; rfl) | (intro b hb; cases hb; rw [List.map_append]; rfl) | (intro b hb; cases hb; done) | exact Z.blk_sub rfl rfl (ren_map fun _ => rfl) | exact Z.blk_sub rfl rfl (Z.ren_app (ren_map fun _ => rfl) (ren_map fun _ => rfl)) | exact Z.blk_sub rfl (by first | (rw [List.map_append]; rfl) | (rw [List.map_set]; rfl) | simp only [List.map_append, List.map_cons, List.map_nil, List.map_set]) (ren_map fun _ => rfl) | exact Z.gB_sub rfl rfl (ren_map fun _ => rfl) | exact Z.gB_sub' rfl (by first | rfl | (rw [List.map_append]; rfl) | simp only [List.map_append, List.map_cons, List.map_nil]) (ren_map fun _ => rfl) | apply And.intro))); (focus (dsimp only; exact ⟨by omega, by omega, by omega, by (try simp only [LN] at *) <;> omega, by (try simp only [LN] at *) <;> omega, H6, by omega, _, HM, fun y => (HL y).trans (decide_eq_decide.2 (by omega))⟩)); ((try dsimp only); omega))
            | (exfalso; rename_i hz; cases hz; done)
            | (exfalso; (try simp only [LN] at *) <;> omega)
            | (exfalso; first | contradiction | omega | (rename_i hz; refine hz (decide_eq_decide.2 ?_); omega) | (rename_i hz; split at hz <;> omega) | (rename_i hz; refine hz ?_; simp; done) | (simp only [LN] at *; omega))
            | (fail)

end Go.Proofs.Ytgmmmbicnjjalaa
