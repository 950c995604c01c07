import Derived.Test.YtnlcmncfbiognaaRs0
namespace Go.Proofs.Ytnlcmncfbiognaa
open Go Go.RowKit Wx
set_option linter.unusedVariables false
set_option linter.unusedSimpArgs false
set_option maxHeartbeats 4000000
theorem retainsafe_con (keep : Int) (l0 : List Dd) (hl0 : l0.length ≤ 9223372036854775807) (hby : ∀ o ∈ l0, 0 ≤ o.by_) : Con Try.prog 6 [.one (.v (.int .i64 keep)), .one (.ro false 4 (l0.map eDd))] (fun rx rK rt => rx = .val (.bool true) ∧ rK = [] ∧ rt = 0) := by
  refine Z.con_ofF tabOk 203 Try.f6 _ Try.func6 (by kernel_rfl) rfl rfl rfl rfl ?_
  obtain ⟨k4, hk4⟩ : ∃ a, (max keep 0).tmod 4 = a := ⟨_, rfl⟩
  have hk5 := tm_nn (a := max keep 0) (b := 4) (by omega) (by omega)
  rw [hk4] at hk5
  obtain ⟨kk, hkk⟩ : ∃ a, k4 + 1 = a := ⟨_, rfl⟩
  have hkb : 1 ≤ kk ∧ kk ≤ 4 := by omega
  have cn := new_con kk hkb
  repeat' ((conv => whnf); first
    | ((with_reducible apply spB_cong); (focus (simp only [beq_self_eq_true, bne_self_eq_false, Bool.true_bne, Bool.false_bne, Bool.bne_true, Bool.bne_false, Bool.true_beq, Bool.false_beq, Bool.not_true, Bool.not_false, Bool.not_not, Int.reduceBEq, Int.reduceBNe, Int.reduceLE, Int.reduceLT, Int.reduceEq, decide_true, decide_false]; rfl)))
    | with_reducible first | refine spB_yes (by decide) ?_ | refine spB_no (by decide) ?_ | refine spB_f ?_ | refine spB_not ?_ | refine spB_yes (by assumption) ?_ | refine spB_no (by assumption) ?_
    | ((with_reducible refine vN_to k4 ?_ ?_); (focus (exact hk4)))
    | ((with_reducible refine wr_to kk ?_ ?_ ?_); (focus (exact hkk)); (focus omega))
    | with_reducible refine nzN_mk (by omega) ?_
    | ((first | (with_reducible refine Z.conZ_mz ?_ (wakes_con) ?_) | (with_reducible refine Z.callZ_mk ?_ (wakes_con) ?_) | (with_reducible refine Z.conZ_mz ?_ (cn) ?_) | (with_reducible refine Z.callZ_mk ?_ (cn) ?_)); (focus ((repeat' (first | exact trivial | exact rfl | exact Z.low_nil | exact Z.low_nil2 | exact low_osl (fun _ => rfl) | (refine Z.low_osln ?_ (fun _ => rfl); (simp only [List.length_map]; done)) | exact low_oslr (fun _ => rfl) | exact Z.low_gslm (by first | rfl | exact Z.kb_some rfl) (fun _ => rfl) | exact .inl rfl | exact .inr ⟨_, rfl⟩ | apply And.intro)); done)))
    | (focus (exact (rfl : Nat.ble _ _ = true))))
  all_goals (try (conv => whnf))
  all_goals try (show Nat.ble _ _ = true; rfl)
  all_goals try (exfalso; rename_i hz; cases hz; done)
  all_goals try (exfalso; (try simp only [LN] at *) <;> omega)
  refine Z.loopK tabOk (fun zq : Nat × List Kp × Int × Int × Y.MS × Y.MS × Y.MS => [(38, .val (.int .i64 (zq.1 : Int))), (7, .val (.int .u64 zq.2.2.1)), (8, .val (.int .u64 zq.2.2.2.1))]) (fun zq : Nat × List Kp × Int × Int × Y.MS × Y.MS × Y.MS => ([(0, some (Z.Ob.b ⟨[[.v (.int .i64 kk), .ro true 3 (zq.2.1.map eK)]], 2, 24, true⟩)), (1, some (Z.Ob.m zq.2.2.2.2.1)), (2, some (Z.Ob.m zq.2.2.2.2.2.1)), (3, some (Z.Ob.m zq.2.2.2.2.2.2))] : Z.Kr)) (fun zq => zq.1 ≤ l0.length ∧ zq.1 ≤ 80 ∧ ∃ LD LS LO, Z.MapL .u64 enB zq.2.2.2.2.1 LD ∧ Z.MapL .u64 enB zq.2.2.2.2.2.1 LS ∧ Z.MapL .u64 enB zq.2.2.2.2.2.2 LO ∧ RI kk zq.2.1 zq.2.2.1 zq.2.2.2.1 LD LS LO) (fun zq => l0.length - zq.1) (0, [], 0, 0, ⟨[], 0⟩, ⟨[], 0⟩, ⟨[], 0⟩) 4 [(5, _), (9, _), (10, _), (11, _), (36, _), (37, _)] ⟨rfl, rfl, rfl, rfl, rfl, rfl, trivial⟩ [] trivial ?_ ?_ rfl rfl ⟨Nat.zero_le _, by decide, [], [], [], Z.MapL.nil, Z.MapL.nil, Z.MapL.nil, RI.zero hkb⟩ ?_
  · repeat' (first | exact trivial | apply And.intro | exact ⟨_, rfl, rfl⟩ | exact ⟨_, rfl, Z.Imp.refl _⟩ | exact ⟨_, rfl, Z.Imp.nilg _⟩ | exact ⟨_, rfl, Z.Imp.nilr _ _⟩)
  · repeat' (first | exact trivial | (intro b hb; cases hb; done) | exact (fun b hb => ⟨b, hb, Z.ImpO.refl b⟩) | (intro b hb; cases hb; refine ⟨_, rfl, ⟨rfl, rfl, rfl⟩, ?_⟩; (repeat' (first | exact trivial | apply And.intro | exact Z.Imp.refl _ | exact Z.Imp.nilg _ | exact Z.Imp.nilr _ _)); done) | apply And.intro)
  rintro ⟨i, l, last, st, esD, esS, esO⟩ HINV
  dsimp only at HINV ⊢
  obtain ⟨H1, H2, LD, LS, LO, HMD, HMS, HMO, HI⟩ := HINV
  by_cases hil : i < l0.length
  rotate_left
  · skip
    repeat' ((conv => whnf); first
      | (with_reducible refine spB_dec ?_ ?_ <;> intro _ <;> (try (exfalso; first | contradiction | omega | (rename_i hz; refine hz (decide_eq_decide.2 ?_); omega) | (rename_i hz; refine hz ?_; simp; done) | (simp only [LN] at *; omega))))
      | (focus (exact (rfl : Nat.ble _ _ = true))))
    all_goals (try (conv => whnf))
    all_goals try (show Nat.ble _ _ = true; rfl)
    all_goals first
      | ((first | (with_reducible apply Z.retF1) | (with_reducible apply Z.retF2) | (with_reducible apply Z.retF0)); (focus (exact rfl)); (repeat' (first | exact trivial | (with_reducible apply Z.frz_one) | (with_reducible apply Z.frz_agg) | (with_reducible apply Z.fq_int) | (with_reducible apply Z.fq_bool) | (exact Z.frz_nil) | (exact Z.frz_osl0 rfl rfl rfl) | (with_reducible apply Z.fq_nil) | (with_reducible apply Z.fq_ro) | ((with_reducible apply Z.fq_gsl); (focus (first | rfl | exact Z.isB_map _ | exact Z.gB_snoc.symm)); (focus (exact fun _ => rfl))) | ((with_reducible apply Z.fq_osl); (focus (exact rfl)); (focus (first | exact rfl | (simp only [List.length_map, Nat.zero_add]; done) | ((try simp only [LN] at *) <;> omega))); (focus (exact fun _ => rfl))) | ((with_reducible apply Z.fq_src); (focus (exact rfl)); (focus (first | exact rfl | (simp only [List.length_map, Nat.zero_add]; done) | ((try simp only [LN] at *) <;> omega))); (focus (exact fun _ => rfl))) | exact rfl | ((apply Z.fq_osl); (focus (exact rfl)); (focus (first | exact rfl | (simp only [List.length_map, Nat.zero_add]; done) | ((try simp only [LN] at *) <;> omega))); (focus (exact fun _ => rfl))) | ((apply Z.fq_src); (focus (exact rfl)); (focus (first | exact rfl | (simp only [List.length_map, Nat.zero_add]; done) | ((try simp only [LN] at *) <;> omega))); (focus (exact fun _ => rfl))) | (apply Z.fq_ro) | (apply Z.fq_int) | (apply Z.fq_bool) | apply And.intro)); (all_goals (try exact (fun _ => none))); all_goals (rfl))
      | (exfalso; rename_i hz; cases hz; done)
      | (exfalso; (try simp only [LN] at *) <;> omega)
      | (fail)
  by_cases h80 : i = 80
  · skip
    repeat' ((conv => whnf); first
      | (with_reducible refine spB_dec ?_ ?_ <;> intro _ <;> (try (exfalso; first | contradiction | omega | (rename_i hz; refine hz (decide_eq_decide.2 ?_); omega) | (rename_i hz; refine hz ?_; simp; done) | (simp only [LN] at *; omega))))
      | (with_reducible refine spB_beq ?_ ?_ <;> intro _ <;> (try (exfalso; first | contradiction | omega | (rename_i hz; refine hz (decide_eq_decide.2 ?_); omega) | (rename_i hz; refine hz ?_; simp; done) | (simp only [LN] at *; omega))))
      | ((with_reducible apply ixN_litp); (focus (exact rfl)); (focus ((try simp only [LN] at *) <;> omega)))
      | ((with_reducible refine rowN_map ?_ ?_); (focus ((try simp only [LN] at *) <;> omega)); intro x hx)
      | (focus (exact (rfl : Nat.ble _ _ = true))))
    all_goals (try (conv => whnf))
    all_goals try (show Nat.ble _ _ = true; rfl)
    all_goals first
      | ((first | (with_reducible apply Z.retF1) | (with_reducible apply Z.retF2) | (with_reducible apply Z.retF0)); (focus (exact rfl)); (repeat' (first | exact trivial | (with_reducible apply Z.frz_one) | (with_reducible apply Z.frz_agg) | (with_reducible apply Z.fq_int) | (with_reducible apply Z.fq_bool) | (exact Z.frz_nil) | (exact Z.frz_osl0 rfl rfl rfl) | (with_reducible apply Z.fq_nil) | (with_reducible apply Z.fq_ro) | ((with_reducible apply Z.fq_gsl); (focus (first | rfl | exact Z.isB_map _ | exact Z.gB_snoc.symm)); (focus (exact fun _ => rfl))) | ((with_reducible apply Z.fq_osl); (focus (exact rfl)); (focus (first | exact rfl | (simp only [List.length_map, Nat.zero_add]; done) | ((try simp only [LN] at *) <;> omega))); (focus (exact fun _ => rfl))) | ((with_reducible apply Z.fq_src); (focus (exact rfl)); (focus (first | exact rfl | (simp only [List.length_map, Nat.zero_add]; done) | ((try simp only [LN] at *) <;> omega))); (focus (exact fun _ => rfl))) | exact rfl | ((apply Z.fq_osl); (focus (exact rfl)); (focus (first | exact rfl | (simp only [List.length_map, Nat.zero_add]; done) | ((try simp only [LN] at *) <;> omega))); (focus (exact fun _ => rfl))) | ((apply Z.fq_src); (focus (exact rfl)); (focus (first | exact rfl | (simp only [List.length_map, Nat.zero_add]; done) | ((try simp only [LN] at *) <;> omega))); (focus (exact fun _ => rfl))) | (apply Z.fq_ro) | (apply Z.fq_int) | (apply Z.fq_bool) | apply And.intro)); (all_goals (try exact (fun _ => none))); all_goals (rfl))
      | (exfalso; rename_i hz; cases hz; done)
      | (exfalso; (try simp only [LN] at *) <;> omega)
      | (fail)
  obtain ⟨o, ho⟩ := getElem?_some' (xs := l0) (i := i) hil
  have ho0 := hby o (List.mem_of_getElem? ho)
  obtain ⟨b9, hb⟩ : ∃ a, o.by_.tmod 5 = a := ⟨_, rfl⟩
  have hb9 := tm_nn (a := o.by_) (b := 5) ho0 (by omega)
  rw [hb] at hb9
  obtain ⟨r9, hr⟩ : ∃ a, o.kind.tmod 4 = a := ⟨_, rfl⟩
  have hr9 := tm_4 o.kind
  rw [hr] at hr9
  obtain ⟨k9, hk, hk9⟩ := kind4 r9 hr9
  have hsl := HI.sl
  obtain ⟨_, hl16, _⟩ := okS_all HI.ok
  rcases hk9 with rfl | rfl | rfl | rfl
  · skip
    by_cases he : (putR kk (last + b9) o.save l).err = 0
    rotate_left
    · have c1 := put_con kk (last + b9) o.save l (by omega)
      generalize putR kk (last + b9) o.save l = R at *
      repeat' ((conv => whnf); first
        | with_reducible first | refine spB_t ?_
        | ((with_reducible apply spB_cong); (focus (simp only [beq_self_eq_true, bne_self_eq_false, Bool.true_bne, Bool.false_bne, Bool.bne_true, Bool.bne_false, Bool.true_beq, Bool.false_beq, Bool.not_true, Bool.not_false, Bool.not_not, Int.reduceBEq, Int.reduceBNe, Int.reduceLE, Int.reduceLT, Int.reduceEq, decide_true, decide_false]; rfl)))
        | with_reducible first | refine spB_yes (by decide) ?_ | refine spB_no (by decide) ?_ | refine spB_f ?_ | refine spB_not ?_ | refine spB_yes (by assumption) ?_ | refine spB_no (by assumption) ?_
        | (with_reducible refine spB_dec ?_ ?_ <;> intro _ <;> (try (exfalso; first | contradiction | omega | (rename_i hz; refine hz (decide_eq_decide.2 ?_); omega) | (rename_i hz; refine hz ?_; simp; done) | (simp only [LN] at *; omega))))
        | (with_reducible refine spB_beq ?_ ?_ <;> intro _ <;> (try (exfalso; first | contradiction | omega | (rename_i hz; refine hz (decide_eq_decide.2 ?_); omega) | (rename_i hz; refine hz ?_; simp; done) | (simp only [LN] at *; omega))))
        | (with_reducible refine spB_bne ?_ ?_ <;> intro _ <;> (try (exfalso; first | contradiction | omega | (rename_i hz; refine hz (decide_eq_decide.2 ?_); omega) | (rename_i hz; refine hz ?_; simp; done) | (simp only [LN] at *; omega))))
        | with_reducible first | refine Z.rowN_known ho ?_
        | ((with_reducible refine vN_to b9 ?_ ?_); (focus (exact hb)))
        | ((with_reducible refine vN_to r9 ?_ ?_); (focus (exact hr)))
        | ((with_reducible refine vN_to 0 ?_ ?_); (focus (exact hk)))
        | ((with_reducible apply ixN_litp); (focus (exact rfl)); (focus ((try simp only [LN] at *) <;> omega)))
        | with_reducible refine wr_i64 (by first | omega | (simp only [LN] at *; omega)) ?_
        | with_reducible refine wr_u64 (by omega) ?_
        | with_reducible refine nzN_mk (by omega) ?_
        | ((first | (with_reducible refine Z.conZ_mz ?_ (c1) ?_) | (with_reducible refine Z.callZ_mk ?_ (c1) ?_)); (focus ((repeat' (first | exact trivial | exact rfl | exact Z.low_nil | exact Z.low_nil2 | exact low_osl (fun _ => rfl) | (refine Z.low_osln ?_ (fun _ => rfl); (simp only [List.length_map]; done)) | exact low_oslr (fun _ => rfl) | exact Z.low_gslm (by first | rfl | exact Z.kb_some rfl) (fun _ => rfl) | exact .inl rfl | exact .inr ⟨_, rfl⟩ | apply And.intro)); done)))
        | (focus (exact (rfl : Nat.ble _ _ = true))))
      all_goals (try (conv => whnf))
      all_goals try (show Nat.ble _ _ = true; rfl)
      all_goals first
        | ((refine Z.rndK ((i + 1, l, last, st, esD, esS, esO)) (fun s => [0, 1, 2, 3]) rfl rfl rfl rfl ?_ ?_ ?_ ?_); (focus (repeat' (first | exact trivial | exact Z.map_sub (Z.MapL.ren HMD fun _ => rfl) rfl | exact Z.map_sub (Z.MapL.ren HMS fun _ => rfl) rfl | exact Z.map_sub (Z.MapL.ren HMO fun _ => rfl) rfl | exact Z.map_sub (Z.MapL.ren HMT fun _ => rfl) rfl | exact Z.it_sub rfl | exact rfl | (rw [List.map_append]; exact rfl) | apply And.intro))); (focus (repeat' (first | exact trivial | exact Z.map_sub (Z.MapL.ren HMD fun _ => rfl) rfl | exact Z.map_sub (Z.MapL.ren HMS fun _ => rfl) rfl | exact Z.map_sub (Z.MapL.ren HMO fun _ => rfl) rfl | exact Z.map_sub (Z.MapL.ren HMT fun _ => rfl) rfl | exact Z.it_sub rfl | (intro b hb; cases hb; rfl) | (intro b hb; cases hb; subst hlb; rfl) | (intro b hb; cases hb; rw [List.map_append]; rfl) | (intro b hb; cases hb; done) | exact Z.blk_sub rfl rfl (ren_map fun _ => rfl) | exact Z.blk_sub rfl rfl (Z.ren_app (ren_map fun _ => rfl) (ren_map fun _ => rfl)) | exact Z.blk_sub rfl (by first | (rw [List.map_append]; rfl) | (rw [List.map_set]; rfl) | simp only [List.map_append, List.map_cons, List.map_nil, List.map_set]) (ren_map fun _ => rfl) | exact Z.gB_sub rfl rfl (ren_map fun _ => rfl) | exact Z.gB_sub' rfl (by first | rfl | (rw [List.map_append]; rfl) | simp only [List.map_append, List.map_cons, List.map_nil]) (ren_map fun _ => rfl) | apply And.intro))); (focus (dsimp only; exact ⟨by omega, by omega, LD, LS, LO, HMD, HMS, HMO, HI⟩)); ((try dsimp only); omega))
        | (exfalso; rename_i hz; cases hz; done)
        | (exfalso; (try simp only [LN] at *) <;> omega)
        | (exfalso; first | contradiction | omega | (rename_i hz; refine hz (decide_eq_decide.2 ?_); omega) | (rename_i hz; refine hz ?_; simp; done) | (simp only [LN] at *; omega))
        | (fail)
    obtain ⟨hv1, hv2, L1, hR, h16, hM⟩ := HI.put he
    have c1 := put_con kk (last + b9) o.save l (by omega)
    rw [hR] at c1
    dsimp only at c1
    have hat := fun i x hx => hM.at (i := i) (x := x) hx
    have hdr := fun LD' hD => hM.drop (LD' := LD') h16 hD
    have hsl2 := hM.sl
    have hrl := hM.pos h16
    have hgl := hM.glen
    clear hR he hM
    generalize keptF kk L1 = rows at *
    generalize goneF kk L1 = gs at *
    repeat' ((conv => whnf); first
      | with_reducible first | refine spB_t ?_
      | ((with_reducible apply spB_cong); (focus (simp only [beq_self_eq_true, bne_self_eq_false, Bool.true_bne, Bool.false_bne, Bool.bne_true, Bool.bne_false, Bool.true_beq, Bool.false_beq, Bool.not_true, Bool.not_false, Bool.not_not, Int.reduceBEq, Int.reduceBNe, Int.reduceLE, Int.reduceLT, Int.reduceEq, decide_true, decide_false]; rfl)))
      | with_reducible first | refine spB_yes (by decide) ?_ | refine spB_no (by decide) ?_ | refine spB_f ?_ | refine spB_not ?_ | refine spB_yes (by assumption) ?_ | refine spB_no (by assumption) ?_
      | (with_reducible refine spB_dec ?_ ?_ <;> intro _ <;> (try (exfalso; first | contradiction | omega | (rename_i hz; refine hz (decide_eq_decide.2 ?_); omega) | (rename_i hz; refine hz ?_; simp; done) | (simp only [LN] at *; omega))))
      | (with_reducible refine spB_beq ?_ ?_ <;> intro _ <;> (try (exfalso; first | contradiction | omega | (rename_i hz; refine hz (decide_eq_decide.2 ?_); omega) | (rename_i hz; refine hz ?_; simp; done) | (simp only [LN] at *; omega))))
      | with_reducible first | refine Z.rowN_known ho ?_
      | ((with_reducible refine vN_to b9 ?_ ?_); (focus (exact hb)))
      | ((with_reducible refine vN_to r9 ?_ ?_); (focus (exact hr)))
      | ((with_reducible refine vN_to 0 ?_ ?_); (focus (exact hk)))
      | ((with_reducible refine Z.MapL.upd' HMS (v := o.save) ?_ ?_); (focus rfl); (intro esHMS HMS))
      | ((with_reducible refine Z.MapL.upd' HMO (v := true) ?_ ?_); (focus rfl); (intro esHMO HMO))
      | ((with_reducible apply ixN_litp); (focus (exact rfl)); (focus ((try simp only [LN] at *) <;> omega)))
      | with_reducible refine wr_i64 (by first | omega | (simp only [LN] at *; omega)) ?_
      | with_reducible refine wr_u64 (by omega) ?_
      | with_reducible refine nzN_mk (by omega) ?_
      | ((first | (with_reducible refine Z.conZ_mz ?_ (c1) ?_) | (with_reducible refine Z.callZ_mk ?_ (c1) ?_)); (focus ((repeat' (first | exact trivial | exact rfl | exact Z.low_nil | exact Z.low_nil2 | exact low_osl (fun _ => rfl) | (refine Z.low_osln ?_ (fun _ => rfl); (simp only [List.length_map]; done)) | exact low_oslr (fun _ => rfl) | exact Z.low_gslm (by first | rfl | exact Z.kb_some rfl) (fun _ => rfl) | exact .inl rfl | exact .inr ⟨_, rfl⟩ | apply And.intro)); done)))
      | (focus (exact (rfl : Nat.ble _ _ = true))))
    all_goals (try (conv => whnf))
    all_goals try (show Nat.ble _ _ = true; rfl)
    all_goals try (exfalso; rename_i hz; cases hz; done)
    all_goals try (exfalso; (try simp only [LN] at *) <;> omega)
    all_goals try (exfalso; first | contradiction | omega | (rename_i hz; refine hz (decide_eq_decide.2 ?_); omega) | (rename_i hz; refine hz ?_; simp; done) | (simp only [LN] at *; omega))
    refine Z.loopK tabOk (fun zq : Nat × Y.MS => [(163, .val (.int .i64 (zq.1 : Int)))]) (fun zq : Nat × Y.MS => ([(1, some (Z.Ob.m zq.2))] : Z.Kr)) (fun zq => zq.1 ≤ gs.length ∧ ∃ L, Z.MapL .u64 enB zq.2 L ∧ ∀ y, (Z.lookK L y).getD false = ((Z.lookK LD y).getD false || decide (y ∈ gs.take zq.1))) (fun zq => gs.length - zq.1) (0, esD) 6 [(5, _), (7, _), (8, _), (9, _), (10, _), (11, _), (16, _), (36, _), (37, _), (38, _), (161, _), (162, _)] ⟨rfl, rfl, rfl, rfl, rfl, rfl, rfl, rfl, rfl, rfl, rfl, rfl, trivial⟩ [(0, some _), (2, some _), (3, some _), (4, some _), (5, some _)] ⟨rfl, rfl, rfl, rfl, rfl, trivial⟩ ?_ ?_ rfl rfl ⟨Nat.zero_le _, LD, HMD, fun y => by simp⟩ ?_
    · repeat' (first | exact trivial | apply And.intro | exact ⟨_, rfl, rfl⟩ | exact ⟨_, rfl, Z.Imp.refl _⟩ | exact ⟨_, rfl, Z.Imp.nilg _⟩ | exact ⟨_, rfl, Z.Imp.nilr _ _⟩)
    · repeat' (first | exact trivial | (intro b hb; cases hb; done) | exact (fun b hb => ⟨b, hb, Z.ImpO.refl b⟩) | (intro b hb; cases hb; refine ⟨_, rfl, ⟨rfl, rfl, rfl⟩, ?_⟩; (repeat' (first | exact trivial | apply And.intro | exact Z.Imp.refl _ | exact Z.Imp.nilg _ | exact Z.Imp.nilr _ _)); done) | apply And.intro)
    rintro ⟨h2, esD2⟩ HINV
    dsimp only at HINV ⊢
    obtain ⟨HH2, LD2, HMD, HL2⟩ := HINV
    by_cases hh2 : h2 < gs.length
    · obtain ⟨x, hx⟩ := getElem?_some' (xs := gs) (i := h2) hh2
      obtain ⟨vD0, vS, vO, hxn⟩ := hat h2 x hx
      have vD := (HL2 x).trans (by rw [vD0, decide_eq_false hxn]; rfl : _ = false)
      repeat' ((conv => whnf); first
        | with_reducible first | refine spB_t ?_
        | with_reducible first | refine spB_yes (by decide) ?_ | refine spB_no (by decide) ?_ | refine spB_f ?_ | refine spB_not ?_ | refine spB_yes (by assumption) ?_ | refine spB_no (by assumption) ?_
        | (with_reducible refine spB_dec ?_ ?_ <;> intro _ <;> (try (exfalso; first | contradiction | omega | (rename_i hz; refine hz (decide_eq_decide.2 ?_); omega) | (rename_i hz; refine hz ?_; simp; done) | (simp only [LN] at *; omega))))
        | (with_reducible refine spB_beq ?_ ?_ <;> intro _ <;> (try (exfalso; first | contradiction | omega | (rename_i hz; refine hz (decide_eq_decide.2 ?_); omega) | (rename_i hz; refine hz ?_; simp; done) | (simp only [LN] at *; omega))))
        | with_reducible first | refine Z.rowN_known hx ?_
        | ((with_reducible refine look_is HMD vD ?_ ?_); (focus rfl); (intro okk))
        | ((with_reducible refine look_is HMS vS ?_ ?_); (focus rfl); (intro okk))
        | ((with_reducible refine look_is HMO vO ?_ ?_); (focus rfl); (intro okk))
        | ((with_reducible refine Z.MapL.upd' HMD (v := true) ?_ ?_); (focus rfl); (intro esHMD HMD))
        | ((with_reducible apply ixN_litp); (focus (exact rfl)); (focus ((try simp only [LN] at *) <;> omega)))
        | with_reducible refine wr_i64 (by first | omega | (simp only [LN] at *; omega)) ?_
        | (focus (exact (rfl : Nat.ble _ _ = true))))
      all_goals (try (conv => whnf))
      all_goals try (show Nat.ble _ _ = true; rfl)
      all_goals first
        | ((refine Z.rndK ((h2 + 1, esHMD)) (fun s => [0, 1, 2, 3, 4, 5]) rfl rfl rfl rfl ?_ ?_ ?_ ?_); (focus (repeat' (first | exact trivial | exact Z.map_sub (Z.MapL.ren HMD fun _ => rfl) rfl | exact Z.map_sub (Z.MapL.ren HMS fun _ => rfl) rfl | exact Z.map_sub (Z.MapL.ren HMO fun _ => rfl) rfl | exact Z.map_sub (Z.MapL.ren HMT fun _ => rfl) rfl | exact Z.it_sub rfl | exact rfl | (rw [List.map_append]; exact rfl) | apply And.intro))); (focus (repeat' (first | exact trivial | exact Z.map_sub (Z.MapL.ren HMD fun _ => rfl) rfl | exact Z.map_sub (Z.MapL.ren HMS fun _ => rfl) rfl | exact Z.map_sub (Z.MapL.ren HMO fun _ => rfl) rfl | exact Z.map_sub (Z.MapL.ren HMT fun _ => rfl) rfl | exact Z.it_sub rfl | (intro b hb; cases hb; rfl) | (intro b hb; cases hb; subst hlb; rfl) | (intro b hb; cases hb; rw [List.map_append]; rfl) | (intro b hb; cases hb; done) | exact Z.blk_sub rfl rfl (ren_map fun _ => rfl) | exact Z.blk_sub rfl rfl (Z.ren_app (ren_map fun _ => rfl) (ren_map fun _ => rfl)) | exact Z.blk_sub rfl (by first | (rw [List.map_append]; rfl) | (rw [List.map_set]; rfl) | simp only [List.map_append, List.map_cons, List.map_nil, List.map_set]) (ren_map fun _ => rfl) | exact Z.gB_sub rfl rfl (ren_map fun _ => rfl) | exact Z.gB_sub' rfl (by first | rfl | (rw [List.map_append]; rfl) | simp only [List.map_append, List.map_cons, List.map_nil]) (ren_map fun _ => rfl) | apply And.intro))); (focus (refine ⟨by dsimp only; omega, _, HMD, gone_step hx HL2⟩)); ((try dsimp only); omega))
        | (exfalso; rename_i hz; cases hz; done)
        | (exfalso; (try simp only [LN] at *) <;> omega)
        | (exfalso; first | contradiction | omega | (rename_i hz; refine hz (decide_eq_decide.2 ?_); omega) | (rename_i hz; refine hz ?_; simp; done) | (simp only [LN] at *; omega))
        | (fail)
    have hge : gs.take h2 = gs := List.take_of_length_le (by omega)
    rw [hge] at HL2
    have HR2 := hdr LD2 HL2
    have hne : rows ≠ [] := fun e => by rw [e] at hrl; simp at hrl
    have hlk := HR2.lastK hne
    have hnp := HR2.np
    have ck := check_con kk rows (by omega)
    rw [HR2.ok] at ck
    have cl := Lat_con kk rows (by omega)
    have hie : rows.isEmpty = false := by cases rows with
      | nil => exact absurd rfl hne
      | cons => rfl
    rw [HR2.ok, hie] at cl
    simp only [cond_true, Bool.not_false] at ck cl
    repeat' ((conv => whnf); first
      | ((with_reducible apply spB_cong); (focus (simp only [beq_self_eq_true, bne_self_eq_false, Bool.true_bne, Bool.false_bne, Bool.bne_true, Bool.bne_false, Bool.true_beq, Bool.false_beq, Bool.not_true, Bool.not_false, Bool.not_not, Int.reduceBEq, Int.reduceBNe, Int.reduceLE, Int.reduceLT, Int.reduceEq, decide_true, decide_false]; rfl)))
      | with_reducible first | refine spB_yes (by decide) ?_ | refine spB_no (by decide) ?_ | refine spB_f ?_ | refine spB_not ?_ | refine spB_yes (by assumption) ?_ | refine spB_no (by assumption) ?_
      | (with_reducible refine spB_dec ?_ ?_ <;> intro _ <;> (try (exfalso; first | contradiction | omega | (rename_i hz; refine hz (decide_eq_decide.2 ?_); omega) | (rename_i hz; refine hz ?_; simp; done) | (simp only [LN] at *; omega))))
      | with_reducible first | refine apN_mk (by kernel_rfl) ?_ | refine Z.callZ_in tabOk 125 Try.f26 _ Try.func26 (by kernel_rfl) rfl rfl rfl ?_
      | ((first | (with_reducible refine Z.conZ_mz ?_ (ck) ?_) | (with_reducible refine Z.callZ_mk ?_ (ck) ?_) | (with_reducible refine Z.conZ_mz ?_ (cl) ?_) | (with_reducible refine Z.callZ_mk ?_ (cl) ?_)); (focus ((repeat' (first | exact trivial | exact rfl | exact Z.low_nil | exact Z.low_nil2 | exact low_osl (fun _ => rfl) | (refine Z.low_osln ?_ (fun _ => rfl); (simp only [List.length_map]; done)) | exact low_oslr (fun _ => rfl) | exact Z.low_gslm (by first | rfl | exact Z.kb_some rfl) (fun _ => rfl) | exact .inl rfl | exact .inr ⟨_, rfl⟩ | apply And.intro)); done)))
      | (focus (exact (rfl : Nat.ble _ _ = true))))
    all_goals (try (conv => whnf))
    all_goals try (show Nat.ble _ _ = true; rfl)
    all_goals try (exfalso; (try simp only [LN] at *) <;> omega)
    refine Z.loopK tabOk (fun zq : Nat × Int × Y.MS => [(25, .val (.int .i64 (zq.1 : Int))), (11, .val (.int .i64 zq.2.1))]) (fun zq : Nat × Int × Y.MS => ([(7, some (Z.Ob.m zq.2.2))] : Z.Kr)) (fun zq => zq.1 ≤ rows.length ∧ zq.2.1 = (npl (rows.take zq.1) : Int) ∧ ∃ L, Z.MapL .u64 enB zq.2.2 L ∧ ∀ z, (Z.lookK L z).getD false = anyN z (rows.take zq.1)) (fun zq => rows.length - zq.1) (0, 0, ⟨[], 0⟩) 8 [(1, _), (2, _), (3, _), (4, _), (5, _), (12, _), (23, _), (24, _)] ⟨rfl, rfl, rfl, rfl, rfl, rfl, rfl, rfl, trivial⟩ [(0, some _), (1, some _), (2, some _), (3, some _), (4, some _), (5, some _), (6, some _)] ⟨rfl, rfl, rfl, rfl, rfl, rfl, rfl, trivial⟩ ?_ ?_ rfl rfl ⟨Nat.zero_le _, rfl, [], Z.MapL.nil, fun z => rfl⟩ ?_
    · repeat' (first | exact trivial | apply And.intro | exact ⟨_, rfl, rfl⟩ | exact ⟨_, rfl, Z.Imp.refl _⟩ | exact ⟨_, rfl, Z.Imp.nilg _⟩ | exact ⟨_, rfl, Z.Imp.nilr _ _⟩)
    · repeat' (first | exact trivial | (intro b hb; cases hb; done) | exact (fun b hb => ⟨b, hb, Z.ImpO.refl b⟩) | (intro b hb; cases hb; refine ⟨_, rfl, ⟨rfl, rfl, rfl⟩, ?_⟩; (repeat' (first | exact trivial | apply And.intro | exact Z.Imp.refl _ | exact Z.Imp.nilg _ | exact Z.Imp.nilr _ _)); done) | apply And.intro)
    rintro ⟨j, rs, esT⟩ HINV
    dsimp only at HINV ⊢
    obtain ⟨HJ, HS, LT, HMT, HT⟩ := HINV
    by_cases hj : j < rows.length
    · obtain ⟨x, hx⟩ := getElem?_some' (xs := rows) (i := j) hj
      obtain ⟨vD, vS, vO⟩ := HR2.row hx
      have hnt := npl_take hx
      have hnb : npl (rows.take j) ≤ j := Nat.le_trans List.countP_le_length (by rw [List.length_take]; omega)
      repeat' ((conv => whnf); first
        | with_reducible first | refine spB_t ?_
        | ((with_reducible apply spB_cong); (focus (simp only [beq_self_eq_true, bne_self_eq_false, Bool.true_bne, Bool.false_bne, Bool.bne_true, Bool.bne_false, Bool.true_beq, Bool.false_beq, Bool.not_true, Bool.not_false, Bool.not_not, Int.reduceBEq, Int.reduceBNe, Int.reduceLE, Int.reduceLT, Int.reduceEq, decide_true, decide_false]; rfl)))
        | with_reducible first | refine spB_yes (by decide) ?_ | refine spB_no (by decide) ?_ | refine spB_f ?_ | refine spB_not ?_ | refine spB_yes (by assumption) ?_ | refine spB_no (by assumption) ?_
        | (with_reducible refine spB_dec ?_ ?_ <;> intro _ <;> (try (exfalso; first | contradiction | omega | (rename_i hz; refine hz (decide_eq_decide.2 ?_); omega) | (rename_i hz; refine hz ?_; simp; done) | (simp only [LN] at *; omega))))
        | (with_reducible refine spB_mk ?_ ?_ <;> intro _ <;> (try (exfalso; first | contradiction | omega | (rename_i hz; refine hz (decide_eq_decide.2 ?_); omega) | (rename_i hz; refine hz ?_; simp; done) | (simp only [LN] at *; omega))))
        | with_reducible first | refine Z.rowN_known hx ?_
        | ((with_reducible refine look_is HMD vD ?_ ?_); (focus rfl); (intro okk))
        | ((with_reducible refine look_is HMS vS ?_ ?_); (focus rfl); (intro okk))
        | ((with_reducible refine look_is HMO vO ?_ ?_); (focus rfl); (intro okk))
        | ((with_reducible refine Z.MapL.upd' HMT (v := true) ?_ ?_); (focus rfl); (intro esHMT HMT))
        | ((with_reducible apply ixN_litp); (focus (exact rfl)); (focus ((try simp only [LN] at *) <;> omega)))
        | with_reducible refine wr_i64 (by first | omega | (simp only [LN] at *; omega)) ?_
        | (focus (exact (rfl : Nat.ble _ _ = true))))
      all_goals (try (conv => whnf))
      all_goals try (show Nat.ble _ _ = true; rfl)
      all_goals first
        | ((refine Z.rndK ((j + 1, rs + 1, esHMT)) (fun s => [0, 1, 2, 3, 4, 5, 6, 7]) rfl rfl rfl rfl ?_ ?_ ?_ ?_); (focus (repeat' (first | exact trivial | exact Z.map_sub (Z.MapL.ren HMD fun _ => rfl) rfl | exact Z.map_sub (Z.MapL.ren HMS fun _ => rfl) rfl | exact Z.map_sub (Z.MapL.ren HMO fun _ => rfl) rfl | exact Z.map_sub (Z.MapL.ren HMT fun _ => rfl) rfl | exact Z.it_sub rfl | exact rfl | (rw [List.map_append]; exact rfl) | apply And.intro))); (focus (repeat' (first | exact trivial | exact Z.map_sub (Z.MapL.ren HMD fun _ => rfl) rfl | exact Z.map_sub (Z.MapL.ren HMS fun _ => rfl) rfl | exact Z.map_sub (Z.MapL.ren HMO fun _ => rfl) rfl | exact Z.map_sub (Z.MapL.ren HMT fun _ => rfl) rfl | exact Z.it_sub rfl | (intro b hb; cases hb; rfl) | (intro b hb; cases hb; subst hlb; rfl) | (intro b hb; cases hb; rw [List.map_append]; rfl) | (intro b hb; cases hb; done) | exact Z.blk_sub rfl rfl (ren_map fun _ => rfl) | exact Z.blk_sub rfl rfl (Z.ren_app (ren_map fun _ => rfl) (ren_map fun _ => rfl)) | exact Z.blk_sub rfl (by first | (rw [List.map_append]; rfl) | (rw [List.map_set]; rfl) | simp only [List.map_append, List.map_cons, List.map_nil, List.map_set]) (ren_map fun _ => rfl) | exact Z.gB_sub rfl rfl (ren_map fun _ => rfl) | exact Z.gB_sub' rfl (by first | rfl | (rw [List.map_append]; rfl) | simp only [List.map_append, List.map_cons, List.map_nil]) (ren_map fun _ => rfl) | apply And.intro))); (focus (refine ⟨by dsimp only; omega, ?_, _, HMT, there_step hx HT⟩; (try dsimp only); rw [hnt, HS]; (have hpk : plK x = true := by unfold plK; simp_all); rw [hpk]; simp)); ((try dsimp only); omega))
        | ((refine Z.rndK ((j + 1, rs, esHMT)) (fun s => [0, 1, 2, 3, 4, 5, 6, 7]) rfl rfl rfl rfl ?_ ?_ ?_ ?_); (focus (repeat' (first | exact trivial | exact Z.map_sub (Z.MapL.ren HMD fun _ => rfl) rfl | exact Z.map_sub (Z.MapL.ren HMS fun _ => rfl) rfl | exact Z.map_sub (Z.MapL.ren HMO fun _ => rfl) rfl | exact Z.map_sub (Z.MapL.ren HMT fun _ => rfl) rfl | exact Z.it_sub rfl | exact rfl | (rw [List.map_append]; exact rfl) | apply And.intro))); (focus (repeat' (first | exact trivial | exact Z.map_sub (Z.MapL.ren HMD fun _ => rfl) rfl | exact Z.map_sub (Z.MapL.ren HMS fun _ => rfl) rfl | exact Z.map_sub (Z.MapL.ren HMO fun _ => rfl) rfl | exact Z.map_sub (Z.MapL.ren HMT fun _ => rfl) rfl | exact Z.it_sub rfl | (intro b hb; cases hb; rfl) | (intro b hb; cases hb; subst hlb; rfl) | (intro b hb; cases hb; rw [List.map_append]; rfl) | (intro b hb; cases hb; done) | exact Z.blk_sub rfl rfl (ren_map fun _ => rfl) | exact Z.blk_sub rfl rfl (Z.ren_app (ren_map fun _ => rfl) (ren_map fun _ => rfl)) | exact Z.blk_sub rfl (by first | (rw [List.map_append]; rfl) | (rw [List.map_set]; rfl) | simp only [List.map_append, List.map_cons, List.map_nil, List.map_set]) (ren_map fun _ => rfl) | exact Z.gB_sub rfl rfl (ren_map fun _ => rfl) | exact Z.gB_sub' rfl (by first | rfl | (rw [List.map_append]; rfl) | simp only [List.map_append, List.map_cons, List.map_nil]) (ren_map fun _ => rfl) | apply And.intro))); (focus (refine ⟨by dsimp only; omega, ?_, _, HMT, there_step hx HT⟩; (try dsimp only); rw [hnt, HS]; (have hpk : plK x = false := by unfold plK; simp_all); rw [hpk]; simp)); ((try dsimp only); omega))
        | (exfalso; rename_i hz; cases hz; done)
        | (exfalso; (try simp only [LN] at *) <;> omega)
        | (exfalso; first | contradiction | omega | (rename_i hz; refine hz (decide_eq_decide.2 ?_); omega) | (rename_i hz; refine hz ?_; simp; done) | (simp only [LN] at *; omega))
        | (exfalso; simp_all; done)
        | (fail)
    have hje : rows.take j = rows := List.take_of_length_le (by omega)
    rw [hje] at HS HT
    repeat' ((conv => whnf); first
      | (with_reducible refine spB_dec ?_ ?_ <;> intro _ <;> (try (exfalso; first | contradiction | omega | (rename_i hz; refine hz (decide_eq_decide.2 ?_); omega) | (rename_i hz; refine hz ?_; simp; done) | (simp only [LN] at *; omega))))
      | (focus (exact (rfl : Nat.ble _ _ = true))))
    all_goals (try (conv => whnf))
    all_goals try (show Nat.ble _ _ = true; rfl)
    all_goals try (exfalso; (try simp only [LN] at *) <;> omega)
    refine Z.loopK tabOk (fun zq : List Nat × List (Int × Bool) => []) (fun zq : List Nat × List (Int × Bool) => ([(8, some (Z.Ob.i ⟨3, esHMO.c, zq.1, esHMO.c⟩))] : Z.Kr)) (fun zq => Z.LeftL .u64 enB esHMO zq.1 zq.2 ∧ ∀ z ∈ zq.2, z ∈ (Z.putK LO (last + b9) true)) (fun zq => zq.2.length) ([], (Z.putK LO (last + b9) true)) 9 [(1, _), (2, _), (3, _), (4, _), (5, _), (11, _), (12, _), (66, _)] ⟨rfl, rfl, rfl, rfl, rfl, rfl, rfl, rfl, trivial⟩ [(0, some _), (1, some _), (2, some _), (3, some _), (4, some _), (5, some _), (6, some _), (7, some _)] ⟨rfl, rfl, rfl, rfl, rfl, rfl, rfl, rfl, trivial⟩ ?_ ?_ rfl rfl ⟨HMO.left, fun z hz => hz⟩ ?_
    · repeat' (first | exact trivial | apply And.intro | exact ⟨_, rfl, rfl⟩ | exact ⟨_, rfl, Z.Imp.refl _⟩ | exact ⟨_, rfl, Z.Imp.nilg _⟩ | exact ⟨_, rfl, Z.Imp.nilr _ _⟩)
    · repeat' (first | exact trivial | (intro b hb; cases hb; done) | exact (fun b hb => ⟨b, hb, Z.ImpO.refl b⟩) | (intro b hb; cases hb; refine ⟨_, rfl, ⟨rfl, rfl, rfl⟩, ?_⟩; (repeat' (first | exact trivial | apply And.intro | exact Z.Imp.refl _ | exact Z.Imp.nilg _ | exact Z.Imp.nilr _ _)); done) | apply And.intro)
    rintro ⟨seen, r⟩ HINV
    dsimp only at HINV ⊢
    obtain ⟨HR, HY⟩ := HINV
    repeat' ((conv => whnf); first
      | with_reducible first | refine spB_t ?_
      | ((with_reducible apply spB_cong); (focus (simp only [beq_self_eq_true, bne_self_eq_false, Bool.true_bne, Bool.false_bne, Bool.bne_true, Bool.bne_false, Bool.true_beq, Bool.false_beq, Bool.not_true, Bool.not_false, Bool.not_not, Int.reduceBEq, Int.reduceBNe, Int.reduceLE, Int.reduceLT, Int.reduceEq, decide_true, decide_false]; rfl)))
      | with_reducible first | refine spB_yes (by decide) ?_ | refine spB_no (by decide) ?_ | refine spB_f ?_ | refine spB_not ?_ | refine spB_yes (by assumption) ?_ | refine spB_no (by assumption) ?_
      | (with_reducible refine spB_dec ?_ ?_ <;> intro _ <;> (try (exfalso; first | contradiction | omega | (rename_i hz; refine hz (decide_eq_decide.2 ?_); omega) | (rename_i hz; refine hz ?_; simp; done) | (simp only [LN] at *; omega))))
      | (with_reducible refine spB_beq ?_ ?_ <;> intro _ <;> (try (exfalso; first | contradiction | omega | (rename_i hz; refine hz (decide_eq_decide.2 ?_); omega) | (rename_i hz; refine hz ?_; simp; done) | (simp only [LN] at *; omega))))
      | (with_reducible refine spB_mk ?_ ?_ <;> intro _ <;> (try (exfalso; first | contradiction | omega | (rename_i hz; refine hz (decide_eq_decide.2 ?_); omega) | (rename_i hz; refine hz ?_; simp; done) | (simp only [LN] at *; omega))))
      | ((with_reducible refine Z.MapL.next HMO ?_ ?_ HR ?_ ?_); (focus rfl); (focus rfl); (focus intro hr0); rotate_left; (focus (intro y9 b9 r9 hp9 hl9 hm9; have hy9 := HY y9 (hp9.mem_iff.2 (by simp)); cases hA : anyN y9.1 rows; (focus (obtain ⟨vO, vS, vD⟩ := HR2.key HMO.keys hy9 hA; have vT := (HT y9.1).trans hA)); rotate_left; (have vT := (HT y9.1).trans hA))))
      | ((with_reducible refine Z.MapL.entry HMO hm9 (s := seen) ?_ ?_ ?_); (focus rfl); (focus (exact rfl)))
      | ((with_reducible refine look_is HMD vD ?_ ?_); (focus rfl); (intro okk))
      | ((with_reducible refine look_is HMS vS ?_ ?_); (focus rfl); (intro okk))
      | ((with_reducible refine look_is HMO vO ?_ ?_); (focus rfl); (intro okk))
      | ((with_reducible refine look_is HMT vT ?_ ?_); (focus rfl); (intro okk))
      | ((with_reducible refine Z.MapL.look HMO (z0 := false) ?_ ?_); (focus rfl))
      | ((with_reducible refine Z.MapL.look HMS (z0 := false) ?_ ?_); (focus rfl))
      | with_reducible refine wr_i64 (by first | omega | (simp only [LN] at *; omega)) ?_
      | ((first | (with_reducible refine Z.conZ_mz ?_ (ck) ?_) | (with_reducible refine Z.callZ_mk ?_ (ck) ?_) | (with_reducible refine Z.conZ_mz ?_ (cl) ?_) | (with_reducible refine Z.callZ_mk ?_ (cl) ?_)); (focus ((repeat' (first | exact trivial | exact rfl | exact Z.low_nil | exact Z.low_nil2 | exact low_osl (fun _ => rfl) | (refine Z.low_osln ?_ (fun _ => rfl); (simp only [List.length_map]; done)) | exact low_oslr (fun _ => rfl) | exact Z.low_gslm (by first | rfl | exact Z.kb_some rfl) (fun _ => rfl) | exact .inl rfl | exact .inr ⟨_, rfl⟩ | apply And.intro)); done)))
      | ((with_reducible apply ex_and); exact rfl)
      | (focus (exact (rfl : Nat.ble _ _ = true))))
    all_goals (try (conv => whnf))
    all_goals try (show Nat.ble _ _ = true; rfl)
    all_goals first
      | ((refine Z.rndK ((seen ++ [b9], r9)) (fun s => [0, 1, 2, 3, 4, 5, 6, 7, 8]) rfl rfl rfl rfl ?_ ?_ ?_ ?_); (focus (repeat' (first | exact trivial | exact Z.map_sub (Z.MapL.ren HMD fun _ => rfl) rfl | exact Z.map_sub (Z.MapL.ren HMS fun _ => rfl) rfl | exact Z.map_sub (Z.MapL.ren HMO fun _ => rfl) rfl | exact Z.map_sub (Z.MapL.ren HMT fun _ => rfl) rfl | exact Z.it_sub rfl | exact rfl | (rw [List.map_append]; exact rfl) | apply And.intro))); (focus (repeat' (first | exact trivial | exact Z.map_sub (Z.MapL.ren HMD fun _ => rfl) rfl | exact Z.map_sub (Z.MapL.ren HMS fun _ => rfl) rfl | exact Z.map_sub (Z.MapL.ren HMO fun _ => rfl) rfl | exact Z.map_sub (Z.MapL.ren HMT fun _ => rfl) rfl | exact Z.it_sub rfl | (intro b hb; cases hb; rfl) | (intro b hb; cases hb; subst hlb; rfl) | (intro b hb; cases hb; rw [List.map_append]; rfl) | (intro b hb; cases hb; done) | exact Z.blk_sub rfl rfl (ren_map fun _ => rfl) | exact Z.blk_sub rfl rfl (Z.ren_app (ren_map fun _ => rfl) (ren_map fun _ => rfl)) | exact Z.blk_sub rfl (by first | (rw [List.map_append]; rfl) | (rw [List.map_set]; rfl) | simp only [List.map_append, List.map_cons, List.map_nil, List.map_set]) (ren_map fun _ => rfl) | exact Z.gB_sub rfl rfl (ren_map fun _ => rfl) | exact Z.gB_sub' rfl (by first | rfl | (rw [List.map_append]; rfl) | simp only [List.map_append, List.map_cons, List.map_nil]) (ren_map fun _ => rfl) | apply And.intro))); (focus (exact ⟨hl9, fun z hz => HY z (hp9.mem_iff.2 (List.mem_cons_of_mem _ hz))⟩)); (have h8 := hp9.length_eq; simp only [List.length_cons] at h8; (try dsimp only); omega))
      | ((refine Z.rndK ((i + 1, rows, (last + b9), st, esD2, esHMS, esHMO)) (fun s => [0, 1, 2, 3]) rfl rfl rfl rfl ?_ ?_ ?_ ?_); (focus (repeat' (first | exact trivial | exact Z.map_sub (Z.MapL.ren HMD fun _ => rfl) rfl | exact Z.map_sub (Z.MapL.ren HMS fun _ => rfl) rfl | exact Z.map_sub (Z.MapL.ren HMO fun _ => rfl) rfl | exact Z.map_sub (Z.MapL.ren HMT fun _ => rfl) rfl | exact Z.it_sub rfl | exact rfl | (rw [List.map_append]; exact rfl) | apply And.intro))); (focus (repeat' (first | exact trivial | exact Z.map_sub (Z.MapL.ren HMD fun _ => rfl) rfl | exact Z.map_sub (Z.MapL.ren HMS fun _ => rfl) rfl | exact Z.map_sub (Z.MapL.ren HMO fun _ => rfl) rfl | exact Z.map_sub (Z.MapL.ren HMT fun _ => rfl) rfl | exact Z.it_sub rfl | (intro b hb; cases hb; rfl) | (intro b hb; cases hb; subst hlb; rfl) | (intro b hb; cases hb; rw [List.map_append]; rfl) | (intro b hb; cases hb; done) | exact Z.blk_sub rfl rfl (ren_map fun _ => rfl) | exact Z.blk_sub rfl rfl (Z.ren_app (ren_map fun _ => rfl) (ren_map fun _ => rfl)) | exact Z.blk_sub rfl (by first | (rw [List.map_append]; rfl) | (rw [List.map_set]; rfl) | simp only [List.map_append, List.map_cons, List.map_nil, List.map_set]) (ren_map fun _ => rfl) | exact Z.gB_sub rfl rfl (ren_map fun _ => rfl) | exact Z.gB_sub' rfl (by first | rfl | (rw [List.map_append]; rfl) | simp only [List.map_append, List.map_cons, List.map_nil]) (ren_map fun _ => rfl) | apply And.intro))); (focus (exact ⟨by dsimp only; omega, by dsimp only; omega, LD2, (Z.putK LS (last + b9) o.save), (Z.putK LO (last + b9) true), HMD, HMS, HMO, HR2⟩)); ((try dsimp only); omega))
      | (exfalso; rename_i hz; cases hz; done)
      | (exfalso; (try simp only [LN] at *) <;> omega)
      | (exfalso; first | contradiction | omega | (rename_i hz; refine hz (decide_eq_decide.2 ?_); omega) | (rename_i hz; refine hz ?_; simp; done) | (simp only [LN] at *; omega))
      | (exfalso; simp_all; done)
      | (fail)
  · skip
    by_cases hl0 : l = []
    · subst hl0
      have he : (setR kk (last + b9) []).err ≠ 0 := (HI.nil (n := last + b9)).1
      · have c1 := set_con kk (last + b9) [] (Nat.zero_le _)
        generalize setR kk (last + b9) [] = R at *
        repeat' ((conv => whnf); first
          | with_reducible first | refine spB_t ?_
          | ((with_reducible apply spB_cong); (focus (simp only [beq_self_eq_true, bne_self_eq_false, Bool.true_bne, Bool.false_bne, Bool.bne_true, Bool.bne_false, Bool.true_beq, Bool.false_beq, Bool.not_true, Bool.not_false, Bool.not_not, Int.reduceBEq, Int.reduceBNe, Int.reduceLE, Int.reduceLT, Int.reduceEq, decide_true, decide_false]; rfl)))
          | with_reducible first | refine spB_yes (by decide) ?_ | refine spB_no (by decide) ?_ | refine spB_f ?_ | refine spB_not ?_ | refine spB_yes (by assumption) ?_ | refine spB_no (by assumption) ?_
          | (with_reducible refine spB_dec ?_ ?_ <;> intro _ <;> (try (exfalso; first | contradiction | omega | (rename_i hz; refine hz (decide_eq_decide.2 ?_); omega) | (rename_i hz; refine hz ?_; simp; done) | (simp only [LN] at *; omega))))
          | (with_reducible refine spB_beq ?_ ?_ <;> intro _ <;> (try (exfalso; first | contradiction | omega | (rename_i hz; refine hz (decide_eq_decide.2 ?_); omega) | (rename_i hz; refine hz ?_; simp; done) | (simp only [LN] at *; omega))))
          | (with_reducible refine spB_bne ?_ ?_ <;> intro _ <;> (try (exfalso; first | contradiction | omega | (rename_i hz; refine hz (decide_eq_decide.2 ?_); omega) | (rename_i hz; refine hz ?_; simp; done) | (simp only [LN] at *; omega))))
          | with_reducible first | refine Z.rowN_known ho ?_
          | ((with_reducible refine vN_to b9 ?_ ?_); (focus (exact hb)))
          | ((with_reducible refine vN_to r9 ?_ ?_); (focus (exact hr)))
          | ((with_reducible refine vN_to 1 ?_ ?_); (focus (exact hk)))
          | ((with_reducible apply ixN_litp); (focus (exact rfl)); (focus ((try simp only [LN] at *) <;> omega)))
          | with_reducible refine wr_i64 (by first | omega | (simp only [LN] at *; omega)) ?_
          | with_reducible refine wr_u64 (by omega) ?_
          | with_reducible refine nzN_mk (by omega) ?_
          | ((first | (with_reducible refine Z.conZ_mz ?_ (c1) ?_) | (with_reducible refine Z.callZ_mk ?_ (c1) ?_)); (focus ((repeat' (first | exact trivial | exact rfl | exact Z.low_nil | exact Z.low_nil2 | exact low_osl (fun _ => rfl) | (refine Z.low_osln ?_ (fun _ => rfl); (simp only [List.length_map]; done)) | exact low_oslr (fun _ => rfl) | exact Z.low_gslm (by first | rfl | exact Z.kb_some rfl) (fun _ => rfl) | exact .inl rfl | exact .inr ⟨_, rfl⟩ | apply And.intro)); done)))
          | (focus (exact (rfl : Nat.ble _ _ = true))))
        all_goals (try (conv => whnf))
        all_goals try (show Nat.ble _ _ = true; rfl)
        all_goals first
          | ((refine Z.rndK ((i + 1, [], last, st, esD, esS, esO)) (fun s => [0, 1, 2, 3]) rfl rfl rfl rfl ?_ ?_ ?_ ?_); (focus (repeat' (first | exact trivial | exact Z.map_sub (Z.MapL.ren HMD fun _ => rfl) rfl | exact Z.map_sub (Z.MapL.ren HMS fun _ => rfl) rfl | exact Z.map_sub (Z.MapL.ren HMO fun _ => rfl) rfl | exact Z.map_sub (Z.MapL.ren HMT fun _ => rfl) rfl | exact Z.it_sub rfl | exact rfl | (rw [List.map_append]; exact rfl) | apply And.intro))); (focus (repeat' (first | exact trivial | exact Z.map_sub (Z.MapL.ren HMD fun _ => rfl) rfl | exact Z.map_sub (Z.MapL.ren HMS fun _ => rfl) rfl | exact Z.map_sub (Z.MapL.ren HMO fun _ => rfl) rfl | exact Z.map_sub (Z.MapL.ren HMT fun _ => rfl) rfl | exact Z.it_sub rfl | (intro b hb; cases hb; rfl) | (intro b hb; cases hb; subst hlb; rfl) | (intro b hb; cases hb; rw [List.map_append]; rfl) | (intro b hb; cases hb; done) | exact Z.blk_sub rfl rfl (ren_map fun _ => rfl) | exact Z.blk_sub rfl rfl (Z.ren_app (ren_map fun _ => rfl) (ren_map fun _ => rfl)) | exact Z.blk_sub rfl (by first | (rw [List.map_append]; rfl) | (rw [List.map_set]; rfl) | simp only [List.map_append, List.map_cons, List.map_nil, List.map_set]) (ren_map fun _ => rfl) | exact Z.gB_sub rfl rfl (ren_map fun _ => rfl) | exact Z.gB_sub' rfl (by first | rfl | (rw [List.map_append]; rfl) | simp only [List.map_append, List.map_cons, List.map_nil]) (ren_map fun _ => rfl) | apply And.intro))); (focus (dsimp only; exact ⟨by omega, by omega, LD, LS, LO, HMD, HMS, HMO, HI⟩)); ((try dsimp only); omega))
          | (exfalso; rename_i hz; cases hz; done)
          | (exfalso; (try simp only [LN] at *) <;> omega)
          | (exfalso; first | contradiction | omega | (rename_i hz; refine hz (decide_eq_decide.2 ?_); omega) | (rename_i hz; refine hz ?_; simp; done) | (simp only [LN] at *; omega))
          | (fail)
    have hl0' : 0 < l.length := List.length_pos_iff.2 hl0
    obtain ⟨m, hm, hml⟩ := tm_n (a := o.choice) (n := l.length) hl0'
    obtain ⟨q, hq⟩ := getElem?_some' (xs := l) (i := m) hml
    by_cases he : (setR kk (q.num) l).err = 0
    rotate_left
    · have c1 := set_con kk (q.num) l (by omega)
      generalize setR kk (q.num) l = R at *
      repeat' ((conv => whnf); first
        | with_reducible first | refine spB_t ?_
        | ((with_reducible apply spB_cong); (focus (simp only [beq_self_eq_true, bne_self_eq_false, Bool.true_bne, Bool.false_bne, Bool.bne_true, Bool.bne_false, Bool.true_beq, Bool.false_beq, Bool.not_true, Bool.not_false, Bool.not_not, Int.reduceBEq, Int.reduceBNe, Int.reduceLE, Int.reduceLT, Int.reduceEq, decide_true, decide_false]; rfl)))
        | with_reducible first | refine spB_yes (by decide) ?_ | refine spB_no (by decide) ?_ | refine spB_f ?_ | refine spB_not ?_ | refine spB_yes (by assumption) ?_ | refine spB_no (by assumption) ?_
        | (with_reducible refine spB_dec ?_ ?_ <;> intro _ <;> (try (exfalso; first | contradiction | omega | (rename_i hz; refine hz (decide_eq_decide.2 ?_); omega) | (rename_i hz; refine hz ?_; simp; done) | (simp only [LN] at *; omega))))
        | (with_reducible refine spB_beq ?_ ?_ <;> intro _ <;> (try (exfalso; first | contradiction | omega | (rename_i hz; refine hz (decide_eq_decide.2 ?_); omega) | (rename_i hz; refine hz ?_; simp; done) | (simp only [LN] at *; omega))))
        | (with_reducible refine spB_bne ?_ ?_ <;> intro _ <;> (try (exfalso; first | contradiction | omega | (rename_i hz; refine hz (decide_eq_decide.2 ?_); omega) | (rename_i hz; refine hz ?_; simp; done) | (simp only [LN] at *; omega))))
        | with_reducible first | refine Z.rowN_known ho ?_
        | ((with_reducible refine vN_to b9 ?_ ?_); (focus (exact hb)))
        | ((with_reducible refine vN_to r9 ?_ ?_); (focus (exact hr)))
        | ((with_reducible refine vN_to 1 ?_ ?_); (focus (exact hk)))
        | ((with_reducible refine vN_to (m : Int) ?_ ?_); (focus (rw [List.length_map]; exact hm)))
        | ((with_reducible refine ixN_mk m ?_ ?_ ?_); (focus omega); (focus ((try simp only [LN] at *) <;> omega)))
        | with_reducible first | refine Z.rowN_known hq ?_
        | ((with_reducible apply ixN_litp); (focus (exact rfl)); (focus ((try simp only [LN] at *) <;> omega)))
        | with_reducible refine wr_i64 (by first | omega | (simp only [LN] at *; omega)) ?_
        | with_reducible refine wr_u64 (by omega) ?_
        | with_reducible refine nzN_mk (by omega) ?_
        | ((first | (with_reducible refine Z.conZ_mz ?_ (c1) ?_) | (with_reducible refine Z.callZ_mk ?_ (c1) ?_)); (focus ((repeat' (first | exact trivial | exact rfl | exact Z.low_nil | exact Z.low_nil2 | exact low_osl (fun _ => rfl) | (refine Z.low_osln ?_ (fun _ => rfl); (simp only [List.length_map]; done)) | exact low_oslr (fun _ => rfl) | exact Z.low_gslm (by first | rfl | exact Z.kb_some rfl) (fun _ => rfl) | exact .inl rfl | exact .inr ⟨_, rfl⟩ | apply And.intro)); done)))
        | with_reducible first | refine Z.drawZ_rule tabOk mixOk ?_ | refine Z.apZ_mk (by kernel_rfl) ?_
        | (focus (exact (rfl : Nat.ble _ _ = true))))
      all_goals (try (conv => whnf))
      all_goals try (show Nat.ble _ _ = true; rfl)
      all_goals first
        | ((refine Z.rndK ((i + 1, l, last, st, esD, esS, esO)) (fun s => [0, 1, 2, 3]) rfl rfl rfl rfl ?_ ?_ ?_ ?_); (focus (repeat' (first | exact trivial | exact Z.map_sub (Z.MapL.ren HMD fun _ => rfl) rfl | exact Z.map_sub (Z.MapL.ren HMS fun _ => rfl) rfl | exact Z.map_sub (Z.MapL.ren HMO fun _ => rfl) rfl | exact Z.map_sub (Z.MapL.ren HMT fun _ => rfl) rfl | exact Z.it_sub rfl | exact rfl | (rw [List.map_append]; exact rfl) | apply And.intro))); (focus (repeat' (first | exact trivial | exact Z.map_sub (Z.MapL.ren HMD fun _ => rfl) rfl | exact Z.map_sub (Z.MapL.ren HMS fun _ => rfl) rfl | exact Z.map_sub (Z.MapL.ren HMO fun _ => rfl) rfl | exact Z.map_sub (Z.MapL.ren HMT fun _ => rfl) rfl | exact Z.it_sub rfl | (intro b hb; cases hb; rfl) | (intro b hb; cases hb; subst hlb; rfl) | (intro b hb; cases hb; rw [List.map_append]; rfl) | (intro b hb; cases hb; done) | exact Z.blk_sub rfl rfl (ren_map fun _ => rfl) | exact Z.blk_sub rfl rfl (Z.ren_app (ren_map fun _ => rfl) (ren_map fun _ => rfl)) | exact Z.blk_sub rfl (by first | (rw [List.map_append]; rfl) | (rw [List.map_set]; rfl) | simp only [List.map_append, List.map_cons, List.map_nil, List.map_set]) (ren_map fun _ => rfl) | exact Z.gB_sub rfl rfl (ren_map fun _ => rfl) | exact Z.gB_sub' rfl (by first | rfl | (rw [List.map_append]; rfl) | simp only [List.map_append, List.map_cons, List.map_nil]) (ren_map fun _ => rfl) | apply And.intro))); (focus (dsimp only; exact ⟨by omega, by omega, LD, LS, LO, HMD, HMS, HMO, HI⟩)); ((try dsimp only); omega))
        | (exfalso; rename_i hz; cases hz; done)
        | (exfalso; (try simp only [LN] at *) <;> omega)
        | (exfalso; first | contradiction | omega | (rename_i hz; refine hz (decide_eq_decide.2 ?_); omega) | (rename_i hz; refine hz ?_; simp; done) | (simp only [LN] at *; omega))
        | (fail)
    obtain ⟨hv1, vO, L1, hR, h16, hM⟩ := HI.set he
    have c1 := set_con kk (q.num) l (by omega)
    rw [hR] at c1
    dsimp only at c1
    have hat := fun i x hx => hM.at (i := i) (x := x) hx
    have hdr := fun LD' hD => hM.drop (LD' := LD') h16 hD
    have hsl2 := hM.sl
    have hrl := hM.pos h16
    have hgl := hM.glen
    clear hR he hM
    generalize keptF kk L1 = rows at *
    generalize goneF kk L1 = gs at *
    repeat' ((conv => whnf); first
      | with_reducible first | refine spB_t ?_
      | ((with_reducible apply spB_cong); (focus (simp only [beq_self_eq_true, bne_self_eq_false, Bool.true_bne, Bool.false_bne, Bool.bne_true, Bool.bne_false, Bool.true_beq, Bool.false_beq, Bool.not_true, Bool.not_false, Bool.not_not, Int.reduceBEq, Int.reduceBNe, Int.reduceLE, Int.reduceLT, Int.reduceEq, decide_true, decide_false]; rfl)))
      | with_reducible first | refine spB_yes (by decide) ?_ | refine spB_no (by decide) ?_ | refine spB_f ?_ | refine spB_not ?_ | refine spB_yes (by assumption) ?_ | refine spB_no (by assumption) ?_
      | (with_reducible refine spB_dec ?_ ?_ <;> intro _ <;> (try (exfalso; first | contradiction | omega | (rename_i hz; refine hz (decide_eq_decide.2 ?_); omega) | (rename_i hz; refine hz ?_; simp; done) | (simp only [LN] at *; omega))))
      | (with_reducible refine spB_beq ?_ ?_ <;> intro _ <;> (try (exfalso; first | contradiction | omega | (rename_i hz; refine hz (decide_eq_decide.2 ?_); omega) | (rename_i hz; refine hz ?_; simp; done) | (simp only [LN] at *; omega))))
      | with_reducible first | refine Z.rowN_known ho ?_
      | ((with_reducible refine vN_to b9 ?_ ?_); (focus (exact hb)))
      | ((with_reducible refine vN_to r9 ?_ ?_); (focus (exact hr)))
      | ((with_reducible refine vN_to 1 ?_ ?_); (focus (exact hk)))
      | ((with_reducible refine look_is HMO vO ?_ ?_); (focus rfl); (intro okk))
      | ((with_reducible refine vN_to (m : Int) ?_ ?_); (focus (rw [List.length_map]; exact hm)))
      | ((with_reducible refine ixN_mk m ?_ ?_ ?_); (focus omega); (focus ((try simp only [LN] at *) <;> omega)))
      | with_reducible first | refine Z.rowN_known hq ?_
      | ((with_reducible refine Z.MapL.upd' HMO (v := false) ?_ ?_); (focus rfl); (intro esHMO HMO))
      | ((with_reducible apply ixN_litp); (focus (exact rfl)); (focus ((try simp only [LN] at *) <;> omega)))
      | with_reducible refine wr_i64 (by first | omega | (simp only [LN] at *; omega)) ?_
      | with_reducible refine wr_u64 (by omega) ?_
      | with_reducible refine nzN_mk (by omega) ?_
      | ((first | (with_reducible refine Z.conZ_mz ?_ (c1) ?_) | (with_reducible refine Z.callZ_mk ?_ (c1) ?_)); (focus ((repeat' (first | exact trivial | exact rfl | exact Z.low_nil | exact Z.low_nil2 | exact low_osl (fun _ => rfl) | (refine Z.low_osln ?_ (fun _ => rfl); (simp only [List.length_map]; done)) | exact low_oslr (fun _ => rfl) | exact Z.low_gslm (by first | rfl | exact Z.kb_some rfl) (fun _ => rfl) | exact .inl rfl | exact .inr ⟨_, rfl⟩ | apply And.intro)); done)))
      | with_reducible first | refine Z.drawZ_rule tabOk mixOk ?_ | refine Z.apZ_mk (by kernel_rfl) ?_
      | (focus (exact (rfl : Nat.ble _ _ = true))))
    all_goals (try (conv => whnf))
    all_goals try (show Nat.ble _ _ = true; rfl)
    all_goals try (exfalso; rename_i hz; cases hz; done)
    all_goals try (exfalso; (try simp only [LN] at *) <;> omega)
    all_goals try (exfalso; first | contradiction | omega | (rename_i hz; refine hz (decide_eq_decide.2 ?_); omega) | (rename_i hz; refine hz ?_; simp; done) | (simp only [LN] at *; omega))
    refine Z.loopK tabOk (fun zq : Nat × Y.MS => [(163, .val (.int .i64 (zq.1 : Int)))]) (fun zq : Nat × Y.MS => ([(1, some (Z.Ob.m zq.2))] : Z.Kr)) (fun zq => zq.1 ≤ gs.length ∧ ∃ L, Z.MapL .u64 enB zq.2 L ∧ ∀ y, (Z.lookK L y).getD false = ((Z.lookK LD y).getD false || decide (y ∈ gs.take zq.1))) (fun zq => gs.length - zq.1) (0, esD) 6 [(5, _), (7, _), (8, _), (9, _), (10, _), (11, _), (16, _), (36, _), (37, _), (38, _), (161, _), (162, _)] ⟨rfl, rfl, rfl, rfl, rfl, rfl, rfl, rfl, rfl, rfl, rfl, rfl, trivial⟩ [(0, some _), (2, some _), (3, some _), (4, some _), (5, some _)] ⟨rfl, rfl, rfl, rfl, rfl, trivial⟩ ?_ ?_ rfl rfl ⟨Nat.zero_le _, LD, HMD, fun y => by simp⟩ ?_
    · repeat' (first | exact trivial | apply And.intro | exact ⟨_, rfl, rfl⟩ | exact ⟨_, rfl, Z.Imp.refl _⟩ | exact ⟨_, rfl, Z.Imp.nilg _⟩ | exact ⟨_, rfl, Z.Imp.nilr _ _⟩)
    · repeat' (first | exact trivial | (intro b hb; cases hb; done) | exact (fun b hb => ⟨b, hb, Z.ImpO.refl b⟩) | (intro b hb; cases hb; refine ⟨_, rfl, ⟨rfl, rfl, rfl⟩, ?_⟩; (repeat' (first | exact trivial | apply And.intro | exact Z.Imp.refl _ | exact Z.Imp.nilg _ | exact Z.Imp.nilr _ _)); done) | apply And.intro)
    rintro ⟨h2, esD2⟩ HINV
    dsimp only at HINV ⊢
    obtain ⟨HH2, LD2, HMD, HL2⟩ := HINV
    by_cases hh2 : h2 < gs.length
    · obtain ⟨x, hx⟩ := getElem?_some' (xs := gs) (i := h2) hh2
      obtain ⟨vD0, vS, vO, hxn⟩ := hat h2 x hx
      have vD := (HL2 x).trans (by rw [vD0, decide_eq_false hxn]; rfl : _ = false)
      repeat' ((conv => whnf); first
        | with_reducible first | refine spB_t ?_
        | with_reducible first | refine spB_yes (by decide) ?_ | refine spB_no (by decide) ?_ | refine spB_f ?_ | refine spB_not ?_ | refine spB_yes (by assumption) ?_ | refine spB_no (by assumption) ?_
        | (with_reducible refine spB_dec ?_ ?_ <;> intro _ <;> (try (exfalso; first | contradiction | omega | (rename_i hz; refine hz (decide_eq_decide.2 ?_); omega) | (rename_i hz; refine hz ?_; simp; done) | (simp only [LN] at *; omega))))
        | (with_reducible refine spB_beq ?_ ?_ <;> intro _ <;> (try (exfalso; first | contradiction | omega | (rename_i hz; refine hz (decide_eq_decide.2 ?_); omega) | (rename_i hz; refine hz ?_; simp; done) | (simp only [LN] at *; omega))))
        | with_reducible first | refine Z.rowN_known hx ?_
        | ((with_reducible refine look_is HMD vD ?_ ?_); (focus rfl); (intro okk))
        | ((with_reducible refine look_is HMS vS ?_ ?_); (focus rfl); (intro okk))
        | ((with_reducible refine look_is HMO vO ?_ ?_); (focus rfl); (intro okk))
        | ((with_reducible refine Z.MapL.upd' HMD (v := true) ?_ ?_); (focus rfl); (intro esHMD HMD))
        | ((with_reducible apply ixN_litp); (focus (exact rfl)); (focus ((try simp only [LN] at *) <;> omega)))
        | with_reducible refine wr_i64 (by first | omega | (simp only [LN] at *; omega)) ?_
        | (focus (exact (rfl : Nat.ble _ _ = true))))
      all_goals (try (conv => whnf))
      all_goals try (show Nat.ble _ _ = true; rfl)
      all_goals first
        | ((refine Z.rndK ((h2 + 1, esHMD)) (fun s => [0, 1, 2, 3, 4, 5]) rfl rfl rfl rfl ?_ ?_ ?_ ?_); (focus (repeat' (first | exact trivial | exact Z.map_sub (Z.MapL.ren HMD fun _ => rfl) rfl | exact Z.map_sub (Z.MapL.ren HMS fun _ => rfl) rfl | exact Z.map_sub (Z.MapL.ren HMO fun _ => rfl) rfl | exact Z.map_sub (Z.MapL.ren HMT fun _ => rfl) rfl | exact Z.it_sub rfl | exact rfl | (rw [List.map_append]; exact rfl) | apply And.intro))); (focus (repeat' (first | exact trivial | exact Z.map_sub (Z.MapL.ren HMD fun _ => rfl) rfl | exact Z.map_sub (Z.MapL.ren HMS fun _ => rfl) rfl | exact Z.map_sub (Z.MapL.ren HMO fun _ => rfl) rfl | exact Z.map_sub (Z.MapL.ren HMT fun _ => rfl) rfl | exact Z.it_sub rfl | (intro b hb; cases hb; rfl) | (intro b hb; cases hb; subst hlb; rfl) | (intro b hb; cases hb; rw [List.map_append]; rfl) | (intro b hb; cases hb; done) | exact Z.blk_sub rfl rfl (ren_map fun _ => rfl) | exact Z.blk_sub rfl rfl (Z.ren_app (ren_map fun _ => rfl) (ren_map fun _ => rfl)) | exact Z.blk_sub rfl (by first | (rw [List.map_append]; rfl) | (rw [List.map_set]; rfl) | simp only [List.map_append, List.map_cons, List.map_nil, List.map_set]) (ren_map fun _ => rfl) | exact Z.gB_sub rfl rfl (ren_map fun _ => rfl) | exact Z.gB_sub' rfl (by first | rfl | (rw [List.map_append]; rfl) | simp only [List.map_append, List.map_cons, List.map_nil]) (ren_map fun _ => rfl) | apply And.intro))); (focus (refine ⟨by dsimp only; omega, _, HMD, gone_step hx HL2⟩)); ((try dsimp only); omega))
        | (exfalso; rename_i hz; cases hz; done)
        | (exfalso; (try simp only [LN] at *) <;> omega)
        | (exfalso; first | contradiction | omega | (rename_i hz; refine hz (decide_eq_decide.2 ?_); omega) | (rename_i hz; refine hz ?_; simp; done) | (simp only [LN] at *; omega))
        | (fail)
    have hge : gs.take h2 = gs := List.take_of_length_le (by omega)
    rw [hge] at HL2
    have HR2 := hdr LD2 HL2
    have hne : rows ≠ [] := fun e => by rw [e] at hrl; simp at hrl
    have hlk := HR2.lastK hne
    have hnp := HR2.np
    have ck := check_con kk rows (by omega)
    rw [HR2.ok] at ck
    have cl := Lat_con kk rows (by omega)
    have hie : rows.isEmpty = false := by cases rows with
      | nil => exact absurd rfl hne
      | cons => rfl
    rw [HR2.ok, hie] at cl
    simp only [cond_true, Bool.not_false] at ck cl
    repeat' ((conv => whnf); first
      | ((with_reducible apply spB_cong); (focus (simp only [beq_self_eq_true, bne_self_eq_false, Bool.true_bne, Bool.false_bne, Bool.bne_true, Bool.bne_false, Bool.true_beq, Bool.false_beq, Bool.not_true, Bool.not_false, Bool.not_not, Int.reduceBEq, Int.reduceBNe, Int.reduceLE, Int.reduceLT, Int.reduceEq, decide_true, decide_false]; rfl)))
      | with_reducible first | refine spB_yes (by decide) ?_ | refine spB_no (by decide) ?_ | refine spB_f ?_ | refine spB_not ?_ | refine spB_yes (by assumption) ?_ | refine spB_no (by assumption) ?_
      | (with_reducible refine spB_dec ?_ ?_ <;> intro _ <;> (try (exfalso; first | contradiction | omega | (rename_i hz; refine hz (decide_eq_decide.2 ?_); omega) | (rename_i hz; refine hz ?_; simp; done) | (simp only [LN] at *; omega))))
      | with_reducible first | refine apN_mk (by kernel_rfl) ?_ | refine Z.callZ_in tabOk 125 Try.f26 _ Try.func26 (by kernel_rfl) rfl rfl rfl ?_
      | ((first | (with_reducible refine Z.conZ_mz ?_ (ck) ?_) | (with_reducible refine Z.callZ_mk ?_ (ck) ?_) | (with_reducible refine Z.conZ_mz ?_ (cl) ?_) | (with_reducible refine Z.callZ_mk ?_ (cl) ?_)); (focus ((repeat' (first | exact trivial | exact rfl | exact Z.low_nil | exact Z.low_nil2 | exact low_osl (fun _ => rfl) | (refine Z.low_osln ?_ (fun _ => rfl); (simp only [List.length_map]; done)) | exact low_oslr (fun _ => rfl) | exact Z.low_gslm (by first | rfl | exact Z.kb_some rfl) (fun _ => rfl) | exact .inl rfl | exact .inr ⟨_, rfl⟩ | apply And.intro)); done)))
      | (focus (exact (rfl : Nat.ble _ _ = true))))
    all_goals (try (conv => whnf))
    all_goals try (show Nat.ble _ _ = true; rfl)
    all_goals try (exfalso; (try simp only [LN] at *) <;> omega)
    refine Z.loopK tabOk (fun zq : Nat × Int × Y.MS => [(25, .val (.int .i64 (zq.1 : Int))), (11, .val (.int .i64 zq.2.1))]) (fun zq : Nat × Int × Y.MS => ([(7, some (Z.Ob.m zq.2.2))] : Z.Kr)) (fun zq => zq.1 ≤ rows.length ∧ zq.2.1 = (npl (rows.take zq.1) : Int) ∧ ∃ L, Z.MapL .u64 enB zq.2.2 L ∧ ∀ z, (Z.lookK L z).getD false = anyN z (rows.take zq.1)) (fun zq => rows.length - zq.1) (0, 0, ⟨[], 0⟩) 8 [(1, _), (2, _), (3, _), (4, _), (5, _), (12, _), (23, _), (24, _)] ⟨rfl, rfl, rfl, rfl, rfl, rfl, rfl, rfl, trivial⟩ [(0, some _), (1, some _), (2, some _), (3, some _), (4, some _), (5, some _), (6, some _)] ⟨rfl, rfl, rfl, rfl, rfl, rfl, rfl, trivial⟩ ?_ ?_ rfl rfl ⟨Nat.zero_le _, rfl, [], Z.MapL.nil, fun z => rfl⟩ ?_
    · repeat' (first | exact trivial | apply And.intro | exact ⟨_, rfl, rfl⟩ | exact ⟨_, rfl, Z.Imp.refl _⟩ | exact ⟨_, rfl, Z.Imp.nilg _⟩ | exact ⟨_, rfl, Z.Imp.nilr _ _⟩)
    · repeat' (first | exact trivial | (intro b hb; cases hb; done) | exact (fun b hb => ⟨b, hb, Z.ImpO.refl b⟩) | (intro b hb; cases hb; refine ⟨_, rfl, ⟨rfl, rfl, rfl⟩, ?_⟩; (repeat' (first | exact trivial | apply And.intro | exact Z.Imp.refl _ | exact Z.Imp.nilg _ | exact Z.Imp.nilr _ _)); done) | apply And.intro)
    rintro ⟨j, rs, esT⟩ HINV
    dsimp only at HINV ⊢
    obtain ⟨HJ, HS, LT, HMT, HT⟩ := HINV
    by_cases hj : j < rows.length
    · obtain ⟨x, hx⟩ := getElem?_some' (xs := rows) (i := j) hj
      obtain ⟨vD, vS, vO⟩ := HR2.row hx
      have hnt := npl_take hx
      have hnb : npl (rows.take j) ≤ j := Nat.le_trans List.countP_le_length (by rw [List.length_take]; omega)
      repeat' ((conv => whnf); first
        | with_reducible first | refine spB_t ?_
        | ((with_reducible apply spB_cong); (focus (simp only [beq_self_eq_true, bne_self_eq_false, Bool.true_bne, Bool.false_bne, Bool.bne_true, Bool.bne_false, Bool.true_beq, Bool.false_beq, Bool.not_true, Bool.not_false, Bool.not_not, Int.reduceBEq, Int.reduceBNe, Int.reduceLE, Int.reduceLT, Int.reduceEq, decide_true, decide_false]; rfl)))
        | with_reducible first | refine spB_yes (by decide) ?_ | refine spB_no (by decide) ?_ | refine spB_f ?_ | refine spB_not ?_ | refine spB_yes (by assumption) ?_ | refine spB_no (by assumption) ?_
        | (with_reducible refine spB_dec ?_ ?_ <;> intro _ <;> (try (exfalso; first | contradiction | omega | (rename_i hz; refine hz (decide_eq_decide.2 ?_); omega) | (rename_i hz; refine hz ?_; simp; done) | (simp only [LN] at *; omega))))
        | (with_reducible refine spB_mk ?_ ?_ <;> intro _ <;> (try (exfalso; first | contradiction | omega | (rename_i hz; refine hz (decide_eq_decide.2 ?_); omega) | (rename_i hz; refine hz ?_; simp; done) | (simp only [LN] at *; omega))))
        | with_reducible first | refine Z.rowN_known hx ?_
        | ((with_reducible refine look_is HMD vD ?_ ?_); (focus rfl); (intro okk))
        | ((with_reducible refine look_is HMS vS ?_ ?_); (focus rfl); (intro okk))
        | ((with_reducible refine look_is HMO vO ?_ ?_); (focus rfl); (intro okk))
        | ((with_reducible refine Z.MapL.upd' HMT (v := true) ?_ ?_); (focus rfl); (intro esHMT HMT))
        | ((with_reducible apply ixN_litp); (focus (exact rfl)); (focus ((try simp only [LN] at *) <;> omega)))
        | with_reducible refine wr_i64 (by first | omega | (simp only [LN] at *; omega)) ?_
        | (focus (exact (rfl : Nat.ble _ _ = true))))
      all_goals (try (conv => whnf))
      all_goals try (show Nat.ble _ _ = true; rfl)
      all_goals first
        | ((refine Z.rndK ((j + 1, rs + 1, esHMT)) (fun s => [0, 1, 2, 3, 4, 5, 6, 7]) rfl rfl rfl rfl ?_ ?_ ?_ ?_); (focus (repeat' (first | exact trivial | exact Z.map_sub (Z.MapL.ren HMD fun _ => rfl) rfl | exact Z.map_sub (Z.MapL.ren HMS fun _ => rfl) rfl | exact Z.map_sub (Z.MapL.ren HMO fun _ => rfl) rfl | exact Z.map_sub (Z.MapL.ren HMT fun _ => rfl) rfl | exact Z.it_sub rfl | exact rfl | (rw [List.map_append]; exact rfl) | apply And.intro))); (focus (repeat' (first | exact trivial | exact Z.map_sub (Z.MapL.ren HMD fun _ => rfl) rfl | exact Z.map_sub (Z.MapL.ren HMS fun _ => rfl) rfl | exact Z.map_sub (Z.MapL.ren HMO fun _ => rfl) rfl | exact Z.map_sub (Z.MapL.ren HMT fun _ => rfl) rfl | exact Z.it_sub rfl | (intro b hb; cases hb; rfl) | (intro b hb; cases hb; subst hlb; rfl) | (intro b hb; cases hb; rw [List.map_append]; rfl) | (intro b hb; cases hb; done) | exact Z.blk_sub rfl rfl (ren_map fun _ => rfl) | exact Z.blk_sub rfl rfl (Z.ren_app (ren_map fun _ => rfl) (ren_map fun _ => rfl)) | exact Z.blk_sub rfl (by first | (rw [List.map_append]; rfl) | (rw [List.map_set]; rfl) | simp only [List.map_append, List.map_cons, List.map_nil, List.map_set]) (ren_map fun _ => rfl) | exact Z.gB_sub rfl rfl (ren_map fun _ => rfl) | exact Z.gB_sub' rfl (by first | rfl | (rw [List.map_append]; rfl) | simp only [List.map_append, List.map_cons, List.map_nil]) (ren_map fun _ => rfl) | apply And.intro))); (focus (refine ⟨by dsimp only; omega, ?_, _, HMT, there_step hx HT⟩; (try dsimp only); rw [hnt, HS]; (have hpk : plK x = true := by unfold plK; simp_all); rw [hpk]; simp)); ((try dsimp only); omega))
        | ((refine Z.rndK ((j + 1, rs, esHMT)) (fun s => [0, 1, 2, 3, 4, 5, 6, 7]) rfl rfl rfl rfl ?_ ?_ ?_ ?_); (focus (repeat' (first | exact trivial | exact Z.map_sub (Z.MapL.ren HMD fun _ => rfl) rfl | exact Z.map_sub (Z.MapL.ren HMS fun _ => rfl) rfl | exact Z.map_sub (Z.MapL.ren HMO fun _ => rfl) rfl | exact Z.map_sub (Z.MapL.ren HMT fun _ => rfl) rfl | exact Z.it_sub rfl | exact rfl | (rw [List.map_append]; exact rfl) | apply And.intro))); (focus (repeat' (first | exact trivial | exact Z.map_sub (Z.MapL.ren HMD fun _ => rfl) rfl | exact Z.map_sub (Z.MapL.ren HMS fun _ => rfl) rfl | exact Z.map_sub (Z.MapL.ren HMO fun _ => rfl) rfl | exact Z.map_sub (Z.MapL.ren HMT fun _ => rfl) rfl | exact Z.it_sub rfl | (intro b hb; cases hb; rfl) | (intro b hb; cases hb; subst hlb; rfl) | (intro b hb; cases hb; rw [List.map_append]; rfl) | (intro b hb; cases hb; done) | exact Z.blk_sub rfl rfl (ren_map fun _ => rfl) | exact Z.blk_sub rfl rfl (Z.ren_app (ren_map fun _ => rfl) (ren_map fun _ => rfl)) | exact Z.blk_sub rfl (by first | (rw [List.map_append]; rfl) | (rw [List.map_set]; rfl) | simp only [List.map_append, List.map_cons, List.map_nil, List.map_set]) (ren_map fun _ => rfl) | exact Z.gB_sub rfl rfl (ren_map fun _ => rfl) | exact Z.gB_sub' rfl (by first | rfl | (rw [List.map_append]; rfl) | simp only [List.map_append, List.map_cons, List.map_nil]) (ren_map fun _ => rfl) | apply And.intro))); (focus (refine ⟨by dsimp only; omega, ?_, _, HMT, there_step hx HT⟩; (try dsimp only); rw [hnt, HS]; (have hpk : plK x = false := by unfold plK; simp_all); rw [hpk]; simp)); ((try dsimp only); omega))
        | (exfalso; rename_i hz; cases hz; done)
        | (exfalso; (try simp only [LN] at *) <;> omega)
        | (exfalso; first | contradiction | omega | (rename_i hz; refine hz (decide_eq_decide.2 ?_); omega) | (rename_i hz; refine hz ?_; simp; done) | (simp only [LN] at *; omega))
        | (exfalso; simp_all; done)
        | (fail)
    have hje : rows.take j = rows := List.take_of_length_le (by omega)
    rw [hje] at HS HT
    repeat' ((conv => whnf); first
      | (with_reducible refine spB_dec ?_ ?_ <;> intro _ <;> (try (exfalso; first | contradiction | omega | (rename_i hz; refine hz (decide_eq_decide.2 ?_); omega) | (rename_i hz; refine hz ?_; simp; done) | (simp only [LN] at *; omega))))
      | (focus (exact (rfl : Nat.ble _ _ = true))))
    all_goals (try (conv => whnf))
    all_goals try (show Nat.ble _ _ = true; rfl)
    all_goals try (exfalso; (try simp only [LN] at *) <;> omega)
    refine Z.loopK tabOk (fun zq : List Nat × List (Int × Bool) => []) (fun zq : List Nat × List (Int × Bool) => ([(8, some (Z.Ob.i ⟨3, esHMO.c, zq.1, esHMO.c⟩))] : Z.Kr)) (fun zq => Z.LeftL .u64 enB esHMO zq.1 zq.2 ∧ ∀ z ∈ zq.2, z ∈ (Z.putK LO q.num false)) (fun zq => zq.2.length) ([], (Z.putK LO q.num false)) 9 [(1, _), (2, _), (3, _), (4, _), (5, _), (11, _), (12, _), (66, _)] ⟨rfl, rfl, rfl, rfl, rfl, rfl, rfl, rfl, trivial⟩ [(0, some _), (1, some _), (2, some _), (3, some _), (4, some _), (5, some _), (6, some _), (7, some _)] ⟨rfl, rfl, rfl, rfl, rfl, rfl, rfl, rfl, trivial⟩ ?_ ?_ rfl rfl ⟨HMO.left, fun z hz => hz⟩ ?_
    · repeat' (first | exact trivial | apply And.intro | exact ⟨_, rfl, rfl⟩ | exact ⟨_, rfl, Z.Imp.refl _⟩ | exact ⟨_, rfl, Z.Imp.nilg _⟩ | exact ⟨_, rfl, Z.Imp.nilr _ _⟩)
    · repeat' (first | exact trivial | (intro b hb; cases hb; done) | exact (fun b hb => ⟨b, hb, Z.ImpO.refl b⟩) | (intro b hb; cases hb; refine ⟨_, rfl, ⟨rfl, rfl, rfl⟩, ?_⟩; (repeat' (first | exact trivial | apply And.intro | exact Z.Imp.refl _ | exact Z.Imp.nilg _ | exact Z.Imp.nilr _ _)); done) | apply And.intro)
    rintro ⟨seen, r⟩ HINV
    dsimp only at HINV ⊢
    obtain ⟨HR, HY⟩ := HINV
    repeat' ((conv => whnf); first
      | with_reducible first | refine spB_t ?_
      | ((with_reducible apply spB_cong); (focus (simp only [beq_self_eq_true, bne_self_eq_false, Bool.true_bne, Bool.false_bne, Bool.bne_true, Bool.bne_false, Bool.true_beq, Bool.false_beq, Bool.not_true, Bool.not_false, Bool.not_not, Int.reduceBEq, Int.reduceBNe, Int.reduceLE, Int.reduceLT, Int.reduceEq, decide_true, decide_false]; rfl)))
      | with_reducible first | refine spB_yes (by decide) ?_ | refine spB_no (by decide) ?_ | refine spB_f ?_ | refine spB_not ?_ | refine spB_yes (by assumption) ?_ | refine spB_no (by assumption) ?_
      | (with_reducible refine spB_dec ?_ ?_ <;> intro _ <;> (try (exfalso; first | contradiction | omega | (rename_i hz; refine hz (decide_eq_decide.2 ?_); omega) | (rename_i hz; refine hz ?_; simp; done) | (simp only [LN] at *; omega))))
      | (with_reducible refine spB_beq ?_ ?_ <;> intro _ <;> (try (exfalso; first | contradiction | omega | (rename_i hz; refine hz (decide_eq_decide.2 ?_); omega) | (rename_i hz; refine hz ?_; simp; done) | (simp only [LN] at *; omega))))
      | (with_reducible refine spB_mk ?_ ?_ <;> intro _ <;> (try (exfalso; first | contradiction | omega | (rename_i hz; refine hz (decide_eq_decide.2 ?_); omega) | (rename_i hz; refine hz ?_; simp; done) | (simp only [LN] at *; omega))))
      | ((with_reducible refine Z.MapL.next HMO ?_ ?_ HR ?_ ?_); (focus rfl); (focus rfl); (focus intro hr0); rotate_left; (focus (intro y9 b9 r9 hp9 hl9 hm9; have hy9 := HY y9 (hp9.mem_iff.2 (by simp)); cases hA : anyN y9.1 rows; (focus (obtain ⟨vO, vS, vD⟩ := HR2.key HMO.keys hy9 hA; have vT := (HT y9.1).trans hA)); rotate_left; (have vT := (HT y9.1).trans hA))))
      | ((with_reducible refine Z.MapL.entry HMO hm9 (s := seen) ?_ ?_ ?_); (focus rfl); (focus (exact rfl)))
      | ((with_reducible refine look_is HMD vD ?_ ?_); (focus rfl); (intro okk))
      | ((with_reducible refine look_is HMS vS ?_ ?_); (focus rfl); (intro okk))
      | ((with_reducible refine look_is HMO vO ?_ ?_); (focus rfl); (intro okk))
      | ((with_reducible refine look_is HMT vT ?_ ?_); (focus rfl); (intro okk))
      | ((with_reducible refine Z.MapL.look HMO (z0 := false) ?_ ?_); (focus rfl))
      | ((with_reducible refine Z.MapL.look HMS (z0 := false) ?_ ?_); (focus rfl))
      | with_reducible refine wr_i64 (by first | omega | (simp only [LN] at *; omega)) ?_
      | ((first | (with_reducible refine Z.conZ_mz ?_ (ck) ?_) | (with_reducible refine Z.callZ_mk ?_ (ck) ?_) | (with_reducible refine Z.conZ_mz ?_ (cl) ?_) | (with_reducible refine Z.callZ_mk ?_ (cl) ?_)); (focus ((repeat' (first | exact trivial | exact rfl | exact Z.low_nil | exact Z.low_nil2 | exact low_osl (fun _ => rfl) | (refine Z.low_osln ?_ (fun _ => rfl); (simp only [List.length_map]; done)) | exact low_oslr (fun _ => rfl) | exact Z.low_gslm (by first | rfl | exact Z.kb_some rfl) (fun _ => rfl) | exact .inl rfl | exact .inr ⟨_, rfl⟩ | apply And.intro)); done)))
      | ((with_reducible apply ex_and); exact rfl)
      | (focus (exact (rfl : Nat.ble _ _ = true))))
    all_goals (try (conv => whnf))
    all_goals try (show Nat.ble _ _ = true; rfl)
    all_goals first
      | ((refine Z.rndK ((seen ++ [b9], r9)) (fun s => [0, 1, 2, 3, 4, 5, 6, 7, 8]) rfl rfl rfl rfl ?_ ?_ ?_ ?_); (focus (repeat' (first | exact trivial | exact Z.map_sub (Z.MapL.ren HMD fun _ => rfl) rfl | exact Z.map_sub (Z.MapL.ren HMS fun _ => rfl) rfl | exact Z.map_sub (Z.MapL.ren HMO fun _ => rfl) rfl | exact Z.map_sub (Z.MapL.ren HMT fun _ => rfl) rfl | exact Z.it_sub rfl | exact rfl | (rw [List.map_append]; exact rfl) | apply And.intro))); (focus (repeat' (first | exact trivial | exact Z.map_sub (Z.MapL.ren HMD fun _ => rfl) rfl | exact Z.map_sub (Z.MapL.ren HMS fun _ => rfl) rfl | exact Z.map_sub (Z.MapL.ren HMO fun _ => rfl) rfl | exact Z.map_sub (Z.MapL.ren HMT fun _ => rfl) rfl | exact Z.it_sub rfl | (intro b hb; cases hb; rfl) | (intro b hb; cases hb; subst hlb; rfl) | (intro b hb; cases hb; rw [List.map_append]; rfl) | (intro b hb; cases hb; done) | exact Z.blk_sub rfl rfl (ren_map fun _ => rfl) | exact Z.blk_sub rfl rfl (Z.ren_app (ren_map fun _ => rfl) (ren_map fun _ => rfl)) | exact Z.blk_sub rfl (by first | (rw [List.map_append]; rfl) | (rw [List.map_set]; rfl) | simp only [List.map_append, List.map_cons, List.map_nil, List.map_set]) (ren_map fun _ => rfl) | exact Z.gB_sub rfl rfl (ren_map fun _ => rfl) | exact Z.gB_sub' rfl (by first | rfl | (rw [List.map_append]; rfl) | simp only [List.map_append, List.map_cons, List.map_nil]) (ren_map fun _ => rfl) | apply And.intro))); (focus (exact ⟨hl9, fun z hz => HY z (hp9.mem_iff.2 (List.mem_cons_of_mem _ hz))⟩)); (have h8 := hp9.length_eq; simp only [List.length_cons] at h8; (try dsimp only); omega))
      | ((refine Z.rndK ((i + 1, rows, last, q.num, esD2, esS, esHMO)) (fun s => [0, 1, 2, 3]) rfl rfl rfl rfl ?_ ?_ ?_ ?_); (focus (repeat' (first | exact trivial | exact Z.map_sub (Z.MapL.ren HMD fun _ => rfl) rfl | exact Z.map_sub (Z.MapL.ren HMS fun _ => rfl) rfl | exact Z.map_sub (Z.MapL.ren HMO fun _ => rfl) rfl | exact Z.map_sub (Z.MapL.ren HMT fun _ => rfl) rfl | exact Z.it_sub rfl | exact rfl | (rw [List.map_append]; exact rfl) | apply And.intro))); (focus (repeat' (first | exact trivial | exact Z.map_sub (Z.MapL.ren HMD fun _ => rfl) rfl | exact Z.map_sub (Z.MapL.ren HMS fun _ => rfl) rfl | exact Z.map_sub (Z.MapL.ren HMO fun _ => rfl) rfl | exact Z.map_sub (Z.MapL.ren HMT fun _ => rfl) rfl | exact Z.it_sub rfl | (intro b hb; cases hb; rfl) | (intro b hb; cases hb; subst hlb; rfl) | (intro b hb; cases hb; rw [List.map_append]; rfl) | (intro b hb; cases hb; done) | exact Z.blk_sub rfl rfl (ren_map fun _ => rfl) | exact Z.blk_sub rfl rfl (Z.ren_app (ren_map fun _ => rfl) (ren_map fun _ => rfl)) | exact Z.blk_sub rfl (by first | (rw [List.map_append]; rfl) | (rw [List.map_set]; rfl) | simp only [List.map_append, List.map_cons, List.map_nil, List.map_set]) (ren_map fun _ => rfl) | exact Z.gB_sub rfl rfl (ren_map fun _ => rfl) | exact Z.gB_sub' rfl (by first | rfl | (rw [List.map_append]; rfl) | simp only [List.map_append, List.map_cons, List.map_nil]) (ren_map fun _ => rfl) | apply And.intro))); (focus (exact ⟨by dsimp only; omega, by dsimp only; omega, LD2, LS, (Z.putK LO q.num false), HMD, HMS, HMO, HR2⟩)); ((try dsimp only); omega))
      | (exfalso; rename_i hz; cases hz; done)
      | (exfalso; (try simp only [LN] at *) <;> omega)
      | (exfalso; first | contradiction | omega | (rename_i hz; refine hz (decide_eq_decide.2 ?_); omega) | (rename_i hz; refine hz ?_; simp; done) | (simp only [LN] at *; omega))
      | (exfalso; simp_all; done)
      | (fail)
  · skip
    by_cases hl0 : l = []
    · subst hl0
      have he : (relR kk (last + b9) []).err ≠ 0 := (HI.nil (n := last + b9)).2.1
      · have c1 := rel_con kk (last + b9) [] (Nat.zero_le _)
        generalize relR kk (last + b9) [] = R at *
        repeat' ((conv => whnf); first
          | with_reducible first | refine spB_t ?_
          | ((with_reducible apply spB_cong); (focus (simp only [beq_self_eq_true, bne_self_eq_false, Bool.true_bne, Bool.false_bne, Bool.bne_true, Bool.bne_false, Bool.true_beq, Bool.false_beq, Bool.not_true, Bool.not_false, Bool.not_not, Int.reduceBEq, Int.reduceBNe, Int.reduceLE, Int.reduceLT, Int.reduceEq, decide_true, decide_false]; rfl)))
          | with_reducible first | refine spB_yes (by decide) ?_ | refine spB_no (by decide) ?_ | refine spB_f ?_ | refine spB_not ?_ | refine spB_yes (by assumption) ?_ | refine spB_no (by assumption) ?_
          | (with_reducible refine spB_dec ?_ ?_ <;> intro _ <;> (try (exfalso; first | contradiction | omega | (rename_i hz; refine hz (decide_eq_decide.2 ?_); omega) | (rename_i hz; refine hz ?_; simp; done) | (simp only [LN] at *; omega))))
          | (with_reducible refine spB_beq ?_ ?_ <;> intro _ <;> (try (exfalso; first | contradiction | omega | (rename_i hz; refine hz (decide_eq_decide.2 ?_); omega) | (rename_i hz; refine hz ?_; simp; done) | (simp only [LN] at *; omega))))
          | (with_reducible refine spB_bne ?_ ?_ <;> intro _ <;> (try (exfalso; first | contradiction | omega | (rename_i hz; refine hz (decide_eq_decide.2 ?_); omega) | (rename_i hz; refine hz ?_; simp; done) | (simp only [LN] at *; omega))))
          | with_reducible first | refine Z.rowN_known ho ?_
          | ((with_reducible refine vN_to b9 ?_ ?_); (focus (exact hb)))
          | ((with_reducible refine vN_to r9 ?_ ?_); (focus (exact hr)))
          | ((with_reducible refine vN_to 2 ?_ ?_); (focus (exact hk)))
          | ((with_reducible apply ixN_litp); (focus (exact rfl)); (focus ((try simp only [LN] at *) <;> omega)))
          | with_reducible refine wr_i64 (by first | omega | (simp only [LN] at *; omega)) ?_
          | with_reducible refine wr_u64 (by omega) ?_
          | with_reducible refine nzN_mk (by omega) ?_
          | ((first | (with_reducible refine Z.conZ_mz ?_ (c1) ?_) | (with_reducible refine Z.callZ_mk ?_ (c1) ?_)); (focus ((repeat' (first | exact trivial | exact rfl | exact Z.low_nil | exact Z.low_nil2 | exact low_osl (fun _ => rfl) | (refine Z.low_osln ?_ (fun _ => rfl); (simp only [List.length_map]; done)) | exact low_oslr (fun _ => rfl) | exact Z.low_gslm (by first | rfl | exact Z.kb_some rfl) (fun _ => rfl) | exact .inl rfl | exact .inr ⟨_, rfl⟩ | apply And.intro)); done)))
          | (focus (exact (rfl : Nat.ble _ _ = true))))
        all_goals (try (conv => whnf))
        all_goals try (show Nat.ble _ _ = true; rfl)
        all_goals first
          | ((refine Z.rndK ((i + 1, [], last, st, esD, esS, esO)) (fun s => [0, 1, 2, 3]) rfl rfl rfl rfl ?_ ?_ ?_ ?_); (focus (repeat' (first | exact trivial | exact Z.map_sub (Z.MapL.ren HMD fun _ => rfl) rfl | exact Z.map_sub (Z.MapL.ren HMS fun _ => rfl) rfl | exact Z.map_sub (Z.MapL.ren HMO fun _ => rfl) rfl | exact Z.map_sub (Z.MapL.ren HMT fun _ => rfl) rfl | exact Z.it_sub rfl | exact rfl | (rw [List.map_append]; exact rfl) | apply And.intro))); (focus (repeat' (first | exact trivial | exact Z.map_sub (Z.MapL.ren HMD fun _ => rfl) rfl | exact Z.map_sub (Z.MapL.ren HMS fun _ => rfl) rfl | exact Z.map_sub (Z.MapL.ren HMO fun _ => rfl) rfl | exact Z.map_sub (Z.MapL.ren HMT fun _ => rfl) rfl | exact Z.it_sub rfl | (intro b hb; cases hb; rfl) | (intro b hb; cases hb; subst hlb; rfl) | (intro b hb; cases hb; rw [List.map_append]; rfl) | (intro b hb; cases hb; done) | exact Z.blk_sub rfl rfl (ren_map fun _ => rfl) | exact Z.blk_sub rfl rfl (Z.ren_app (ren_map fun _ => rfl) (ren_map fun _ => rfl)) | exact Z.blk_sub rfl (by first | (rw [List.map_append]; rfl) | (rw [List.map_set]; rfl) | simp only [List.map_append, List.map_cons, List.map_nil, List.map_set]) (ren_map fun _ => rfl) | exact Z.gB_sub rfl rfl (ren_map fun _ => rfl) | exact Z.gB_sub' rfl (by first | rfl | (rw [List.map_append]; rfl) | simp only [List.map_append, List.map_cons, List.map_nil]) (ren_map fun _ => rfl) | apply And.intro))); (focus (dsimp only; exact ⟨by omega, by omega, LD, LS, LO, HMD, HMS, HMO, HI⟩)); ((try dsimp only); omega))
          | (exfalso; rename_i hz; cases hz; done)
          | (exfalso; (try simp only [LN] at *) <;> omega)
          | (exfalso; first | contradiction | omega | (rename_i hz; refine hz (decide_eq_decide.2 ?_); omega) | (rename_i hz; refine hz ?_; simp; done) | (simp only [LN] at *; omega))
          | (fail)
    have hl0' : 0 < l.length := List.length_pos_iff.2 hl0
    obtain ⟨m, hm, hml⟩ := tm_n (a := o.choice) (n := l.length) hl0'
    obtain ⟨q, hq⟩ := getElem?_some' (xs := l) (i := m) hml
    by_cases he : (relR kk (q.num) l).err = 0
    rotate_left
    · have c1 := rel_con kk (q.num) l (by omega)
      generalize relR kk (q.num) l = R at *
      repeat' ((conv => whnf); first
        | with_reducible first | refine spB_t ?_
        | ((with_reducible apply spB_cong); (focus (simp only [beq_self_eq_true, bne_self_eq_false, Bool.true_bne, Bool.false_bne, Bool.bne_true, Bool.bne_false, Bool.true_beq, Bool.false_beq, Bool.not_true, Bool.not_false, Bool.not_not, Int.reduceBEq, Int.reduceBNe, Int.reduceLE, Int.reduceLT, Int.reduceEq, decide_true, decide_false]; rfl)))
        | with_reducible first | refine spB_yes (by decide) ?_ | refine spB_no (by decide) ?_ | refine spB_f ?_ | refine spB_not ?_ | refine spB_yes (by assumption) ?_ | refine spB_no (by assumption) ?_
        | (with_reducible refine spB_dec ?_ ?_ <;> intro _ <;> (try (exfalso; first | contradiction | omega | (rename_i hz; refine hz (decide_eq_decide.2 ?_); omega) | (rename_i hz; refine hz ?_; simp; done) | (simp only [LN] at *; omega))))
        | (with_reducible refine spB_beq ?_ ?_ <;> intro _ <;> (try (exfalso; first | contradiction | omega | (rename_i hz; refine hz (decide_eq_decide.2 ?_); omega) | (rename_i hz; refine hz ?_; simp; done) | (simp only [LN] at *; omega))))
        | (with_reducible refine spB_bne ?_ ?_ <;> intro _ <;> (try (exfalso; first | contradiction | omega | (rename_i hz; refine hz (decide_eq_decide.2 ?_); omega) | (rename_i hz; refine hz ?_; simp; done) | (simp only [LN] at *; omega))))
        | with_reducible first | refine Z.rowN_known ho ?_
        | ((with_reducible refine vN_to b9 ?_ ?_); (focus (exact hb)))
        | ((with_reducible refine vN_to r9 ?_ ?_); (focus (exact hr)))
        | ((with_reducible refine vN_to 2 ?_ ?_); (focus (exact hk)))
        | ((with_reducible refine vN_to (m : Int) ?_ ?_); (focus (rw [List.length_map]; exact hm)))
        | ((with_reducible refine ixN_mk m ?_ ?_ ?_); (focus omega); (focus ((try simp only [LN] at *) <;> omega)))
        | with_reducible first | refine Z.rowN_known hq ?_
        | ((with_reducible apply ixN_litp); (focus (exact rfl)); (focus ((try simp only [LN] at *) <;> omega)))
        | with_reducible refine wr_i64 (by first | omega | (simp only [LN] at *; omega)) ?_
        | with_reducible refine wr_u64 (by omega) ?_
        | with_reducible refine nzN_mk (by omega) ?_
        | ((first | (with_reducible refine Z.conZ_mz ?_ (c1) ?_) | (with_reducible refine Z.callZ_mk ?_ (c1) ?_)); (focus ((repeat' (first | exact trivial | exact rfl | exact Z.low_nil | exact Z.low_nil2 | exact low_osl (fun _ => rfl) | (refine Z.low_osln ?_ (fun _ => rfl); (simp only [List.length_map]; done)) | exact low_oslr (fun _ => rfl) | exact Z.low_gslm (by first | rfl | exact Z.kb_some rfl) (fun _ => rfl) | exact .inl rfl | exact .inr ⟨_, rfl⟩ | apply And.intro)); done)))
        | with_reducible first | refine Z.drawZ_rule tabOk mixOk ?_ | refine Z.apZ_mk (by kernel_rfl) ?_
        | (focus (exact (rfl : Nat.ble _ _ = true))))
      all_goals (try (conv => whnf))
      all_goals try (show Nat.ble _ _ = true; rfl)
      all_goals first
        | ((refine Z.rndK ((i + 1, l, last, st, esD, esS, esO)) (fun s => [0, 1, 2, 3]) rfl rfl rfl rfl ?_ ?_ ?_ ?_); (focus (repeat' (first | exact trivial | exact Z.map_sub (Z.MapL.ren HMD fun _ => rfl) rfl | exact Z.map_sub (Z.MapL.ren HMS fun _ => rfl) rfl | exact Z.map_sub (Z.MapL.ren HMO fun _ => rfl) rfl | exact Z.map_sub (Z.MapL.ren HMT fun _ => rfl) rfl | exact Z.it_sub rfl | exact rfl | (rw [List.map_append]; exact rfl) | apply And.intro))); (focus (repeat' (first | exact trivial | exact Z.map_sub (Z.MapL.ren HMD fun _ => rfl) rfl | exact Z.map_sub (Z.MapL.ren HMS fun _ => rfl) rfl | exact Z.map_sub (Z.MapL.ren HMO fun _ => rfl) rfl | exact Z.map_sub (Z.MapL.ren HMT fun _ => rfl) rfl | exact Z.it_sub rfl | (intro b hb; cases hb; rfl) | (intro b hb; cases hb; subst hlb; rfl) | (intro b hb; cases hb; rw [List.map_append]; rfl) | (intro b hb; cases hb; done) | exact Z.blk_sub rfl rfl (ren_map fun _ => rfl) | exact Z.blk_sub rfl rfl (Z.ren_app (ren_map fun _ => rfl) (ren_map fun _ => rfl)) | exact Z.blk_sub rfl (by first | (rw [List.map_append]; rfl) | (rw [List.map_set]; rfl) | simp only [List.map_append, List.map_cons, List.map_nil, List.map_set]) (ren_map fun _ => rfl) | exact Z.gB_sub rfl rfl (ren_map fun _ => rfl) | exact Z.gB_sub' rfl (by first | rfl | (rw [List.map_append]; rfl) | simp only [List.map_append, List.map_cons, List.map_nil]) (ren_map fun _ => rfl) | apply And.intro))); (focus (dsimp only; exact ⟨by omega, by omega, LD, LS, LO, HMD, HMS, HMO, HI⟩)); ((try dsimp only); omega))
        | (exfalso; rename_i hz; cases hz; done)
        | (exfalso; (try simp only [LN] at *) <;> omega)
        | (exfalso; first | contradiction | omega | (rename_i hz; refine hz (decide_eq_decide.2 ?_); omega) | (rename_i hz; refine hz ?_; simp; done) | (simp only [LN] at *; omega))
        | (fail)
    obtain ⟨vS, L1, hR, h16, hM⟩ := HI.rel he
    have c1 := rel_con kk (q.num) l (by omega)
    rw [hR] at c1
    dsimp only at c1
    have hat := fun i x hx => hM.at (i := i) (x := x) hx
    have hdr := fun LD' hD => hM.drop (LD' := LD') h16 hD
    have hsl2 := hM.sl
    have hrl := hM.pos h16
    have hgl := hM.glen
    clear hR he hM
    generalize keptF kk L1 = rows at *
    generalize goneF kk L1 = gs at *
    repeat' ((conv => whnf); first
      | with_reducible first | refine spB_t ?_
      | ((with_reducible apply spB_cong); (focus (simp only [beq_self_eq_true, bne_self_eq_false, Bool.true_bne, Bool.false_bne, Bool.bne_true, Bool.bne_false, Bool.true_beq, Bool.false_beq, Bool.not_true, Bool.not_false, Bool.not_not, Int.reduceBEq, Int.reduceBNe, Int.reduceLE, Int.reduceLT, Int.reduceEq, decide_true, decide_false]; rfl)))
      | with_reducible first | refine spB_yes (by decide) ?_ | refine spB_no (by decide) ?_ | refine spB_f ?_ | refine spB_not ?_ | refine spB_yes (by assumption) ?_ | refine spB_no (by assumption) ?_
      | (with_reducible refine spB_dec ?_ ?_ <;> intro _ <;> (try (exfalso; first | contradiction | omega | (rename_i hz; refine hz (decide_eq_decide.2 ?_); omega) | (rename_i hz; refine hz ?_; simp; done) | (simp only [LN] at *; omega))))
      | (with_reducible refine spB_beq ?_ ?_ <;> intro _ <;> (try (exfalso; first | contradiction | omega | (rename_i hz; refine hz (decide_eq_decide.2 ?_); omega) | (rename_i hz; refine hz ?_; simp; done) | (simp only [LN] at *; omega))))
      | with_reducible first | refine Z.rowN_known ho ?_
      | ((with_reducible refine vN_to b9 ?_ ?_); (focus (exact hb)))
      | ((with_reducible refine vN_to r9 ?_ ?_); (focus (exact hr)))
      | ((with_reducible refine vN_to 2 ?_ ?_); (focus (exact hk)))
      | ((with_reducible refine look_is HMS vS ?_ ?_); (focus rfl); (intro okk))
      | ((with_reducible refine vN_to (m : Int) ?_ ?_); (focus (rw [List.length_map]; exact hm)))
      | ((with_reducible refine ixN_mk m ?_ ?_ ?_); (focus omega); (focus ((try simp only [LN] at *) <;> omega)))
      | with_reducible first | refine Z.rowN_known hq ?_
      | ((with_reducible refine Z.MapL.upd' HMS (v := false) ?_ ?_); (focus rfl); (intro esHMS HMS))
      | ((with_reducible apply ixN_litp); (focus (exact rfl)); (focus ((try simp only [LN] at *) <;> omega)))
      | with_reducible refine wr_i64 (by first | omega | (simp only [LN] at *; omega)) ?_
      | with_reducible refine wr_u64 (by omega) ?_
      | with_reducible refine nzN_mk (by omega) ?_
      | ((first | (with_reducible refine Z.conZ_mz ?_ (c1) ?_) | (with_reducible refine Z.callZ_mk ?_ (c1) ?_)); (focus ((repeat' (first | exact trivial | exact rfl | exact Z.low_nil | exact Z.low_nil2 | exact low_osl (fun _ => rfl) | (refine Z.low_osln ?_ (fun _ => rfl); (simp only [List.length_map]; done)) | exact low_oslr (fun _ => rfl) | exact Z.low_gslm (by first | rfl | exact Z.kb_some rfl) (fun _ => rfl) | exact .inl rfl | exact .inr ⟨_, rfl⟩ | apply And.intro)); done)))
      | with_reducible first | refine Z.drawZ_rule tabOk mixOk ?_ | refine Z.apZ_mk (by kernel_rfl) ?_
      | (focus (exact (rfl : Nat.ble _ _ = true))))
    all_goals (try (conv => whnf))
    all_goals try (show Nat.ble _ _ = true; rfl)
    all_goals try (exfalso; rename_i hz; cases hz; done)
    all_goals try (exfalso; (try simp only [LN] at *) <;> omega)
    all_goals try (exfalso; first | contradiction | omega | (rename_i hz; refine hz (decide_eq_decide.2 ?_); omega) | (rename_i hz; refine hz ?_; simp; done) | (simp only [LN] at *; omega))
    refine Z.loopK tabOk (fun zq : Nat × Y.MS => [(163, .val (.int .i64 (zq.1 : Int)))]) (fun zq : Nat × Y.MS => ([(1, some (Z.Ob.m zq.2))] : Z.Kr)) (fun zq => zq.1 ≤ gs.length ∧ ∃ L, Z.MapL .u64 enB zq.2 L ∧ ∀ y, (Z.lookK L y).getD false = ((Z.lookK LD y).getD false || decide (y ∈ gs.take zq.1))) (fun zq => gs.length - zq.1) (0, esD) 6 [(5, _), (7, _), (8, _), (9, _), (10, _), (11, _), (16, _), (36, _), (37, _), (38, _), (161, _), (162, _)] ⟨rfl, rfl, rfl, rfl, rfl, rfl, rfl, rfl, rfl, rfl, rfl, rfl, trivial⟩ [(0, some _), (2, some _), (3, some _), (4, some _), (5, some _)] ⟨rfl, rfl, rfl, rfl, rfl, trivial⟩ ?_ ?_ rfl rfl ⟨Nat.zero_le _, LD, HMD, fun y => by simp⟩ ?_
    · repeat' (first | exact trivial | apply And.intro | exact ⟨_, rfl, rfl⟩ | exact ⟨_, rfl, Z.Imp.refl _⟩ | exact ⟨_, rfl, Z.Imp.nilg _⟩ | exact ⟨_, rfl, Z.Imp.nilr _ _⟩)
    · repeat' (first | exact trivial | (intro b hb; cases hb; done) | exact (fun b hb => ⟨b, hb, Z.ImpO.refl b⟩) | (intro b hb; cases hb; refine ⟨_, rfl, ⟨rfl, rfl, rfl⟩, ?_⟩; (repeat' (first | exact trivial | apply And.intro | exact Z.Imp.refl _ | exact Z.Imp.nilg _ | exact Z.Imp.nilr _ _)); done) | apply And.intro)
    rintro ⟨h2, esD2⟩ HINV
    dsimp only at HINV ⊢
    obtain ⟨HH2, LD2, HMD, HL2⟩ := HINV
    by_cases hh2 : h2 < gs.length
    · obtain ⟨x, hx⟩ := getElem?_some' (xs := gs) (i := h2) hh2
      obtain ⟨vD0, vS, vO, hxn⟩ := hat h2 x hx
      have vD := (HL2 x).trans (by rw [vD0, decide_eq_false hxn]; rfl : _ = false)
      repeat' ((conv => whnf); first
        | with_reducible first | refine spB_t ?_
        | with_reducible first | refine spB_yes (by decide) ?_ | refine spB_no (by decide) ?_ | refine spB_f ?_ | refine spB_not ?_ | refine spB_yes (by assumption) ?_ | refine spB_no (by assumption) ?_
        | (with_reducible refine spB_dec ?_ ?_ <;> intro _ <;> (try (exfalso; first | contradiction | omega | (rename_i hz; refine hz (decide_eq_decide.2 ?_); omega) | (rename_i hz; refine hz ?_; simp; done) | (simp only [LN] at *; omega))))
        | (with_reducible refine spB_beq ?_ ?_ <;> intro _ <;> (try (exfalso; first | contradiction | omega | (rename_i hz; refine hz (decide_eq_decide.2 ?_); omega) | (rename_i hz; refine hz ?_; simp; done) | (simp only [LN] at *; omega))))
        | with_reducible first | refine Z.rowN_known hx ?_
        | ((with_reducible refine look_is HMD vD ?_ ?_); (focus rfl); (intro okk))
        | ((with_reducible refine look_is HMS vS ?_ ?_); (focus rfl); (intro okk))
        | ((with_reducible refine look_is HMO vO ?_ ?_); (focus rfl); (intro okk))
        | ((with_reducible refine Z.MapL.upd' HMD (v := true) ?_ ?_); (focus rfl); (intro esHMD HMD))
        | ((with_reducible apply ixN_litp); (focus (exact rfl)); (focus ((try simp only [LN] at *) <;> omega)))
        | with_reducible refine wr_i64 (by first | omega | (simp only [LN] at *; omega)) ?_
        | (focus (exact (rfl : Nat.ble _ _ = true))))
      all_goals (try (conv => whnf))
      all_goals try (show Nat.ble _ _ = true; rfl)
      all_goals first
        | ((refine Z.rndK ((h2 + 1, esHMD)) (fun s => [0, 1, 2, 3, 4, 5]) rfl rfl rfl rfl ?_ ?_ ?_ ?_); (focus (repeat' (first | exact trivial | exact Z.map_sub (Z.MapL.ren HMD fun _ => rfl) rfl | exact Z.map_sub (Z.MapL.ren HMS fun _ => rfl) rfl | exact Z.map_sub (Z.MapL.ren HMO fun _ => rfl) rfl | exact Z.map_sub (Z.MapL.ren HMT fun _ => rfl) rfl | exact Z.it_sub rfl | exact rfl | (rw [List.map_append]; exact rfl) | apply And.intro))); (focus (repeat' (first | exact trivial | exact Z.map_sub (Z.MapL.ren HMD fun _ => rfl) rfl | exact Z.map_sub (Z.MapL.ren HMS fun _ => rfl) rfl | exact Z.map_sub (Z.MapL.ren HMO fun _ => rfl) rfl | exact Z.map_sub (Z.MapL.ren HMT fun _ => rfl) rfl | exact Z.it_sub rfl | (intro b hb; cases hb; rfl) | (intro b hb; cases hb; subst hlb; rfl) | (intro b hb; cases hb; rw [List.map_append]; rfl) | (intro b hb; cases hb; done) | exact Z.blk_sub rfl rfl (ren_map fun _ => rfl) | exact Z.blk_sub rfl rfl (Z.ren_app (ren_map fun _ => rfl) (ren_map fun _ => rfl)) | exact Z.blk_sub rfl (by first | (rw [List.map_append]; rfl) | (rw [List.map_set]; rfl) | simp only [List.map_append, List.map_cons, List.map_nil, List.map_set]) (ren_map fun _ => rfl) | exact Z.gB_sub rfl rfl (ren_map fun _ => rfl) | exact Z.gB_sub' rfl (by first | rfl | (rw [List.map_append]; rfl) | simp only [List.map_append, List.map_cons, List.map_nil]) (ren_map fun _ => rfl) | apply And.intro))); (focus (refine ⟨by dsimp only; omega, _, HMD, gone_step hx HL2⟩)); ((try dsimp only); omega))
        | (exfalso; rename_i hz; cases hz; done)
        | (exfalso; (try simp only [LN] at *) <;> omega)
        | (exfalso; first | contradiction | omega | (rename_i hz; refine hz (decide_eq_decide.2 ?_); omega) | (rename_i hz; refine hz ?_; simp; done) | (simp only [LN] at *; omega))
        | (fail)
    have hge : gs.take h2 = gs := List.take_of_length_le (by omega)
    rw [hge] at HL2
    have HR2 := hdr LD2 HL2
    have hne : rows ≠ [] := fun e => by rw [e] at hrl; simp at hrl
    have hlk := HR2.lastK hne
    have hnp := HR2.np
    have ck := check_con kk rows (by omega)
    rw [HR2.ok] at ck
    have cl := Lat_con kk rows (by omega)
    have hie : rows.isEmpty = false := by cases rows with
      | nil => exact absurd rfl hne
      | cons => rfl
    rw [HR2.ok, hie] at cl
    simp only [cond_true, Bool.not_false] at ck cl
    repeat' ((conv => whnf); first
      | ((with_reducible apply spB_cong); (focus (simp only [beq_self_eq_true, bne_self_eq_false, Bool.true_bne, Bool.false_bne, Bool.bne_true, Bool.bne_false, Bool.true_beq, Bool.false_beq, Bool.not_true, Bool.not_false, Bool.not_not, Int.reduceBEq, Int.reduceBNe, Int.reduceLE, Int.reduceLT, Int.reduceEq, decide_true, decide_false]; rfl)))
      | with_reducible first | refine spB_yes (by decide) ?_ | refine spB_no (by decide) ?_ | refine spB_f ?_ | refine spB_not ?_ | refine spB_yes (by assumption) ?_ | refine spB_no (by assumption) ?_
      | (with_reducible refine spB_dec ?_ ?_ <;> intro _ <;> (try (exfalso; first | contradiction | omega | (rename_i hz; refine hz (decide_eq_decide.2 ?_); omega) | (rename_i hz; refine hz ?_; simp; done) | (simp only [LN] at *; omega))))
      | with_reducible first | refine apN_mk (by kernel_rfl) ?_ | refine Z.callZ_in tabOk 125 Try.f26 _ Try.func26 (by kernel_rfl) rfl rfl rfl ?_
      | ((first | (with_reducible refine Z.conZ_mz ?_ (ck) ?_) | (with_reducible refine Z.callZ_mk ?_ (ck) ?_) | (with_reducible refine Z.conZ_mz ?_ (cl) ?_) | (with_reducible refine Z.callZ_mk ?_ (cl) ?_)); (focus ((repeat' (first | exact trivial | exact rfl | exact Z.low_nil | exact Z.low_nil2 | exact low_osl (fun _ => rfl) | (refine Z.low_osln ?_ (fun _ => rfl); (simp only [List.length_map]; done)) | exact low_oslr (fun _ => rfl) | exact Z.low_gslm (by first | rfl | exact Z.kb_some rfl) (fun _ => rfl) | exact .inl rfl | exact .inr ⟨_, rfl⟩ | apply And.intro)); done)))
      | (focus (exact (rfl : Nat.ble _ _ = true))))
    all_goals (try (conv => whnf))
    all_goals try (show Nat.ble _ _ = true; rfl)
    all_goals try (exfalso; (try simp only [LN] at *) <;> omega)
    refine Z.loopK tabOk (fun zq : Nat × Int × Y.MS => [(25, .val (.int .i64 (zq.1 : Int))), (11, .val (.int .i64 zq.2.1))]) (fun zq : Nat × Int × Y.MS => ([(7, some (Z.Ob.m zq.2.2))] : Z.Kr)) (fun zq => zq.1 ≤ rows.length ∧ zq.2.1 = (npl (rows.take zq.1) : Int) ∧ ∃ L, Z.MapL .u64 enB zq.2.2 L ∧ ∀ z, (Z.lookK L z).getD false = anyN z (rows.take zq.1)) (fun zq => rows.length - zq.1) (0, 0, ⟨[], 0⟩) 8 [(1, _), (2, _), (3, _), (4, _), (5, _), (12, _), (23, _), (24, _)] ⟨rfl, rfl, rfl, rfl, rfl, rfl, rfl, rfl, trivial⟩ [(0, some _), (1, some _), (2, some _), (3, some _), (4, some _), (5, some _), (6, some _)] ⟨rfl, rfl, rfl, rfl, rfl, rfl, rfl, trivial⟩ ?_ ?_ rfl rfl ⟨Nat.zero_le _, rfl, [], Z.MapL.nil, fun z => rfl⟩ ?_
    · repeat' (first | exact trivial | apply And.intro | exact ⟨_, rfl, rfl⟩ | exact ⟨_, rfl, Z.Imp.refl _⟩ | exact ⟨_, rfl, Z.Imp.nilg _⟩ | exact ⟨_, rfl, Z.Imp.nilr _ _⟩)
    · repeat' (first | exact trivial | (intro b hb; cases hb; done) | exact (fun b hb => ⟨b, hb, Z.ImpO.refl b⟩) | (intro b hb; cases hb; refine ⟨_, rfl, ⟨rfl, rfl, rfl⟩, ?_⟩; (repeat' (first | exact trivial | apply And.intro | exact Z.Imp.refl _ | exact Z.Imp.nilg _ | exact Z.Imp.nilr _ _)); done) | apply And.intro)
    rintro ⟨j, rs, esT⟩ HINV
    dsimp only at HINV ⊢
    obtain ⟨HJ, HS, LT, HMT, HT⟩ := HINV
    by_cases hj : j < rows.length
    · obtain ⟨x, hx⟩ := getElem?_some' (xs := rows) (i := j) hj
      obtain ⟨vD, vS, vO⟩ := HR2.row hx
      have hnt := npl_take hx
      have hnb : npl (rows.take j) ≤ j := Nat.le_trans List.countP_le_length (by rw [List.length_take]; omega)
      repeat' ((conv => whnf); first
        | with_reducible first | refine spB_t ?_
        | ((with_reducible apply spB_cong); (focus (simp only [beq_self_eq_true, bne_self_eq_false, Bool.true_bne, Bool.false_bne, Bool.bne_true, Bool.bne_false, Bool.true_beq, Bool.false_beq, Bool.not_true, Bool.not_false, Bool.not_not, Int.reduceBEq, Int.reduceBNe, Int.reduceLE, Int.reduceLT, Int.reduceEq, decide_true, decide_false]; rfl)))
        | with_reducible first | refine spB_yes (by decide) ?_ | refine spB_no (by decide) ?_ | refine spB_f ?_ | refine spB_not ?_ | refine spB_yes (by assumption) ?_ | refine spB_no (by assumption) ?_
        | (with_reducible refine spB_dec ?_ ?_ <;> intro _ <;> (try (exfalso; first | contradiction | omega | (rename_i hz; refine hz (decide_eq_decide.2 ?_); omega) | (rename_i hz; refine hz ?_; simp; done) | (simp only [LN] at *; omega))))
        | (with_reducible refine spB_mk ?_ ?_ <;> intro _ <;> (try (exfalso; first | contradiction | omega | (rename_i hz; refine hz (decide_eq_decide.2 ?_); omega) | (rename_i hz; refine hz ?_; simp; done) | (simp only [LN] at *; omega))))
        | with_reducible first | refine Z.rowN_known hx ?_
        | ((with_reducible refine look_is HMD vD ?_ ?_); (focus rfl); (intro okk))
        | ((with_reducible refine look_is HMS vS ?_ ?_); (focus rfl); (intro okk))
        | ((with_reducible refine look_is HMO vO ?_ ?_); (focus rfl); (intro okk))
        | ((with_reducible refine Z.MapL.upd' HMT (v := true) ?_ ?_); (focus rfl); (intro esHMT HMT))
        | ((with_reducible apply ixN_litp); (focus (exact rfl)); (focus ((try simp only [LN] at *) <;> omega)))
        | with_reducible refine wr_i64 (by first | omega | (simp only [LN] at *; omega)) ?_
        | (focus (exact (rfl : Nat.ble _ _ = true))))
      all_goals (try (conv => whnf))
      all_goals try (show Nat.ble _ _ = true; rfl)
      all_goals first
        | ((refine Z.rndK ((j + 1, rs + 1, esHMT)) (fun s => [0, 1, 2, 3, 4, 5, 6, 7]) rfl rfl rfl rfl ?_ ?_ ?_ ?_); (focus (repeat' (first | exact trivial | exact Z.map_sub (Z.MapL.ren HMD fun _ => rfl) rfl | exact Z.map_sub (Z.MapL.ren HMS fun _ => rfl) rfl | exact Z.map_sub (Z.MapL.ren HMO fun _ => rfl) rfl | exact Z.map_sub (Z.MapL.ren HMT fun _ => rfl) rfl | exact Z.it_sub rfl | exact rfl | (rw [List.map_append]; exact rfl) | apply And.intro))); (focus (repeat' (first | exact trivial | exact Z.map_sub (Z.MapL.ren HMD fun _ => rfl) rfl | exact Z.map_sub (Z.MapL.ren HMS fun _ => rfl) rfl | exact Z.map_sub (Z.MapL.ren HMO fun _ => rfl) rfl | exact Z.map_sub (Z.MapL.ren HMT fun _ => rfl) rfl | exact Z.it_sub rfl | (intro b hb; cases hb; rfl) | (intro b hb; cases hb; subst hlb; rfl) | (intro b hb; cases hb; rw [List.map_append]; rfl) | (intro b hb; cases hb; done) | exact Z.blk_sub rfl rfl (ren_map fun _ => rfl) | exact Z.blk_sub rfl rfl (Z.ren_app (ren_map fun _ => rfl) (ren_map fun _ => rfl)) | exact Z.blk_sub rfl (by first | (rw [List.map_append]; rfl) | (rw [List.map_set]; rfl) | simp only [List.map_append, List.map_cons, List.map_nil, List.map_set]) (ren_map fun _ => rfl) | exact Z.gB_sub rfl rfl (ren_map fun _ => rfl) | exact Z.gB_sub' rfl (by first | rfl | (rw [List.map_append]; rfl) | simp only [List.map_append, List.map_cons, List.map_nil]) (ren_map fun _ => rfl) | apply And.intro))); (focus (refine ⟨by dsimp only; omega, ?_, _, HMT, there_step hx HT⟩; (try dsimp only); rw [hnt, HS]; (have hpk : plK x = true := by unfold plK; simp_all); rw [hpk]; simp)); ((try dsimp only); omega))
        | ((refine Z.rndK ((j + 1, rs, esHMT)) (fun s => [0, 1, 2, 3, 4, 5, 6, 7]) rfl rfl rfl rfl ?_ ?_ ?_ ?_); (focus (repeat' (first | exact trivial | exact Z.map_sub (Z.MapL.ren HMD fun _ => rfl) rfl | exact Z.map_sub (Z.MapL.ren HMS fun _ => rfl) rfl | exact Z.map_sub (Z.MapL.ren HMO fun _ => rfl) rfl | exact Z.map_sub (Z.MapL.ren HMT fun _ => rfl) rfl | exact Z.it_sub rfl | exact rfl | (rw [List.map_append]; exact rfl) | apply And.intro))); (focus (repeat' (first | exact trivial | exact Z.map_sub (Z.MapL.ren HMD fun _ => rfl) rfl | exact Z.map_sub (Z.MapL.ren HMS fun _ => rfl) rfl | exact Z.map_sub (Z.MapL.ren HMO fun _ => rfl) rfl | exact Z.map_sub (Z.MapL.ren HMT fun _ => rfl) rfl | exact Z.it_sub rfl | (intro b hb; cases hb; rfl) | (intro b hb; cases hb; subst hlb; rfl) | (intro b hb; cases hb; rw [List.map_append]; rfl) | (intro b hb; cases hb; done) | exact Z.blk_sub rfl rfl (ren_map fun _ => rfl) | exact Z.blk_sub rfl rfl (Z.ren_app (ren_map fun _ => rfl) (ren_map fun _ => rfl)) | exact Z.blk_sub rfl (by first | (rw [List.map_append]; rfl) | (rw [List.map_set]; rfl) | simp only [List.map_append, List.map_cons, List.map_nil, List.map_set]) (ren_map fun _ => rfl) | exact Z.gB_sub rfl rfl (ren_map fun _ => rfl) | exact Z.gB_sub' rfl (by first | rfl | (rw [List.map_append]; rfl) | simp only [List.map_append, List.map_cons, List.map_nil]) (ren_map fun _ => rfl) | apply And.intro))); (focus (refine ⟨by dsimp only; omega, ?_, _, HMT, there_step hx HT⟩; (try dsimp only); rw [hnt, HS]; (have hpk : plK x = false := by unfold plK; simp_all); rw [hpk]; simp)); ((try dsimp only); omega))
        | (exfalso; rename_i hz; cases hz; done)
        | (exfalso; (try simp only [LN] at *) <;> omega)
        | (exfalso; first | contradiction | omega | (rename_i hz; refine hz (decide_eq_decide.2 ?_); omega) | (rename_i hz; refine hz ?_; simp; done) | (simp only [LN] at *; omega))
        | (exfalso; simp_all; done)
        | (fail)
    have hje : rows.take j = rows := List.take_of_length_le (by omega)
    rw [hje] at HS HT
    repeat' ((conv => whnf); first
      | (with_reducible refine spB_dec ?_ ?_ <;> intro _ <;> (try (exfalso; first | contradiction | omega | (rename_i hz; refine hz (decide_eq_decide.2 ?_); omega) | (rename_i hz; refine hz ?_; simp; done) | (simp only [LN] at *; omega))))
      | (focus (exact (rfl : Nat.ble _ _ = true))))
    all_goals (try (conv => whnf))
    all_goals try (show Nat.ble _ _ = true; rfl)
    all_goals try (exfalso; (try simp only [LN] at *) <;> omega)
    refine Z.loopK tabOk (fun zq : List Nat × List (Int × Bool) => []) (fun zq : List Nat × List (Int × Bool) => ([(8, some (Z.Ob.i ⟨3, esO.c, zq.1, esO.c⟩))] : Z.Kr)) (fun zq => Z.LeftL .u64 enB esO zq.1 zq.2 ∧ ∀ z ∈ zq.2, z ∈ LO) (fun zq => zq.2.length) ([], LO) 9 [(1, _), (2, _), (3, _), (4, _), (5, _), (11, _), (12, _), (66, _)] ⟨rfl, rfl, rfl, rfl, rfl, rfl, rfl, rfl, trivial⟩ [(0, some _), (1, some _), (2, some _), (3, some _), (4, some _), (5, some _), (6, some _), (7, some _)] ⟨rfl, rfl, rfl, rfl, rfl, rfl, rfl, rfl, trivial⟩ ?_ ?_ rfl rfl ⟨HMO.left, fun z hz => hz⟩ ?_
    · repeat' (first | exact trivial | apply And.intro | exact ⟨_, rfl, rfl⟩ | exact ⟨_, rfl, Z.Imp.refl _⟩ | exact ⟨_, rfl, Z.Imp.nilg _⟩ | exact ⟨_, rfl, Z.Imp.nilr _ _⟩)
    · repeat' (first | exact trivial | (intro b hb; cases hb; done) | exact (fun b hb => ⟨b, hb, Z.ImpO.refl b⟩) | (intro b hb; cases hb; refine ⟨_, rfl, ⟨rfl, rfl, rfl⟩, ?_⟩; (repeat' (first | exact trivial | apply And.intro | exact Z.Imp.refl _ | exact Z.Imp.nilg _ | exact Z.Imp.nilr _ _)); done) | apply And.intro)
    rintro ⟨seen, r⟩ HINV
    dsimp only at HINV ⊢
    obtain ⟨HR, HY⟩ := HINV
    repeat' ((conv => whnf); first
      | with_reducible first | refine spB_t ?_
      | ((with_reducible apply spB_cong); (focus (simp only [beq_self_eq_true, bne_self_eq_false, Bool.true_bne, Bool.false_bne, Bool.bne_true, Bool.bne_false, Bool.true_beq, Bool.false_beq, Bool.not_true, Bool.not_false, Bool.not_not, Int.reduceBEq, Int.reduceBNe, Int.reduceLE, Int.reduceLT, Int.reduceEq, decide_true, decide_false]; rfl)))
      | with_reducible first | refine spB_yes (by decide) ?_ | refine spB_no (by decide) ?_ | refine spB_f ?_ | refine spB_not ?_ | refine spB_yes (by assumption) ?_ | refine spB_no (by assumption) ?_
      | (with_reducible refine spB_dec ?_ ?_ <;> intro _ <;> (try (exfalso; first | contradiction | omega | (rename_i hz; refine hz (decide_eq_decide.2 ?_); omega) | (rename_i hz; refine hz ?_; simp; done) | (simp only [LN] at *; omega))))
      | (with_reducible refine spB_beq ?_ ?_ <;> intro _ <;> (try (exfalso; first | contradiction | omega | (rename_i hz; refine hz (decide_eq_decide.2 ?_); omega) | (rename_i hz; refine hz ?_; simp; done) | (simp only [LN] at *; omega))))
      | (with_reducible refine spB_mk ?_ ?_ <;> intro _ <;> (try (exfalso; first | contradiction | omega | (rename_i hz; refine hz (decide_eq_decide.2 ?_); omega) | (rename_i hz; refine hz ?_; simp; done) | (simp only [LN] at *; omega))))
      | ((with_reducible refine Z.MapL.next HMO ?_ ?_ HR ?_ ?_); (focus rfl); (focus rfl); (focus intro hr0); rotate_left; (focus (intro y9 b9 r9 hp9 hl9 hm9; have hy9 := HY y9 (hp9.mem_iff.2 (by simp)); cases hA : anyN y9.1 rows; (focus (obtain ⟨vO, vS, vD⟩ := HR2.key HMO.keys hy9 hA; have vT := (HT y9.1).trans hA)); rotate_left; (have vT := (HT y9.1).trans hA))))
      | ((with_reducible refine Z.MapL.entry HMO hm9 (s := seen) ?_ ?_ ?_); (focus rfl); (focus (exact rfl)))
      | ((with_reducible refine look_is HMD vD ?_ ?_); (focus rfl); (intro okk))
      | ((with_reducible refine look_is HMS vS ?_ ?_); (focus rfl); (intro okk))
      | ((with_reducible refine look_is HMO vO ?_ ?_); (focus rfl); (intro okk))
      | ((with_reducible refine look_is HMT vT ?_ ?_); (focus rfl); (intro okk))
      | ((with_reducible refine Z.MapL.look HMO (z0 := false) ?_ ?_); (focus rfl))
      | ((with_reducible refine Z.MapL.look HMS (z0 := false) ?_ ?_); (focus rfl))
      | with_reducible refine wr_i64 (by first | omega | (simp only [LN] at *; omega)) ?_
      | ((first | (with_reducible refine Z.conZ_mz ?_ (ck) ?_) | (with_reducible refine Z.callZ_mk ?_ (ck) ?_) | (with_reducible refine Z.conZ_mz ?_ (cl) ?_) | (with_reducible refine Z.callZ_mk ?_ (cl) ?_)); (focus ((repeat' (first | exact trivial | exact rfl | exact Z.low_nil | exact Z.low_nil2 | exact low_osl (fun _ => rfl) | (refine Z.low_osln ?_ (fun _ => rfl); (simp only [List.length_map]; done)) | exact low_oslr (fun _ => rfl) | exact Z.low_gslm (by first | rfl | exact Z.kb_some rfl) (fun _ => rfl) | exact .inl rfl | exact .inr ⟨_, rfl⟩ | apply And.intro)); done)))
      | ((with_reducible apply ex_and); exact rfl)
      | (focus (exact (rfl : Nat.ble _ _ = true))))
    all_goals (try (conv => whnf))
    all_goals try (show Nat.ble _ _ = true; rfl)
    all_goals first
      | ((refine Z.rndK ((seen ++ [b9], r9)) (fun s => [0, 1, 2, 3, 4, 5, 6, 7, 8]) rfl rfl rfl rfl ?_ ?_ ?_ ?_); (focus (repeat' (first | exact trivial | exact Z.map_sub (Z.MapL.ren HMD fun _ => rfl) rfl | exact Z.map_sub (Z.MapL.ren HMS fun _ => rfl) rfl | exact Z.map_sub (Z.MapL.ren HMO fun _ => rfl) rfl | exact Z.map_sub (Z.MapL.ren HMT fun _ => rfl) rfl | exact Z.it_sub rfl | exact rfl | (rw [List.map_append]; exact rfl) | apply And.intro))); (focus (repeat' (first | exact trivial | exact Z.map_sub (Z.MapL.ren HMD fun _ => rfl) rfl | exact Z.map_sub (Z.MapL.ren HMS fun _ => rfl) rfl | exact Z.map_sub (Z.MapL.ren HMO fun _ => rfl) rfl | exact Z.map_sub (Z.MapL.ren HMT fun _ => rfl) rfl | exact Z.it_sub rfl | (intro b hb; cases hb; rfl) | (intro b hb; cases hb; subst hlb; rfl) | (intro b hb; cases hb; rw [List.map_append]; rfl) | (intro b hb; cases hb; done) | exact Z.blk_sub rfl rfl (ren_map fun _ => rfl) | exact Z.blk_sub rfl rfl (Z.ren_app (ren_map fun _ => rfl) (ren_map fun _ => rfl)) | exact Z.blk_sub rfl (by first | (rw [List.map_append]; rfl) | (rw [List.map_set]; rfl) | simp only [List.map_append, List.map_cons, List.map_nil, List.map_set]) (ren_map fun _ => rfl) | exact Z.gB_sub rfl rfl (ren_map fun _ => rfl) | exact Z.gB_sub' rfl (by first | rfl | (rw [List.map_append]; rfl) | simp only [List.map_append, List.map_cons, List.map_nil]) (ren_map fun _ => rfl) | apply And.intro))); (focus (exact ⟨hl9, fun z hz => HY z (hp9.mem_iff.2 (List.mem_cons_of_mem _ hz))⟩)); (have h8 := hp9.length_eq; simp only [List.length_cons] at h8; (try dsimp only); omega))
      | ((refine Z.rndK ((i + 1, rows, last, st, esD2, esHMS, esO)) (fun s => [0, 1, 2, 3]) rfl rfl rfl rfl ?_ ?_ ?_ ?_); (focus (repeat' (first | exact trivial | exact Z.map_sub (Z.MapL.ren HMD fun _ => rfl) rfl | exact Z.map_sub (Z.MapL.ren HMS fun _ => rfl) rfl | exact Z.map_sub (Z.MapL.ren HMO fun _ => rfl) rfl | exact Z.map_sub (Z.MapL.ren HMT fun _ => rfl) rfl | exact Z.it_sub rfl | exact rfl | (rw [List.map_append]; exact rfl) | apply And.intro))); (focus (repeat' (first | exact trivial | exact Z.map_sub (Z.MapL.ren HMD fun _ => rfl) rfl | exact Z.map_sub (Z.MapL.ren HMS fun _ => rfl) rfl | exact Z.map_sub (Z.MapL.ren HMO fun _ => rfl) rfl | exact Z.map_sub (Z.MapL.ren HMT fun _ => rfl) rfl | exact Z.it_sub rfl | (intro b hb; cases hb; rfl) | (intro b hb; cases hb; subst hlb; rfl) | (intro b hb; cases hb; rw [List.map_append]; rfl) | (intro b hb; cases hb; done) | exact Z.blk_sub rfl rfl (ren_map fun _ => rfl) | exact Z.blk_sub rfl rfl (Z.ren_app (ren_map fun _ => rfl) (ren_map fun _ => rfl)) | exact Z.blk_sub rfl (by first | (rw [List.map_append]; rfl) | (rw [List.map_set]; rfl) | simp only [List.map_append, List.map_cons, List.map_nil, List.map_set]) (ren_map fun _ => rfl) | exact Z.gB_sub rfl rfl (ren_map fun _ => rfl) | exact Z.gB_sub' rfl (by first | rfl | (rw [List.map_append]; rfl) | simp only [List.map_append, List.map_cons, List.map_nil]) (ren_map fun _ => rfl) | apply And.intro))); (focus (exact ⟨by dsimp only; omega, by dsimp only; omega, LD2, (Z.putK LS q.num false), LO, HMD, HMS, HMO, HR2⟩)); ((try dsimp only); omega))
      | (exfalso; rename_i hz; cases hz; done)
      | (exfalso; (try simp only [LN] at *) <;> omega)
      | (exfalso; first | contradiction | omega | (rename_i hz; refine hz (decide_eq_decide.2 ?_); omega) | (rename_i hz; refine hz ?_; simp; done) | (simp only [LN] at *; omega))
      | (exfalso; simp_all; done)
      | (fail)
  · skip
    by_cases hl0 : l = []
    · subst hl0
      have he : (markR kk (last + b9) []).err ≠ 0 := (HI.nil (n := last + b9)).2.2
      · have c1 := mark_con kk (last + b9) [] (Nat.zero_le _)
        generalize markR kk (last + b9) [] = R at *
        repeat' ((conv => whnf); first
          | with_reducible first | refine spB_t ?_
          | ((with_reducible apply spB_cong); (focus (simp only [beq_self_eq_true, bne_self_eq_false, Bool.true_bne, Bool.false_bne, Bool.bne_true, Bool.bne_false, Bool.true_beq, Bool.false_beq, Bool.not_true, Bool.not_false, Bool.not_not, Int.reduceBEq, Int.reduceBNe, Int.reduceLE, Int.reduceLT, Int.reduceEq, decide_true, decide_false]; rfl)))
          | with_reducible first | refine spB_yes (by decide) ?_ | refine spB_no (by decide) ?_ | refine spB_f ?_ | refine spB_not ?_ | refine spB_yes (by assumption) ?_ | refine spB_no (by assumption) ?_
          | (with_reducible refine spB_dec ?_ ?_ <;> intro _ <;> (try (exfalso; first | contradiction | omega | (rename_i hz; refine hz (decide_eq_decide.2 ?_); omega) | (rename_i hz; refine hz ?_; simp; done) | (simp only [LN] at *; omega))))
          | (with_reducible refine spB_beq ?_ ?_ <;> intro _ <;> (try (exfalso; first | contradiction | omega | (rename_i hz; refine hz (decide_eq_decide.2 ?_); omega) | (rename_i hz; refine hz ?_; simp; done) | (simp only [LN] at *; omega))))
          | (with_reducible refine spB_bne ?_ ?_ <;> intro _ <;> (try (exfalso; first | contradiction | omega | (rename_i hz; refine hz (decide_eq_decide.2 ?_); omega) | (rename_i hz; refine hz ?_; simp; done) | (simp only [LN] at *; omega))))
          | with_reducible first | refine Z.rowN_known ho ?_
          | ((with_reducible refine vN_to b9 ?_ ?_); (focus (exact hb)))
          | ((with_reducible refine vN_to r9 ?_ ?_); (focus (exact hr)))
          | ((with_reducible refine vN_to 3 ?_ ?_); (focus (exact hk)))
          | ((with_reducible apply ixN_litp); (focus (exact rfl)); (focus ((try simp only [LN] at *) <;> omega)))
          | with_reducible refine wr_i64 (by first | omega | (simp only [LN] at *; omega)) ?_
          | with_reducible refine wr_u64 (by omega) ?_
          | with_reducible refine nzN_mk (by omega) ?_
          | ((first | (with_reducible refine Z.conZ_mz ?_ (c1) ?_) | (with_reducible refine Z.callZ_mk ?_ (c1) ?_)); (focus ((repeat' (first | exact trivial | exact rfl | exact Z.low_nil | exact Z.low_nil2 | exact low_osl (fun _ => rfl) | (refine Z.low_osln ?_ (fun _ => rfl); (simp only [List.length_map]; done)) | exact low_oslr (fun _ => rfl) | exact Z.low_gslm (by first | rfl | exact Z.kb_some rfl) (fun _ => rfl) | exact .inl rfl | exact .inr ⟨_, rfl⟩ | apply And.intro)); done)))
          | (focus (exact (rfl : Nat.ble _ _ = true))))
        all_goals (try (conv => whnf))
        all_goals try (show Nat.ble _ _ = true; rfl)
        all_goals first
          | ((refine Z.rndK ((i + 1, [], last, st, esD, esS, esO)) (fun s => [0, 1, 2, 3]) rfl rfl rfl rfl ?_ ?_ ?_ ?_); (focus (repeat' (first | exact trivial | exact Z.map_sub (Z.MapL.ren HMD fun _ => rfl) rfl | exact Z.map_sub (Z.MapL.ren HMS fun _ => rfl) rfl | exact Z.map_sub (Z.MapL.ren HMO fun _ => rfl) rfl | exact Z.map_sub (Z.MapL.ren HMT fun _ => rfl) rfl | exact Z.it_sub rfl | exact rfl | (rw [List.map_append]; exact rfl) | apply And.intro))); (focus (repeat' (first | exact trivial | exact Z.map_sub (Z.MapL.ren HMD fun _ => rfl) rfl | exact Z.map_sub (Z.MapL.ren HMS fun _ => rfl) rfl | exact Z.map_sub (Z.MapL.ren HMO fun _ => rfl) rfl | exact Z.map_sub (Z.MapL.ren HMT fun _ => rfl) rfl | exact Z.it_sub rfl | (intro b hb; cases hb; rfl) | (intro b hb; cases hb; subst hlb; rfl) | (intro b hb; cases hb; rw [List.map_append]; rfl) | (intro b hb; cases hb; done) | exact Z.blk_sub rfl rfl (ren_map fun _ => rfl) | exact Z.blk_sub rfl rfl (Z.ren_app (ren_map fun _ => rfl) (ren_map fun _ => rfl)) | exact Z.blk_sub rfl (by first | (rw [List.map_append]; rfl) | (rw [List.map_set]; rfl) | simp only [List.map_append, List.map_cons, List.map_nil, List.map_set]) (ren_map fun _ => rfl) | exact Z.gB_sub rfl rfl (ren_map fun _ => rfl) | exact Z.gB_sub' rfl (by first | rfl | (rw [List.map_append]; rfl) | simp only [List.map_append, List.map_cons, List.map_nil]) (ren_map fun _ => rfl) | apply And.intro))); (focus (dsimp only; exact ⟨by omega, by omega, LD, LS, LO, HMD, HMS, HMO, HI⟩)); ((try dsimp only); omega))
          | (exfalso; rename_i hz; cases hz; done)
          | (exfalso; (try simp only [LN] at *) <;> omega)
          | (exfalso; first | contradiction | omega | (rename_i hz; refine hz (decide_eq_decide.2 ?_); omega) | (rename_i hz; refine hz ?_; simp; done) | (simp only [LN] at *; omega))
          | (fail)
    have hl0' : 0 < l.length := List.length_pos_iff.2 hl0
    obtain ⟨m, hm, hml⟩ := tm_n (a := o.choice) (n := l.length) hl0'
    obtain ⟨q, hq⟩ := getElem?_some' (xs := l) (i := m) hml
    by_cases he : (markR kk (q.num) l).err = 0
    rotate_left
    · have c1 := mark_con kk (q.num) l (by omega)
      generalize markR kk (q.num) l = R at *
      repeat' ((conv => whnf); first
        | with_reducible first | refine spB_t ?_
        | ((with_reducible apply spB_cong); (focus (simp only [beq_self_eq_true, bne_self_eq_false, Bool.true_bne, Bool.false_bne, Bool.bne_true, Bool.bne_false, Bool.true_beq, Bool.false_beq, Bool.not_true, Bool.not_false, Bool.not_not, Int.reduceBEq, Int.reduceBNe, Int.reduceLE, Int.reduceLT, Int.reduceEq, decide_true, decide_false]; rfl)))
        | with_reducible first | refine spB_yes (by decide) ?_ | refine spB_no (by decide) ?_ | refine spB_f ?_ | refine spB_not ?_ | refine spB_yes (by assumption) ?_ | refine spB_no (by assumption) ?_
        | (with_reducible refine spB_dec ?_ ?_ <;> intro _ <;> (try (exfalso; first | contradiction | omega | (rename_i hz; refine hz (decide_eq_decide.2 ?_); omega) | (rename_i hz; refine hz ?_; simp; done) | (simp only [LN] at *; omega))))
        | (with_reducible refine spB_beq ?_ ?_ <;> intro _ <;> (try (exfalso; first | contradiction | omega | (rename_i hz; refine hz (decide_eq_decide.2 ?_); omega) | (rename_i hz; refine hz ?_; simp; done) | (simp only [LN] at *; omega))))
        | (with_reducible refine spB_bne ?_ ?_ <;> intro _ <;> (try (exfalso; first | contradiction | omega | (rename_i hz; refine hz (decide_eq_decide.2 ?_); omega) | (rename_i hz; refine hz ?_; simp; done) | (simp only [LN] at *; omega))))
        | with_reducible first | refine Z.rowN_known ho ?_
        | ((with_reducible refine vN_to b9 ?_ ?_); (focus (exact hb)))
        | ((with_reducible refine vN_to r9 ?_ ?_); (focus (exact hr)))
        | ((with_reducible refine vN_to 3 ?_ ?_); (focus (exact hk)))
        | ((with_reducible refine vN_to (m : Int) ?_ ?_); (focus (rw [List.length_map]; exact hm)))
        | ((with_reducible refine ixN_mk m ?_ ?_ ?_); (focus omega); (focus ((try simp only [LN] at *) <;> omega)))
        | with_reducible first | refine Z.rowN_known hq ?_
        | ((with_reducible apply ixN_litp); (focus (exact rfl)); (focus ((try simp only [LN] at *) <;> omega)))
        | with_reducible refine wr_i64 (by first | omega | (simp only [LN] at *; omega)) ?_
        | with_reducible refine wr_u64 (by omega) ?_
        | with_reducible refine nzN_mk (by omega) ?_
        | ((first | (with_reducible refine Z.conZ_mz ?_ (c1) ?_) | (with_reducible refine Z.callZ_mk ?_ (c1) ?_)); (focus ((repeat' (first | exact trivial | exact rfl | exact Z.low_nil | exact Z.low_nil2 | exact low_osl (fun _ => rfl) | (refine Z.low_osln ?_ (fun _ => rfl); (simp only [List.length_map]; done)) | exact low_oslr (fun _ => rfl) | exact Z.low_gslm (by first | rfl | exact Z.kb_some rfl) (fun _ => rfl) | exact .inl rfl | exact .inr ⟨_, rfl⟩ | apply And.intro)); done)))
        | with_reducible first | refine Z.drawZ_rule tabOk mixOk ?_ | refine Z.apZ_mk (by kernel_rfl) ?_
        | (focus (exact (rfl : Nat.ble _ _ = true))))
      all_goals (try (conv => whnf))
      all_goals try (show Nat.ble _ _ = true; rfl)
      all_goals first
        | ((refine Z.rndK ((i + 1, l, last, st, esD, esS, esO)) (fun s => [0, 1, 2, 3]) rfl rfl rfl rfl ?_ ?_ ?_ ?_); (focus (repeat' (first | exact trivial | exact Z.map_sub (Z.MapL.ren HMD fun _ => rfl) rfl | exact Z.map_sub (Z.MapL.ren HMS fun _ => rfl) rfl | exact Z.map_sub (Z.MapL.ren HMO fun _ => rfl) rfl | exact Z.map_sub (Z.MapL.ren HMT fun _ => rfl) rfl | exact Z.it_sub rfl | exact rfl | (rw [List.map_append]; exact rfl) | apply And.intro))); (focus (repeat' (first | exact trivial | exact Z.map_sub (Z.MapL.ren HMD fun _ => rfl) rfl | exact Z.map_sub (Z.MapL.ren HMS fun _ => rfl) rfl | exact Z.map_sub (Z.MapL.ren HMO fun _ => rfl) rfl | exact Z.map_sub (Z.MapL.ren HMT fun _ => rfl) rfl | exact Z.it_sub rfl | (intro b hb; cases hb; rfl) | (intro b hb; cases hb; subst hlb; rfl) | (intro b hb; cases hb; rw [List.map_append]; rfl) | (intro b hb; cases hb; done) | exact Z.blk_sub rfl rfl (ren_map fun _ => rfl) | exact Z.blk_sub rfl rfl (Z.ren_app (ren_map fun _ => rfl) (ren_map fun _ => rfl)) | exact Z.blk_sub rfl (by first | (rw [List.map_append]; rfl) | (rw [List.map_set]; rfl) | simp only [List.map_append, List.map_cons, List.map_nil, List.map_set]) (ren_map fun _ => rfl) | exact Z.gB_sub rfl rfl (ren_map fun _ => rfl) | exact Z.gB_sub' rfl (by first | rfl | (rw [List.map_append]; rfl) | simp only [List.map_append, List.map_cons, List.map_nil]) (ren_map fun _ => rfl) | apply And.intro))); (focus (dsimp only; exact ⟨by omega, by omega, LD, LS, LO, HMD, HMS, HMO, HI⟩)); ((try dsimp only); omega))
        | (exfalso; rename_i hz; cases hz; done)
        | (exfalso; (try simp only [LN] at *) <;> omega)
        | (exfalso; first | contradiction | omega | (rename_i hz; refine hz (decide_eq_decide.2 ?_); omega) | (rename_i hz; refine hz ?_; simp; done) | (simp only [LN] at *; omega))
        | (fail)
    obtain ⟨vS, L1, hR, hgn, h16, hM⟩ := HI.mark he
    have c1 := mark_con kk (q.num) l (by omega)
    rw [hR] at c1
    dsimp only at c1
    have hat := fun i x hx => hM.at (i := i) (x := x) hx
    have hdr := fun LD' hD => hM.drop (LD' := LD') h16 hD
    have hsl2 := hM.sl
    have hrl := hM.pos h16
    have hgl := hM.glen
    clear hR he hM
    generalize keptF kk L1 = rows at *
    generalize goneF kk L1 = gs at *
    repeat' ((conv => whnf); first
      | with_reducible first | refine spB_t ?_
      | ((with_reducible apply spB_cong); (focus (simp only [beq_self_eq_true, bne_self_eq_false, Bool.true_bne, Bool.false_bne, Bool.bne_true, Bool.bne_false, Bool.true_beq, Bool.false_beq, Bool.not_true, Bool.not_false, Bool.not_not, Int.reduceBEq, Int.reduceBNe, Int.reduceLE, Int.reduceLT, Int.reduceEq, decide_true, decide_false]; rfl)))
      | with_reducible first | refine spB_yes (by decide) ?_ | refine spB_no (by decide) ?_ | refine spB_f ?_ | refine spB_not ?_ | refine spB_yes (by assumption) ?_ | refine spB_no (by assumption) ?_
      | (with_reducible refine spB_dec ?_ ?_ <;> intro _ <;> (try (exfalso; first | contradiction | omega | (rename_i hz; refine hz (decide_eq_decide.2 ?_); omega) | (rename_i hz; refine hz ?_; simp; done) | (simp only [LN] at *; omega))))
      | (with_reducible refine spB_beq ?_ ?_ <;> intro _ <;> (try (exfalso; first | contradiction | omega | (rename_i hz; refine hz (decide_eq_decide.2 ?_); omega) | (rename_i hz; refine hz ?_; simp; done) | (simp only [LN] at *; omega))))
      | with_reducible first | refine Z.rowN_known ho ?_
      | ((with_reducible refine vN_to b9 ?_ ?_); (focus (exact hb)))
      | ((with_reducible refine vN_to r9 ?_ ?_); (focus (exact hr)))
      | ((with_reducible refine vN_to 3 ?_ ?_); (focus (exact hk)))
      | ((with_reducible refine look_is HMS vS ?_ ?_); (focus rfl); (intro okk))
      | ((with_reducible refine vN_to (m : Int) ?_ ?_); (focus (rw [List.length_map]; exact hm)))
      | ((with_reducible refine ixN_mk m ?_ ?_ ?_); (focus omega); (focus ((try simp only [LN] at *) <;> omega)))
      | with_reducible first | refine Z.rowN_known hq ?_
      | ((with_reducible refine Z.MapL.upd' HMS (v := true) ?_ ?_); (focus rfl); (intro esHMS HMS))
      | ((with_reducible apply ixN_litp); (focus (exact rfl)); (focus ((try simp only [LN] at *) <;> omega)))
      | with_reducible refine wr_i64 (by first | omega | (simp only [LN] at *; omega)) ?_
      | with_reducible refine wr_u64 (by omega) ?_
      | with_reducible refine nzN_mk (by omega) ?_
      | ((first | (with_reducible refine Z.conZ_mz ?_ (c1) ?_) | (with_reducible refine Z.callZ_mk ?_ (c1) ?_)); (focus ((repeat' (first | exact trivial | exact rfl | exact Z.low_nil | exact Z.low_nil2 | exact low_osl (fun _ => rfl) | (refine Z.low_osln ?_ (fun _ => rfl); (simp only [List.length_map]; done)) | exact low_oslr (fun _ => rfl) | exact Z.low_gslm (by first | rfl | exact Z.kb_some rfl) (fun _ => rfl) | exact .inl rfl | exact .inr ⟨_, rfl⟩ | apply And.intro)); done)))
      | with_reducible first | refine Z.drawZ_rule tabOk mixOk ?_ | refine Z.apZ_mk (by kernel_rfl) ?_
      | (focus (exact (rfl : Nat.ble _ _ = true))))
    all_goals (try (conv => whnf))
    all_goals try (show Nat.ble _ _ = true; rfl)
    all_goals try (exfalso; rename_i hz; cases hz; done)
    all_goals try (exfalso; (try simp only [LN] at *) <;> omega)
    all_goals try (exfalso; first | contradiction | omega | (rename_i hz; refine hz (decide_eq_decide.2 ?_); omega) | (rename_i hz; refine hz ?_; simp; done) | (simp only [LN] at *; omega))
    refine Z.loopK tabOk (fun zq : Nat × Y.MS => [(163, .val (.int .i64 (zq.1 : Int)))]) (fun zq : Nat × Y.MS => ([(1, some (Z.Ob.m zq.2))] : Z.Kr)) (fun zq => zq.1 ≤ gs.length ∧ ∃ L, Z.MapL .u64 enB zq.2 L ∧ ∀ y, (Z.lookK L y).getD false = ((Z.lookK LD y).getD false || decide (y ∈ gs.take zq.1))) (fun zq => gs.length - zq.1) (0, esD) 6 [(5, _), (7, _), (8, _), (9, _), (10, _), (11, _), (16, _), (36, _), (37, _), (38, _), (161, _), (162, _)] ⟨rfl, rfl, rfl, rfl, rfl, rfl, rfl, rfl, rfl, rfl, rfl, rfl, trivial⟩ [(0, some _), (2, some _), (3, some _), (4, some _), (5, some _)] ⟨rfl, rfl, rfl, rfl, rfl, trivial⟩ ?_ ?_ rfl rfl ⟨Nat.zero_le _, LD, HMD, fun y => by simp⟩ ?_
    · repeat' (first | exact trivial | apply And.intro | exact ⟨_, rfl, rfl⟩ | exact ⟨_, rfl, Z.Imp.refl _⟩ | exact ⟨_, rfl, Z.Imp.nilg _⟩ | exact ⟨_, rfl, Z.Imp.nilr _ _⟩)
    · repeat' (first | exact trivial | (intro b hb; cases hb; done) | exact (fun b hb => ⟨b, hb, Z.ImpO.refl b⟩) | (intro b hb; cases hb; refine ⟨_, rfl, ⟨rfl, rfl, rfl⟩, ?_⟩; (repeat' (first | exact trivial | apply And.intro | exact Z.Imp.refl _ | exact Z.Imp.nilg _ | exact Z.Imp.nilr _ _)); done) | apply And.intro)
    rintro ⟨h2, esD2⟩ HINV
    dsimp only at HINV ⊢
    obtain ⟨HH2, LD2, HMD, HL2⟩ := HINV
    by_cases hh2 : h2 < gs.length
    · exact absurd hh2 (by rw [hgn]; simp)
    have hge : gs.take h2 = gs := List.take_of_length_le (by omega)
    rw [hge] at HL2
    have HR2 := hdr LD2 HL2
    have hne : rows ≠ [] := fun e => by rw [e] at hrl; simp at hrl
    have hlk := HR2.lastK hne
    have hnp := HR2.np
    have ck := check_con kk rows (by omega)
    rw [HR2.ok] at ck
    have cl := Lat_con kk rows (by omega)
    have hie : rows.isEmpty = false := by cases rows with
      | nil => exact absurd rfl hne
      | cons => rfl
    rw [HR2.ok, hie] at cl
    simp only [cond_true, Bool.not_false] at ck cl
    repeat' ((conv => whnf); first
      | ((with_reducible apply spB_cong); (focus (simp only [beq_self_eq_true, bne_self_eq_false, Bool.true_bne, Bool.false_bne, Bool.bne_true, Bool.bne_false, Bool.true_beq, Bool.false_beq, Bool.not_true, Bool.not_false, Bool.not_not, Int.reduceBEq, Int.reduceBNe, Int.reduceLE, Int.reduceLT, Int.reduceEq, decide_true, decide_false]; rfl)))
      | with_reducible first | refine spB_yes (by decide) ?_ | refine spB_no (by decide) ?_ | refine spB_f ?_ | refine spB_not ?_ | refine spB_yes (by assumption) ?_ | refine spB_no (by assumption) ?_
      | (with_reducible refine spB_dec ?_ ?_ <;> intro _ <;> (try (exfalso; first | contradiction | omega | (rename_i hz; refine hz (decide_eq_decide.2 ?_); omega) | (rename_i hz; refine hz ?_; simp; done) | (simp only [LN] at *; omega))))
      | with_reducible first | refine apN_mk (by kernel_rfl) ?_ | refine Z.callZ_in tabOk 125 Try.f26 _ Try.func26 (by kernel_rfl) rfl rfl rfl ?_
      | ((first | (with_reducible refine Z.conZ_mz ?_ (ck) ?_) | (with_reducible refine Z.callZ_mk ?_ (ck) ?_) | (with_reducible refine Z.conZ_mz ?_ (cl) ?_) | (with_reducible refine Z.callZ_mk ?_ (cl) ?_)); (focus ((repeat' (first | exact trivial | exact rfl | exact Z.low_nil | exact Z.low_nil2 | exact low_osl (fun _ => rfl) | (refine Z.low_osln ?_ (fun _ => rfl); (simp only [List.length_map]; done)) | exact low_oslr (fun _ => rfl) | exact Z.low_gslm (by first | rfl | exact Z.kb_some rfl) (fun _ => rfl) | exact .inl rfl | exact .inr ⟨_, rfl⟩ | apply And.intro)); done)))
      | (focus (exact (rfl : Nat.ble _ _ = true))))
    all_goals (try (conv => whnf))
    all_goals try (show Nat.ble _ _ = true; rfl)
    all_goals try (exfalso; (try simp only [LN] at *) <;> omega)
    refine Z.loopK tabOk (fun zq : Nat × Int × Y.MS => [(25, .val (.int .i64 (zq.1 : Int))), (11, .val (.int .i64 zq.2.1))]) (fun zq : Nat × Int × Y.MS => ([(7, some (Z.Ob.m zq.2.2))] : Z.Kr)) (fun zq => zq.1 ≤ rows.length ∧ zq.2.1 = (npl (rows.take zq.1) : Int) ∧ ∃ L, Z.MapL .u64 enB zq.2.2 L ∧ ∀ z, (Z.lookK L z).getD false = anyN z (rows.take zq.1)) (fun zq => rows.length - zq.1) (0, 0, ⟨[], 0⟩) 8 [(1, _), (2, _), (3, _), (4, _), (5, _), (12, _), (23, _), (24, _)] ⟨rfl, rfl, rfl, rfl, rfl, rfl, rfl, rfl, trivial⟩ [(0, some _), (1, some _), (2, some _), (3, some _), (4, some _), (5, some _), (6, some _)] ⟨rfl, rfl, rfl, rfl, rfl, rfl, rfl, trivial⟩ ?_ ?_ rfl rfl ⟨Nat.zero_le _, rfl, [], Z.MapL.nil, fun z => rfl⟩ ?_
    · repeat' (first | exact trivial | apply And.intro | exact ⟨_, rfl, rfl⟩ | exact ⟨_, rfl, Z.Imp.refl _⟩ | exact ⟨_, rfl, Z.Imp.nilg _⟩ | exact ⟨_, rfl, Z.Imp.nilr _ _⟩)
    · repeat' (first | exact trivial | (intro b hb; cases hb; done) | exact (fun b hb => ⟨b, hb, Z.ImpO.refl b⟩) | (intro b hb; cases hb; refine ⟨_, rfl, ⟨rfl, rfl, rfl⟩, ?_⟩; (repeat' (first | exact trivial | apply And.intro | exact Z.Imp.refl _ | exact Z.Imp.nilg _ | exact Z.Imp.nilr _ _)); done) | apply And.intro)
    rintro ⟨j, rs, esT⟩ HINV
    dsimp only at HINV ⊢
    obtain ⟨HJ, HS, LT, HMT, HT⟩ := HINV
    by_cases hj : j < rows.length
    · obtain ⟨x, hx⟩ := getElem?_some' (xs := rows) (i := j) hj
      obtain ⟨vD, vS, vO⟩ := HR2.row hx
      have hnt := npl_take hx
      have hnb : npl (rows.take j) ≤ j := Nat.le_trans List.countP_le_length (by rw [List.length_take]; omega)
      repeat' ((conv => whnf); first
        | with_reducible first | refine spB_t ?_
        | ((with_reducible apply spB_cong); (focus (simp only [beq_self_eq_true, bne_self_eq_false, Bool.true_bne, Bool.false_bne, Bool.bne_true, Bool.bne_false, Bool.true_beq, Bool.false_beq, Bool.not_true, Bool.not_false, Bool.not_not, Int.reduceBEq, Int.reduceBNe, Int.reduceLE, Int.reduceLT, Int.reduceEq, decide_true, decide_false]; rfl)))
        | with_reducible first | refine spB_yes (by decide) ?_ | refine spB_no (by decide) ?_ | refine spB_f ?_ | refine spB_not ?_ | refine spB_yes (by assumption) ?_ | refine spB_no (by assumption) ?_
        | (with_reducible refine spB_dec ?_ ?_ <;> intro _ <;> (try (exfalso; first | contradiction | omega | (rename_i hz; refine hz (decide_eq_decide.2 ?_); omega) | (rename_i hz; refine hz ?_; simp; done) | (simp only [LN] at *; omega))))
        | (with_reducible refine spB_mk ?_ ?_ <;> intro _ <;> (try (exfalso; first | contradiction | omega | (rename_i hz; refine hz (decide_eq_decide.2 ?_); omega) | (rename_i hz; refine hz ?_; simp; done) | (simp only [LN] at *; omega))))
        | with_reducible first | refine Z.rowN_known hx ?_
        | ((with_reducible refine look_is HMD vD ?_ ?_); (focus rfl); (intro okk))
        | ((with_reducible refine look_is HMS vS ?_ ?_); (focus rfl); (intro okk))
        | ((with_reducible refine look_is HMO vO ?_ ?_); (focus rfl); (intro okk))
        | ((with_reducible refine Z.MapL.upd' HMT (v := true) ?_ ?_); (focus rfl); (intro esHMT HMT))
        | ((with_reducible apply ixN_litp); (focus (exact rfl)); (focus ((try simp only [LN] at *) <;> omega)))
        | with_reducible refine wr_i64 (by first | omega | (simp only [LN] at *; omega)) ?_
        | (focus (exact (rfl : Nat.ble _ _ = true))))
      all_goals (try (conv => whnf))
      all_goals try (show Nat.ble _ _ = true; rfl)
      all_goals first
        | ((refine Z.rndK ((j + 1, rs + 1, esHMT)) (fun s => [0, 1, 2, 3, 4, 5, 6, 7]) rfl rfl rfl rfl ?_ ?_ ?_ ?_); (focus (repeat' (first | exact trivial | exact Z.map_sub (Z.MapL.ren HMD fun _ => rfl) rfl | exact Z.map_sub (Z.MapL.ren HMS fun _ => rfl) rfl | exact Z.map_sub (Z.MapL.ren HMO fun _ => rfl) rfl | exact Z.map_sub (Z.MapL.ren HMT fun _ => rfl) rfl | exact Z.it_sub rfl | exact rfl | (rw [List.map_append]; exact rfl) | apply And.intro))); (focus (repeat' (first | exact trivial | exact Z.map_sub (Z.MapL.ren HMD fun _ => rfl) rfl | exact Z.map_sub (Z.MapL.ren HMS fun _ => rfl) rfl | exact Z.map_sub (Z.MapL.ren HMO fun _ => rfl) rfl | exact Z.map_sub (Z.MapL.ren HMT fun _ => rfl) rfl | exact Z.it_sub rfl | (intro b hb; cases hb; rfl) | (intro b hb; cases hb; subst hlb; rfl) | (intro b hb; cases hb; rw [List.map_append]; rfl) | (intro b hb; cases hb; done) | exact Z.blk_sub rfl rfl (ren_map fun _ => rfl) | exact Z.blk_sub rfl rfl (Z.ren_app (ren_map fun _ => rfl) (ren_map fun _ => rfl)) | exact Z.blk_sub rfl (by first | (rw [List.map_append]; rfl) | (rw [List.map_set]; rfl) | simp only [List.map_append, List.map_cons, List.map_nil, List.map_set]) (ren_map fun _ => rfl) | exact Z.gB_sub rfl rfl (ren_map fun _ => rfl) | exact Z.gB_sub' rfl (by first | rfl | (rw [List.map_append]; rfl) | simp only [List.map_append, List.map_cons, List.map_nil]) (ren_map fun _ => rfl) | apply And.intro))); (focus (refine ⟨by dsimp only; omega, ?_, _, HMT, there_step hx HT⟩; (try dsimp only); rw [hnt, HS]; (have hpk : plK x = true := by unfold plK; simp_all); rw [hpk]; simp)); ((try dsimp only); omega))
        | ((refine Z.rndK ((j + 1, rs, esHMT)) (fun s => [0, 1, 2, 3, 4, 5, 6, 7]) rfl rfl rfl rfl ?_ ?_ ?_ ?_); (focus (repeat' (first | exact trivial | exact Z.map_sub (Z.MapL.ren HMD fun _ => rfl) rfl | exact Z.map_sub (Z.MapL.ren HMS fun _ => rfl) rfl | exact Z.map_sub (Z.MapL.ren HMO fun _ => rfl) rfl | exact Z.map_sub (Z.MapL.ren HMT fun _ => rfl) rfl | exact Z.it_sub rfl | exact rfl | (rw [List.map_append]; exact rfl) | apply And.intro))); (focus (repeat' (first | exact trivial | exact Z.map_sub (Z.MapL.ren HMD fun _ => rfl) rfl | exact Z.map_sub (Z.MapL.ren HMS fun _ => rfl) rfl | exact Z.map_sub (Z.MapL.ren HMO fun _ => rfl) rfl | exact Z.map_sub (Z.MapL.ren HMT fun _ => rfl) rfl | exact Z.it_sub rfl | (intro b hb; cases hb; rfl) | (intro b hb; cases hb; subst hlb; rfl) | (intro b hb; cases hb; rw [List.map_append]; rfl) | (intro b hb; cases hb; done) | exact Z.blk_sub rfl rfl (ren_map fun _ => rfl) | exact Z.blk_sub rfl rfl (Z.ren_app (ren_map fun _ => rfl) (ren_map fun _ => rfl)) | exact Z.blk_sub rfl (by first | (rw [List.map_append]; rfl) | (rw [List.map_set]; rfl) | simp only [List.map_append, List.map_cons, List.map_nil, List.map_set]) (ren_map fun _ => rfl) | exact Z.gB_sub rfl rfl (ren_map fun _ => rfl) | exact Z.gB_sub' rfl (by first | rfl | (rw [List.map_append]; rfl) | simp only [List.map_append, List.map_cons, List.map_nil]) (ren_map fun _ => rfl) | apply And.intro))); (focus (refine ⟨by dsimp only; omega, ?_, _, HMT, there_step hx HT⟩; (try dsimp only); rw [hnt, HS]; (have hpk : plK x = false := by unfold plK; simp_all); rw [hpk]; simp)); ((try dsimp only); omega))
        | (exfalso; rename_i hz; cases hz; done)
        | (exfalso; (try simp only [LN] at *) <;> omega)
        | (exfalso; first | contradiction | omega | (rename_i hz; refine hz (decide_eq_decide.2 ?_); omega) | (rename_i hz; refine hz ?_; simp; done) | (simp only [LN] at *; omega))
        | (exfalso; simp_all; done)
        | (fail)
    have hje : rows.take j = rows := List.take_of_length_le (by omega)
    rw [hje] at HS HT
    repeat' ((conv => whnf); first
      | (with_reducible refine spB_dec ?_ ?_ <;> intro _ <;> (try (exfalso; first | contradiction | omega | (rename_i hz; refine hz (decide_eq_decide.2 ?_); omega) | (rename_i hz; refine hz ?_; simp; done) | (simp only [LN] at *; omega))))
      | (focus (exact (rfl : Nat.ble _ _ = true))))
    all_goals (try (conv => whnf))
    all_goals try (show Nat.ble _ _ = true; rfl)
    all_goals try (exfalso; (try simp only [LN] at *) <;> omega)
    refine Z.loopK tabOk (fun zq : List Nat × List (Int × Bool) => []) (fun zq : List Nat × List (Int × Bool) => ([(8, some (Z.Ob.i ⟨3, esO.c, zq.1, esO.c⟩))] : Z.Kr)) (fun zq => Z.LeftL .u64 enB esO zq.1 zq.2 ∧ ∀ z ∈ zq.2, z ∈ LO) (fun zq => zq.2.length) ([], LO) 9 [(1, _), (2, _), (3, _), (4, _), (5, _), (11, _), (12, _), (66, _)] ⟨rfl, rfl, rfl, rfl, rfl, rfl, rfl, rfl, trivial⟩ [(0, some _), (1, some _), (2, some _), (3, some _), (4, some _), (5, some _), (6, some _), (7, some _)] ⟨rfl, rfl, rfl, rfl, rfl, rfl, rfl, rfl, trivial⟩ ?_ ?_ rfl rfl ⟨HMO.left, fun z hz => hz⟩ ?_
    · repeat' (first | exact trivial | apply And.intro | exact ⟨_, rfl, rfl⟩ | exact ⟨_, rfl, Z.Imp.refl _⟩ | exact ⟨_, rfl, Z.Imp.nilg _⟩ | exact ⟨_, rfl, Z.Imp.nilr _ _⟩)
    · repeat' (first | exact trivial | (intro b hb; cases hb; done) | exact (fun b hb => ⟨b, hb, Z.ImpO.refl b⟩) | (intro b hb; cases hb; refine ⟨_, rfl, ⟨rfl, rfl, rfl⟩, ?_⟩; (repeat' (first | exact trivial | apply And.intro | exact Z.Imp.refl _ | exact Z.Imp.nilg _ | exact Z.Imp.nilr _ _)); done) | apply And.intro)
    rintro ⟨seen, r⟩ HINV
    dsimp only at HINV ⊢
    obtain ⟨HR, HY⟩ := HINV
    repeat' ((conv => whnf); first
      | with_reducible first | refine spB_t ?_
      | ((with_reducible apply spB_cong); (focus (simp only [beq_self_eq_true, bne_self_eq_false, Bool.true_bne, Bool.false_bne, Bool.bne_true, Bool.bne_false, Bool.true_beq, Bool.false_beq, Bool.not_true, Bool.not_false, Bool.not_not, Int.reduceBEq, Int.reduceBNe, Int.reduceLE, Int.reduceLT, Int.reduceEq, decide_true, decide_false]; rfl)))
      | with_reducible first | refine spB_yes (by decide) ?_ | refine spB_no (by decide) ?_ | refine spB_f ?_ | refine spB_not ?_ | refine spB_yes (by assumption) ?_ | refine spB_no (by assumption) ?_
      | (with_reducible refine spB_dec ?_ ?_ <;> intro _ <;> (try (exfalso; first | contradiction | omega | (rename_i hz; refine hz (decide_eq_decide.2 ?_); omega) | (rename_i hz; refine hz ?_; simp; done) | (simp only [LN] at *; omega))))
      | (with_reducible refine spB_beq ?_ ?_ <;> intro _ <;> (try (exfalso; first | contradiction | omega | (rename_i hz; refine hz (decide_eq_decide.2 ?_); omega) | (rename_i hz; refine hz ?_; simp; done) | (simp only [LN] at *; omega))))
      | (with_reducible refine spB_mk ?_ ?_ <;> intro _ <;> (try (exfalso; first | contradiction | omega | (rename_i hz; refine hz (decide_eq_decide.2 ?_); omega) | (rename_i hz; refine hz ?_; simp; done) | (simp only [LN] at *; omega))))
      | ((with_reducible refine Z.MapL.next HMO ?_ ?_ HR ?_ ?_); (focus rfl); (focus rfl); (focus intro hr0); rotate_left; (focus (intro y9 b9 r9 hp9 hl9 hm9; have hy9 := HY y9 (hp9.mem_iff.2 (by simp)); cases hA : anyN y9.1 rows; (focus (obtain ⟨vO, vS, vD⟩ := HR2.key HMO.keys hy9 hA; have vT := (HT y9.1).trans hA)); rotate_left; (have vT := (HT y9.1).trans hA))))
      | ((with_reducible refine Z.MapL.entry HMO hm9 (s := seen) ?_ ?_ ?_); (focus rfl); (focus (exact rfl)))
      | ((with_reducible refine look_is HMD vD ?_ ?_); (focus rfl); (intro okk))
      | ((with_reducible refine look_is HMS vS ?_ ?_); (focus rfl); (intro okk))
      | ((with_reducible refine look_is HMO vO ?_ ?_); (focus rfl); (intro okk))
      | ((with_reducible refine look_is HMT vT ?_ ?_); (focus rfl); (intro okk))
      | ((with_reducible refine Z.MapL.look HMO (z0 := false) ?_ ?_); (focus rfl))
      | ((with_reducible refine Z.MapL.look HMS (z0 := false) ?_ ?_); (focus rfl))
      | with_reducible refine wr_i64 (by first | omega | (simp only [LN] at *; omega)) ?_
      | ((first | (with_reducible refine Z.conZ_mz ?_ (ck) ?_) | (with_reducible refine Z.callZ_mk ?_ (ck) ?_) | (with_reducible refine Z.conZ_mz ?_ (cl) ?_) | (with_reducible refine Z.callZ_mk ?_ (cl) ?_)); (focus ((repeat' (first | exact trivial | exact rfl | exact Z.low_nil | exact Z.low_nil2 | exact low_osl (fun _ => rfl) | (refine Z.low_osln ?_ (fun _ => rfl); (simp only [List.length_map]; done)) | exact low_oslr (fun _ => rfl) | exact Z.low_gslm (by first | rfl | exact Z.kb_some rfl) (fun _ => rfl) | exact .inl rfl | exact .inr ⟨_, rfl⟩ | apply And.intro)); done)))
      | ((with_reducible apply ex_and); exact rfl)
      | (focus (exact (rfl : Nat.ble _ _ = true))))
    all_goals (try (conv => whnf))
    all_goals try (show Nat.ble _ _ = true; rfl)
    all_goals first
      | ((refine Z.rndK ((seen ++ [b9], r9)) (fun s => [0, 1, 2, 3, 4, 5, 6, 7, 8]) rfl rfl rfl rfl ?_ ?_ ?_ ?_); (focus (repeat' (first | exact trivial | exact Z.map_sub (Z.MapL.ren HMD fun _ => rfl) rfl | exact Z.map_sub (Z.MapL.ren HMS fun _ => rfl) rfl | exact Z.map_sub (Z.MapL.ren HMO fun _ => rfl) rfl | exact Z.map_sub (Z.MapL.ren HMT fun _ => rfl) rfl | exact Z.it_sub rfl | exact rfl | (rw [List.map_append]; exact rfl) | apply And.intro))); (focus (repeat' (first | exact trivial | exact Z.map_sub (Z.MapL.ren HMD fun _ => rfl) rfl | exact Z.map_sub (Z.MapL.ren HMS fun _ => rfl) rfl | exact Z.map_sub (Z.MapL.ren HMO fun _ => rfl) rfl | exact Z.map_sub (Z.MapL.ren HMT fun _ => rfl) rfl | exact Z.it_sub rfl | (intro b hb; cases hb; rfl) | (intro b hb; cases hb; subst hlb; rfl) | (intro b hb; cases hb; rw [List.map_append]; rfl) | (intro b hb; cases hb; done) | exact Z.blk_sub rfl rfl (ren_map fun _ => rfl) | exact Z.blk_sub rfl rfl (Z.ren_app (ren_map fun _ => rfl) (ren_map fun _ => rfl)) | exact Z.blk_sub rfl (by first | (rw [List.map_append]; rfl) | (rw [List.map_set]; rfl) | simp only [List.map_append, List.map_cons, List.map_nil, List.map_set]) (ren_map fun _ => rfl) | exact Z.gB_sub rfl rfl (ren_map fun _ => rfl) | exact Z.gB_sub' rfl (by first | rfl | (rw [List.map_append]; rfl) | simp only [List.map_append, List.map_cons, List.map_nil]) (ren_map fun _ => rfl) | apply And.intro))); (focus (exact ⟨hl9, fun z hz => HY z (hp9.mem_iff.2 (List.mem_cons_of_mem _ hz))⟩)); (have h8 := hp9.length_eq; simp only [List.length_cons] at h8; (try dsimp only); omega))
      | ((refine Z.rndK ((i + 1, rows, last, st, esD2, esHMS, esO)) (fun s => [0, 1, 2, 3]) rfl rfl rfl rfl ?_ ?_ ?_ ?_); (focus (repeat' (first | exact trivial | exact Z.map_sub (Z.MapL.ren HMD fun _ => rfl) rfl | exact Z.map_sub (Z.MapL.ren HMS fun _ => rfl) rfl | exact Z.map_sub (Z.MapL.ren HMO fun _ => rfl) rfl | exact Z.map_sub (Z.MapL.ren HMT fun _ => rfl) rfl | exact Z.it_sub rfl | exact rfl | (rw [List.map_append]; exact rfl) | apply And.intro))); (focus (repeat' (first | exact trivial | exact Z.map_sub (Z.MapL.ren HMD fun _ => rfl) rfl | exact Z.map_sub (Z.MapL.ren HMS fun _ => rfl) rfl | exact Z.map_sub (Z.MapL.ren HMO fun _ => rfl) rfl | exact Z.map_sub (Z.MapL.ren HMT fun _ => rfl) rfl | exact Z.it_sub rfl | (intro b hb; cases hb; rfl) | (intro b hb; cases hb; subst hlb; rfl) | (intro b hb; cases hb; rw [List.map_append]; rfl) | (intro b hb; cases hb; done) | exact Z.blk_sub rfl rfl (ren_map fun _ => rfl) | exact Z.blk_sub rfl rfl (Z.ren_app (ren_map fun _ => rfl) (ren_map fun _ => rfl)) | exact Z.blk_sub rfl (by first | (rw [List.map_append]; rfl) | (rw [List.map_set]; rfl) | simp only [List.map_append, List.map_cons, List.map_nil, List.map_set]) (ren_map fun _ => rfl) | exact Z.gB_sub rfl rfl (ren_map fun _ => rfl) | exact Z.gB_sub' rfl (by first | rfl | (rw [List.map_append]; rfl) | simp only [List.map_append, List.map_cons, List.map_nil]) (ren_map fun _ => rfl) | apply And.intro))); (focus (exact ⟨by dsimp only; omega, by dsimp only; omega, LD2, (Z.putK LS q.num true), LO, HMD, HMS, HMO, HR2⟩)); ((try dsimp only); omega))
      | (exfalso; rename_i hz; cases hz; done)
      | (exfalso; (try simp only [LN] at *) <;> omega)
      | (exfalso; first | contradiction | omega | (rename_i hz; refine hz (decide_eq_decide.2 ?_); omega) | (rename_i hz; refine hz ?_; simp; done) | (simp only [LN] at *; omega))
      | (exfalso; simp_all; done)
      | (fail)

end Go.Proofs.Ytnlcmncfbiognaa
