import Derived.Test.YtopieffkpdlpbaaGreatOwn8
set_option linter.unusedVariables false
set_option linter.unusedSimpArgs false
namespace Go.Proofs.YtopieffkpdlpbaaGreat
open Go Go.RowKit Wx
set_option maxHeartbeats 40000000
open Tab
theorem sdec_few (t0 t1 t2 t3 t4 t5 : Int) (R0 L : List Int) (N : Nat) (hB : isB (t0 :: t1 :: t2 :: t3 :: t4 :: t5 :: (R0 ++ L))) (hN : numR [t4, t5] = (N : Int)) (hR0 : R0.length = 18 * N) (hl : (R0 ++ L).length ≤ 1000000000) (hL8 : L.length ≤ 8) : Con Tryz.prog 17 [.one (.ro false 1 ((t0 :: t1 :: t2 :: t3 :: t4 :: t5 :: (R0 ++ L)).map eB))] (fun rx rK rt => rx = .tup [.agg [.v (.int .i64 zeroS.op), .v (.int .i64 zeroS.ix), .v (.int .i64 zeroS.w), .v (.bool zeroS.en), .ro true 4 (zeroS.rows.map Tab.eK), .v (.int .i64 zeroS.o0), .v (.int .i64 zeroS.o1), .v (.int .i64 zeroS.o2), .v (.int .i64 zeroS.o3), .v (.int .i64 zeroS.o4), .v (.int .i64 zeroS.o5), .v (.int .i64 zeroS.o6), .v (.int .i64 zeroS.o7), .ro true 3 (zeroS.txs.map eN)], .one (.v (.int .i64 7))] ∧ rK = [] ∧ rt = 0) := by
 refine Z.con_ofF tabOk 89 Tryz.f17 _ Tryz.func17 (by kernel_rfl) rfl rfl rfl rfl ?_
 have hBL : isB L := fun z hz => hB z (by simp [hz])
 have hb0 := hB t0 (by simp)
 have hb1 := hB t1 (by simp)
 have hb2 := hB t2 (by simp)
 have hb3 := hB t3 (by simp)
 have hb4 := hB t4 (by simp)
 have hb5 := hB t5 (by simp)
 rw [numR2] at hN
 have cp := putO16_con [] (t4 * 256 + t5) (by simp) ⟨by omega, by omega⟩
 have ccp := copied_con (t0 :: t1 :: t2 :: t3 :: t4 :: t5 :: (R0 ++ L)) (by simp only [List.length_cons]; omega)
 have ccr := copied_con R0 (by rw [List.length_append] at hl; omega)
 have hraw : List.take (18 * N - 0) (List.drop 0 ((R0 ++ L).map eB)) = R0.map eB := by rw [Nat.sub_zero, List.drop_zero, List.map_append]; exact List.take_left' (by rw [List.length_map]; exact hR0)
 have hrest : List.take ((List.map eB (R0 ++ L)).length - 18 * N) (List.drop (18 * N) (List.map eB (R0 ++ L))) = (L).map eB := by rw [List.map_append, List.drop_left' (by rw [List.length_map]; exact hR0)]; exact List.take_of_length_le (by simp only [List.length_append, List.length_map]; omega)
 have hRL : (R0 ++ L).length = 18 * N + (L).length := by rw [List.length_append, hR0]
 have hbe : be 2 (t4 * 256 + t5) = [t4, t5] := by rw [← numR2]; exact be_numR rfl (by intro z hz; simp at hz; rcases hz with rfl | rfl <;> assumption)
 repeat' ((conv => whnf); first
  | with_reducible first | refine spB_t ?_
  | ((with_reducible apply spB_cong); (focus (simp only [splQ, Int.reduceBEq, Int.reduceBNe]; rfl)))
  | with_reducible first | refine spB_yes (by decide) ?_ | refine spB_no (by decide) ?_
  | (with_reducible refine spB_dec ?_ ?_ <;> intro _ <;> (try (exfalso; (first | omega | (simp only [LN] at *; omega)))))
  | ((with_reducible refine Z.slN_lo 1 ?_ ?_ ?_); (focus rfl); (focus (exact Nat.le_add_left _ _)); (rw [tkm1]))
  | ((with_reducible refine Z.slN_lo 2 ?_ ?_ ?_); (focus rfl); (focus (exact Nat.le_add_left _ _)); (rw [tkm2]))
  | ((refine sl3N_mk 0 1 1 rfl rfl rfl ?_ ?_ ?_ ?_ ?_); (iterate 4 (focus (first | exact .inl rfl | ((try simp only [LN] at *) <;> omega)))))
  | (refine loopZ_unr1 tabOk rfl ?_)
  | ((with_reducible refine wr_shl8 ?_ ?_); (focus omega))
  | ((with_reducible refine wr_or0 ?_ ?_); (focus omega))
  | with_reducible first | refine rowN_mk _ rfl ?_
  | ((refine sl3N_mk 0 2 2 rfl rfl rfl ?_ ?_ ?_ ?_ ?_); (iterate 4 (focus (first | exact .inl rfl | ((try simp only [LN] at *) <;> omega)))))
  | (refine loopZ_unr2 tabOk rfl ?_)
  | ((with_reducible refine apdE_n ?_); (with_reducible refine apdN.mk ?_ ?_ ?_ ?_ ?_ ?_); (focus (first | (simp; done))); (focus (first | exact one_map2 (fun _ => rfl))); (focus (first | exact Nat.le_of_ble_eq_true rfl)); (iterate 2 (focus (first | ((try simp only [LN] at *) <;> omega)))))
  | (refine wr_n16 hb4 hb5 ?_)
  | ((refine sl3N_mk 0 (18 * N) (18 * N) rfl (rawq hN) (rawq hN) ?_ ?_ ?_ ?_ ?_); (iterate 4 (focus (first | exact .inl rfl | ((try simp only [LN] at *) <;> omega)))))
  | ((with_reducible refine Z.slN_lo (18 * N) ?_ ?_ ?_); (focus (exact rawq hN)); (focus ((try simp only [LN] at *) <;> omega)); (rw [hrest]))
  | ((with_reducible apply ixN_lit); (focus rfl); (focus rfl))
  | ((with_reducible refine eqN_mk2 ?_ ?_); (focus rfl))
  | with_reducible refine wr_i64 (by first | omega | (simp only [LN] at *; omega)) ?_
  | with_reducible refine wr_u64 (by omega) ?_
  | with_reducible first | refine wr_mk _ rfl ?_
  | with_reducible first | refine Z.callZ_in tabOk 18 Tryz.f104 _ Tryz.func104 (by kernel_rfl) rfl rfl rfl ?_ | refine Z.callZ_in tabOk 5 Tryz.f105 _ Tryz.func105 (by kernel_rfl) rfl rfl rfl ?_ | refine Z.callZ_in tabOk 8 Tryz.f42 _ Tryz.func42 (by kernel_rfl) rfl rfl rfl ?_ | refine Z.callZ_in tabOk 6 Tryz.f43 _ Tryz.func43 (by kernel_rfl) rfl rfl rfl ?_ | refine Z.callZ_in tabOk 14 Tryz.f44 _ Tryz.func44 (by kernel_rfl) rfl rfl rfl ?_ | refine Z.callZ_in tabOk 10 Tryz.f80 _ Tryz.func80 (by kernel_rfl) rfl rfl rfl ?_ | refine Z.callZ_in tabOk 58 Tryz.f103 _ Tryz.func103 (by kernel_rfl) rfl rfl rfl ?_ | refine Z.callZ_in tabOk 6 Tryz.f81 _ Tryz.func81 (by kernel_rfl) rfl rfl rfl ?_ | refine Z.callZ_in tabOk 10 Tryz.f82 _ Tryz.func82 (by kernel_rfl) rfl rfl rfl ?_
  | ((first | (with_reducible refine Z.callZ_mk ?_ (cp) ?_)); (focus ((repeat' (first | exact trivial | exact rfl | exact Z.low_nil2 | apply And.intro)); done)))
  | ((first | (with_reducible refine Z.callZ_mk ?_ (ccp) ?_)); (focus ((repeat' (first | exact trivial | exact rfl | apply And.intro)); done)))
  | ((first | (with_reducible refine Z.callZ_mk ?_ (ccr) ?_)); (focus ((repeat' (first | exact trivial | exact congrArg (Ce.ro false 1) hraw.symm | apply And.intro)); done)))
  | ((with_reducible apply ex_and); exact rfl)
  | with_reducible first | refine Z.drawZ_rule tabOk mixOk ?_ | refine Z.apZ_mk (by kernel_rfl) ?_
  | fail)
 all_goals (try (conv => whnf))
 all_goals try first | (show Nat.ble _ _ = true; rfl) | (exfalso; rename_i hz; cases hz; done) | (exfalso; (try simp only [LN] at *) <;> omega)
 refine Z.loopK tabOk (fun zq : Nat × List Int × Int × Int × Int × Int × Int × Int × Int × Int × Int => [(29, .val (.int .i64 (zq.1 : Int))), (7, .c (.osl 15 0 (t4 :: t5 :: R0).length none))]) (fun zq : Nat × List Int × Int × Int × Int × Int × Int × Int × Int × Int × Int => ([(0, some (Z.Ob.b ⟨[[.v (.int .i64 0), .v (.int .i64 0), .v (.int .i64 0), .v (.bool false), .v (.slice none 0 0), .v (.int .i64 0), .v (.int .i64 0), .v (.int .i64 0), .v (.int .i64 0), .v (.int .i64 0), .v (.int .i64 0), .v (.int .i64 0), .v (.int .i64 0), .v (.slice none 0 0)]], 14, 35, true⟩)), (1, some (Z.Ob.b ⟨[[.ro true 1 (zq.2.1.map eB), .v (.int .i64 zq.2.2.1)]], 2, 130, true⟩)), (8, some (Z.Ob.b ⟨[[.v (.int .i64 t0), .v (.int .i64 t1), .v (.int .i64 t2), .v (.bool (t3 == 1)), .v (.slice none 0 0), .v (.int .i64 zq.2.2.2.1), .v (.int .i64 zq.2.2.2.2.1), .v (.int .i64 zq.2.2.2.2.2.1), .v (.int .i64 zq.2.2.2.2.2.2.1), .v (.int .i64 zq.2.2.2.2.2.2.2.1), .v (.int .i64 zq.2.2.2.2.2.2.2.2.1), .v (.int .i64 zq.2.2.2.2.2.2.2.2.2.1), .v (.int .i64 zq.2.2.2.2.2.2.2.2.2.2), .v (.slice none 0 0)]], 14, 35, true⟩)), (15, some (Z.Ob.b ⟨(t4 :: t5 :: R0).map cB, 1, 5, false⟩))] : Z.Kr)) (fun zq => zq.1 ≤ 8 ∧ (((zq.2.2.1 = 0 ∧ zq.1 ≤ L.length) ∧ zq.2.1 = L.drop zq.1) ∨ ((zq.2.2.1 = 7 ∧ L.length < zq.1) ∧ zq.2.1 = [])) ∧ zq.2.2.2.1 = (if 0 < zq.1 then L.getD 0 0 else 0) ∧ zq.2.2.2.2.1 = (if 1 < zq.1 then L.getD 1 0 else 0) ∧ zq.2.2.2.2.2.1 = (if 2 < zq.1 then L.getD 2 0 else 0) ∧ zq.2.2.2.2.2.2.1 = (if 3 < zq.1 then L.getD 3 0 else 0) ∧ zq.2.2.2.2.2.2.2.1 = (if 4 < zq.1 then L.getD 4 0 else 0) ∧ zq.2.2.2.2.2.2.2.2.1 = (if 5 < zq.1 then L.getD 5 0 else 0) ∧ zq.2.2.2.2.2.2.2.2.2.1 = (if 6 < zq.1 then L.getD 6 0 else 0) ∧ zq.2.2.2.2.2.2.2.2.2.2 = (if 7 < zq.1 then L.getD 7 0 else 0)) (fun zq => 8 - zq.1) (0, L, 0, 0, 0, 0, 0, 0, 0, 0, 0) 16 [(2, _), (4, _), (5, _), (6, _)] ⟨rfl, rfl, rfl, rfl, trivial⟩ [] trivial ?_ ?_ rfl rfl ⟨Nat.zero_le _, .inl ⟨⟨rfl, Nat.zero_le _⟩, rfl⟩, rfl, rfl, rfl, rfl, rfl, rfl, rfl, rfl⟩ ?_
 ·repeat' (first | exact trivial | apply And.intro | exact ⟨_, rfl, Z.Imp.refl _⟩ | exact ⟨_, rfl, oslE (by simp only [List.length_nil, List.length_map, List.length_cons]; omega)⟩)
 ·repeat' (first | exact trivial | exact (fun b hb => ⟨b, hb, Z.ImpO.refl b⟩) | (intro b hb; cases hb; refine ⟨_, rfl, ⟨rfl, rfl, rfl⟩, Z.imp_eq ?_⟩; first | rfl | exact Z.blk_sub rfl (tkS (rn2 hbe) ce_cB rfl) rfl | exact tkS (rn2 hbe) ce_cB rfl; done) | apply And.intro)
 rintro ⟨k, r, rf, c0, c1, c2, c3, c4, c5, c6, c7⟩ HINV
 (try dsimp only at HINV); (try dsimp only)
 obtain ⟨HI, HR, H0, H1, H2, H3, H4, H5, H6, H7⟩ := HINV
 by_cases hk8 : k < 8
 ·obtain ⟨j, hj⟩ : ∃ j, j = k := ⟨k, rfl⟩
  have hk9 : k = 0 ∨ k = 1 ∨ k = 2 ∨ k = 3 ∨ k = 4 ∨ k = 5 ∨ k = 6 ∨ k = 7 := by omega
  rw [← hj] at HR
  clear hk8 ccp cp ccr hraw hrest
  rcases hk9 with rfl | rfl | rfl | rfl | rfl | rfl | rfl | rfl
  all_goals (
   rcases HR with ⟨⟨rfl, h1⟩, hr⟩ | ⟨⟨rfl, h1⟩, rfl⟩
   ·by_cases h2 : j < L.length
    ·rw [drop_getD h2] at hr
     subst hr
     have hbp := hBL _ (getD_mem h2)
     obtain ⟨p, hp⟩ : ∃ p, p = L.getD j 0 := ⟨_, rfl⟩
     rw [← hp] at hbp ⊢
     repeat' ((conv => whnf); first
      | with_reducible first | refine spB_t ?_
      | ((with_reducible apply spB_cong); (focus (simp only [splQ, Int.reduceBEq, Int.reduceBNe]; rfl)))
      | with_reducible first | refine spB_yes (by decide) ?_ | refine spB_no (by decide) ?_
      | (with_reducible refine spB_dec ?_ ?_ <;> intro _ <;> (try (exfalso; (first | (simp only [LN] at *; omega)))))
      | ((with_reducible refine Z.slN_lo 1 ?_ ?_ ?_); (focus rfl); (focus (exact Nat.le_add_left _ _)); (rw [tkm1]))
      | ((refine sl3N_mk 0 1 1 rfl rfl rfl ?_ ?_ ?_ ?_ ?_); (iterate 4 (focus (first | exact .inl rfl | ((try simp only [LN] at *) <;> omega)))))
      | (refine loopZ_unr1 tabOk rfl ?_)
      | ((with_reducible refine wr_shl8 ?_ ?_); (focus omega))
      | ((with_reducible refine wr_or0 ?_ ?_); (focus omega))
      | with_reducible first | refine rowN_mk _ rfl ?_
      | ((with_reducible apply ixN_lit); (focus rfl); (focus rfl))
      | ((with_reducible refine eqN_mk2 ?_ ?_); (focus rfl))
      | with_reducible refine wr_i64 (by first | omega | (simp only [LN] at *; omega)) ?_
      | with_reducible refine wr_u64 (by omega) ?_
      | with_reducible first | refine Z.callZ_in tabOk 18 Tryz.f104 _ Tryz.func104 (by kernel_rfl) rfl rfl rfl ?_ | refine Z.callZ_in tabOk 6 Tryz.f43 _ Tryz.func43 (by kernel_rfl) rfl rfl rfl ?_ | refine Z.callZ_in tabOk 10 Tryz.f80 _ Tryz.func80 (by kernel_rfl) rfl rfl rfl ?_ | refine Z.callZ_in tabOk 58 Tryz.f103 _ Tryz.func103 (by kernel_rfl) rfl rfl rfl ?_
      | ((with_reducible apply ex_and); exact rfl)
      | with_reducible first | refine Z.drawZ_rule tabOk mixOk ?_ | refine Z.apZ_mk (by kernel_rfl) ?_
      | fail)
     all_goals (try (conv => whnf))
     all_goals try first | (show Nat.ble _ _ = true; rfl) | (exfalso; rename_i hz; cases hz; done) | (exfalso; (try simp only [LN] at *) <;> omega)
     all_goals first
      | ((refine Z.rnd_bi 1 [[.ro true 1 ((L.drop (j + 1)).map eB), _]] rfl rfl ⟨⟨Z.Imp.of_eq (congrArg (Ce.ro true 1) (by first | rfl | (simp; done) | exact List.take_of_length_le (by simp))), Z.Imp.refl _, trivial⟩, trivial⟩ ?_); ((refine Z.rndK ((j + 1, (L.drop (j + 1)), 0, (if j = 0 then p else c0), (if j = 1 then p else c1), (if j = 2 then p else c2), (if j = 3 then p else c3), (if j = 4 then p else c4), (if j = 5 then p else c5), (if j = 6 then p else c6), (if j = 7 then p else c7))) (fun s => [0, 1, 2, 3, 4, 5, 6, 7, 8, 9, 10, 11, 12, 13, 14, 15]) rfl rfl rfl rfl ?_ ?_ ?_ ?_); (focus (repeat' (first | exact trivial | exact valF (by omega) | exact rfl | apply And.intro))); (focus (repeat' (first | exact trivial | (intro b hb; subst hj; cases hb; rfl) | exact Z.blk_sub rfl rfl (ren_map fun _ => rfl) | apply And.intro))); (focus ((refine ⟨by (try dsimp only); omega, .inl ⟨⟨rfl, h2⟩, rfl⟩, ?_, ?_, ?_, ?_, ?_, ?_, ?_, ?_⟩ <;> (subst hj; first | rfl | (rw [H0]; rfl) | (rw [H1]; rfl) | (rw [H2]; rfl) | (rw [H3]; rfl) | (rw [H4]; rfl) | (rw [H5]; rfl) | (rw [H6]; rfl) | (rw [H7]; rfl) | exact hp)))); ((try dsimp only); omega)))
      | fail
    ·rw [List.drop_eq_nil_of_le (Nat.le_of_not_lt h2)] at hr
     subst hr
     have hz9 : L.getD j 0 = 0 := getD_no (Nat.le_of_not_lt h2)
     repeat' ((conv => whnf); first
      | ((with_reducible apply spB_cong); (focus (simp only [splQ, Int.reduceBEq, Int.reduceBNe]; rfl)))
      | with_reducible first | refine spB_yes (by decide) ?_ | refine spB_no (by decide) ?_
      | ((with_reducible apply ixN_lit); (focus rfl); (focus rfl))
      | with_reducible refine wr_i64 (by first | omega | (simp only [LN] at *; omega)) ?_
      | with_reducible refine wr_u8 (by omega) ?_
      | with_reducible first | refine Z.callZ_in tabOk 6 Tryz.f43 _ Tryz.func43 (by kernel_rfl) rfl rfl rfl ?_ | refine Z.callZ_in tabOk 10 Tryz.f80 _ Tryz.func80 (by kernel_rfl) rfl rfl rfl ?_ | refine Z.callZ_in tabOk 58 Tryz.f103 _ Tryz.func103 (by kernel_rfl) rfl rfl rfl ?_
      | ((with_reducible apply ex_and); exact rfl)
      | fail)
     all_goals (try (conv => whnf))
     all_goals try first | (show Nat.ble _ _ = true; rfl) | (exfalso; rename_i hz; cases hz; done) | (exfalso; (try simp only [LN] at *) <;> omega)
     all_goals first
      | ((refine Z.rndK ((j + 1, [], 7, (if j = 0 then 0 else c0), (if j = 1 then 0 else c1), (if j = 2 then 0 else c2), (if j = 3 then 0 else c3), (if j = 4 then 0 else c4), (if j = 5 then 0 else c5), (if j = 6 then 0 else c6), (if j = 7 then 0 else c7))) (fun s => [0, 1, 2, 3, 4, 5, 6, 7, 8, 9, 10, 11, 12, 13, 14, 15]) rfl rfl rfl rfl ?_ ?_ ?_ ?_); (focus (repeat' (first | exact trivial | exact valF (by omega) | exact rfl | apply And.intro))); (focus (repeat' (first | exact trivial | (intro b hb; subst hj; cases hb; rfl) | exact Z.blk_sub rfl rfl (ren_map fun _ => rfl) | apply And.intro))); (focus ((refine ⟨by (try dsimp only); omega, .inr ⟨⟨rfl, by (try dsimp only); omega⟩, rfl⟩, ?_, ?_, ?_, ?_, ?_, ?_, ?_, ?_⟩ <;> (subst hj; first | rfl | (rw [H0]; rfl) | (rw [H1]; rfl) | (rw [H2]; rfl) | (rw [H3]; rfl) | (rw [H4]; rfl) | (rw [H5]; rfl) | (rw [H6]; rfl) | (rw [H7]; rfl) | exact hz9.symm)))); ((try dsimp only); omega))
      | fail
   ·have hz9 : L.getD j 0 = 0 := getD_no (by omega)
    repeat' ((conv => whnf); first
     | with_reducible first | refine spB_t ?_
     | ((with_reducible apply spB_cong); (focus (simp only [splQ, Int.reduceBEq, Int.reduceBNe]; rfl)))
     | with_reducible first | refine spB_yes (by decide) ?_ | refine spB_no (by decide) ?_
     | ((with_reducible apply ixN_lit); (focus rfl); (focus rfl))
     | with_reducible refine wr_i64 (by first | omega | (simp only [LN] at *; omega)) ?_
     | with_reducible refine wr_u8 (by omega) ?_
     | with_reducible first | refine Z.callZ_in tabOk 6 Tryz.f43 _ Tryz.func43 (by kernel_rfl) rfl rfl rfl ?_ | refine Z.callZ_in tabOk 10 Tryz.f80 _ Tryz.func80 (by kernel_rfl) rfl rfl rfl ?_ | refine Z.callZ_in tabOk 58 Tryz.f103 _ Tryz.func103 (by kernel_rfl) rfl rfl rfl ?_
     | ((with_reducible apply ex_and); exact rfl)
     | fail)
    all_goals (try (conv => whnf))
    all_goals try first | (show Nat.ble _ _ = true; rfl) | (exfalso; rename_i hz; cases hz; done) | (exfalso; (try simp only [LN] at *) <;> omega)
    all_goals first
     | ((refine Z.rndK ((j + 1, [], 7, (if j = 0 then 0 else c0), (if j = 1 then 0 else c1), (if j = 2 then 0 else c2), (if j = 3 then 0 else c3), (if j = 4 then 0 else c4), (if j = 5 then 0 else c5), (if j = 6 then 0 else c6), (if j = 7 then 0 else c7))) (fun s => [0, 1, 2, 3, 4, 5, 6, 7, 8, 9, 10, 11, 12, 13, 14, 15]) rfl rfl rfl rfl ?_ ?_ ?_ ?_); (focus (repeat' (first | exact trivial | exact valF (by omega) | exact rfl | apply And.intro))); (focus (repeat' (first | exact trivial | (intro b hb; subst hj; cases hb; rfl) | exact Z.blk_sub rfl rfl (ren_map fun _ => rfl) | apply And.intro))); (focus ((refine ⟨by (try dsimp only); omega, .inr ⟨⟨rfl, by (try dsimp only); omega⟩, rfl⟩, ?_, ?_, ?_, ?_, ?_, ?_, ?_, ?_⟩ <;> (subst hj; first | rfl | (rw [H0]; rfl) | (rw [H1]; rfl) | (rw [H2]; rfl) | (rw [H3]; rfl) | (rw [H4]; rfl) | (rw [H5]; rfl) | (rw [H6]; rfl) | (rw [H7]; rfl) | exact hz9.symm)))); ((try dsimp only); omega))
     | fail)
 have hk9 : k = 8 := by omega
 subst hk9
 rcases HR with ⟨⟨rfl, h1⟩, hr⟩ | ⟨⟨rfl, h1⟩, rfl⟩
 ·rw [List.drop_eq_nil_of_le (by omega)] at hr
  subst hr
  clear H0 H1 H2 H3 H4 H5 H6 H7
  repeat' ((conv => whnf); first
   | ((with_reducible apply spB_cong); (focus (simp only [splQ, Int.reduceBEq, Int.reduceBNe]; rfl)))
   | with_reducible first | refine spB_yes (by decide) ?_ | refine spB_no (by decide) ?_
   | with_reducible refine wr_u8 (by omega) ?_
   | with_reducible first | refine Z.callZ_in tabOk 6 Tryz.f43 _ Tryz.func43 (by kernel_rfl) rfl rfl rfl ?_ | refine Z.callZ_in tabOk 10 Tryz.f80 _ Tryz.func80 (by kernel_rfl) rfl rfl rfl ?_ | refine Z.callZ_in tabOk 58 Tryz.f103 _ Tryz.func103 (by kernel_rfl) rfl rfl rfl ?_
   | ((with_reducible apply ex_and); exact rfl)
   | fail)
  all_goals (try (conv => whnf))
  all_goals try first | (show Nat.ble _ _ = true; rfl) | (exfalso; rename_i hz; cases hz; done) | (exfalso; (try simp only [LN] at *) <;> omega)
  all_goals (refine Z.loopZ_unroll tabOk 1 ?_)
  repeat' ((conv => whnf); first
   | with_reducible first | refine spB_t ?_
   | ((with_reducible apply spB_cong); (focus (simp only [splQ, Int.reduceBEq, Int.reduceBNe]; rfl)))
   | with_reducible first | refine spB_no (by decide) ?_
   | with_reducible first | refine Z.callZ_in tabOk 10 Tryz.f46 _ Tryz.func46 (by kernel_rfl) rfl rfl rfl ?_
   | ((with_reducible apply ex_and); exact rfl)
   | fail)
  all_goals (try (conv => whnf))
  all_goals try first | (show Nat.ble _ _ = true; rfl) | (exfalso; rename_i hz; cases hz; done) | (exfalso; (try simp only [LN] at *) <;> omega)
  all_goals first
   | ((first | (with_reducible apply Z.retF2)); (focus rfl); (repeat' (first | exact trivial | (with_reducible apply Z.frz_one) | (with_reducible apply Z.frz_agg) | (with_reducible apply Z.fq_int) | (with_reducible apply Z.fq_bool) | (exact Z.frz_nil) | exact rfl | apply And.intro)); (all_goals (try exact (fun _ => none))); all_goals (first | (simp; done)))
   | fail
 ·clear H0 H1 H2 H3 H4 H5 H6 H7
  repeat' ((conv => whnf); first
   | with_reducible first | refine spB_t ?_
   | ((with_reducible apply spB_cong); (focus (simp only [splQ, Int.reduceBEq, Int.reduceBNe]; rfl)))
   | with_reducible first | refine spB_no (by decide) ?_
   | with_reducible refine wr_u8 (by omega) ?_
   | with_reducible first | refine Z.callZ_in tabOk 6 Tryz.f43 _ Tryz.func43 (by kernel_rfl) rfl rfl rfl ?_ | refine Z.callZ_in tabOk 10 Tryz.f80 _ Tryz.func80 (by kernel_rfl) rfl rfl rfl ?_ | refine Z.callZ_in tabOk 58 Tryz.f103 _ Tryz.func103 (by kernel_rfl) rfl rfl rfl ?_
   | ((with_reducible apply ex_and); exact rfl)
   | fail)
  all_goals (try (conv => whnf))
  all_goals try first | (show Nat.ble _ _ = true; rfl) | (exfalso; rename_i hz; cases hz; done) | (exfalso; (try simp only [LN] at *) <;> omega)
  all_goals (refine Z.loopZ_unroll tabOk 1 ?_)
  repeat' ((conv => whnf); first
   | with_reducible first | refine spB_t ?_
   | ((with_reducible apply spB_cong); (focus (simp only [splQ, Int.reduceBEq, Int.reduceBNe]; rfl)))
   | with_reducible first | refine spB_no (by decide) ?_
   | with_reducible first | refine Z.callZ_in tabOk 10 Tryz.f46 _ Tryz.func46 (by kernel_rfl) rfl rfl rfl ?_
   | ((with_reducible apply ex_and); exact rfl)
   | fail)
  all_goals (try (conv => whnf))
  all_goals try first | (show Nat.ble _ _ = true; rfl) | (exfalso; rename_i hz; cases hz; done) | (exfalso; (try simp only [LN] at *) <;> omega)
  all_goals first
   | ((first | (with_reducible apply Z.retF2)); (focus rfl); (repeat' (first | exact trivial | (with_reducible apply Z.frz_one) | (with_reducible apply Z.frz_agg) | (with_reducible apply Z.fq_int) | (with_reducible apply Z.fq_bool) | (exact Z.frz_nil) | exact rfl | apply And.intro)); (all_goals (try exact (fun _ => none))); all_goals (first | (simp; done)))
   | fail
end Go.Proofs.YtopieffkpdlpbaaGreat
