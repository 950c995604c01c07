import Derived.Test.YtopieffkpdlpbaaGreatOwn8
set_option linter.unusedVariables false
set_option linter.unusedSimpArgs false
namespace Go.Proofs.YtopieffkpdlpbaaGreat
open Go Go.RowKit Wx
set_option maxHeartbeats 40000000
open Tab
theorem sdec_ok (t0 t1 t2 t3 t4 t5 p0 p1 p2 p3 p4 p5 p6 p7 m : Int) (R0 R3 : List Int) (N : Nat) (hB : isB (t0 :: t1 :: t2 :: t3 :: t4 :: t5 :: (R0 ++ (p0 :: p1 :: p2 :: p3 :: p4 :: p5 :: p6 :: p7 :: m :: R3)))) (hN : numR [t4, t5] = (N : Int)) (hR0 : R0.length = 18 * N) (hl : (R0 ++ (p0 :: p1 :: p2 :: p3 :: p4 :: p5 :: p6 :: p7 :: m :: R3)).length ≤ 1000000000) : Con Tryz.prog 17 [.one (.ro false 1 ((t0 :: t1 :: t2 :: t3 :: t4 :: t5 :: (R0 ++ (p0 :: p1 :: p2 :: p3 :: p4 :: p5 :: p6 :: p7 :: m :: R3))).map eB))] (fun rx rK rt => rx = .tup [.agg [.v (.int .i64 (decS (t0 :: t1 :: t2 :: t3 :: t4 :: t5 :: (R0 ++ (p0 :: p1 :: p2 :: p3 :: p4 :: p5 :: p6 :: p7 :: m :: R3)))).1.op), .v (.int .i64 (decS (t0 :: t1 :: t2 :: t3 :: t4 :: t5 :: (R0 ++ (p0 :: p1 :: p2 :: p3 :: p4 :: p5 :: p6 :: p7 :: m :: R3)))).1.ix), .v (.int .i64 (decS (t0 :: t1 :: t2 :: t3 :: t4 :: t5 :: (R0 ++ (p0 :: p1 :: p2 :: p3 :: p4 :: p5 :: p6 :: p7 :: m :: R3)))).1.w), .v (.bool (decS (t0 :: t1 :: t2 :: t3 :: t4 :: t5 :: (R0 ++ (p0 :: p1 :: p2 :: p3 :: p4 :: p5 :: p6 :: p7 :: m :: R3)))).1.en), .ro true 4 ((decS (t0 :: t1 :: t2 :: t3 :: t4 :: t5 :: (R0 ++ (p0 :: p1 :: p2 :: p3 :: p4 :: p5 :: p6 :: p7 :: m :: R3)))).1.rows.map Tab.eK), .v (.int .i64 (decS (t0 :: t1 :: t2 :: t3 :: t4 :: t5 :: (R0 ++ (p0 :: p1 :: p2 :: p3 :: p4 :: p5 :: p6 :: p7 :: m :: R3)))).1.o0), .v (.int .i64 (decS (t0 :: t1 :: t2 :: t3 :: t4 :: t5 :: (R0 ++ (p0 :: p1 :: p2 :: p3 :: p4 :: p5 :: p6 :: p7 :: m :: R3)))).1.o1), .v (.int .i64 (decS (t0 :: t1 :: t2 :: t3 :: t4 :: t5 :: (R0 ++ (p0 :: p1 :: p2 :: p3 :: p4 :: p5 :: p6 :: p7 :: m :: R3)))).1.o2), .v (.int .i64 (decS (t0 :: t1 :: t2 :: t3 :: t4 :: t5 :: (R0 ++ (p0 :: p1 :: p2 :: p3 :: p4 :: p5 :: p6 :: p7 :: m :: R3)))).1.o3), .v (.int .i64 (decS (t0 :: t1 :: t2 :: t3 :: t4 :: t5 :: (R0 ++ (p0 :: p1 :: p2 :: p3 :: p4 :: p5 :: p6 :: p7 :: m :: R3)))).1.o4), .v (.int .i64 (decS (t0 :: t1 :: t2 :: t3 :: t4 :: t5 :: (R0 ++ (p0 :: p1 :: p2 :: p3 :: p4 :: p5 :: p6 :: p7 :: m :: R3)))).1.o5), .v (.int .i64 (decS (t0 :: t1 :: t2 :: t3 :: t4 :: t5 :: (R0 ++ (p0 :: p1 :: p2 :: p3 :: p4 :: p5 :: p6 :: p7 :: m :: R3)))).1.o6), .v (.int .i64 (decS (t0 :: t1 :: t2 :: t3 :: t4 :: t5 :: (R0 ++ (p0 :: p1 :: p2 :: p3 :: p4 :: p5 :: p6 :: p7 :: m :: R3)))).1.o7), .ro true 3 ((decS (t0 :: t1 :: t2 :: t3 :: t4 :: t5 :: (R0 ++ (p0 :: p1 :: p2 :: p3 :: p4 :: p5 :: p6 :: p7 :: m :: R3)))).1.txs.map eN)], .one (.v (.int .i64 (decS (t0 :: t1 :: t2 :: t3 :: t4 :: t5 :: (R0 ++ (p0 :: p1 :: p2 :: p3 :: p4 :: p5 :: p6 :: p7 :: m :: R3)))).2))] ∧ rK = [] ∧ rt = 0) := by
 refine Z.con_ofF tabOk 89 Tryz.f17 _ Tryz.func17 (by kernel_rfl) rfl rfl rfl rfl ?_
 obtain ⟨DS, hDS⟩ : ∃ DS, DS = decS (t0 :: t1 :: t2 :: t3 :: t4 :: t5 :: (R0 ++ (p0 :: p1 :: p2 :: p3 :: p4 :: p5 :: p6 :: p7 :: m :: R3))) := ⟨_, rfl⟩
 rw [← hDS]
 have hBL : isB (p0 :: p1 :: p2 :: p3 :: p4 :: p5 :: p6 :: p7 :: m :: R3) := fun z hz => hB z (by simp [List.mem_append, hz])
 have hBR0 : isB R0 := fun z hz => hB z (by simp [hz])
 have hb0 := hB t0 (by simp)
 have hb1 := hB t1 (by simp)
 have hb2 := hB t2 (by simp)
 have hb3 := hB t3 (by simp)
 have hb4 := hB t4 (by simp)
 have hb5 := hB t5 (by simp)
 rw [numR2] at hN
 have cp := putO16_con [] (t4 * 256 + t5) (by simp) ⟨by omega, by omega⟩
 have ccp := copied_con (t0 :: t1 :: t2 :: t3 :: t4 :: t5 :: (R0 ++ (p0 :: p1 :: p2 :: p3 :: p4 :: p5 :: p6 :: p7 :: m :: R3))) (by simp only [List.length_cons]; omega)
 have ccr := copied_con R0 (by rw [List.length_append] at hl; omega)
 have hraw : List.take (18 * N - 0) (List.drop 0 ((R0 ++ (p0 :: p1 :: p2 :: p3 :: p4 :: p5 :: p6 :: p7 :: m :: R3)).map eB)) = R0.map eB := by rw [Nat.sub_zero, List.drop_zero, List.map_append]; exact List.take_left' (by rw [List.length_map]; exact hR0)
 have hrest : List.take ((List.map eB (R0 ++ (p0 :: p1 :: p2 :: p3 :: p4 :: p5 :: p6 :: p7 :: m :: R3))).length - 18 * N) (List.drop (18 * N) (List.map eB (R0 ++ (p0 :: p1 :: p2 :: p3 :: p4 :: p5 :: p6 :: p7 :: m :: R3)))) = ((p0 :: p1 :: p2 :: p3 :: p4 :: p5 :: p6 :: p7 :: m :: R3)).map eB := by rw [List.map_append, List.drop_left' (by rw [List.length_map]; exact hR0)]; exact List.take_of_length_le (by simp only [List.length_append, List.length_map]; omega)
 have hRL : (R0 ++ (p0 :: p1 :: p2 :: p3 :: p4 :: p5 :: p6 :: p7 :: m :: R3)).length = 18 * N + ((p0 :: p1 :: p2 :: p3 :: p4 :: p5 :: p6 :: p7 :: m :: R3)).length := by rw [List.length_append, hR0]
 have hbe : be 2 (t4 * 256 + t5) = [t4, t5] := by rw [← numR2]; exact be_numR rfl (by intro z hz; simp at hz; rcases hz with rfl | rfl <;> assumption)
 repeat' ((conv => whnf); first
  | with_reducible first | refine spB_t ?_
  | ((with_reducible apply spB_cong); (focus (simp only [splQ, Int.reduceBEq, Int.reduceBNe]; rfl)))
  | with_reducible first | refine spB_yes (by decide) ?_ | refine spB_no (by decide) ?_
  | (with_reducible refine spB_dec ?_ ?_ <;> intro _ <;> (try (exfalso; (first | omega | (simp only [LN] at *; omega)))))
  | ((with_reducible refine Z.slN_lo 1 ?_ ?_ ?_); (focus rfl); (focus (exact Nat.le_add_left _ _)); (rw [tkm1]))
  | ((with_reducible refine Z.slN_lo 2 ?_ ?_ ?_); (focus rfl); (focus (exact Nat.le_add_left _ _)); (rw [tkm2]))
  | ((refine sl3N_mk 0 1 1 rfl rfl rfl ?_ ?_ ?_ ?_ ?_); (iterate 4 (focus (first | exact .inl rfl | ((try simp only [LN] at *) <;> omega)))))
  | (refine loopZ_unr1 tabOk rfl ?_)
  | ((with_reducible refine wr_shl8 ?_ ?_); (focus omega))
  | ((with_reducible refine wr_or0 ?_ ?_); (focus omega))
  | with_reducible first | refine rowN_mk _ rfl ?_
  | ((refine sl3N_mk 0 2 2 rfl rfl rfl ?_ ?_ ?_ ?_ ?_); (iterate 4 (focus (first | exact .inl rfl | ((try simp only [LN] at *) <;> omega)))))
  | (refine loopZ_unr2 tabOk rfl ?_)
  | ((with_reducible refine apdE_n ?_); (with_reducible refine apdN.mk ?_ ?_ ?_ ?_ ?_ ?_); (focus (first | (simp; done))); (focus (first | exact one_map2 (fun _ => rfl))); (focus (first | exact Nat.le_of_ble_eq_true rfl)); (iterate 2 (focus (first | ((try simp only [LN] at *) <;> omega)))))
  | (refine wr_n16 hb4 hb5 ?_)
  | ((refine sl3N_mk 0 (18 * N) (18 * N) rfl (rawq hN) (rawq hN) ?_ ?_ ?_ ?_ ?_); (iterate 4 (focus (first | exact .inl rfl | ((try simp only [LN] at *) <;> omega)))))
  | ((with_reducible refine Z.slN_lo (18 * N) ?_ ?_ ?_); (focus (exact rawq hN)); (focus ((try simp only [LN] at *) <;> omega)); (rw [hrest]))
  | ((with_reducible apply ixN_lit); (focus rfl); (focus rfl))
  | ((with_reducible refine eqN_mk2 ?_ ?_); (focus rfl))
  | with_reducible refine wr_i64 (by first | omega | (simp only [LN] at *; omega)) ?_
  | with_reducible refine wr_u64 (by omega) ?_
  | with_reducible first | refine wr_mk _ rfl ?_
  | with_reducible first | refine Z.callZ_in tabOk 18 Tryz.f104 _ Tryz.func104 (by kernel_rfl) rfl rfl rfl ?_ | refine Z.callZ_in tabOk 5 Tryz.f105 _ Tryz.func105 (by kernel_rfl) rfl rfl rfl ?_ | refine Z.callZ_in tabOk 8 Tryz.f42 _ Tryz.func42 (by kernel_rfl) rfl rfl rfl ?_ | refine Z.callZ_in tabOk 6 Tryz.f43 _ Tryz.func43 (by kernel_rfl) rfl rfl rfl ?_ | refine Z.callZ_in tabOk 14 Tryz.f44 _ Tryz.func44 (by kernel_rfl) rfl rfl rfl ?_ | refine Z.callZ_in tabOk 10 Tryz.f80 _ Tryz.func80 (by kernel_rfl) rfl rfl rfl ?_ | refine Z.callZ_in tabOk 58 Tryz.f103 _ Tryz.func103 (by kernel_rfl) rfl rfl rfl ?_ | refine Z.callZ_in tabOk 6 Tryz.f81 _ Tryz.func81 (by kernel_rfl) rfl rfl rfl ?_ | refine Z.callZ_in tabOk 10 Tryz.f82 _ Tryz.func82 (by kernel_rfl) rfl rfl rfl ?_
  | ((first | (with_reducible refine Z.callZ_mk ?_ (cp) ?_)); (focus ((repeat' (first | exact trivial | exact rfl | exact Z.low_nil2 | apply And.intro)); done)))
  | ((first | (with_reducible refine Z.callZ_mk ?_ (ccp) ?_)); (focus ((repeat' (first | exact trivial | exact rfl | apply And.intro)); done)))
  | ((first | (with_reducible refine Z.callZ_mk ?_ (ccr) ?_)); (focus ((repeat' (first | exact trivial | exact congrArg (Ce.ro false 1) hraw.symm | apply And.intro)); done)))
  | ((with_reducible apply ex_and); exact rfl)
  | with_reducible first | refine Z.drawZ_rule tabOk mixOk ?_ | refine Z.apZ_mk (by kernel_rfl) ?_
  | fail)
 all_goals (try (conv => whnf))
 all_goals try first | (show Nat.ble _ _ = true; rfl) | (exfalso; rename_i hz; cases hz; done) | (exfalso; (try simp only [LN] at *) <;> omega)
 refine Z.loopK tabOk (fun zq : Nat × List Int × Int × Int × Int × Int × Int × Int × Int × Int × Int => [(29, .val (.int .i64 (zq.1 : Int))), (7, .c (.osl 15 0 (t4 :: t5 :: R0).length none))]) (fun zq : Nat × List Int × Int × Int × Int × Int × Int × Int × Int × Int × Int => ([(0, some (Z.Ob.b ⟨[[.v (.int .i64 0), .v (.int .i64 0), .v (.int .i64 0), .v (.bool false), .v (.slice none 0 0), .v (.int .i64 0), .v (.int .i64 0), .v (.int .i64 0), .v (.int .i64 0), .v (.int .i64 0), .v (.int .i64 0), .v (.int .i64 0), .v (.int .i64 0), .v (.slice none 0 0)]], 14, 35, true⟩)), (1, some (Z.Ob.b ⟨[[.ro true 1 (zq.2.1.map eB), .v (.int .i64 zq.2.2.1)]], 2, 130, true⟩)), (8, some (Z.Ob.b ⟨[[.v (.int .i64 t0), .v (.int .i64 t1), .v (.int .i64 t2), .v (.bool (t3 == 1)), .v (.slice none 0 0), .v (.int .i64 zq.2.2.2.1), .v (.int .i64 zq.2.2.2.2.1), .v (.int .i64 zq.2.2.2.2.2.1), .v (.int .i64 zq.2.2.2.2.2.2.1), .v (.int .i64 zq.2.2.2.2.2.2.2.1), .v (.int .i64 zq.2.2.2.2.2.2.2.2.1), .v (.int .i64 zq.2.2.2.2.2.2.2.2.2.1), .v (.int .i64 zq.2.2.2.2.2.2.2.2.2.2), .v (.slice none 0 0)]], 14, 35, true⟩)), (15, some (Z.Ob.b ⟨(t4 :: t5 :: R0).map cB, 1, 5, false⟩))] : Z.Kr)) (fun zq => zq.1 ≤ 8 ∧ (((zq.2.2.1 = 0 ∧ zq.1 ≤ (p0 :: p1 :: p2 :: p3 :: p4 :: p5 :: p6 :: p7 :: m :: R3).length) ∧ zq.2.1 = (p0 :: p1 :: p2 :: p3 :: p4 :: p5 :: p6 :: p7 :: m :: R3).drop zq.1) ∨ ((zq.2.2.1 = 7 ∧ (p0 :: p1 :: p2 :: p3 :: p4 :: p5 :: p6 :: p7 :: m :: R3).length < zq.1) ∧ zq.2.1 = [])) ∧ zq.2.2.2.1 = (if 0 < zq.1 then (p0 :: p1 :: p2 :: p3 :: p4 :: p5 :: p6 :: p7 :: m :: R3).getD 0 0 else 0) ∧ zq.2.2.2.2.1 = (if 1 < zq.1 then (p0 :: p1 :: p2 :: p3 :: p4 :: p5 :: p6 :: p7 :: m :: R3).getD 1 0 else 0) ∧ zq.2.2.2.2.2.1 = (if 2 < zq.1 then (p0 :: p1 :: p2 :: p3 :: p4 :: p5 :: p6 :: p7 :: m :: R3).getD 2 0 else 0) ∧ zq.2.2.2.2.2.2.1 = (if 3 < zq.1 then (p0 :: p1 :: p2 :: p3 :: p4 :: p5 :: p6 :: p7 :: m :: R3).getD 3 0 else 0) ∧ zq.2.2.2.2.2.2.2.1 = (if 4 < zq.1 then (p0 :: p1 :: p2 :: p3 :: p4 :: p5 :: p6 :: p7 :: m :: R3).getD 4 0 else 0) ∧ zq.2.2.2.2.2.2.2.2.1 = (if 5 < zq.1 then (p0 :: p1 :: p2 :: p3 :: p4 :: p5 :: p6 :: p7 :: m :: R3).getD 5 0 else 0) ∧ zq.2.2.2.2.2.2.2.2.2.1 = (if 6 < zq.1 then (p0 :: p1 :: p2 :: p3 :: p4 :: p5 :: p6 :: p7 :: m :: R3).getD 6 0 else 0) ∧ zq.2.2.2.2.2.2.2.2.2.2 = (if 7 < zq.1 then (p0 :: p1 :: p2 :: p3 :: p4 :: p5 :: p6 :: p7 :: m :: R3).getD 7 0 else 0)) (fun zq => 8 - zq.1) (0, (p0 :: p1 :: p2 :: p3 :: p4 :: p5 :: p6 :: p7 :: m :: R3), 0, 0, 0, 0, 0, 0, 0, 0, 0) 16 [(2, _), (4, _), (5, _), (6, _)] ⟨rfl, rfl, rfl, rfl, trivial⟩ [] trivial ?_ ?_ rfl rfl ⟨Nat.zero_le _, .inl ⟨⟨rfl, Nat.zero_le _⟩, rfl⟩, rfl, rfl, rfl, rfl, rfl, rfl, rfl, rfl⟩ ?_
 ·repeat' (first | exact trivial | apply And.intro | exact ⟨_, rfl, Z.Imp.refl _⟩ | exact ⟨_, rfl, oslE (by simp only [List.length_nil, List.length_map, List.length_cons]; omega)⟩)
 ·repeat' (first | exact trivial | exact (fun b hb => ⟨b, hb, Z.ImpO.refl b⟩) | (intro b hb; cases hb; refine ⟨_, rfl, ⟨rfl, rfl, rfl⟩, Z.imp_eq ?_⟩; first | rfl | exact Z.blk_sub rfl (tkS (rn2 hbe) ce_cB rfl) rfl | exact tkS (rn2 hbe) ce_cB rfl; done) | apply And.intro)
 rintro ⟨k, r, rf, c0, c1, c2, c3, c4, c5, c6, c7⟩ HINV
 (try dsimp only at HINV); (try dsimp only)
 obtain ⟨HI, HR, H0, H1, H2, H3, H4, H5, H6, H7⟩ := HINV
 by_cases hk8 : k < 8
 ·obtain ⟨j, hj⟩ : ∃ j, j = k := ⟨k, rfl⟩
  have hk9 : k = 0 ∨ k = 1 ∨ k = 2 ∨ k = 3 ∨ k = 4 ∨ k = 5 ∨ k = 6 ∨ k = 7 := by omega
  rw [← hj] at HR
  clear hk8 ccp cp ccr hraw hrest
  rcases hk9 with rfl | rfl | rfl | rfl | rfl | rfl | rfl | rfl
  all_goals (
   rcases HR with ⟨⟨rfl, h1⟩, hr⟩ | ⟨⟨rfl, h1⟩, rfl⟩
   ·by_cases h2 : j < (p0 :: p1 :: p2 :: p3 :: p4 :: p5 :: p6 :: p7 :: m :: R3).length
    ·rw [drop_getD h2] at hr
     subst hr
     have hbp := hBL _ (getD_mem h2)
     obtain ⟨p, hp⟩ : ∃ p, p = (p0 :: p1 :: p2 :: p3 :: p4 :: p5 :: p6 :: p7 :: m :: R3).getD j 0 := ⟨_, rfl⟩
     rw [← hp] at hbp ⊢
     repeat' ((conv => whnf); first
      | with_reducible first | refine spB_t ?_
      | ((with_reducible apply spB_cong); (focus (simp only [splQ, Int.reduceBEq, Int.reduceBNe]; rfl)))
      | with_reducible first | refine spB_yes (by decide) ?_ | refine spB_no (by decide) ?_
      | (with_reducible refine spB_dec ?_ ?_ <;> intro _ <;> (try (exfalso; (first | (simp only [LN] at *; omega)))))
      | ((with_reducible refine Z.slN_lo 1 ?_ ?_ ?_); (focus rfl); (focus (exact Nat.le_add_left _ _)); (rw [tkm1]))
      | ((refine sl3N_mk 0 1 1 rfl rfl rfl ?_ ?_ ?_ ?_ ?_); (iterate 4 (focus (first | exact .inl rfl | ((try simp only [LN] at *) <;> omega)))))
      | (refine loopZ_unr1 tabOk rfl ?_)
      | ((with_reducible refine wr_shl8 ?_ ?_); (focus omega))
      | ((with_reducible refine wr_or0 ?_ ?_); (focus omega))
      | with_reducible first | refine rowN_mk _ rfl ?_
      | ((with_reducible apply ixN_lit); (focus rfl); (focus rfl))
      | ((with_reducible refine eqN_mk2 ?_ ?_); (focus rfl))
      | with_reducible refine wr_i64 (by first | omega | (simp only [LN] at *; omega)) ?_
      | with_reducible refine wr_u64 (by omega) ?_
      | with_reducible first | refine Z.callZ_in tabOk 18 Tryz.f104 _ Tryz.func104 (by kernel_rfl) rfl rfl rfl ?_ | refine Z.callZ_in tabOk 6 Tryz.f43 _ Tryz.func43 (by kernel_rfl) rfl rfl rfl ?_ | refine Z.callZ_in tabOk 10 Tryz.f80 _ Tryz.func80 (by kernel_rfl) rfl rfl rfl ?_ | refine Z.callZ_in tabOk 58 Tryz.f103 _ Tryz.func103 (by kernel_rfl) rfl rfl rfl ?_
      | ((with_reducible apply ex_and); exact rfl)
      | with_reducible first | refine Z.drawZ_rule tabOk mixOk ?_ | refine Z.apZ_mk (by kernel_rfl) ?_
      | fail)
     all_goals (try (conv => whnf))
     all_goals try first | (show Nat.ble _ _ = true; rfl) | (exfalso; rename_i hz; cases hz; done) | (exfalso; (try simp only [LN] at *) <;> omega)
     all_goals first
      | ((refine Z.rnd_bi 1 [[.ro true 1 (((p0 :: p1 :: p2 :: p3 :: p4 :: p5 :: p6 :: p7 :: m :: R3).drop (j + 1)).map eB), _]] rfl rfl ⟨⟨Z.Imp.of_eq (congrArg (Ce.ro true 1) (by first | rfl | (simp; done) | exact List.take_of_length_le (by simp))), Z.Imp.refl _, trivial⟩, trivial⟩ ?_); ((refine Z.rndK ((j + 1, ((p0 :: p1 :: p2 :: p3 :: p4 :: p5 :: p6 :: p7 :: m :: R3).drop (j + 1)), 0, (if j = 0 then p else c0), (if j = 1 then p else c1), (if j = 2 then p else c2), (if j = 3 then p else c3), (if j = 4 then p else c4), (if j = 5 then p else c5), (if j = 6 then p else c6), (if j = 7 then p else c7))) (fun s => [0, 1, 2, 3, 4, 5, 6, 7, 8, 9, 10, 11, 12, 13, 14, 15]) rfl rfl rfl rfl ?_ ?_ ?_ ?_); (focus (repeat' (first | exact trivial | exact valF (by omega) | exact rfl | apply And.intro))); (focus (repeat' (first | exact trivial | (intro b hb; subst hj; cases hb; rfl) | exact Z.blk_sub rfl rfl (ren_map fun _ => rfl) | apply And.intro))); (focus ((refine ⟨by (try dsimp only); omega, .inl ⟨⟨rfl, h2⟩, rfl⟩, ?_, ?_, ?_, ?_, ?_, ?_, ?_, ?_⟩ <;> (subst hj; first | rfl | (rw [H0]; rfl) | (rw [H1]; rfl) | (rw [H2]; rfl) | (rw [H3]; rfl) | (rw [H4]; rfl) | (rw [H5]; rfl) | (rw [H6]; rfl) | (rw [H7]; rfl) | exact hp)))); ((try dsimp only); omega)))
      | fail
    ·exact absurd (show j < (p0 :: p1 :: p2 :: p3 :: p4 :: p5 :: p6 :: p7 :: m :: R3).length by simp only [List.length_cons]; omega) h2
   ·simp only [List.length_cons] at h1; omega)
 have hk9 : k = 8 := by omega
 subst hk9
 rcases HR with ⟨⟨rfl, h1⟩, hr⟩ | ⟨⟨rfl, h1⟩, _⟩
 rotate_left
 ·simp only [List.length_cons] at h1; omega
 have hr : r = m :: R3 := hr
 subst hr
 have H0 : c0 = p0 := H0
 subst H0
 have H1 : c1 = p1 := H1
 subst H1
 have H2 : c2 = p2 := H2
 subst H2
 have H3 : c3 = p3 := H3
 subst H3
 have H4 : c4 = p4 := H4
 subst H4
 have H5 : c5 = p5 := H5
 subst H5
 have H6 : c6 = p6 := H6
 subst H6
 have H7 : c7 = p7 := H7
 subst H7
 have hpm := hBL m (by simp)
 have hB3 : isB R3 := fun z hz => hBL z (by simp [hz])
 have hl3 : R3.length ≤ 1000000000 := by simp only [List.length_append, List.length_cons] at hl; omega
 clear HI h1 hk8 hBL hraw hrest hRL
 repeat' ((conv => whnf); first
  | with_reducible first | refine spB_t ?_
  | ((with_reducible apply spB_cong); (focus (simp only [splQ, Int.reduceBEq, Int.reduceBNe]; rfl)))
  | with_reducible first | refine spB_no (by decide) ?_
  | (with_reducible refine spB_dec ?_ ?_ <;> intro _ <;> (try (exfalso; (first | (simp only [LN] at *; omega)))))
  | ((with_reducible refine Z.slN_lo 1 ?_ ?_ ?_); (focus rfl); (focus (exact Nat.le_add_left _ _)); (rw [tkm1]))
  | ((refine sl3N_mk 0 1 1 rfl rfl rfl ?_ ?_ ?_ ?_ ?_); (iterate 4 (focus (first | exact .inl rfl | ((try simp only [LN] at *) <;> omega)))))
  | (refine loopZ_unr1 tabOk rfl ?_)
  | ((with_reducible refine wr_shl8 ?_ ?_); (focus omega))
  | ((with_reducible refine wr_or0 ?_ ?_); (focus omega))
  | with_reducible first | refine rowN_mk _ rfl ?_
  | ((with_reducible apply ixN_lit); (focus rfl); (focus rfl))
  | ((with_reducible refine eqN_mk2 ?_ ?_); (focus rfl))
  | with_reducible refine wr_i64 (by first | omega | (simp only [LN] at *; omega)) ?_
  | with_reducible refine wr_u64 (by omega) ?_
  | with_reducible first | refine Z.callZ_in tabOk 18 Tryz.f104 _ Tryz.func104 (by kernel_rfl) rfl rfl rfl ?_ | refine Z.callZ_in tabOk 6 Tryz.f43 _ Tryz.func43 (by kernel_rfl) rfl rfl rfl ?_ | refine Z.callZ_in tabOk 10 Tryz.f80 _ Tryz.func80 (by kernel_rfl) rfl rfl rfl ?_ | refine Z.callZ_in tabOk 58 Tryz.f103 _ Tryz.func103 (by kernel_rfl) rfl rfl rfl ?_
  | ((with_reducible apply ex_and); exact rfl)
  | with_reducible first | refine Z.drawZ_rule tabOk mixOk ?_ | refine Z.apZ_mk (by kernel_rfl) ?_
  | fail)
 all_goals (try (conv => whnf))
 all_goals try first | (show Nat.ble _ _ = true; rfl) | (exfalso; rename_i hz; cases hz; done) | (exfalso; (try simp only [LN] at *) <;> omega)
 obtain ⟨n, hn⟩ : ∃ n : Nat, m = (n : Int) := ⟨m.toNat, by omega⟩
 subst hn
 have hn9 : n ≤ 255 := by omega
 refine Z.loopK tabOk (fun zq : Nat × List Int × Int × List Nm => [(41, .val (.int .u8 (zq.1 : Int)))]) (fun zq : Nat × List Int × Int × List Nm => ([(0, some (Z.Ob.b ⟨[[.v (.int .i64 0), .v (.int .i64 0), .v (.int .i64 0), .v (.bool false), .v (.slice none 0 0), .v (.int .i64 0), .v (.int .i64 0), .v (.int .i64 0), .v (.int .i64 0), .v (.int .i64 0), .v (.int .i64 0), .v (.int .i64 0), .v (.int .i64 0), .v (.slice none 0 0)]], 14, 35, true⟩)), (1, some (Z.Ob.b ⟨[[.ro true 1 (zq.2.1.map eB), .v (.int .i64 zq.2.2.1)]], 2, 130, true⟩)), (8, some (Z.Ob.b ⟨[[.v (.int .i64 t0), .v (.int .i64 t1), .v (.int .i64 t2), .v (.bool (t3 == 1)), .v (.slice none 0 0), .v (.int .i64 c0), .v (.int .i64 c1), .v (.int .i64 c2), .v (.int .i64 c3), .v (.int .i64 c4), .v (.int .i64 c5), .v (.int .i64 c6), .v (.int .i64 c7), .gsl 16 (zq.2.2.2.map cN)]], 14, 35, true⟩)), (15, some (Z.Ob.b ⟨(t4 :: t5 :: R0).map cB, 1, 5, false⟩)), (16, (gB 3 74 (zq.2.2.2.map cN)).map Z.Ob.b)] : Z.Kr)) (fun zq => zq.1 ≤ n ∧ isB zq.2.1 ∧ zq.2.1.length ≤ 1000000000 ∧ zq.2.2.2.length = zq.1 ∧ ((zq.2.2.1 = 0 ∧ decN n R3 = preN zq.2.2.2 (decN (n - zq.1) zq.2.1)) ∨ (zq.2.2.1 = 7 ∧ decN n R3 = ([], 7, [])))) (fun zq => n - zq.1) (0, R3, 0, []) 18 [(2, _), (4, _), (5, _), (6, _), (7, _), (40, _)] ⟨rfl, rfl, rfl, rfl, rfl, rfl, trivial⟩ [] trivial ?_ ?_ rfl rfl ⟨Nat.zero_le _, hB3, hl3, rfl, .inl ⟨rfl, preN_nil n R3⟩⟩ ?_
 ·repeat' (first | exact trivial | apply And.intro | exact ⟨_, rfl, Z.Imp.refl _⟩)
 ·repeat' (first | exact trivial | (intro b hb; cases hb; done) | exact (fun b hb => ⟨b, hb, Z.ImpO.refl b⟩) | (intro b hb; cases hb; refine ⟨_, rfl, ⟨rfl, rfl, rfl⟩, ?_⟩; (repeat' (first | exact trivial | apply And.intro | exact Z.Imp.refl _ | exact Z.Imp.nilg _)); done) | apply And.intro)
 rintro ⟨k, r, rf, acc⟩ HINV
 (try dsimp only at HINV); (try dsimp only)
 obtain ⟨HI, HBr, HLr, HC, HD⟩ := HINV
 by_cases hk : k < n
 ·obtain ⟨q, hq⟩ : ∃ q, n - k = q + 1 := ⟨n - k - 1, by omega⟩
  have hq2 : n - (k + 1) = q := by omega
  rw [hq] at HD
  rcases HD with ⟨rfl, HD⟩ | ⟨rfl, HD⟩
  rotate_left
  ·skip
   repeat' ((conv => whnf); first
    | with_reducible first | refine spB_t ?_
    | ((with_reducible apply spB_cong); (focus (simp only [splQ, Int.reduceBEq, Int.reduceBNe]; rfl)))
    | with_reducible first | refine spB_no (by decide) ?_
    | (with_reducible refine spB_dec ?_ ?_ <;> intro _ <;> (try (exfalso; (first | omega))))
    | ((with_reducible refine posE_pos ?_ ?_); (focus ((try simp only [LN] at *) <;> omega)))
    | ((with_reducible refine apdN.mk ?_ ?_ ?_ ?_ ?_ ?_); (focus (first | rfl)); (focus (first | exact one_all (by rfl))); (focus ((try simp only [LN] at *) <;> omega)); (focus ((try simp only [LN] at *) <;> omega)); (focus ((try simp only [LN] at *) <;> omega)))
    | with_reducible refine wr_i64 (by first | omega | (simp only [LN] at *; omega)) ?_
    | with_reducible refine wr_u8 (by omega) ?_
    | with_reducible refine wr_u32 (by omega) ?_
    | with_reducible first | refine Z.callZ_in tabOk 6 Tryz.f43 _ Tryz.func43 (by kernel_rfl) rfl rfl rfl ?_ | refine Z.callZ_in tabOk 6 Tryz.f45 _ Tryz.func45 (by kernel_rfl) rfl rfl rfl ?_ | refine Z.callZ_in tabOk 10 Tryz.f80 _ Tryz.func80 (by kernel_rfl) rfl rfl rfl ?_ | refine Z.callZ_in tabOk 58 Tryz.f103 _ Tryz.func103 (by kernel_rfl) rfl rfl rfl ?_
    | ((with_reducible refine eqN_mk2 ?_ ?_); (focus (exact Z.kb_some rfl)))
    | ((with_reducible apply ex_and); exact rfl)
    | with_reducible first | refine Z.drawZ_rule tabOk mixOk ?_ | refine Z.apZ_mk (by kernel_rfl) ?_
    | ((with_reducible refine Z.ConZ.red ?_); (try subst hlb); (apply Z.conZ_all); (focus (repeat (first | exact Z.FK.nil | (apply Z.FK.keep; exact rfl)))); (focus rfl); (focus rfl); (focus (repeat (first | exact trivial | (refine ⟨(fun o ho => (by first | (cases ho; rfl) | (cases ho; exact Z.inL_map fun _ => rfl) | (cases ho; exact Z.inL_mapr fun _ => rfl) | exact Z.inL_gB ho fun _ => rfl)), ?_⟩)))))
    | ((refine ⟨rfl, ?_, rfl⟩); (focus (repeat (first | exact Z.DK.nil | apply Z.DK.cons))))
    | fail)
   all_goals (try (conv => whnf))
   all_goals try first | (show Nat.ble _ _ = true; rfl) | (exfalso; rename_i hz; cases hz; done) | (exfalso; (try simp only [LN] at *) <;> omega)
   all_goals first
    | ((refine Z.rndK ((k + 1, r, 7, acc ++ [(⟨0, 0, 0⟩ : Nm)])) (fun s => [0, 1, 2, 3, 4, 5, 6, 7, 8, 9, 10, 11, 12, 13, 14, 15, s.idIn 8 13, 17]) rfl rfl rfl rfl ?_ ?_ ?_ ?_); (focus (repeat' (first | exact trivial | exact rfl | apply And.intro))); (focus (repeat' (first | exact trivial | (intro b hb; cases hb; rfl) | (intro b hb; cases hb; rw [List.map_append]; rfl) | exact Z.blk_sub rfl rfl (ren_map fun _ => rfl) | exact Z.gB_sub' rfl (by first | rfl | (rw [List.map_append]; rfl) | simp only [List.map_append, List.map_cons, List.map_nil]) (ren_map fun _ => rfl) | apply And.intro))); (focus (exact ⟨by (try dsimp only); omega, HBr, HLr, by (try dsimp only); rw [List.length_append, HC]; rfl, .inr ⟨rfl, HD⟩⟩)); ((try dsimp only); omega))
    | fail
  rcases r with _ | ⟨s, r⟩
  ·skip
   repeat' ((conv => whnf); first
    | with_reducible first | refine spB_t ?_
    | ((with_reducible apply spB_cong); (focus (simp only [splQ, Int.reduceBEq, Int.reduceBNe]; rfl)))
    | with_reducible first | refine spB_yes (by decide) ?_ | refine spB_no (by decide) ?_
    | (with_reducible refine spB_dec ?_ ?_ <;> intro _ <;> (try (exfalso; (first | omega))))
    | ((with_reducible refine posE_pos ?_ ?_); (focus ((try simp only [LN] at *) <;> omega)))
    | ((with_reducible refine apdN.mk ?_ ?_ ?_ ?_ ?_ ?_); (focus (first | rfl)); (focus (first | exact one_all (by rfl))); (focus ((try simp only [LN] at *) <;> omega)); (focus ((try simp only [LN] at *) <;> omega)); (focus ((try simp only [LN] at *) <;> omega)))
    | with_reducible refine wr_i64 (by first | omega | (simp only [LN] at *; omega)) ?_
    | with_reducible refine wr_u8 (by omega) ?_
    | with_reducible refine wr_u32 (by omega) ?_
    | with_reducible first | refine Z.callZ_in tabOk 6 Tryz.f43 _ Tryz.func43 (by kernel_rfl) rfl rfl rfl ?_ | refine Z.callZ_in tabOk 6 Tryz.f45 _ Tryz.func45 (by kernel_rfl) rfl rfl rfl ?_ | refine Z.callZ_in tabOk 10 Tryz.f80 _ Tryz.func80 (by kernel_rfl) rfl rfl rfl ?_ | refine Z.callZ_in tabOk 58 Tryz.f103 _ Tryz.func103 (by kernel_rfl) rfl rfl rfl ?_
    | ((with_reducible refine eqN_mk2 ?_ ?_); (focus (exact Z.kb_some rfl)))
    | ((with_reducible apply ex_and); exact rfl)
    | with_reducible first | refine Z.drawZ_rule tabOk mixOk ?_ | refine Z.apZ_mk (by kernel_rfl) ?_
    | ((with_reducible refine Z.ConZ.red ?_); (try subst hlb); (apply Z.conZ_all); (focus (repeat (first | exact Z.FK.nil | (apply Z.FK.keep; exact rfl)))); (focus rfl); (focus rfl); (focus (repeat (first | exact trivial | (refine ⟨(fun o ho => (by first | (cases ho; rfl) | (cases ho; exact Z.inL_map fun _ => rfl) | (cases ho; exact Z.inL_mapr fun _ => rfl) | exact Z.inL_gB ho fun _ => rfl)), ?_⟩)))))
    | ((refine ⟨rfl, ?_, rfl⟩); (focus (repeat (first | exact Z.DK.nil | apply Z.DK.cons))))
    | fail)
   all_goals (try (conv => whnf))
   all_goals try first | (show Nat.ble _ _ = true; rfl) | (exfalso; rename_i hz; cases hz; done) | (exfalso; (try simp only [LN] at *) <;> omega)
   all_goals first
    | ((refine Z.rndK ((k + 1, ([] : List Int), 7, acc ++ [(⟨0, 0, 0⟩ : Nm)])) (fun s => [0, 1, 2, 3, 4, 5, 6, 7, 8, 9, 10, 11, 12, 13, 14, 15, s.idIn 8 13, 17]) rfl rfl rfl rfl ?_ ?_ ?_ ?_); (focus (repeat' (first | exact trivial | exact rfl | apply And.intro))); (focus (repeat' (first | exact trivial | (intro b hb; cases hb; rfl) | (intro b hb; cases hb; rw [List.map_append]; rfl) | exact Z.blk_sub rfl rfl (ren_map fun _ => rfl) | exact Z.gB_sub' rfl (by first | rfl | (rw [List.map_append]; rfl) | simp only [List.map_append, List.map_cons, List.map_nil]) (ren_map fun _ => rfl) | apply And.intro))); (focus (exact ⟨by (try dsimp only); omega, by (try dsimp only); first | (intro z hz; cases hz; done) | exact hBq, by (try dsimp only); (try simp only [List.length_cons, List.length_nil] at *); omega, by (try dsimp only); rw [List.length_append, HC]; rfl, .inr ⟨rfl, by (try dsimp only); rw [HD]; exact preN_bad (by simp only [List.length_cons, List.length_nil]; omega)⟩⟩)); ((try dsimp only); omega))
    | fail
  have hs := HBr s (by simp)
  by_cases h4 : r.length < 4
  ·have hBq : isB r := fun z hz => HBr z (by simp [hz])
   repeat' ((conv => whnf); first
    | with_reducible first | refine spB_t ?_
    | ((with_reducible apply spB_cong); (focus (simp only [splQ, Int.reduceBEq, Int.reduceBNe]; rfl)))
    | with_reducible first | refine spB_no (by decide) ?_
    | (with_reducible refine spB_dec ?_ ?_ <;> intro _ <;> (try (exfalso; (first | omega | (simp only [LN] at *; omega)))))
    | ((with_reducible refine Z.slN_lo 1 ?_ ?_ ?_); (focus rfl); (focus (exact Nat.le_add_left _ _)); (rw [tkm1]))
    | ((refine sl3N_mk 0 1 1 rfl rfl rfl ?_ ?_ ?_ ?_ ?_); (iterate 4 (focus (first | exact .inl rfl | ((try simp only [LN] at *) <;> omega)))))
    | (refine loopZ_unr1 tabOk rfl ?_)
    | ((with_reducible refine wr_shl8 ?_ ?_); (focus omega))
    | ((with_reducible refine wr_or0 ?_ ?_); (focus omega))
    | with_reducible first | refine rowN_mk _ rfl ?_
    | ((with_reducible refine posE_pos ?_ ?_); (focus ((try simp only [LN] at *) <;> omega)))
    | ((with_reducible apply ixN_lit); (focus rfl); (focus rfl))
    | ((with_reducible refine eqN_mk2 ?_ ?_); (focus rfl))
    | ((with_reducible refine apdN.mk ?_ ?_ ?_ ?_ ?_ ?_); (focus (first | rfl)); (focus (first | exact one_all (by rfl))); (focus ((try simp only [LN] at *) <;> omega)); (focus ((try simp only [LN] at *) <;> omega)); (focus ((try simp only [LN] at *) <;> omega)))
    | with_reducible refine wr_i64 (by first | omega | (simp only [LN] at *; omega)) ?_
    | with_reducible refine wr_u64 (by omega) ?_
    | with_reducible refine wr_u8 (by omega) ?_
    | with_reducible refine wr_u32 (by omega) ?_
    | with_reducible first | refine Z.callZ_in tabOk 18 Tryz.f104 _ Tryz.func104 (by kernel_rfl) rfl rfl rfl ?_ | refine Z.callZ_in tabOk 6 Tryz.f43 _ Tryz.func43 (by kernel_rfl) rfl rfl rfl ?_ | refine Z.callZ_in tabOk 6 Tryz.f45 _ Tryz.func45 (by kernel_rfl) rfl rfl rfl ?_ | refine Z.callZ_in tabOk 10 Tryz.f80 _ Tryz.func80 (by kernel_rfl) rfl rfl rfl ?_ | refine Z.callZ_in tabOk 58 Tryz.f103 _ Tryz.func103 (by kernel_rfl) rfl rfl rfl ?_
    | ((with_reducible refine eqN_mk2 ?_ ?_); (focus (exact Z.kb_some rfl)))
    | ((with_reducible apply ex_and); exact rfl)
    | with_reducible first | refine Z.drawZ_rule tabOk mixOk ?_ | refine Z.apZ_mk (by kernel_rfl) ?_
    | ((with_reducible refine Z.ConZ.red ?_); (try subst hlb); (apply Z.conZ_all); (focus (repeat (first | exact Z.FK.nil | (apply Z.FK.keep; exact rfl)))); (focus rfl); (focus rfl); (focus (repeat (first | exact trivial | (refine ⟨(fun o ho => (by first | (cases ho; rfl) | (cases ho; exact Z.inL_map fun _ => rfl) | (cases ho; exact Z.inL_mapr fun _ => rfl) | exact Z.inL_gB ho fun _ => rfl)), ?_⟩)))))
    | ((refine ⟨rfl, ?_, rfl⟩); (focus (repeat (first | exact Z.DK.nil | apply Z.DK.cons))))
    | fail)
   all_goals (try (conv => whnf))
   all_goals try first | (show Nat.ble _ _ = true; rfl) | (exfalso; rename_i hz; cases hz; done) | (exfalso; (try simp only [LN] at *) <;> omega)
   all_goals first
    | ((refine Z.rndK ((k + 1, r, 7, acc ++ [(⟨s, 0, 0⟩ : Nm)])) (fun s => [0, 1, 2, 3, 4, 5, 6, 7, 8, 9, 10, 11, 12, 13, 14, 15, s.idIn 8 13, 17]) rfl rfl rfl rfl ?_ ?_ ?_ ?_); (focus (repeat' (first | exact trivial | exact rfl | apply And.intro))); (focus (repeat' (first | exact trivial | (intro b hb; cases hb; rfl) | (intro b hb; cases hb; rw [List.map_append]; rfl) | exact Z.blk_sub rfl rfl (ren_map fun _ => rfl) | exact Z.gB_sub' rfl (by first | rfl | (rw [List.map_append]; rfl) | simp only [List.map_append, List.map_cons, List.map_nil]) (ren_map fun _ => rfl) | apply And.intro))); (focus (exact ⟨by (try dsimp only); omega, by (try dsimp only); first | (intro z hz; cases hz; done) | exact hBq, by (try dsimp only); (try simp only [List.length_cons, List.length_nil] at *); omega, by (try dsimp only); rw [List.length_append, HC]; rfl, .inr ⟨rfl, by (try dsimp only); rw [HD]; exact preN_bad (by simp only [List.length_cons, List.length_nil]; omega)⟩⟩)); ((try dsimp only); omega))
    | fail
  obtain ⟨a0, a1, a2, a3, r, rfl⟩ := split4 (Nat.le_of_not_lt h4)
  have ha0 := HBr a0 (by simp)
  have ha1 := HBr a1 (by simp)
  have ha2 := HBr a2 (by simp)
  have ha3 := HBr a3 (by simp)
  by_cases h5 : r.length < 4
  ·have hBq : isB r := fun z hz => HBr z (by simp [hz])
   repeat' ((conv => whnf); first
    | with_reducible first | refine spB_t ?_
    | ((with_reducible apply spB_cong); (focus (simp only [splQ, Int.reduceBEq, Int.reduceBNe]; rfl)))
    | with_reducible first | refine spB_yes (by decide) ?_ | refine spB_no (by decide) ?_
    | (with_reducible refine spB_dec ?_ ?_ <;> intro _ <;> (try (exfalso; (first | omega | (simp only [LN] at *; omega)))))
    | ((with_reducible refine Z.slN_lo 1 ?_ ?_ ?_); (focus rfl); (focus (exact Nat.le_add_left _ _)); (rw [tkm1]))
    | ((with_reducible refine Z.slN_lo 4 ?_ ?_ ?_); (focus rfl); (focus (exact Nat.le_add_left _ _)); (rw [tkm4]))
    | ((refine sl3N_mk 0 1 1 rfl rfl rfl ?_ ?_ ?_ ?_ ?_); (iterate 4 (focus (first | exact .inl rfl | ((try simp only [LN] at *) <;> omega)))))
    | (refine loopZ_unr1 tabOk rfl ?_)
    | ((with_reducible refine wr_shl8 ?_ ?_); (focus omega))
    | ((with_reducible refine wr_or0 ?_ ?_); (focus omega))
    | with_reducible first | refine rowN_mk _ rfl ?_
    | ((refine sl3N_mk 0 4 4 rfl rfl rfl ?_ ?_ ?_ ?_ ?_); (iterate 4 (focus (first | exact .inl rfl | ((try simp only [LN] at *) <;> omega)))))
    | (refine loopZ_unr4 tabOk rfl ?_)
    | ((with_reducible refine wr_orx ?_ ?_ ?_); (iterate 2 (focus omega)))
    | ((with_reducible refine wr_or32 ?_ ?_ ?_); (iterate 2 (focus omega)))
    | ((with_reducible refine posE_pos ?_ ?_); (focus ((try simp only [LN] at *) <;> omega)))
    | ((with_reducible apply ixN_lit); (focus rfl); (focus rfl))
    | ((with_reducible refine eqN_mk2 ?_ ?_); (focus rfl))
    | ((with_reducible refine apdN.mk ?_ ?_ ?_ ?_ ?_ ?_); (focus (first | rfl)); (focus (first | exact one_all (by rfl))); (focus ((try simp only [LN] at *) <;> omega)); (focus ((try simp only [LN] at *) <;> omega)); (focus ((try simp only [LN] at *) <;> omega)))
    | with_reducible refine wr_i64 (by first | omega | (simp only [LN] at *; omega)) ?_
    | with_reducible refine wr_u64 (by omega) ?_
    | with_reducible refine wr_u8 (by omega) ?_
    | with_reducible refine wr_u32 (by omega) ?_
    | with_reducible first | refine Z.callZ_in tabOk 18 Tryz.f104 _ Tryz.func104 (by kernel_rfl) rfl rfl rfl ?_ | refine Z.callZ_in tabOk 6 Tryz.f43 _ Tryz.func43 (by kernel_rfl) rfl rfl rfl ?_ | refine Z.callZ_in tabOk 6 Tryz.f45 _ Tryz.func45 (by kernel_rfl) rfl rfl rfl ?_ | refine Z.callZ_in tabOk 10 Tryz.f80 _ Tryz.func80 (by kernel_rfl) rfl rfl rfl ?_ | refine Z.callZ_in tabOk 58 Tryz.f103 _ Tryz.func103 (by kernel_rfl) rfl rfl rfl ?_
    | ((with_reducible refine eqN_mk2 ?_ ?_); (focus (exact Z.kb_some rfl)))
    | ((with_reducible apply ex_and); exact rfl)
    | with_reducible first | refine Z.drawZ_rule tabOk mixOk ?_ | refine Z.apZ_mk (by kernel_rfl) ?_
    | ((with_reducible refine Z.ConZ.red ?_); (try subst hlb); (apply Z.conZ_all); (focus (repeat (first | exact Z.FK.nil | (apply Z.FK.keep; exact rfl)))); (focus rfl); (focus rfl); (focus (repeat (first | exact trivial | (refine ⟨(fun o ho => (by first | (cases ho; rfl) | (cases ho; exact Z.inL_map fun _ => rfl) | (cases ho; exact Z.inL_mapr fun _ => rfl) | exact Z.inL_gB ho fun _ => rfl)), ?_⟩)))))
    | ((refine ⟨rfl, ?_, rfl⟩); (focus (repeat (first | exact Z.DK.nil | apply Z.DK.cons))))
    | fail)
   all_goals (try (conv => whnf))
   all_goals try first | (show Nat.ble _ _ = true; rfl) | (exfalso; rename_i hz; cases hz; done) | (exfalso; (try simp only [LN] at *) <;> omega)
   all_goals first
    | ((refine Z.rndK ((k + 1, r, 7, acc ++ [(⟨s, ((((0 * 256 + a0) * 256 + a1) * 256 + a2) * 256 + a3), 0⟩ : Nm)])) (fun s => [0, 1, 2, 3, 4, 5, 6, 7, 8, 9, 10, 11, 12, 13, 14, 15, s.idIn 8 13, 17]) rfl rfl rfl rfl ?_ ?_ ?_ ?_); (focus (repeat' (first | exact trivial | exact rfl | apply And.intro))); (focus (repeat' (first | exact trivial | (intro b hb; cases hb; rfl) | (intro b hb; cases hb; rw [List.map_append]; rfl) | exact Z.blk_sub rfl rfl (ren_map fun _ => rfl) | exact Z.gB_sub' rfl (by first | rfl | (rw [List.map_append]; rfl) | simp only [List.map_append, List.map_cons, List.map_nil]) (ren_map fun _ => rfl) | apply And.intro))); (focus (exact ⟨by (try dsimp only); omega, by (try dsimp only); first | (intro z hz; cases hz; done) | exact hBq, by (try dsimp only); (try simp only [List.length_cons, List.length_nil] at *); omega, by (try dsimp only); rw [List.length_append, HC]; rfl, .inr ⟨rfl, by (try dsimp only); rw [HD]; exact preN_bad (by simp only [List.length_cons, List.length_nil]; omega)⟩⟩)); ((try dsimp only); omega))
    | fail
  obtain ⟨m0, m1, m2, m3, r, rfl⟩ := split4 (Nat.le_of_not_lt h5)
  have hm0 := HBr m0 (by simp)
  have hm1 := HBr m1 (by simp)
  have hm2 := HBr m2 (by simp)
  have hm3 := HBr m3 (by simp)
  have hBq : isB r := fun z hz => HBr z (by simp [hz])
  repeat' ((conv => whnf); first
   | with_reducible first | refine spB_t ?_
   | ((with_reducible apply spB_cong); (focus (simp only [splQ, Int.reduceBEq, Int.reduceBNe]; rfl)))
   | with_reducible first | refine spB_yes (by decide) ?_ | refine spB_no (by decide) ?_
   | (with_reducible refine spB_dec ?_ ?_ <;> intro _ <;> (try (exfalso; (first | omega | (simp only [LN] at *; omega)))))
   | ((with_reducible refine Z.slN_lo 1 ?_ ?_ ?_); (focus rfl); (focus (exact Nat.le_add_left _ _)); (rw [tkm1]))
   | ((with_reducible refine Z.slN_lo 4 ?_ ?_ ?_); (focus rfl); (focus (exact Nat.le_add_left _ _)); (rw [tkm4]))
   | ((refine sl3N_mk 0 1 1 rfl rfl rfl ?_ ?_ ?_ ?_ ?_); (iterate 4 (focus (first | exact .inl rfl | ((try simp only [LN] at *) <;> omega)))))
   | (refine loopZ_unr1 tabOk rfl ?_)
   | ((with_reducible refine wr_shl8 ?_ ?_); (focus omega))
   | ((with_reducible refine wr_or0 ?_ ?_); (focus omega))
   | with_reducible first | refine rowN_mk _ rfl ?_
   | ((refine sl3N_mk 0 4 4 rfl rfl rfl ?_ ?_ ?_ ?_ ?_); (iterate 4 (focus (first | exact .inl rfl | ((try simp only [LN] at *) <;> omega)))))
   | (refine loopZ_unr4 tabOk rfl ?_)
   | ((with_reducible refine wr_orx ?_ ?_ ?_); (iterate 2 (focus omega)))
   | ((with_reducible refine wr_or32 ?_ ?_ ?_); (iterate 2 (focus omega)))
   | ((with_reducible refine posE_pos ?_ ?_); (focus ((try simp only [LN] at *) <;> omega)))
   | ((with_reducible apply ixN_lit); (focus rfl); (focus rfl))
   | ((with_reducible refine eqN_mk2 ?_ ?_); (focus rfl))
   | ((with_reducible refine apdN.mk ?_ ?_ ?_ ?_ ?_ ?_); (focus (first | rfl)); (focus (first | exact one_all (by rfl))); (focus ((try simp only [LN] at *) <;> omega)); (focus ((try simp only [LN] at *) <;> omega)); (focus ((try simp only [LN] at *) <;> omega)))
   | with_reducible refine wr_i64 (by first | omega | (simp only [LN] at *; omega)) ?_
   | with_reducible refine wr_u64 (by omega) ?_
   | with_reducible refine wr_u8 (by omega) ?_
   | with_reducible first | refine Z.callZ_in tabOk 18 Tryz.f104 _ Tryz.func104 (by kernel_rfl) rfl rfl rfl ?_ | refine Z.callZ_in tabOk 6 Tryz.f43 _ Tryz.func43 (by kernel_rfl) rfl rfl rfl ?_ | refine Z.callZ_in tabOk 6 Tryz.f45 _ Tryz.func45 (by kernel_rfl) rfl rfl rfl ?_ | refine Z.callZ_in tabOk 10 Tryz.f80 _ Tryz.func80 (by kernel_rfl) rfl rfl rfl ?_ | refine Z.callZ_in tabOk 58 Tryz.f103 _ Tryz.func103 (by kernel_rfl) rfl rfl rfl ?_
   | ((with_reducible refine eqN_mk2 ?_ ?_); (focus (exact Z.kb_some rfl)))
   | ((with_reducible apply ex_and); exact rfl)
   | with_reducible first | refine Z.drawZ_rule tabOk mixOk ?_ | refine Z.apZ_mk (by kernel_rfl) ?_
   | ((with_reducible refine Z.ConZ.red ?_); (try subst hlb); (apply Z.conZ_all); (focus (repeat (first | exact Z.FK.nil | (apply Z.FK.keep; exact rfl)))); (focus rfl); (focus rfl); (focus (repeat (first | exact trivial | (refine ⟨(fun o ho => (by first | (cases ho; rfl) | (cases ho; exact Z.inL_map fun _ => rfl) | (cases ho; exact Z.inL_mapr fun _ => rfl) | exact Z.inL_gB ho fun _ => rfl)), ?_⟩)))))
   | ((refine ⟨rfl, ?_, rfl⟩); (focus (repeat (first | exact Z.DK.nil | apply Z.DK.cons))))
   | fail)
  all_goals (try (conv => whnf))
  all_goals try first | (show Nat.ble _ _ = true; rfl) | (exfalso; rename_i hz; cases hz; done) | (exfalso; (try simp only [LN] at *) <;> omega)
  all_goals first
   | ((refine Z.rndK ((k + 1, r, 0, acc ++ [(⟨s, ((((0 * 256 + a0) * 256 + a1) * 256 + a2) * 256 + a3), ((((0 * 256 + m0) * 256 + m1) * 256 + m2) * 256 + m3)⟩ : Nm)])) (fun s => [0, 1, 2, 3, 4, 5, 6, 7, 8, 9, 10, 11, 12, 13, 14, 15, s.idIn 8 13, 17]) rfl rfl rfl rfl ?_ ?_ ?_ ?_); (focus (repeat' (first | exact trivial | exact rfl | apply And.intro))); (focus (repeat' (first | exact trivial | (intro b hb; cases hb; rfl) | (intro b hb; cases hb; rw [List.map_append]; rfl) | exact Z.blk_sub rfl rfl (ren_map fun _ => rfl) | exact Z.gB_sub' rfl (by first | rfl | (rw [List.map_append]; rfl) | simp only [List.map_append, List.map_cons, List.map_nil]) (ren_map fun _ => rfl) | apply And.intro))); (focus (exact ⟨by (try dsimp only); omega, hBq, by (try dsimp only); (try simp only [List.length_cons, List.length_nil] at *); omega, by (try dsimp only); rw [List.length_append, HC]; rfl, .inl ⟨rfl, by (try dsimp only); rw [hq2, HD]; exact preN_step (by simp only [List.length_cons]; omega) rfl⟩⟩)); ((try dsimp only); omega))
   | fail
 have hkn : k = n := by omega
 subst hkn
 have hq := hDS.trans (decS_eq (t0 := t0) (t1 := t1) (t2 := t2) (t3 := t3) (R1 := t4 :: t5 :: R0) (R3 := R3) (N := N) ((numR2 (a := t4) (c := t5)).trans hN) (by simp only [List.length_cons, hR0]; omega))
 rw [Int.toNat_natCast] at hq
 have he := decN_err k R3
 rcases HD with ⟨rfl, HD⟩ | ⟨rfl, HD⟩
 rotate_left
 ·rw [HD] at he
  have hs7 : R3.length < 9 * k := by
   by_cases hz : R3.length < 9 * k
   ·exact hz
   ·rw [if_neg hz] at he; cases he
  rw [if_pos hs7] at hq
  rw [hq]
  clear hq hDS he HD
  repeat' ((conv => whnf); first
   | with_reducible first | refine spB_t ?_
   | ((with_reducible apply spB_cong); (focus (simp only [splQ, Int.reduceBEq, Int.reduceBNe]; rfl)))
   | with_reducible first | refine spB_no (by decide) ?_
   | (with_reducible refine spB_dec ?_ ?_ <;> intro _ <;> (try (exfalso; (first | omega))))
   | with_reducible first | refine Z.callZ_in tabOk 10 Tryz.f46 _ Tryz.func46 (by kernel_rfl) rfl rfl rfl ?_
   | ((with_reducible apply ex_and); exact rfl)
   | fail)
  all_goals (try (conv => whnf))
  all_goals try first | (show Nat.ble _ _ = true; rfl) | (exfalso; rename_i hz; cases hz; done) | (exfalso; (try simp only [LN] at *) <;> omega)
  all_goals first
   | ((first | (with_reducible apply Z.retF2)); (focus rfl); (repeat' (first | exact trivial | (with_reducible apply Z.frz_one) | (with_reducible apply Z.frz_agg) | (with_reducible apply Z.fq_int) | (with_reducible apply Z.fq_bool) | (exact Z.frz_nil) | exact rfl | apply And.intro)); (all_goals (try exact (fun _ => none))); all_goals (first | (simp; done)))
   | fail
 rw [Nat.sub_self, show preN acc (decN 0 r) = (acc, 0, r) by simp [preN, decN]] at HD
 rw [HD] at he
 have hs7 : ¬ R3.length < 9 * k := fun hz => by rw [if_pos hz] at he; cases he
 have hre := decN_rest (n := k) (b := R3) (by rw [HD])
 rw [HD] at hre
 have hre : r = R3.drop (9 * k) := hre
 have hrl : r.length = R3.length - 9 * k := by rw [hre, List.length_drop]
 rw [if_neg hs7, HD] at hq
 dsimp only at hq
 have hBR1 : isB (t4 :: t5 :: R0) := fun z hz => by simp only [List.mem_cons] at hz; rcases hz with rfl | rfl | hz; exact hb4; exact hb5; exact hBR0 z hz
 have cd := decode_con (t4 :: t5 :: R0) (by simp only [List.length_cons, hR0]; omega) hBR1
 have hdl := decT_len hBR1
 generalize decT (t4 :: t5 :: R0) = G at *
 obtain ⟨T, e⟩ := G
 dsimp only at cd hq hdl
 clear hre HD he hDS
 have cm := maybe_con (⟨t0, t1, t2, decide (t3 = 1), T, c0, c1, c2, c3, c4, c5, c6, c7, acc⟩ : Sn) (by show T.length ≤ 1000; omega) (by show acc.length ≤ _; omega)
 dsimp only at cm
 by_cases he : e = 0
 rotate_left
 ·rw [if_neg (fun q => he q.1.1)] at hq
  rw [hq]
  clear hq cm
  repeat' ((conv => whnf); first
   | with_reducible first | refine spB_t ?_
   | ((with_reducible apply spB_cong); (focus (simp only [splQ, Int.reduceBEq, Int.reduceBNe]; rfl)))
   | with_reducible first | refine spB_no (by decide) ?_
   | (with_reducible refine spB_dec ?_ ?_ <;> intro _ <;> (try (exfalso; (first | omega))))
   | (with_reducible refine spB_bne ?_ ?_ <;> intro _ <;> (try (exfalso; (first | contradiction))))
   | with_reducible first | refine Z.callZ_in tabOk 10 Tryz.f46 _ Tryz.func46 (by kernel_rfl) rfl rfl rfl ?_
   | ((first | (with_reducible refine Z.callZ_mk ?_ (cd) ?_)); (focus ((repeat' (first | exact trivial | exact low_osl (fun _ => rfl) | apply And.intro)); done)))
   | ((with_reducible apply ex_and); exact rfl)
   | fail)
  all_goals (try (conv => whnf))
  all_goals try first | (show Nat.ble _ _ = true; rfl) | (exfalso; rename_i hz; cases hz; done) | (exfalso; (try simp only [LN] at *) <;> omega)
  all_goals first
   | ((first | (with_reducible apply Z.retF2)); (focus rfl); (repeat' (first | exact trivial | (with_reducible apply Z.frz_one) | (with_reducible apply Z.frz_agg) | (with_reducible apply Z.fq_int) | (with_reducible apply Z.fq_bool) | (exact Z.frz_nil) | exact rfl | apply And.intro)); (all_goals (try exact (fun _ => none))); all_goals (first | (simp; done)))
   | fail
 subst he
 by_cases h3 : t3 ≤ 1
 rotate_left
 ·rw [if_neg (fun q => h3 q.1.2)] at hq
  rw [hq]
  clear hq cm
  repeat' ((conv => whnf); first
   | with_reducible first | refine spB_t ?_
   | ((with_reducible apply spB_cong); (focus (simp only [splQ, Int.reduceBEq, Int.reduceBNe]; rfl)))
   | with_reducible first | refine spB_no (by decide) ?_
   | (with_reducible refine spB_dec ?_ ?_ <;> intro _ <;> (try (exfalso; (first | omega))))
   | with_reducible first | refine Z.callZ_in tabOk 10 Tryz.f46 _ Tryz.func46 (by kernel_rfl) rfl rfl rfl ?_
   | ((first | (with_reducible refine Z.callZ_mk ?_ (cd) ?_)); (focus ((repeat' (first | exact trivial | exact low_osl (fun _ => rfl) | apply And.intro)); done)))
   | ((with_reducible apply ex_and); exact rfl)
   | fail)
  all_goals (try (conv => whnf))
  all_goals try first | (show Nat.ble _ _ = true; rfl) | (exfalso; rename_i hz; cases hz; done) | (exfalso; (try simp only [LN] at *) <;> omega)
  all_goals first
   | ((first | (with_reducible apply Z.retF2)); (focus rfl); (repeat' (first | exact trivial | (with_reducible apply Z.frz_one) | (with_reducible apply Z.frz_agg) | (with_reducible apply Z.fq_int) | (with_reducible apply Z.fq_bool) | (exact Z.frz_nil) | exact rfl | apply And.intro)); (all_goals (try exact (fun _ => none))); all_goals (first | (simp; done)))
   | fail
 rcases r with _ | ⟨x, r⟩
 rotate_left
 ·rw [if_neg (fun q => by have := q.2.1; simp only [List.length_cons] at hrl; omega)] at hq
  rw [hq]
  clear hq cm
  repeat' ((conv => whnf); first
   | with_reducible first | refine spB_t ?_
   | ((with_reducible apply spB_cong); (focus (simp only [splQ, Int.reduceBEq, Int.reduceBNe]; rfl)))
   | with_reducible first | refine spB_no (by decide) ?_
   | (with_reducible refine spB_dec ?_ ?_ <;> intro _ <;> (try (exfalso; (first | omega | (rename_i hz; simp at hz; done)))))
   | with_reducible first | refine Z.callZ_in tabOk 10 Tryz.f46 _ Tryz.func46 (by kernel_rfl) rfl rfl rfl ?_ | refine Z.callZ_in tabOk 11 Tryz.f48 _ Tryz.func48 (by kernel_rfl) rfl rfl rfl ?_
   | ((first | (with_reducible refine Z.callZ_mk ?_ (cd) ?_)); (focus ((repeat' (first | exact trivial | exact low_osl (fun _ => rfl) | apply And.intro)); done)))
   | ((with_reducible apply ex_and); exact rfl)
   | fail)
  all_goals (try (conv => whnf))
  all_goals try first | (show Nat.ble _ _ = true; rfl) | (exfalso; rename_i hz; cases hz; done) | (exfalso; (try simp only [LN] at *) <;> omega)
  all_goals first
   | ((first | (with_reducible apply Z.retF2)); (focus rfl); (repeat' (first | exact trivial | (with_reducible apply Z.frz_one) | (with_reducible apply Z.frz_agg) | (with_reducible apply Z.fq_int) | (with_reducible apply Z.fq_bool) | (exact Z.frz_nil) | exact rfl | apply And.intro)); (all_goals (try exact (fun _ => none))); all_goals (first | (simp; done)))
   | fail
 have h9 : R3.length = 9 * k := by simp only [List.length_nil] at hrl; omega
 cases hsn : snapR ⟨t0, t1, t2, decide (t3 = 1), T, c0, c1, c2, c3, c4, c5, c6, c7, acc⟩
 ·rw [if_neg (fun q => by have := q.2.2; rw [hsn] at this; cases this)] at hq
  rw [hq]
  rw [hsn] at cm
  clear hq
  repeat' ((conv => whnf); first
   | with_reducible first | refine spB_t ?_
   | ((with_reducible apply spB_cong); (focus (simp only [splQ, Int.reduceBEq, Int.reduceBNe]; rfl)))
   | with_reducible first | refine spB_no (by decide) ?_
   | (with_reducible refine spB_dec ?_ ?_ <;> intro _ <;> (try (exfalso; (first | omega))))
   | with_reducible first | refine Z.callZ_in tabOk 10 Tryz.f46 _ Tryz.func46 (by kernel_rfl) rfl rfl rfl ?_ | refine Z.callZ_in tabOk 11 Tryz.f48 _ Tryz.func48 (by kernel_rfl) rfl rfl rfl ?_
   | ((first | (with_reducible refine Z.callZ_mk ?_ (cm) ?_) | (with_reducible refine Z.callZ_mk ?_ (cd) ?_)); (focus ((repeat' (first | exact trivial | exact rfl | exact low_osl (fun _ => rfl) | exact Z.low_gslm (by first | rfl | exact Z.kb_some rfl) (fun _ => rfl) | apply And.intro)); done)))
   | ((with_reducible apply ex_and); exact rfl)
   | fail)
  all_goals (try (conv => whnf))
  all_goals try first | (show Nat.ble _ _ = true; rfl) | (exfalso; rename_i hz; cases hz; done) | (exfalso; (try simp only [LN] at *) <;> omega)
  all_goals first
   | ((first | (with_reducible apply Z.retF2)); (focus rfl); (repeat' (first | exact trivial | (with_reducible apply Z.frz_one) | (with_reducible apply Z.frz_agg) | (with_reducible apply Z.fq_int) | (with_reducible apply Z.fq_bool) | (exact Z.frz_nil) | exact rfl | apply And.intro)); (all_goals (try exact (fun _ => none))); all_goals (first | (simp; done)))
   | fail
 rw [if_pos ⟨⟨rfl, h3⟩, h9, hsn⟩] at hq
 rw [hq]
 rw [hsn] at cm
 clear hq
 repeat' ((conv => whnf); first
  | ((with_reducible apply spB_cong); (focus (simp only [splQ, Int.reduceBEq, Int.reduceBNe]; rfl)))
  | with_reducible first | refine spB_no (by decide) ?_
  | (with_reducible refine spB_dec ?_ ?_ <;> intro _ <;> (try (exfalso; (first | omega))))
  | with_reducible first | refine Z.callZ_in tabOk 10 Tryz.f46 _ Tryz.func46 (by kernel_rfl) rfl rfl rfl ?_ | refine Z.callZ_in tabOk 11 Tryz.f48 _ Tryz.func48 (by kernel_rfl) rfl rfl rfl ?_
  | ((first | (with_reducible refine Z.callZ_mk ?_ (cm) ?_) | (with_reducible refine Z.callZ_mk ?_ (cd) ?_)); (focus ((repeat' (first | exact trivial | exact rfl | exact low_osl (fun _ => rfl) | exact Z.low_gslm (by first | rfl | exact Z.kb_some rfl) (fun _ => rfl) | apply And.intro)); done)))
  | ((with_reducible apply ex_and); exact rfl)
  | fail)
 all_goals (try (conv => whnf))
 all_goals try first | (show Nat.ble _ _ = true; rfl) | (exfalso; rename_i hz; cases hz; done) | (exfalso; (try simp only [LN] at *) <;> omega)
 all_goals first
  | ((first | (with_reducible apply Z.retF2)); (focus rfl); (repeat' (first | exact trivial | (with_reducible apply Z.frz_one) | (with_reducible apply Z.frz_agg) | (with_reducible apply Z.fq_int) | (with_reducible apply Z.fq_bool) | ((with_reducible apply Z.fq_gsl); (focus (first | exact Z.isB_map _)); (focus (exact fun _ => rfl))) | exact rfl | apply And.intro)); (all_goals (try exact (fun _ => none))); all_goals (first | (simp; done)))
  | fail
end Go.Proofs.YtopieffkpdlpbaaGreat
