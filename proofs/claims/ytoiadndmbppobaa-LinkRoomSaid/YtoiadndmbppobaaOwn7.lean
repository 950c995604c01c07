import Derived.Test.YtoiadndmbppobaaOwn6
namespace Go.Proofs.Ytoiadndmbppobaa
open Go Go.RowKit Wx
set_option linter.unusedVariables false
set_option linter.unusedSimpArgs false
set_option maxHeartbeats 400000000
theorem r_ack (rm : Int) (ls : List St) (hl : ls.length ≤ 9223372036854775807) (i B N T : Nat) (l : Int) (put : List El) (pe : Bool) (w : Option (List Pk × Nat)) (HI : i ≤ ls.length) (HB : i ≤ 50) (H : LInv rm i B N T l put (wl w)) (HW : wn w) (HP : pe = true ↔ put = []) (hi : i < ls.length) (kd n : Int) (keeps : Bool) (e : El) (pk : Pk) (hx : ls[i]? = some ⟨kd, n, keeps, e, pk⟩) (hux : 0 ≤ e.num ∧ 0 ≤ pk.sq ∧ 0 ≤ pk.lim ∧ 0 ≤ pk.e.num) (hib : ¬ i = 50) (h4 : (IntKind.u64.wrap kd).tmod 11 = 4)  {Q : Exit → Z.S → Prop} : Z.codeZ Try.prog tab 96 0 none (lbody Try.f9) ⟨gCH 27 (i, B, N, T, l, put, pe, w) ++ gFk 5 25 26 ls, gCK rm (i, B, N, T, l, put, pe, w) ++ [], 6⟩ (loopPost (gRnd rm 27 5 25 26 50 ls (i, B, N, T, l, put, pe, w)) Q) := by
  dsimp only [gCH, gFk, gCK, gRnd]
  have cak := ack_con 7 ((N : Int) + 1) (bfL put N T) rm (by have h9 := H.hpl; simp only [List.length_take, List.length_drop]; omega) (fun e he => okEs_num H.hP e (List.mem_of_mem_take (List.mem_of_mem_drop he))) (by omega)
  rw [H.acked rfl] at cak
  dsimp only at cak
  have H2 := H.ack
  have hqm : (List.map eE (put.drop B)).length = put.length - B := by rw [List.length_map, List.length_drop]
  have hbm : (List.map eE (bfL put N T)).length = N - T := by rw [List.length_map, bfL_len H2.hNP]
  have hq9 : (put.drop B).length = put.length - B := List.length_drop
  have hb9 := bfL_len (T := T) H2.hNP
  have hn9 := H2.hNP
  have hbn9 := H2.hBN
  have htn9 := H2.hTN
  have hR9 := (okR_all H2.hR).1
  have hpl9 := H2.hpl
  have hS9 := (okS_all H2.hS).1
  have H9 := H2.sub (w' := []) (fun p h => nomatch h) (Nat.zero_le _)
  have cse2 := send_con 7 ((B : Int) + 1) (put.drop B) l (endsL put) (by have h9 := H9.hpl; simp only [List.length_take, List.length_drop]; omega) (fun e he => okEs_num H9.hP e (List.mem_of_mem_drop he)) (by omega) H9.hl0
  rw [H9.sent] at cse2
  dsimp only at cse2
  have hQ9 := fun (p : Pk) hp => H9.pks_ok (p := p) hp
  have hql9 := @pks_len 7 l ((B : Int) + 1) (put.drop B)
  generalize pks 7 l ((B : Int) + 1) (put.drop B) = Q9 at *
  rcases w with _ | ⟨L, N9⟩
  · skip
    cases pe
    · have hp0 : 0 < put.length := pe_false HP
      have hpne : put ≠ [] := fun h9 => by simp [h9] at hp0
      repeat' ((conv => whnf); first
        | with_reducible first | refine spB_t ?_
        | ((with_reducible apply spB_cong); (focus (simp only [beq_self_eq_true, bne_self_eq_false, Bool.true_bne, Bool.false_bne, Bool.bne_true, Bool.bne_false, Bool.true_beq, Bool.false_beq, Bool.not_true, Bool.not_false, Bool.not_not, Int.reduceBEq, Int.reduceBNe, Int.reduceLE, Int.reduceLT, Int.reduceEq, decide_true, decide_false]; rfl)))
        | with_reducible first | refine spB_no (by decide) ?_
        | (with_reducible refine spB_dec ?_ ?_ <;> intro _ <;> (try (exfalso; first | contradiction | omega | (rename_i hz; refine hz ?_; simp; done) | (rename_i hz; simp at hz; done) | (simp only [LN] at *; omega))))
        | (with_reducible refine spB_beq ?_ ?_ <;> intro _ <;> (try (exfalso; first | contradiction | omega | (rename_i hz; refine hz ?_; simp; done) | (rename_i hz; simp at hz; done) | (simp only [LN] at *; omega))))
        | with_reducible first | refine Z.rowN_known hx ?_
        | ((with_reducible refine Z.vN_K h4 ?_ ?_); (focus rfl))
        | ((with_reducible refine posE_pos ?_ ?_); (focus ((try simp only [LN] at *) <;> omega)))
        | ((with_reducible apply ixN_litp); (focus (exact rfl)); (focus ((try simp only [LN] at *) <;> omega)))
        | ((with_reducible refine apdN.mk ?_ ?_ ?_ ?_ ?_ ?_); (focus (first | rfl)); (focus (first | exact one_all (by rfl))); (focus ((try simp only [LN] at *) <;> omega)); (focus ((try simp only [LN] at *) <;> omega)); (focus ((try simp only [LN] at *) <;> omega)))
        | with_reducible first | refine wr_mk _ rfl ?_
        | with_reducible refine nzN_mk (by omega) ?_
        | with_reducible first | refine Z.callZ_in tabOk 153 Try.f37 _ Try.func37 (by kernel_rfl) rfl rfl rfl ?_
        | ((first | (with_reducible refine Z.callZ_mk ?_ (cak) ?_)); (focus ((repeat' (first | exact trivial | exact rfl | apply And.intro)); done)))
        | ((first | (with_reducible refine Z.callZ_mk ?_ (cse2) ?_)); (focus ((repeat' (first | exact trivial | exact rfl | apply And.intro)); done)))
        | ((with_reducible apply ex_and); exact rfl)
        | with_reducible first | refine Z.drawZ_rule tabOk mixOk ?_ | refine Z.apZ_mk (by kernel_rfl) ?_)
      all_goals (try (conv => whnf))
      all_goals try (show Nat.ble _ _ = true; rfl)
      all_goals try (exfalso; rename_i hz; cases hz; done)
      all_goals try (exfalso; (try simp only [LN] at *) <;> omega)
      all_goals (
        refine Z.loopK tabOk (fun zq : Nat × Nat => [(54, .val (.int .i64 (zq.1 : Int)))]) (fun zq : Nat × Nat => ([(11, some (Z.Ob.b ⟨[[.v (.int .u32 7), .v (.int .u64 ((zq.2 : Int) + 1)), .ro true 5 ((bfL put zq.2 T).map eE), .v (.int .i64 rm)]], 4, 55, true⟩)), (10, some (Z.Ob.b ⟨(padP 1 [(⟨2, 7, (N : Int) + 1, min ((T : Int) + rm) 4611686018427387904, zE⟩ : Pk)]).map cP, 9, 35, false⟩))] : Z.Kr)) (fun zq => zq.1 ≤ Q9.length ∧ LInv rm (i + 1) B zq.2 T l put []) (fun zq => Q9.length - zq.1) (0, N) 12 [(5, _), (11, _), (25, _), (26, _), (27, _), (52, _), (53, _)] ⟨rfl, rfl, rfl, rfl, rfl, rfl, rfl, trivial⟩ [(2, _), (3, _), (4, _), (5, _), (6, _), (7, _), (8, _), (9, _)] ⟨rfl, rfl, rfl, rfl, rfl, rfl, rfl, rfl, trivial⟩ ?_ ?_ rfl rfl ⟨Nat.zero_le _, H9⟩ ?_
        · repeat' (first | exact trivial | apply And.intro | exact ⟨_, rfl, Z.Imp.refl _⟩)
        · repeat' (first | exact trivial | exact (fun b hb => ⟨b, hb, Z.ImpO.refl b⟩) | apply And.intro)
        rintro ⟨j, M⟩ HINV
        dsimp only at HINV ⊢
        obtain ⟨HJ, HM⟩ := HINV
        by_cases hj : j < Q9.length
        · obtain ⟨y9, hy9⟩ := getElem?_some' (xs := Q9) (i := j) hj
          obtain ⟨k9, hk9a, hk9b, hk9c, hk9d⟩ := hQ9 y9 (List.mem_of_getElem? hy9)
          have hyok9 : okP put rm M T y9 := by rw [hk9c]; exact ⟨rfl, .inl ⟨rfl, rfl, k9, rfl, hk9b⟩⟩
          have hyse9 : y9.se = 7 := by rw [hk9c]
          have hysq9 : y9.sq = (k9 : Int) + 1 := by rw [hk9c]
          have hykd9 : y9.kd ≠ 2 := by rw [hk9c]; show (1 : Int) ≠ 2; decide
          have hyn9 := hyok9.num HM.hP
          have che := hear_con 7 ((M : Int) + 1) (bfL put M T) rm y9 (by have h9 := HM.hpl; simp only [List.length_take, List.length_drop]; omega) (fun e he => okEs_num HM.hP e (List.mem_of_mem_take (List.mem_of_mem_drop he))) (by omega) hyn9.1 hyn9.2.2
          obtain ⟨M', hM9, hE9, HM2, hgot⟩ := HM.hear (.inl hyok9) hykd9
          rw [hE9] at che
          dsimp only at che
          have hg2 := hgot hyse9
          have hl8 := HM.hl
          have ht8 := HM.hTN
          have hR8 := (okR_all HM.hR).1
          have hbm8 : (List.map eE (bfL put M T)).length = M - T := by rw [List.length_map, bfL_len HM.hNP]
          have hbm7 : (List.map eE (bfL put M' T)).length = M' - T := by rw [List.length_map, bfL_len HM2.hNP]
          have ht7 := HM2.hTN
          by_cases hs9 : y9.sq = (M : Int) + 1
          · have hM8 : M' = M + 1 := hg2 hs9 (by omega)
            repeat' ((conv => whnf); first
              | with_reducible first | refine spB_t ?_
              | ((with_reducible apply spB_cong); (focus (simp only [beq_self_eq_true, bne_self_eq_false, Bool.true_bne, Bool.false_bne, Bool.bne_true, Bool.bne_false, Bool.true_beq, Bool.false_beq, Bool.not_true, Bool.not_false, Bool.not_not, Int.reduceBEq, Int.reduceBNe, Int.reduceLE, Int.reduceLT, Int.reduceEq, decide_true, decide_false]; rfl)))
              | with_reducible first | refine spB_no (by decide) ?_
              | (with_reducible refine spB_dec ?_ ?_ <;> intro _ <;> (try (exfalso; first | contradiction | omega | (rename_i hz; refine hz ?_; simp; done) | (rename_i hz; simp at hz; done) | (simp only [LN] at *; omega))))
              | (with_reducible refine spB_beq ?_ ?_ <;> intro _ <;> (try (exfalso; first | contradiction | omega | (rename_i hz; refine hz ?_; simp; done) | (rename_i hz; simp at hz; done) | (simp only [LN] at *; omega))))
              | (with_reducible refine spB_bne ?_ ?_ <;> intro _ <;> (try (exfalso; first | contradiction | omega | (rename_i hz; refine hz ?_; simp; done) | (rename_i hz; simp at hz; done) | (simp only [LN] at *; omega))))
              | with_reducible first | refine Z.rowN_known hy9 ?_
              | ((with_reducible apply ixN_litp); (focus (exact rfl)); (focus ((try simp only [LN] at *) <;> omega)))
              | with_reducible refine wr_i64 (by first | omega | (simp only [LN] at *; omega)) ?_
              | with_reducible refine wr_u64 (by omega) ?_
              | ((first | (with_reducible refine Z.callZ_mk ?_ (che) ?_)); (focus ((repeat' (first | exact trivial | exact rfl | apply And.intro)); done))))
            all_goals (try (conv => whnf))
            all_goals try (show Nat.ble _ _ = true; rfl)
            all_goals try (exfalso; rename_i hz; cases hz; done)
            all_goals try (exfalso; (try simp only [LN] at *) <;> omega)
            all_goals first
              | ((refine Z.rndK ((j + 1, M')) (fun s => [0, 1, 2, 3, 4, 5, 6, 7, 8, 9, 10, 11]) rfl rfl rfl rfl ?_ ?_ ?_ ?_); (focus (repeat' (first | exact trivial | exact rfl | apply And.intro))); (focus (repeat' (first | exact trivial | (intro b hb; cases hb; first | rfl | (cases w <;> rfl)) | (intro b hb; cases hb; done) | exact Z.blk_sub rfl rfl (ren_map fun _ => rfl) | exact Z.gB_sub rfl rfl (ren_map fun _ => rfl) | apply And.intro))); (focus (exact ⟨by (try dsimp only); omega, HM2⟩)); ((try dsimp only); omega))
          · skip
            repeat' ((conv => whnf); first
              | ((with_reducible apply spB_cong); (focus (simp only [beq_self_eq_true, bne_self_eq_false, Bool.true_bne, Bool.false_bne, Bool.bne_true, Bool.bne_false, Bool.true_beq, Bool.false_beq, Bool.not_true, Bool.not_false, Bool.not_not, Int.reduceBEq, Int.reduceBNe, Int.reduceLE, Int.reduceLT, Int.reduceEq, decide_true, decide_false]; rfl)))
              | with_reducible first | refine spB_no (by decide) ?_
              | (with_reducible refine spB_dec ?_ ?_ <;> intro _ <;> (try (exfalso; first | contradiction | omega | (rename_i hz; refine hz ?_; simp; done) | (rename_i hz; simp at hz; done) | (simp only [LN] at *; omega))))
              | (with_reducible refine spB_beq ?_ ?_ <;> intro _ <;> (try (exfalso; first | contradiction | omega | (rename_i hz; refine hz ?_; simp; done) | (rename_i hz; simp at hz; done) | (simp only [LN] at *; omega))))
              | with_reducible first | refine Z.rowN_known hy9 ?_
              | ((with_reducible apply ixN_litp); (focus (exact rfl)); (focus ((try simp only [LN] at *) <;> omega)))
              | with_reducible refine wr_i64 (by first | omega | (simp only [LN] at *; omega)) ?_
              | with_reducible refine wr_u64 (by omega) ?_
              | ((first | (with_reducible refine Z.callZ_mk ?_ (che) ?_)); (focus ((repeat' (first | exact trivial | exact rfl | apply And.intro)); done))))
            all_goals (try (conv => whnf))
            all_goals try (show Nat.ble _ _ = true; rfl)
            all_goals try (exfalso; rename_i hz; cases hz; done)
            all_goals try (exfalso; (try simp only [LN] at *) <;> omega)
            all_goals first
              | ((refine Z.rndK ((j + 1, M')) (fun s => [0, 1, 2, 3, 4, 5, 6, 7, 8, 9, 10, 11]) rfl rfl rfl rfl ?_ ?_ ?_ ?_); (focus (repeat' (first | exact trivial | exact rfl | apply And.intro))); (focus (repeat' (first | exact trivial | (intro b hb; cases hb; first | rfl | (cases w <;> rfl)) | (intro b hb; cases hb; done) | exact Z.blk_sub rfl rfl (ren_map fun _ => rfl) | exact Z.gB_sub rfl rfl (ren_map fun _ => rfl) | apply And.intro))); (focus (exact ⟨by (try dsimp only); omega, HM2⟩)); ((try dsimp only); omega))
        repeat' ((conv => whnf); first
          | (with_reducible refine spB_dec ?_ ?_ <;> intro _ <;> (try (exfalso; first | contradiction | omega | (rename_i hz; refine hz ?_; simp; done) | (rename_i hz; simp at hz; done) | (simp only [LN] at *; omega))))
          | with_reducible refine wr_i64 (by first | omega | (simp only [LN] at *; omega)) ?_)
        all_goals (try (conv => whnf))
        all_goals try (show Nat.ble _ _ = true; rfl)
        all_goals try (exfalso; rename_i hz; cases hz; done)
        all_goals try (exfalso; (try simp only [LN] at *) <;> omega)
        all_goals first
          | ((refine Z.rnd_bi 2 [[_, _, _, _, _, _, _, _, _, .osl _ 0 1 none, _, _]] rfl rfl ⟨⟨Z.Imp.refl _, Z.Imp.refl _, Z.Imp.refl _, Z.Imp.refl _, Z.Imp.refl _, Z.Imp.refl _, Z.Imp.refl _, Z.Imp.refl _, Z.Imp.refl _, gslo (by exact Nat.zero_lt_one) rfl, Z.Imp.refl _, Z.Imp.refl _, trivial⟩, trivial⟩ ?_); ((refine Z.rndK ((i + 1, B, N, T, l, put, false, (some ([⟨2, 7, (N : Int) + 1, min ((T : Int) + rm) 4611686018427387904, zE⟩], 1)))) (fun s => [0, 1, 2, s.idIn 2 9, 4, 5]) rfl rfl rfl rfl ?_ ?_ ?_ ?_); (focus (repeat' (first | exact trivial | exact rfl | apply And.intro))); (focus (repeat' (first | exact trivial | exact WBb_sub rfl | (intro b hb; cases hb; rfl) | exact Z.blk_sub rfl rfl (ren_map fun _ => rfl) | exact Z.gB_sub rfl rfl (ren_map fun _ => rfl) | apply And.intro))); (focus (exact ⟨by (try dsimp only); omega, by (try dsimp only); omega, H2, Nat.le_refl _, HP⟩)); ((try dsimp only); omega))))
    · obtain ⟨rfl, rfl, rfl, rfl⟩ := pe_true HP H
      repeat' ((conv => whnf); first
        | with_reducible first | refine spB_t ?_
        | ((with_reducible apply spB_cong); (focus (simp only [beq_self_eq_true, bne_self_eq_false, Bool.true_bne, Bool.false_bne, Bool.bne_true, Bool.bne_false, Bool.true_beq, Bool.false_beq, Bool.not_true, Bool.not_false, Bool.not_not, Int.reduceBEq, Int.reduceBNe, Int.reduceLE, Int.reduceLT, Int.reduceEq, decide_true, decide_false]; rfl)))
        | with_reducible first | refine spB_no (by decide) ?_
        | (with_reducible refine spB_dec ?_ ?_ <;> intro _ <;> (try (exfalso; first | contradiction | omega | (rename_i hz; refine hz ?_; simp; done) | (rename_i hz; simp at hz; done) | (simp only [LN] at *; omega))))
        | (with_reducible refine spB_beq ?_ ?_ <;> intro _ <;> (try (exfalso; first | contradiction | omega | (rename_i hz; refine hz ?_; simp; done) | (rename_i hz; simp at hz; done) | (simp only [LN] at *; omega))))
        | with_reducible first | refine Z.rowN_known hx ?_
        | ((with_reducible refine Z.vN_K h4 ?_ ?_); (focus rfl))
        | ((with_reducible refine posE_pos ?_ ?_); (focus ((try simp only [LN] at *) <;> omega)))
        | ((with_reducible apply ixN_litp); (focus (exact rfl)); (focus ((try simp only [LN] at *) <;> omega)))
        | ((with_reducible refine apdN.mk ?_ ?_ ?_ ?_ ?_ ?_); (focus (first | rfl)); (focus (first | exact one_all (by rfl))); (focus ((try simp only [LN] at *) <;> omega)); (focus ((try simp only [LN] at *) <;> omega)); (focus ((try simp only [LN] at *) <;> omega)))
        | with_reducible first | refine wr_mk _ rfl ?_
        | with_reducible refine nzN_mk (by omega) ?_
        | with_reducible first | refine Z.callZ_in tabOk 153 Try.f37 _ Try.func37 (by kernel_rfl) rfl rfl rfl ?_
        | ((first | (with_reducible refine Z.callZ_mk ?_ (cak) ?_)); (focus ((repeat' (first | exact trivial | exact rfl | apply And.intro)); done)))
        | ((first | (with_reducible refine Z.callZ_mk ?_ (cse2) ?_)); (focus ((repeat' (first | exact trivial | exact rfl | apply And.intro)); done)))
        | ((with_reducible apply ex_and); exact rfl)
        | with_reducible first | refine Z.drawZ_rule tabOk mixOk ?_ | refine Z.apZ_mk (by kernel_rfl) ?_)
      all_goals (try (conv => whnf))
      all_goals try (show Nat.ble _ _ = true; rfl)
      all_goals try (exfalso; rename_i hz; cases hz; done)
      all_goals try (exfalso; (try simp only [LN] at *) <;> omega)
      all_goals (
        refine Z.loopK tabOk (fun zq : Nat × Nat => [(54, .val (.int .i64 (zq.1 : Int)))]) (fun zq : Nat × Nat => ([(11, some (Z.Ob.b ⟨[[.v (.int .u32 7), .v (.int .u64 ((zq.2 : Int) + 1)), .ro true 5 ((bfL ([] : List El) zq.2 0).map eE), .v (.int .i64 rm)]], 4, 55, true⟩)), (10, some (Z.Ob.b ⟨(padP 1 [(⟨2, 7, ((0 : Nat) : Int) + 1, min (((0 : Nat) : Int) + rm) 4611686018427387904, zE⟩ : Pk)]).map cP, 9, 35, false⟩))] : Z.Kr)) (fun zq => zq.1 ≤ Q9.length ∧ LInv rm (i + 1) 0 zq.2 0 l ([] : List El) []) (fun zq => Q9.length - zq.1) (0, 0) 12 [(5, _), (11, _), (25, _), (26, _), (27, _), (52, _), (53, _)] ⟨rfl, rfl, rfl, rfl, rfl, rfl, rfl, trivial⟩ [(2, _), (3, _), (4, _), (5, _), (6, _), (7, _), (8, _), (9, _)] ⟨rfl, rfl, rfl, rfl, rfl, rfl, rfl, rfl, trivial⟩ ?_ ?_ rfl rfl ⟨Nat.zero_le _, H9⟩ ?_
        · repeat' (first | exact trivial | apply And.intro | exact ⟨_, rfl, Z.Imp.refl _⟩)
        · repeat' (first | exact trivial | exact (fun b hb => ⟨b, hb, Z.ImpO.refl b⟩) | apply And.intro)
        rintro ⟨j, M⟩ HINV
        dsimp only at HINV ⊢
        obtain ⟨HJ, HM⟩ := HINV
        by_cases hj : j < Q9.length
        · obtain ⟨y9, hy9⟩ := getElem?_some' (xs := Q9) (i := j) hj
          obtain ⟨k9, hk9a, hk9b, hk9c, hk9d⟩ := hQ9 y9 (List.mem_of_getElem? hy9)
          simp at hk9b
        repeat' ((conv => whnf); first
          | (with_reducible refine spB_dec ?_ ?_ <;> intro _ <;> (try (exfalso; first | contradiction | omega | (rename_i hz; refine hz ?_; simp; done) | (rename_i hz; simp at hz; done) | (simp only [LN] at *; omega))))
          | with_reducible refine wr_i64 (by first | omega | (simp only [LN] at *; omega)) ?_)
        all_goals (try (conv => whnf))
        all_goals try (show Nat.ble _ _ = true; rfl)
        all_goals try (exfalso; rename_i hz; cases hz; done)
        all_goals try (exfalso; (try simp only [LN] at *) <;> omega)
        all_goals first
          | ((refine Z.rnd_bi 2 [[_, _, _, _, _, _, _, _, _, .osl _ 0 1 none, _, _]] rfl rfl ⟨⟨Z.Imp.refl _, Z.Imp.refl _, Z.Imp.refl _, Z.Imp.refl _, Z.Imp.refl _, Z.Imp.refl _, Z.Imp.refl _, Z.Imp.refl _, Z.Imp.refl _, gslo (by exact Nat.zero_lt_one) rfl, Z.Imp.refl _, Z.Imp.refl _, trivial⟩, trivial⟩ ?_); ((refine Z.rndK ((i + 1, 0, 0, 0, l, [], true, (some ([⟨2, 7, ((0 : Nat) : Int) + 1, min (((0 : Nat) : Int) + rm) 4611686018427387904, zE⟩], 1)))) (fun s => [0, 1, 2, s.idIn 2 9, 4, 5]) rfl rfl rfl rfl ?_ ?_ ?_ ?_); (focus (repeat' (first | exact trivial | exact rfl | apply And.intro))); (focus (repeat' (first | exact trivial | exact WBb_sub rfl | (intro b hb; cases hb; rfl) | (intro b hb; cases hb; done) | apply And.intro))); (focus (exact ⟨by (try dsimp only); omega, by (try dsimp only); omega, H2, Nat.le_refl _, HP⟩)); ((try dsimp only); omega))))
  · have hw9 : L.length ≤ N9 := HW
    have hpd : (padP N9 L).length = N9 := padP_len hw9
    have hwl9 : L.length ≤ 8 * i := H.hwl
    cases pe
    · have hp0 : 0 < put.length := pe_false HP
      have hpne : put ≠ [] := fun h9 => by simp [h9] at hp0
      repeat' ((conv => whnf); first
        | with_reducible first | refine spB_t ?_
        | ((with_reducible apply spB_cong); (focus (simp only [beq_self_eq_true, bne_self_eq_false, Bool.true_bne, Bool.false_bne, Bool.bne_true, Bool.bne_false, Bool.true_beq, Bool.false_beq, Bool.not_true, Bool.not_false, Bool.not_not, Int.reduceBEq, Int.reduceBNe, Int.reduceLE, Int.reduceLT, Int.reduceEq, decide_true, decide_false]; rfl)))
        | with_reducible first | refine spB_no (by decide) ?_
        | (with_reducible refine spB_dec ?_ ?_ <;> intro _ <;> (try (exfalso; first | contradiction | omega | (rename_i hz; refine hz ?_; simp; done) | (rename_i hz; simp at hz; done) | (simp only [LN] at *; omega))))
        | (with_reducible refine spB_beq ?_ ?_ <;> intro _ <;> (try (exfalso; first | contradiction | omega | (rename_i hz; refine hz ?_; simp; done) | (rename_i hz; simp at hz; done) | (simp only [LN] at *; omega))))
        | with_reducible first | refine Z.rowN_known hx ?_
        | ((with_reducible refine Z.vN_K h4 ?_ ?_); (focus rfl))
        | ((with_reducible apply ixN_litp); (focus (exact rfl)); (focus ((try simp only [LN] at *) <;> omega)))
        | with_reducible first | refine apdE_n ?_
        | ((with_reducible refine apdN.mk ?_ ?_ ?_ ?_ ?_ ?_); (focus (first | rfl)); (focus (first | exact one_all (by rfl))); (focus ((try simp only [LN] at *) <;> omega)); (focus ((try simp only [LN] at *) <;> omega)); (focus ((try simp only [LN] at *) <;> omega)))
        | with_reducible first | refine wr_mk _ rfl ?_
        | with_reducible refine nzN_mk (by omega) ?_
        | with_reducible first | refine Z.callZ_in tabOk 153 Try.f37 _ Try.func37 (by kernel_rfl) rfl rfl rfl ?_
        | ((first | (with_reducible refine Z.callZ_mk ?_ (cak) ?_)); (focus ((repeat' (first | exact trivial | exact rfl | apply And.intro)); done)))
        | ((first | (with_reducible refine Z.callZ_mk ?_ (cse2) ?_)); (focus ((repeat' (first | exact trivial | exact rfl | apply And.intro)); done)))
        | ((with_reducible apply ex_and); exact rfl)
        | with_reducible first | refine Z.drawZ_rule tabOk mixOk ?_ | refine Z.apZ_mk (by kernel_rfl) ?_)
      all_goals (try (conv => whnf))
      all_goals try (show Nat.ble _ _ = true; rfl)
      all_goals try (exfalso; rename_i hz; cases hz; done)
      all_goals try (exfalso; (try simp only [LN] at *) <;> omega)
      all_goals (
        refine Z.loopK tabOk (fun zq : Nat × Nat => [(54, .val (.int .i64 (zq.1 : Int)))]) (fun zq : Nat × Nat => ([(11, some (Z.Ob.b ⟨[[.v (.int .u32 7), .v (.int .u64 ((zq.2 : Int) + 1)), .ro true 5 ((bfL put zq.2 T).map eE), .v (.int .i64 rm)]], 4, 55, true⟩)), (10, some (Z.Ob.b ⟨(padP (L ++ [(⟨2, 7, (N : Int) + 1, min ((T : Int) + rm) 4611686018427387904, zE⟩ : Pk)]).length (L ++ [(⟨2, 7, (N : Int) + 1, min ((T : Int) + rm) 4611686018427387904, zE⟩ : Pk)])).map cP, 9, 35, false⟩))] : Z.Kr)) (fun zq => zq.1 ≤ Q9.length ∧ LInv rm (i + 1) B zq.2 T l put []) (fun zq => Q9.length - zq.1) (0, N) 12 [(5, _), (11, _), (25, _), (26, _), (27, _), (52, _), (53, _)] ⟨rfl, rfl, rfl, rfl, rfl, rfl, rfl, trivial⟩ [(2, _), (4, _), (5, _), (6, _), (7, _), (8, _), (9, _)] ⟨rfl, rfl, rfl, rfl, rfl, rfl, rfl, trivial⟩ ?_ ?_ rfl rfl ⟨Nat.zero_le _, H9⟩ ?_
        · repeat' (first | exact trivial | apply And.intro | exact ⟨_, rfl, Z.Imp.refl _⟩)
        · repeat' (first | exact trivial | exact (fun b hb => ⟨b, hb, Z.ImpO.refl b⟩) | (intro b hb; cases hb; refine ⟨_, rfl, ⟨rfl, rfl, rfl⟩, Z.imp_eq ?_⟩; exact padP_app rfl rfl; done) | apply And.intro)
        rintro ⟨j, M⟩ HINV
        dsimp only at HINV ⊢
        obtain ⟨HJ, HM⟩ := HINV
        by_cases hj : j < Q9.length
        · obtain ⟨y9, hy9⟩ := getElem?_some' (xs := Q9) (i := j) hj
          obtain ⟨k9, hk9a, hk9b, hk9c, hk9d⟩ := hQ9 y9 (List.mem_of_getElem? hy9)
          have hyok9 : okP put rm M T y9 := by rw [hk9c]; exact ⟨rfl, .inl ⟨rfl, rfl, k9, rfl, hk9b⟩⟩
          have hyse9 : y9.se = 7 := by rw [hk9c]
          have hysq9 : y9.sq = (k9 : Int) + 1 := by rw [hk9c]
          have hykd9 : y9.kd ≠ 2 := by rw [hk9c]; show (1 : Int) ≠ 2; decide
          have hyn9 := hyok9.num HM.hP
          have che := hear_con 7 ((M : Int) + 1) (bfL put M T) rm y9 (by have h9 := HM.hpl; simp only [List.length_take, List.length_drop]; omega) (fun e he => okEs_num HM.hP e (List.mem_of_mem_take (List.mem_of_mem_drop he))) (by omega) hyn9.1 hyn9.2.2
          obtain ⟨M', hM9, hE9, HM2, hgot⟩ := HM.hear (.inl hyok9) hykd9
          rw [hE9] at che
          dsimp only at che
          have hg2 := hgot hyse9
          have hl8 := HM.hl
          have ht8 := HM.hTN
          have hR8 := (okR_all HM.hR).1
          have hbm8 : (List.map eE (bfL put M T)).length = M - T := by rw [List.length_map, bfL_len HM.hNP]
          have hbm7 : (List.map eE (bfL put M' T)).length = M' - T := by rw [List.length_map, bfL_len HM2.hNP]
          have ht7 := HM2.hTN
          by_cases hs9 : y9.sq = (M : Int) + 1
          · have hM8 : M' = M + 1 := hg2 hs9 (by omega)
            repeat' ((conv => whnf); first
              | with_reducible first | refine spB_t ?_
              | ((with_reducible apply spB_cong); (focus (simp only [beq_self_eq_true, bne_self_eq_false, Bool.true_bne, Bool.false_bne, Bool.bne_true, Bool.bne_false, Bool.true_beq, Bool.false_beq, Bool.not_true, Bool.not_false, Bool.not_not, Int.reduceBEq, Int.reduceBNe, Int.reduceLE, Int.reduceLT, Int.reduceEq, decide_true, decide_false]; rfl)))
              | with_reducible first | refine spB_no (by decide) ?_
              | (with_reducible refine spB_dec ?_ ?_ <;> intro _ <;> (try (exfalso; first | contradiction | omega | (rename_i hz; refine hz ?_; simp; done) | (rename_i hz; simp at hz; done) | (simp only [LN] at *; omega))))
              | (with_reducible refine spB_beq ?_ ?_ <;> intro _ <;> (try (exfalso; first | contradiction | omega | (rename_i hz; refine hz ?_; simp; done) | (rename_i hz; simp at hz; done) | (simp only [LN] at *; omega))))
              | (with_reducible refine spB_bne ?_ ?_ <;> intro _ <;> (try (exfalso; first | contradiction | omega | (rename_i hz; refine hz ?_; simp; done) | (rename_i hz; simp at hz; done) | (simp only [LN] at *; omega))))
              | with_reducible first | refine Z.rowN_known hy9 ?_
              | ((with_reducible apply ixN_litp); (focus (exact rfl)); (focus ((try simp only [LN] at *) <;> omega)))
              | with_reducible refine wr_i64 (by first | omega | (simp only [LN] at *; omega)) ?_
              | with_reducible refine wr_u64 (by omega) ?_
              | ((first | (with_reducible refine Z.callZ_mk ?_ (che) ?_)); (focus ((repeat' (first | exact trivial | exact rfl | apply And.intro)); done))))
            all_goals (try (conv => whnf))
            all_goals try (show Nat.ble _ _ = true; rfl)
            all_goals try (exfalso; rename_i hz; cases hz; done)
            all_goals try (exfalso; (try simp only [LN] at *) <;> omega)
            all_goals first
              | ((refine Z.rndK ((j + 1, M')) (fun s => [0, 1, 2, 3, 4, 5, 6, 7, 8, 9, 10, 11]) rfl rfl rfl rfl ?_ ?_ ?_ ?_); (focus (repeat' (first | exact trivial | exact rfl | apply And.intro))); (focus (repeat' (first | exact trivial | (intro b hb; cases hb; first | rfl | (cases w <;> rfl)) | exact Z.blk_sub rfl rfl (ren_map fun _ => rfl) | exact Z.gB_sub rfl rfl (ren_map fun _ => rfl) | apply And.intro))); (focus (exact ⟨by (try dsimp only); omega, HM2⟩)); ((try dsimp only); omega))
          · skip
            repeat' ((conv => whnf); first
              | ((with_reducible apply spB_cong); (focus (simp only [beq_self_eq_true, bne_self_eq_false, Bool.true_bne, Bool.false_bne, Bool.bne_true, Bool.bne_false, Bool.true_beq, Bool.false_beq, Bool.not_true, Bool.not_false, Bool.not_not, Int.reduceBEq, Int.reduceBNe, Int.reduceLE, Int.reduceLT, Int.reduceEq, decide_true, decide_false]; rfl)))
              | with_reducible first | refine spB_no (by decide) ?_
              | (with_reducible refine spB_dec ?_ ?_ <;> intro _ <;> (try (exfalso; first | contradiction | omega | (rename_i hz; refine hz ?_; simp; done) | (rename_i hz; simp at hz; done) | (simp only [LN] at *; omega))))
              | (with_reducible refine spB_beq ?_ ?_ <;> intro _ <;> (try (exfalso; first | contradiction | omega | (rename_i hz; refine hz ?_; simp; done) | (rename_i hz; simp at hz; done) | (simp only [LN] at *; omega))))
              | with_reducible first | refine Z.rowN_known hy9 ?_
              | ((with_reducible apply ixN_litp); (focus (exact rfl)); (focus ((try simp only [LN] at *) <;> omega)))
              | with_reducible refine wr_i64 (by first | omega | (simp only [LN] at *; omega)) ?_
              | with_reducible refine wr_u64 (by omega) ?_
              | ((first | (with_reducible refine Z.callZ_mk ?_ (che) ?_)); (focus ((repeat' (first | exact trivial | exact rfl | apply And.intro)); done))))
            all_goals (try (conv => whnf))
            all_goals try (show Nat.ble _ _ = true; rfl)
            all_goals try (exfalso; rename_i hz; cases hz; done)
            all_goals try (exfalso; (try simp only [LN] at *) <;> omega)
            all_goals first
              | ((refine Z.rndK ((j + 1, M')) (fun s => [0, 1, 2, 3, 4, 5, 6, 7, 8, 9, 10, 11]) rfl rfl rfl rfl ?_ ?_ ?_ ?_); (focus (repeat' (first | exact trivial | exact rfl | apply And.intro))); (focus (repeat' (first | exact trivial | (intro b hb; cases hb; first | rfl | (cases w <;> rfl)) | exact Z.blk_sub rfl rfl (ren_map fun _ => rfl) | exact Z.gB_sub rfl rfl (ren_map fun _ => rfl) | apply And.intro))); (focus (exact ⟨by (try dsimp only); omega, HM2⟩)); ((try dsimp only); omega))
        repeat' ((conv => whnf); first
          | (with_reducible refine spB_dec ?_ ?_ <;> intro _ <;> (try (exfalso; first | contradiction | omega | (rename_i hz; refine hz ?_; simp; done) | (rename_i hz; simp at hz; done) | (simp only [LN] at *; omega))))
          | with_reducible refine wr_i64 (by first | omega | (simp only [LN] at *; omega)) ?_)
        all_goals (try (conv => whnf))
        all_goals try (show Nat.ble _ _ = true; rfl)
        all_goals try (exfalso; rename_i hz; cases hz; done)
        all_goals try (exfalso; (try simp only [LN] at *) <;> omega)
        all_goals first
          | ((refine Z.rnd_bi 2 [[_, _, _, _, _, _, _, _, _, .osl _ 0 (L ++ [(⟨2, 7, (N : Int) + 1, min ((T : Int) + rm) 4611686018427387904, zE⟩ : Pk)]).length none, _, _]] rfl rfl ⟨⟨Z.Imp.refl _, Z.Imp.refl _, Z.Imp.refl _, Z.Imp.refl _, Z.Imp.refl _, Z.Imp.refl _, Z.Imp.refl _, Z.Imp.refl _, Z.Imp.refl _, Z.Imp.oslcn (by simp), Z.Imp.refl _, Z.Imp.refl _, trivial⟩, trivial⟩ ?_); ((refine Z.rndK ((i + 1, B, N, T, l, put, false, (some (L ++ [⟨2, 7, (N : Int) + 1, min ((T : Int) + rm) 4611686018427387904, zE⟩], (L ++ [(⟨2, 7, (N : Int) + 1, min ((T : Int) + rm) 4611686018427387904, zE⟩ : Pk)]).length)))) (fun s => [0, 1, 2, s.idIn 2 9, 4, 5]) rfl rfl rfl rfl ?_ ?_ ?_ ?_); (focus (repeat' (first | exact trivial | exact rfl | apply And.intro))); (focus (repeat' (first | exact trivial | exact WBb_sub rfl | (intro b hb; cases hb; first | rfl | (cases w <;> rfl)) | exact Z.blk_sub rfl rfl (ren_map fun _ => rfl) | exact Z.gB_sub rfl rfl (ren_map fun _ => rfl) | apply And.intro))); (focus (exact ⟨by (try dsimp only); omega, by (try dsimp only); omega, H2, Nat.le_refl _, HP⟩)); ((try dsimp only); omega))))
    · obtain ⟨rfl, rfl, rfl, rfl⟩ := pe_true HP H
      repeat' ((conv => whnf); first
        | with_reducible first | refine spB_t ?_
        | ((with_reducible apply spB_cong); (focus (simp only [beq_self_eq_true, bne_self_eq_false, Bool.true_bne, Bool.false_bne, Bool.bne_true, Bool.bne_false, Bool.true_beq, Bool.false_beq, Bool.not_true, Bool.not_false, Bool.not_not, Int.reduceBEq, Int.reduceBNe, Int.reduceLE, Int.reduceLT, Int.reduceEq, decide_true, decide_false]; rfl)))
        | with_reducible first | refine spB_no (by decide) ?_
        | (with_reducible refine spB_dec ?_ ?_ <;> intro _ <;> (try (exfalso; first | contradiction | omega | (rename_i hz; refine hz ?_; simp; done) | (rename_i hz; simp at hz; done) | (simp only [LN] at *; omega))))
        | (with_reducible refine spB_beq ?_ ?_ <;> intro _ <;> (try (exfalso; first | contradiction | omega | (rename_i hz; refine hz ?_; simp; done) | (rename_i hz; simp at hz; done) | (simp only [LN] at *; omega))))
        | with_reducible first | refine Z.rowN_known hx ?_
        | ((with_reducible refine Z.vN_K h4 ?_ ?_); (focus rfl))
        | ((with_reducible apply ixN_litp); (focus (exact rfl)); (focus ((try simp only [LN] at *) <;> omega)))
        | with_reducible first | refine apdE_n ?_
        | ((with_reducible refine apdN.mk ?_ ?_ ?_ ?_ ?_ ?_); (focus (first | rfl)); (focus (first | exact one_all (by rfl))); (focus ((try simp only [LN] at *) <;> omega)); (focus ((try simp only [LN] at *) <;> omega)); (focus ((try simp only [LN] at *) <;> omega)))
        | with_reducible first | refine wr_mk _ rfl ?_
        | with_reducible refine nzN_mk (by omega) ?_
        | with_reducible first | refine Z.callZ_in tabOk 153 Try.f37 _ Try.func37 (by kernel_rfl) rfl rfl rfl ?_
        | ((first | (with_reducible refine Z.callZ_mk ?_ (cak) ?_)); (focus ((repeat' (first | exact trivial | exact rfl | apply And.intro)); done)))
        | ((first | (with_reducible refine Z.callZ_mk ?_ (cse2) ?_)); (focus ((repeat' (first | exact trivial | exact rfl | apply And.intro)); done)))
        | ((with_reducible apply ex_and); exact rfl)
        | with_reducible first | refine Z.drawZ_rule tabOk mixOk ?_ | refine Z.apZ_mk (by kernel_rfl) ?_)
      all_goals (try (conv => whnf))
      all_goals try (show Nat.ble _ _ = true; rfl)
      all_goals try (exfalso; rename_i hz; cases hz; done)
      all_goals try (exfalso; (try simp only [LN] at *) <;> omega)
      all_goals (
        refine Z.loopK tabOk (fun zq : Nat × Nat => [(54, .val (.int .i64 (zq.1 : Int)))]) (fun zq : Nat × Nat => ([(11, some (Z.Ob.b ⟨[[.v (.int .u32 7), .v (.int .u64 ((zq.2 : Int) + 1)), .ro true 5 ((bfL ([] : List El) zq.2 0).map eE), .v (.int .i64 rm)]], 4, 55, true⟩)), (10, some (Z.Ob.b ⟨(padP (L ++ [(⟨2, 7, ((0 : Nat) : Int) + 1, min (((0 : Nat) : Int) + rm) 4611686018427387904, zE⟩ : Pk)]).length (L ++ [(⟨2, 7, ((0 : Nat) : Int) + 1, min (((0 : Nat) : Int) + rm) 4611686018427387904, zE⟩ : Pk)])).map cP, 9, 35, false⟩))] : Z.Kr)) (fun zq => zq.1 ≤ Q9.length ∧ LInv rm (i + 1) 0 zq.2 0 l ([] : List El) []) (fun zq => Q9.length - zq.1) (0, 0) 12 [(5, _), (11, _), (25, _), (26, _), (27, _), (52, _), (53, _)] ⟨rfl, rfl, rfl, rfl, rfl, rfl, rfl, trivial⟩ [(2, _), (4, _), (5, _), (6, _), (7, _), (8, _), (9, _)] ⟨rfl, rfl, rfl, rfl, rfl, rfl, rfl, trivial⟩ ?_ ?_ rfl rfl ⟨Nat.zero_le _, H9⟩ ?_
        · repeat' (first | exact trivial | apply And.intro | exact ⟨_, rfl, Z.Imp.refl _⟩)
        · repeat' (first | exact trivial | exact (fun b hb => ⟨b, hb, Z.ImpO.refl b⟩) | (intro b hb; cases hb; refine ⟨_, rfl, ⟨rfl, rfl, rfl⟩, Z.imp_eq ?_⟩; exact padP_app rfl rfl; done) | apply And.intro)
        rintro ⟨j, M⟩ HINV
        dsimp only at HINV ⊢
        obtain ⟨HJ, HM⟩ := HINV
        by_cases hj : j < Q9.length
        · obtain ⟨y9, hy9⟩ := getElem?_some' (xs := Q9) (i := j) hj
          obtain ⟨k9, hk9a, hk9b, hk9c, hk9d⟩ := hQ9 y9 (List.mem_of_getElem? hy9)
          simp at hk9b
        repeat' ((conv => whnf); first
          | (with_reducible refine spB_dec ?_ ?_ <;> intro _ <;> (try (exfalso; first | contradiction | omega | (rename_i hz; refine hz ?_; simp; done) | (rename_i hz; simp at hz; done) | (simp only [LN] at *; omega))))
          | with_reducible refine wr_i64 (by first | omega | (simp only [LN] at *; omega)) ?_)
        all_goals (try (conv => whnf))
        all_goals try (show Nat.ble _ _ = true; rfl)
        all_goals try (exfalso; rename_i hz; cases hz; done)
        all_goals try (exfalso; (try simp only [LN] at *) <;> omega)
        all_goals first
          | ((refine Z.rnd_bi 2 [[_, _, _, _, _, _, _, _, _, .osl _ 0 (L ++ [(⟨2, 7, ((0 : Nat) : Int) + 1, min (((0 : Nat) : Int) + rm) 4611686018427387904, zE⟩ : Pk)]).length none, _, _]] rfl rfl ⟨⟨Z.Imp.refl _, Z.Imp.refl _, Z.Imp.refl _, Z.Imp.refl _, Z.Imp.refl _, Z.Imp.refl _, Z.Imp.refl _, Z.Imp.refl _, Z.Imp.refl _, Z.Imp.oslcn (by simp), Z.Imp.refl _, Z.Imp.refl _, trivial⟩, trivial⟩ ?_); ((refine Z.rndK ((i + 1, 0, 0, 0, l, [], true, (some (L ++ [⟨2, 7, ((0 : Nat) : Int) + 1, min (((0 : Nat) : Int) + rm) 4611686018427387904, zE⟩], (L ++ [(⟨2, 7, ((0 : Nat) : Int) + 1, min (((0 : Nat) : Int) + rm) 4611686018427387904, zE⟩ : Pk)]).length)))) (fun s => [0, 1, 2, s.idIn 2 9, 4, 5]) rfl rfl rfl rfl ?_ ?_ ?_ ?_); (focus (repeat' (first | exact trivial | exact rfl | apply And.intro))); (focus (repeat' (first | exact trivial | exact WBb_sub rfl | (intro b hb; cases hb; first | rfl | (cases w <;> rfl)) | (intro b hb; cases hb; done) | apply And.intro))); (focus (exact ⟨by (try dsimp only); omega, by (try dsimp only); omega, H2, Nat.le_refl _, HP⟩)); ((try dsimp only); omega))))
end Go.Proofs.Ytoiadndmbppobaa
namespace Go.Proofs.Ytoiadndmbppobaa
open Go Go.RowKit Wx
set_option linter.unusedVariables false
set_option linter.unusedSimpArgs false
set_option maxHeartbeats 400000000
theorem r_arr0 (rm : Int) (ls : List St) (hl : ls.length ≤ 9223372036854775807) (i B N T : Nat) (l : Int) (put : List El) (pe : Bool) (w : Option (List Pk × Nat)) (HI : i ≤ ls.length) (HB : i ≤ 50) (H : LInv rm i B N T l put (wl w)) (HW : wn w) (HP : pe = true ↔ put = []) (hi : i < ls.length) (kd n : Int) (keeps : Bool) (e : El) (pk : Pk) (hx : ls[i]? = some ⟨kd, n, keeps, e, pk⟩) (hux : 0 ≤ e.num ∧ 0 ≤ pk.sq ∧ 0 ≤ pk.lim ∧ 0 ≤ pk.e.num) (hib : ¬ i = 50) (h4 : ((IntKind.u64.wrap kd).tmod 11 = 5 ∨ (IntKind.u64.wrap kd).tmod 11 = 6 ∨ (IntKind.u64.wrap kd).tmod 11 = 7)) (hw0 : (wl w).length = 0) {Q : Exit → Z.S → Prop} : Z.codeZ Try.prog tab 96 0 none (lbody Try.f9) ⟨gCH 27 (i, B, N, T, l, put, pe, w) ++ gFk 5 25 26 ls, gCK rm (i, B, N, T, l, put, pe, w) ++ [], 6⟩ (loopPost (gRnd rm 27 5 25 26 50 ls (i, B, N, T, l, put, pe, w)) Q) := by
  dsimp only [gCH, gFk, gCK, gRnd]
  rcases h4 with h4 | h4 | h4
  all_goals (
    rcases w with _ | ⟨L, N9⟩
    · have H2 := H.more
      have hqm : (List.map eE (put.drop B)).length = put.length - B := by rw [List.length_map, List.length_drop]
      have hbm : (List.map eE (bfL put N T)).length = N - T := by rw [List.length_map, bfL_len H2.hNP]
      have hq9 : (put.drop B).length = put.length - B := List.length_drop
      have hb9 := bfL_len (T := T) H2.hNP
      have hn9 := H2.hNP
      have hbn9 := H2.hBN
      have htn9 := H2.hTN
      have hR9 := (okR_all H2.hR).1
      have hpl9 := H2.hpl
      have hS9 := (okS_all H2.hS).1
      have H9 := H2.sub (w' := []) (fun p h => nomatch h) (Nat.zero_le _)
      have cse2 := send_con 7 ((B : Int) + 1) (put.drop B) l (endsL put) (by have h9 := H9.hpl; simp only [List.length_take, List.length_drop]; omega) (fun e he => okEs_num H9.hP e (List.mem_of_mem_drop he)) (by omega) H9.hl0
      rw [H9.sent] at cse2
      dsimp only at cse2
      have hQ9 := fun (p : Pk) hp => H9.pks_ok (p := p) hp
      have hql9 := @pks_len 7 l ((B : Int) + 1) (put.drop B)
      generalize pks 7 l ((B : Int) + 1) (put.drop B) = Q9 at *
      cases pe
      · have hp0 : 0 < put.length := pe_false HP
        have hpne : put ≠ [] := fun h9 => by simp [h9] at hp0
        repeat' ((conv => whnf); first
          | with_reducible first | refine spB_t ?_
          | ((with_reducible apply spB_cong); (focus (simp only [beq_self_eq_true, bne_self_eq_false, Bool.true_bne, Bool.false_bne, Bool.bne_true, Bool.bne_false, Bool.true_beq, Bool.false_beq, Bool.not_true, Bool.not_false, Bool.not_not, Int.reduceBEq, Int.reduceBNe, Int.reduceLE, Int.reduceLT, Int.reduceEq, decide_true, decide_false]; rfl)))
          | with_reducible first | refine spB_yes (by decide) ?_ | refine spB_no (by decide) ?_
          | (with_reducible refine spB_dec ?_ ?_ <;> intro _ <;> (try (exfalso; first | contradiction | omega | (rename_i hz; refine hz ?_; simp; done) | (rename_i hz; simp at hz; done) | (simp only [LN] at *; omega))))
          | (with_reducible refine spB_beq ?_ ?_ <;> intro _ <;> (try (exfalso; first | contradiction | omega | (rename_i hz; refine hz ?_; simp; done) | (rename_i hz; simp at hz; done) | (simp only [LN] at *; omega))))
          | with_reducible first | refine Z.rowN_known hx ?_
          | ((with_reducible refine Z.vN_K h4 ?_ ?_); (focus rfl))
          | ((with_reducible apply ixN_litp); (focus (exact rfl)); (focus ((try simp only [LN] at *) <;> omega)))
          | with_reducible first | refine wr_mk _ rfl ?_
          | with_reducible refine nzN_mk (by omega) ?_
          | with_reducible first | refine Z.callZ_in tabOk 153 Try.f37 _ Try.func37 (by kernel_rfl) rfl rfl rfl ?_ | refine Z.callZ_in tabOk 56 Try.f61 _ Try.func61 (by kernel_rfl) rfl rfl rfl ?_
          | ((first | (with_reducible refine Z.callZ_mk ?_ (cse2) ?_)); (focus ((repeat' (first | exact trivial | exact rfl | apply And.intro)); done)))
          | ((with_reducible apply ex_and); exact rfl))
        all_goals (try (conv => whnf))
        all_goals try (show Nat.ble _ _ = true; rfl)
        all_goals try (exfalso; rename_i hz; cases hz; done)
        all_goals try (exfalso; (try simp only [LN] at *) <;> omega)
        all_goals (
          refine Z.loopK tabOk (fun zq : Nat × Nat => [(54, .val (.int .i64 (zq.1 : Int)))]) (fun zq : Nat × Nat => ([(8, some (Z.Ob.b ⟨[[.v (.int .u32 7), .v (.int .u64 ((zq.2 : Int) + 1)), .ro true 5 ((bfL put zq.2 T).map eE), .v (.int .i64 rm)]], 4, 55, true⟩))] : Z.Kr)) (fun zq => zq.1 ≤ Q9.length ∧ LInv rm (i + 1) B zq.2 T l put []) (fun zq => Q9.length - zq.1) (0, N) 9 [(5, _), (11, _), (25, _), (26, _), (27, _), (52, _), (53, _)] ⟨rfl, rfl, rfl, rfl, rfl, rfl, rfl, trivial⟩ [(2, _), (3, _), (4, _), (5, _), (6, _), (7, _)] ⟨rfl, rfl, rfl, rfl, rfl, rfl, trivial⟩ ?_ ?_ rfl rfl ⟨Nat.zero_le _, H9⟩ ?_
          · repeat' (first | exact trivial | apply And.intro | exact ⟨_, rfl, Z.Imp.refl _⟩)
          · repeat' (first | exact trivial | exact (fun b hb => ⟨b, hb, Z.ImpO.refl b⟩) | apply And.intro)
          rintro ⟨j, M⟩ HINV
          dsimp only at HINV ⊢
          obtain ⟨HJ, HM⟩ := HINV
          by_cases hj : j < Q9.length
          · obtain ⟨y9, hy9⟩ := getElem?_some' (xs := Q9) (i := j) hj
            obtain ⟨k9, hk9a, hk9b, hk9c, hk9d⟩ := hQ9 y9 (List.mem_of_getElem? hy9)
            have hyok9 : okP put rm M T y9 := by rw [hk9c]; exact ⟨rfl, .inl ⟨rfl, rfl, k9, rfl, hk9b⟩⟩
            have hyse9 : y9.se = 7 := by rw [hk9c]
            have hysq9 : y9.sq = (k9 : Int) + 1 := by rw [hk9c]
            have hykd9 : y9.kd ≠ 2 := by rw [hk9c]; show (1 : Int) ≠ 2; decide
            have hyn9 := hyok9.num HM.hP
            have che := hear_con 7 ((M : Int) + 1) (bfL put M T) rm y9 (by have h9 := HM.hpl; simp only [List.length_take, List.length_drop]; omega) (fun e he => okEs_num HM.hP e (List.mem_of_mem_take (List.mem_of_mem_drop he))) (by omega) hyn9.1 hyn9.2.2
            obtain ⟨M', hM9, hE9, HM2, hgot⟩ := HM.hear (.inl hyok9) hykd9
            rw [hE9] at che
            dsimp only at che
            have hg2 := hgot hyse9
            have hl8 := HM.hl
            have ht8 := HM.hTN
            have hR8 := (okR_all HM.hR).1
            have hbm8 : (List.map eE (bfL put M T)).length = M - T := by rw [List.length_map, bfL_len HM.hNP]
            have hbm7 : (List.map eE (bfL put M' T)).length = M' - T := by rw [List.length_map, bfL_len HM2.hNP]
            have ht7 := HM2.hTN
            by_cases hs9 : y9.sq = (M : Int) + 1
            · have hM8 : M' = M + 1 := hg2 hs9 (by omega)
              repeat' ((conv => whnf); first
                | with_reducible first | refine spB_t ?_
                | ((with_reducible apply spB_cong); (focus (simp only [beq_self_eq_true, bne_self_eq_false, Bool.true_bne, Bool.false_bne, Bool.bne_true, Bool.bne_false, Bool.true_beq, Bool.false_beq, Bool.not_true, Bool.not_false, Bool.not_not, Int.reduceBEq, Int.reduceBNe, Int.reduceLE, Int.reduceLT, Int.reduceEq, decide_true, decide_false]; rfl)))
                | with_reducible first | refine spB_no (by decide) ?_
                | (with_reducible refine spB_dec ?_ ?_ <;> intro _ <;> (try (exfalso; first | contradiction | omega | (rename_i hz; refine hz ?_; simp; done) | (rename_i hz; simp at hz; done) | (simp only [LN] at *; omega))))
                | (with_reducible refine spB_beq ?_ ?_ <;> intro _ <;> (try (exfalso; first | contradiction | omega | (rename_i hz; refine hz ?_; simp; done) | (rename_i hz; simp at hz; done) | (simp only [LN] at *; omega))))
                | (with_reducible refine spB_bne ?_ ?_ <;> intro _ <;> (try (exfalso; first | contradiction | omega | (rename_i hz; refine hz ?_; simp; done) | (rename_i hz; simp at hz; done) | (simp only [LN] at *; omega))))
                | with_reducible first | refine Z.rowN_known hy9 ?_
                | ((with_reducible apply ixN_litp); (focus (exact rfl)); (focus ((try simp only [LN] at *) <;> omega)))
                | with_reducible refine wr_i64 (by first | omega | (simp only [LN] at *; omega)) ?_
                | with_reducible refine wr_u64 (by omega) ?_
                | ((first | (with_reducible refine Z.callZ_mk ?_ (che) ?_)); (focus ((repeat' (first | exact trivial | exact rfl | apply And.intro)); done))))
              all_goals (try (conv => whnf))
              all_goals try (show Nat.ble _ _ = true; rfl)
              all_goals try (exfalso; rename_i hz; cases hz; done)
              all_goals try (exfalso; (try simp only [LN] at *) <;> omega)
              all_goals first
                | ((refine Z.rndK ((j + 1, M')) (fun s => [0, 1, 2, 3, 4, 5, 6, 7, 8]) rfl rfl rfl rfl ?_ ?_ ?_ ?_); (focus (repeat' (first | exact trivial | exact rfl | apply And.intro))); (focus (repeat' (first | exact trivial | (intro b hb; cases hb; first | rfl | (cases w <;> rfl)) | (intro b hb; cases hb; done) | exact Z.blk_sub rfl rfl (ren_map fun _ => rfl) | exact Z.gB_sub rfl rfl (ren_map fun _ => rfl) | apply And.intro))); (focus (exact ⟨by (try dsimp only); omega, HM2⟩)); ((try dsimp only); omega))
            · skip
              repeat' ((conv => whnf); first
                | ((with_reducible apply spB_cong); (focus (simp only [beq_self_eq_true, bne_self_eq_false, Bool.true_bne, Bool.false_bne, Bool.bne_true, Bool.bne_false, Bool.true_beq, Bool.false_beq, Bool.not_true, Bool.not_false, Bool.not_not, Int.reduceBEq, Int.reduceBNe, Int.reduceLE, Int.reduceLT, Int.reduceEq, decide_true, decide_false]; rfl)))
                | with_reducible first | refine spB_no (by decide) ?_
                | (with_reducible refine spB_dec ?_ ?_ <;> intro _ <;> (try (exfalso; first | contradiction | omega | (rename_i hz; refine hz ?_; simp; done) | (rename_i hz; simp at hz; done) | (simp only [LN] at *; omega))))
                | (with_reducible refine spB_beq ?_ ?_ <;> intro _ <;> (try (exfalso; first | contradiction | omega | (rename_i hz; refine hz ?_; simp; done) | (rename_i hz; simp at hz; done) | (simp only [LN] at *; omega))))
                | with_reducible first | refine Z.rowN_known hy9 ?_
                | ((with_reducible apply ixN_litp); (focus (exact rfl)); (focus ((try simp only [LN] at *) <;> omega)))
                | with_reducible refine wr_i64 (by first | omega | (simp only [LN] at *; omega)) ?_
                | with_reducible refine wr_u64 (by omega) ?_
                | ((first | (with_reducible refine Z.callZ_mk ?_ (che) ?_)); (focus ((repeat' (first | exact trivial | exact rfl | apply And.intro)); done))))
              all_goals (try (conv => whnf))
              all_goals try (show Nat.ble _ _ = true; rfl)
              all_goals try (exfalso; rename_i hz; cases hz; done)
              all_goals try (exfalso; (try simp only [LN] at *) <;> omega)
              all_goals first
                | ((refine Z.rndK ((j + 1, M')) (fun s => [0, 1, 2, 3, 4, 5, 6, 7, 8]) rfl rfl rfl rfl ?_ ?_ ?_ ?_); (focus (repeat' (first | exact trivial | exact rfl | apply And.intro))); (focus (repeat' (first | exact trivial | (intro b hb; cases hb; first | rfl | (cases w <;> rfl)) | (intro b hb; cases hb; done) | exact Z.blk_sub rfl rfl (ren_map fun _ => rfl) | exact Z.gB_sub rfl rfl (ren_map fun _ => rfl) | apply And.intro))); (focus (exact ⟨by (try dsimp only); omega, HM2⟩)); ((try dsimp only); omega))
          repeat' ((conv => whnf); first
            | (with_reducible refine spB_dec ?_ ?_ <;> intro _ <;> (try (exfalso; first | contradiction | omega | (rename_i hz; refine hz ?_; simp; done) | (rename_i hz; simp at hz; done) | (simp only [LN] at *; omega))))
            | with_reducible refine wr_i64 (by first | omega | (simp only [LN] at *; omega)) ?_)
          all_goals (try (conv => whnf))
          all_goals try (show Nat.ble _ _ = true; rfl)
          all_goals try (exfalso; rename_i hz; cases hz; done)
          all_goals try (exfalso; (try simp only [LN] at *) <;> omega)
          all_goals first
            | ((refine Z.rndK ((i + 1, B, N, T, l, put, false, none)) (fun s => [0, 1, 2, 3, 4, 5]) rfl rfl rfl rfl ?_ ?_ ?_ ?_); (focus (repeat' (first | exact trivial | exact rfl | apply And.intro))); (focus (repeat' (first | exact trivial | exact WBb_sub rfl | (intro b hb; cases hb; first | rfl | (cases w <;> rfl)) | exact Z.blk_sub rfl rfl (ren_map fun _ => rfl) | exact Z.gB_sub rfl rfl (ren_map fun _ => rfl) | apply And.intro))); (focus (exact ⟨by (try dsimp only); omega, by (try dsimp only); omega, H2, trivial, HP⟩)); ((try dsimp only); omega)))
      · obtain ⟨rfl, rfl, rfl, rfl⟩ := pe_true HP H
        repeat' ((conv => whnf); first
          | with_reducible first | refine spB_t ?_
          | ((with_reducible apply spB_cong); (focus (simp only [beq_self_eq_true, bne_self_eq_false, Bool.true_bne, Bool.false_bne, Bool.bne_true, Bool.bne_false, Bool.true_beq, Bool.false_beq, Bool.not_true, Bool.not_false, Bool.not_not, Int.reduceBEq, Int.reduceBNe, Int.reduceLE, Int.reduceLT, Int.reduceEq, decide_true, decide_false]; rfl)))
          | with_reducible first | refine spB_yes (by decide) ?_ | refine spB_no (by decide) ?_
          | (with_reducible refine spB_dec ?_ ?_ <;> intro _ <;> (try (exfalso; first | contradiction | omega | (rename_i hz; refine hz ?_; simp; done) | (rename_i hz; simp at hz; done) | (simp only [LN] at *; omega))))
          | (with_reducible refine spB_beq ?_ ?_ <;> intro _ <;> (try (exfalso; first | contradiction | omega | (rename_i hz; refine hz ?_; simp; done) | (rename_i hz; simp at hz; done) | (simp only [LN] at *; omega))))
          | with_reducible first | refine Z.rowN_known hx ?_
          | ((with_reducible refine Z.vN_K h4 ?_ ?_); (focus rfl))
          | ((with_reducible apply ixN_litp); (focus (exact rfl)); (focus ((try simp only [LN] at *) <;> omega)))
          | with_reducible first | refine wr_mk _ rfl ?_
          | with_reducible refine nzN_mk (by omega) ?_
          | with_reducible first | refine Z.callZ_in tabOk 153 Try.f37 _ Try.func37 (by kernel_rfl) rfl rfl rfl ?_ | refine Z.callZ_in tabOk 56 Try.f61 _ Try.func61 (by kernel_rfl) rfl rfl rfl ?_
          | ((first | (with_reducible refine Z.callZ_mk ?_ (cse2) ?_)); (focus ((repeat' (first | exact trivial | exact rfl | apply And.intro)); done)))
          | ((with_reducible apply ex_and); exact rfl))
        all_goals (try (conv => whnf))
        all_goals try (show Nat.ble _ _ = true; rfl)
        all_goals try (exfalso; rename_i hz; cases hz; done)
        all_goals try (exfalso; (try simp only [LN] at *) <;> omega)
        all_goals (
          refine Z.loopK tabOk (fun zq : Nat × Nat => [(54, .val (.int .i64 (zq.1 : Int)))]) (fun zq : Nat × Nat => ([(8, some (Z.Ob.b ⟨[[.v (.int .u32 7), .v (.int .u64 ((zq.2 : Int) + 1)), .ro true 5 ((bfL ([] : List El) zq.2 0).map eE), .v (.int .i64 rm)]], 4, 55, true⟩))] : Z.Kr)) (fun zq => zq.1 ≤ Q9.length ∧ LInv rm (i + 1) 0 zq.2 0 l ([] : List El) []) (fun zq => Q9.length - zq.1) (0, 0) 9 [(5, _), (11, _), (25, _), (26, _), (27, _), (52, _), (53, _)] ⟨rfl, rfl, rfl, rfl, rfl, rfl, rfl, trivial⟩ [(2, _), (3, _), (4, _), (5, _), (6, _), (7, _)] ⟨rfl, rfl, rfl, rfl, rfl, rfl, trivial⟩ ?_ ?_ rfl rfl ⟨Nat.zero_le _, H9⟩ ?_
          · repeat' (first | exact trivial | apply And.intro | exact ⟨_, rfl, Z.Imp.refl _⟩)
          · repeat' (first | exact trivial | exact (fun b hb => ⟨b, hb, Z.ImpO.refl b⟩) | apply And.intro)
          rintro ⟨j, M⟩ HINV
          dsimp only at HINV ⊢
          obtain ⟨HJ, HM⟩ := HINV
          by_cases hj : j < Q9.length
          · obtain ⟨y9, hy9⟩ := getElem?_some' (xs := Q9) (i := j) hj
            obtain ⟨k9, hk9a, hk9b, hk9c, hk9d⟩ := hQ9 y9 (List.mem_of_getElem? hy9)
            simp at hk9b
          repeat' ((conv => whnf); first
            | (with_reducible refine spB_dec ?_ ?_ <;> intro _ <;> (try (exfalso; first | contradiction | omega | (rename_i hz; refine hz ?_; simp; done) | (rename_i hz; simp at hz; done) | (simp only [LN] at *; omega))))
            | with_reducible refine wr_i64 (by first | omega | (simp only [LN] at *; omega)) ?_)
          all_goals (try (conv => whnf))
          all_goals try (show Nat.ble _ _ = true; rfl)
          all_goals try (exfalso; rename_i hz; cases hz; done)
          all_goals try (exfalso; (try simp only [LN] at *) <;> omega)
          all_goals first
            | ((refine Z.rndK ((i + 1, 0, 0, 0, l, [], true, none)) (fun s => [0, 1, 2, 3, 4, 5]) rfl rfl rfl rfl ?_ ?_ ?_ ?_); (focus (repeat' (first | exact trivial | exact rfl | apply And.intro))); (focus (repeat' (first | exact trivial | exact WBb_sub rfl | (intro b hb; cases hb; first | rfl | (cases w <;> rfl)) | (intro b hb; cases hb; done) | apply And.intro))); (focus (exact ⟨by (try dsimp only); omega, by (try dsimp only); omega, H2, trivial, HP⟩)); ((try dsimp only); omega)))
    have hL : L.length = 0 := hw0
    have hw9 : L.length ≤ N9 := HW
    have hpd : (padP N9 L).length = N9 := padP_len hw9
    have H2 := H.more
    have hqm : (List.map eE (put.drop B)).length = put.length - B := by rw [List.length_map, List.length_drop]
    have hbm : (List.map eE (bfL put N T)).length = N - T := by rw [List.length_map, bfL_len H2.hNP]
    have hq9 : (put.drop B).length = put.length - B := List.length_drop
    have hb9 := bfL_len (T := T) H2.hNP
    have hn9 := H2.hNP
    have hbn9 := H2.hBN
    have htn9 := H2.hTN
    have hR9 := (okR_all H2.hR).1
    have hpl9 := H2.hpl
    have hS9 := (okS_all H2.hS).1
    have H9 := H2.sub (w' := []) (fun p h => nomatch h) (Nat.zero_le _)
    have cse2 := send_con 7 ((B : Int) + 1) (put.drop B) l (endsL put) (by have h9 := H9.hpl; simp only [List.length_take, List.length_drop]; omega) (fun e he => okEs_num H9.hP e (List.mem_of_mem_drop he)) (by omega) H9.hl0
    rw [H9.sent] at cse2
    dsimp only at cse2
    have hQ9 := fun (p : Pk) hp => H9.pks_ok (p := p) hp
    have hql9 := @pks_len 7 l ((B : Int) + 1) (put.drop B)
    generalize pks 7 l ((B : Int) + 1) (put.drop B) = Q9 at *
    cases pe
    · have hp0 : 0 < put.length := pe_false HP
      have hpne : put ≠ [] := fun h9 => by simp [h9] at hp0
      repeat' ((conv => whnf); first
        | with_reducible first | refine spB_t ?_
        | ((with_reducible apply spB_cong); (focus (simp only [beq_self_eq_true, bne_self_eq_false, Bool.true_bne, Bool.false_bne, Bool.bne_true, Bool.bne_false, Bool.true_beq, Bool.false_beq, Bool.not_true, Bool.not_false, Bool.not_not, Int.reduceBEq, Int.reduceBNe, Int.reduceLE, Int.reduceLT, Int.reduceEq, decide_true, decide_false]; rfl)))
        | with_reducible first | refine spB_no (by decide) ?_
        | (with_reducible refine spB_dec ?_ ?_ <;> intro _ <;> (try (exfalso; first | contradiction | omega | (rename_i hz; refine hz ?_; simp; done) | (rename_i hz; simp at hz; done) | (simp only [LN] at *; omega))))
        | (with_reducible refine spB_beq ?_ ?_ <;> intro _ <;> (try (exfalso; first | contradiction | omega | (rename_i hz; refine hz ?_; simp; done) | (rename_i hz; simp at hz; done) | (simp only [LN] at *; omega))))
        | with_reducible first | refine Z.rowN_known hx ?_
        | ((with_reducible refine Z.vN_K h4 ?_ ?_); (focus rfl))
        | ((with_reducible apply ixN_litp); (focus (exact rfl)); (focus ((try simp only [LN] at *) <;> omega)))
        | with_reducible first | refine wr_mk _ rfl ?_
        | with_reducible refine nzN_mk (by omega) ?_
        | with_reducible first | refine Z.callZ_in tabOk 153 Try.f37 _ Try.func37 (by kernel_rfl) rfl rfl rfl ?_ | refine Z.callZ_in tabOk 56 Try.f61 _ Try.func61 (by kernel_rfl) rfl rfl rfl ?_
        | ((first | (with_reducible refine Z.callZ_mk ?_ (cse2) ?_)); (focus ((repeat' (first | exact trivial | exact rfl | apply And.intro)); done)))
        | ((with_reducible apply ex_and); exact rfl))
      all_goals (try (conv => whnf))
      all_goals try (show Nat.ble _ _ = true; rfl)
      all_goals try (exfalso; rename_i hz; cases hz; done)
      all_goals try (exfalso; (try simp only [LN] at *) <;> omega)
      all_goals (
        refine Z.loopK tabOk (fun zq : Nat × Nat => [(54, .val (.int .i64 (zq.1 : Int)))]) (fun zq : Nat × Nat => ([(8, some (Z.Ob.b ⟨[[.v (.int .u32 7), .v (.int .u64 ((zq.2 : Int) + 1)), .ro true 5 ((bfL put zq.2 T).map eE), .v (.int .i64 rm)]], 4, 55, true⟩))] : Z.Kr)) (fun zq => zq.1 ≤ Q9.length ∧ LInv rm (i + 1) B zq.2 T l put []) (fun zq => Q9.length - zq.1) (0, N) 9 [(5, _), (11, _), (25, _), (26, _), (27, _), (52, _), (53, _)] ⟨rfl, rfl, rfl, rfl, rfl, rfl, rfl, trivial⟩ [(2, _), (3, _), (4, _), (5, _), (6, _), (7, _)] ⟨rfl, rfl, rfl, rfl, rfl, rfl, trivial⟩ ?_ ?_ rfl rfl ⟨Nat.zero_le _, H9⟩ ?_
        · repeat' (first | exact trivial | apply And.intro | exact ⟨_, rfl, Z.Imp.refl _⟩)
        · repeat' (first | exact trivial | exact (fun b hb => ⟨b, hb, Z.ImpO.refl b⟩) | apply And.intro)
        rintro ⟨j, M⟩ HINV
        dsimp only at HINV ⊢
        obtain ⟨HJ, HM⟩ := HINV
        by_cases hj : j < Q9.length
        · obtain ⟨y9, hy9⟩ := getElem?_some' (xs := Q9) (i := j) hj
          obtain ⟨k9, hk9a, hk9b, hk9c, hk9d⟩ := hQ9 y9 (List.mem_of_getElem? hy9)
          have hyok9 : okP put rm M T y9 := by rw [hk9c]; exact ⟨rfl, .inl ⟨rfl, rfl, k9, rfl, hk9b⟩⟩
          have hyse9 : y9.se = 7 := by rw [hk9c]
          have hysq9 : y9.sq = (k9 : Int) + 1 := by rw [hk9c]
          have hykd9 : y9.kd ≠ 2 := by rw [hk9c]; show (1 : Int) ≠ 2; decide
          have hyn9 := hyok9.num HM.hP
          have che := hear_con 7 ((M : Int) + 1) (bfL put M T) rm y9 (by have h9 := HM.hpl; simp only [List.length_take, List.length_drop]; omega) (fun e he => okEs_num HM.hP e (List.mem_of_mem_take (List.mem_of_mem_drop he))) (by omega) hyn9.1 hyn9.2.2
          obtain ⟨M', hM9, hE9, HM2, hgot⟩ := HM.hear (.inl hyok9) hykd9
          rw [hE9] at che
          dsimp only at che
          have hg2 := hgot hyse9
          have hl8 := HM.hl
          have ht8 := HM.hTN
          have hR8 := (okR_all HM.hR).1
          have hbm8 : (List.map eE (bfL put M T)).length = M - T := by rw [List.length_map, bfL_len HM.hNP]
          have hbm7 : (List.map eE (bfL put M' T)).length = M' - T := by rw [List.length_map, bfL_len HM2.hNP]
          have ht7 := HM2.hTN
          by_cases hs9 : y9.sq = (M : Int) + 1
          · have hM8 : M' = M + 1 := hg2 hs9 (by omega)
            repeat' ((conv => whnf); first
              | with_reducible first | refine spB_t ?_
              | ((with_reducible apply spB_cong); (focus (simp only [beq_self_eq_true, bne_self_eq_false, Bool.true_bne, Bool.false_bne, Bool.bne_true, Bool.bne_false, Bool.true_beq, Bool.false_beq, Bool.not_true, Bool.not_false, Bool.not_not, Int.reduceBEq, Int.reduceBNe, Int.reduceLE, Int.reduceLT, Int.reduceEq, decide_true, decide_false]; rfl)))
              | with_reducible first | refine spB_no (by decide) ?_
              | (with_reducible refine spB_dec ?_ ?_ <;> intro _ <;> (try (exfalso; first | contradiction | omega | (rename_i hz; refine hz ?_; simp; done) | (rename_i hz; simp at hz; done) | (simp only [LN] at *; omega))))
              | (with_reducible refine spB_beq ?_ ?_ <;> intro _ <;> (try (exfalso; first | contradiction | omega | (rename_i hz; refine hz ?_; simp; done) | (rename_i hz; simp at hz; done) | (simp only [LN] at *; omega))))
              | (with_reducible refine spB_bne ?_ ?_ <;> intro _ <;> (try (exfalso; first | contradiction | omega | (rename_i hz; refine hz ?_; simp; done) | (rename_i hz; simp at hz; done) | (simp only [LN] at *; omega))))
              | with_reducible first | refine Z.rowN_known hy9 ?_
              | ((with_reducible apply ixN_litp); (focus (exact rfl)); (focus ((try simp only [LN] at *) <;> omega)))
              | with_reducible refine wr_i64 (by first | omega | (simp only [LN] at *; omega)) ?_
              | with_reducible refine wr_u64 (by omega) ?_
              | ((first | (with_reducible refine Z.callZ_mk ?_ (che) ?_)); (focus ((repeat' (first | exact trivial | exact rfl | apply And.intro)); done))))
            all_goals (try (conv => whnf))
            all_goals try (show Nat.ble _ _ = true; rfl)
            all_goals try (exfalso; rename_i hz; cases hz; done)
            all_goals try (exfalso; (try simp only [LN] at *) <;> omega)
            all_goals first
              | ((refine Z.rndK ((j + 1, M')) (fun s => [0, 1, 2, 3, 4, 5, 6, 7, 8]) rfl rfl rfl rfl ?_ ?_ ?_ ?_); (focus (repeat' (first | exact trivial | exact rfl | apply And.intro))); (focus (repeat' (first | exact trivial | (intro b hb; cases hb; first | rfl | (cases w <;> rfl)) | exact Z.blk_sub rfl rfl (ren_map fun _ => rfl) | exact Z.gB_sub rfl rfl (ren_map fun _ => rfl) | apply And.intro))); (focus (exact ⟨by (try dsimp only); omega, HM2⟩)); ((try dsimp only); omega))
          · skip
            repeat' ((conv => whnf); first
              | ((with_reducible apply spB_cong); (focus (simp only [beq_self_eq_true, bne_self_eq_false, Bool.true_bne, Bool.false_bne, Bool.bne_true, Bool.bne_false, Bool.true_beq, Bool.false_beq, Bool.not_true, Bool.not_false, Bool.not_not, Int.reduceBEq, Int.reduceBNe, Int.reduceLE, Int.reduceLT, Int.reduceEq, decide_true, decide_false]; rfl)))
              | with_reducible first | refine spB_no (by decide) ?_
              | (with_reducible refine spB_dec ?_ ?_ <;> intro _ <;> (try (exfalso; first | contradiction | omega | (rename_i hz; refine hz ?_; simp; done) | (rename_i hz; simp at hz; done) | (simp only [LN] at *; omega))))
              | (with_reducible refine spB_beq ?_ ?_ <;> intro _ <;> (try (exfalso; first | contradiction | omega | (rename_i hz; refine hz ?_; simp; done) | (rename_i hz; simp at hz; done) | (simp only [LN] at *; omega))))
              | with_reducible first | refine Z.rowN_known hy9 ?_
              | ((with_reducible apply ixN_litp); (focus (exact rfl)); (focus ((try simp only [LN] at *) <;> omega)))
              | with_reducible refine wr_i64 (by first | omega | (simp only [LN] at *; omega)) ?_
              | with_reducible refine wr_u64 (by omega) ?_
              | ((first | (with_reducible refine Z.callZ_mk ?_ (che) ?_)); (focus ((repeat' (first | exact trivial | exact rfl | apply And.intro)); done))))
            all_goals (try (conv => whnf))
            all_goals try (show Nat.ble _ _ = true; rfl)
            all_goals try (exfalso; rename_i hz; cases hz; done)
            all_goals try (exfalso; (try simp only [LN] at *) <;> omega)
            all_goals first
              | ((refine Z.rndK ((j + 1, M')) (fun s => [0, 1, 2, 3, 4, 5, 6, 7, 8]) rfl rfl rfl rfl ?_ ?_ ?_ ?_); (focus (repeat' (first | exact trivial | exact rfl | apply And.intro))); (focus (repeat' (first | exact trivial | (intro b hb; cases hb; first | rfl | (cases w <;> rfl)) | exact Z.blk_sub rfl rfl (ren_map fun _ => rfl) | exact Z.gB_sub rfl rfl (ren_map fun _ => rfl) | apply And.intro))); (focus (exact ⟨by (try dsimp only); omega, HM2⟩)); ((try dsimp only); omega))
        repeat' ((conv => whnf); first
          | (with_reducible refine spB_dec ?_ ?_ <;> intro _ <;> (try (exfalso; first | contradiction | omega | (rename_i hz; refine hz ?_; simp; done) | (rename_i hz; simp at hz; done) | (simp only [LN] at *; omega))))
          | with_reducible refine wr_i64 (by first | omega | (simp only [LN] at *; omega)) ?_)
        all_goals (try (conv => whnf))
        all_goals try (show Nat.ble _ _ = true; rfl)
        all_goals try (exfalso; rename_i hz; cases hz; done)
        all_goals try (exfalso; (try simp only [LN] at *) <;> omega)
        all_goals first
          | ((refine Z.rndK ((i + 1, B, N, T, l, put, false, (some (L, N9)))) (fun s => [0, 1, 2, 3, 4, 5]) rfl rfl rfl rfl ?_ ?_ ?_ ?_); (focus (repeat' (first | exact trivial | exact rfl | apply And.intro))); (focus (repeat' (first | exact trivial | exact WBb_sub rfl | (intro b hb; cases hb; first | rfl | (cases w <;> rfl)) | exact Z.blk_sub rfl rfl (ren_map fun _ => rfl) | exact Z.gB_sub rfl rfl (ren_map fun _ => rfl) | apply And.intro))); (focus (exact ⟨by (try dsimp only); omega, by (try dsimp only); omega, H2, HW, HP⟩)); ((try dsimp only); omega)))
    · obtain ⟨rfl, rfl, rfl, rfl⟩ := pe_true HP H
      repeat' ((conv => whnf); first
        | with_reducible first | refine spB_t ?_
        | ((with_reducible apply spB_cong); (focus (simp only [beq_self_eq_true, bne_self_eq_false, Bool.true_bne, Bool.false_bne, Bool.bne_true, Bool.bne_false, Bool.true_beq, Bool.false_beq, Bool.not_true, Bool.not_false, Bool.not_not, Int.reduceBEq, Int.reduceBNe, Int.reduceLE, Int.reduceLT, Int.reduceEq, decide_true, decide_false]; rfl)))
        | with_reducible first | refine spB_no (by decide) ?_
        | (with_reducible refine spB_dec ?_ ?_ <;> intro _ <;> (try (exfalso; first | contradiction | omega | (rename_i hz; refine hz ?_; simp; done) | (rename_i hz; simp at hz; done) | (simp only [LN] at *; omega))))
        | (with_reducible refine spB_beq ?_ ?_ <;> intro _ <;> (try (exfalso; first | contradiction | omega | (rename_i hz; refine hz ?_; simp; done) | (rename_i hz; simp at hz; done) | (simp only [LN] at *; omega))))
        | with_reducible first | refine Z.rowN_known hx ?_
        | ((with_reducible refine Z.vN_K h4 ?_ ?_); (focus rfl))
        | ((with_reducible apply ixN_litp); (focus (exact rfl)); (focus ((try simp only [LN] at *) <;> omega)))
        | with_reducible first | refine wr_mk _ rfl ?_
        | with_reducible refine nzN_mk (by omega) ?_
        | with_reducible first | refine Z.callZ_in tabOk 153 Try.f37 _ Try.func37 (by kernel_rfl) rfl rfl rfl ?_ | refine Z.callZ_in tabOk 56 Try.f61 _ Try.func61 (by kernel_rfl) rfl rfl rfl ?_
        | ((first | (with_reducible refine Z.callZ_mk ?_ (cse2) ?_)); (focus ((repeat' (first | exact trivial | exact rfl | apply And.intro)); done)))
        | ((with_reducible apply ex_and); exact rfl))
      all_goals (try (conv => whnf))
      all_goals try (show Nat.ble _ _ = true; rfl)
      all_goals try (exfalso; rename_i hz; cases hz; done)
      all_goals try (exfalso; (try simp only [LN] at *) <;> omega)
      all_goals (
        refine Z.loopK tabOk (fun zq : Nat × Nat => [(54, .val (.int .i64 (zq.1 : Int)))]) (fun zq : Nat × Nat => ([(8, some (Z.Ob.b ⟨[[.v (.int .u32 7), .v (.int .u64 ((zq.2 : Int) + 1)), .ro true 5 ((bfL ([] : List El) zq.2 0).map eE), .v (.int .i64 rm)]], 4, 55, true⟩))] : Z.Kr)) (fun zq => zq.1 ≤ Q9.length ∧ LInv rm (i + 1) 0 zq.2 0 l ([] : List El) []) (fun zq => Q9.length - zq.1) (0, 0) 9 [(5, _), (11, _), (25, _), (26, _), (27, _), (52, _), (53, _)] ⟨rfl, rfl, rfl, rfl, rfl, rfl, rfl, trivial⟩ [(2, _), (3, _), (4, _), (5, _), (6, _), (7, _)] ⟨rfl, rfl, rfl, rfl, rfl, rfl, trivial⟩ ?_ ?_ rfl rfl ⟨Nat.zero_le _, H9⟩ ?_
        · repeat' (first | exact trivial | apply And.intro | exact ⟨_, rfl, Z.Imp.refl _⟩)
        · repeat' (first | exact trivial | exact (fun b hb => ⟨b, hb, Z.ImpO.refl b⟩) | apply And.intro)
        rintro ⟨j, M⟩ HINV
        dsimp only at HINV ⊢
        obtain ⟨HJ, HM⟩ := HINV
        by_cases hj : j < Q9.length
        · obtain ⟨y9, hy9⟩ := getElem?_some' (xs := Q9) (i := j) hj
          obtain ⟨k9, hk9a, hk9b, hk9c, hk9d⟩ := hQ9 y9 (List.mem_of_getElem? hy9)
          simp at hk9b
        repeat' ((conv => whnf); first
          | (with_reducible refine spB_dec ?_ ?_ <;> intro _ <;> (try (exfalso; first | contradiction | omega | (rename_i hz; refine hz ?_; simp; done) | (rename_i hz; simp at hz; done) | (simp only [LN] at *; omega))))
          | with_reducible refine wr_i64 (by first | omega | (simp only [LN] at *; omega)) ?_)
        all_goals (try (conv => whnf))
        all_goals try (show Nat.ble _ _ = true; rfl)
        all_goals try (exfalso; rename_i hz; cases hz; done)
        all_goals try (exfalso; (try simp only [LN] at *) <;> omega)
        all_goals first
          | ((refine Z.rndK ((i + 1, 0, 0, 0, l, [], true, (some (L, N9)))) (fun s => [0, 1, 2, 3, 4, 5]) rfl rfl rfl rfl ?_ ?_ ?_ ?_); (focus (repeat' (first | exact trivial | exact rfl | apply And.intro))); (focus (repeat' (first | exact trivial | exact WBb_sub rfl | (intro b hb; cases hb; first | rfl | (cases w <;> rfl)) | (intro b hb; cases hb; done) | apply And.intro))); (focus (exact ⟨by (try dsimp only); omega, by (try dsimp only); omega, H2, HW, HP⟩)); ((try dsimp only); omega))))
end Go.Proofs.Ytoiadndmbppobaa
namespace Go.Proofs.Ytoiadndmbppobaa
open Go Go.RowKit Wx
set_option linter.unusedVariables false
set_option linter.unusedSimpArgs false
set_option maxHeartbeats 400000000
theorem r_arrk (rm : Int) (ls : List St) (hl : ls.length ≤ 9223372036854775807) (i B N T : Nat) (l : Int) (put : List El) (pe : Bool) (L : List Pk) (N9 : Nat) (HI : i ≤ ls.length) (HB : i ≤ 50) (H : LInv rm i B N T l put (wl (some (L, N9)))) (HW : wn (some (L, N9))) (HP : pe = true ↔ put = []) (hi : i < ls.length) (kd n : Int)  (e : El) (pk : Pk) (hx : ls[i]? = some ⟨kd, n, true, e, pk⟩) (hux : 0 ≤ e.num ∧ 0 ≤ pk.sq ∧ 0 ≤ pk.lim ∧ 0 ≤ pk.e.num) (hib : ¬ i = 50) (h4 : ((IntKind.u64.wrap kd).tmod 11 = 5 ∨ (IntKind.u64.wrap kd).tmod 11 = 6 ∨ (IntKind.u64.wrap kd).tmod 11 = 7)) (hL : 0 < L.length) {Q : Exit → Z.S → Prop} : Z.codeZ Try.prog tab 96 0 none (lbody Try.f9) ⟨gCH 27 (i, B, N, T, l, put, pe, (some (L, N9))) ++ gFk 5 25 26 ls, gCK rm (i, B, N, T, l, put, pe, (some (L, N9))) ++ [], 6⟩ (loopPost (gRnd rm 27 5 25 26 50 ls (i, B, N, T, l, put, pe, (some (L, N9)))) Q) := by
  dsimp only [gCH, gFk, gCK, gRnd]
  rcases h4 with h4 | h4 | h4
  all_goals (
    have hw9 : L.length ≤ N9 := HW
    have hpd : (padP N9 L).length = N9 := padP_len hw9
    have hwl9 : L.length ≤ 8 * i := H.hwl
    obtain ⟨k, hk1, hkl⟩ := u64_tm (n := n) hL
    obtain ⟨y, hy⟩ := getElem?_some' (xs := L) (i := k) hkl
    have hyok : okP put rm N T y := H.hw y (List.mem_of_getElem? hy)
    have hyn := hyok.num H.hP
    by_cases hk9 : y.kd = 2
    · have cba := acked_con 7 ((B : Int) + 1) (put.drop B) l (endsL put) y (by have h9 := H.hpl; simp only [List.length_take, List.length_drop]; omega) (fun e he => okEs_num H.hP e (List.mem_of_mem_drop he)) (by omega) H.hl0 hyn.1 hyn.2.1
      obtain ⟨B', l', hE, H2, _⟩ := H.back (.inl hyok) hk9 hyn.2.1
      rw [hE] at cba
      dsimp only at cba
      have H3 := H2.more
      have hqm : (List.map eE (put.drop B')).length = put.length - B' := by rw [List.length_map, List.length_drop]
      have hbm : (List.map eE (bfL put N T)).length = N - T := by rw [List.length_map, bfL_len H3.hNP]
      have hq9 : (put.drop B').length = put.length - B' := List.length_drop
      have hb9 := bfL_len (T := T) H3.hNP
      have hn9 := H3.hNP
      have hbn9 := H3.hBN
      have htn9 := H3.hTN
      have hR9 := (okR_all H3.hR).1
      have hpl9 := H3.hpl
      have hS9 := (okS_all H3.hS).1
      have H9 := H3.sub (w' := []) (fun p h => nomatch h) (Nat.zero_le _)
      have cse2 := send_con 7 ((B' : Int) + 1) (put.drop B') l' (endsL put) (by have h9 := H9.hpl; simp only [List.length_take, List.length_drop]; omega) (fun e he => okEs_num H9.hP e (List.mem_of_mem_drop he)) (by omega) H9.hl0
      rw [H9.sent] at cse2
      dsimp only at cse2
      have hQ9 := fun (p : Pk) hp => H9.pks_ok (p := p) hp
      have hql9 := @pks_len 7 l' ((B' : Int) + 1) (put.drop B')
      generalize pks 7 l' ((B' : Int) + 1) (put.drop B') = Q9 at *
      cases pe
      · have hp0 : 0 < put.length := pe_false HP
        have hpne : put ≠ [] := fun h9 => by simp [h9] at hp0
        repeat' ((conv => whnf); first
          | with_reducible first | refine spB_t ?_
          | ((with_reducible apply spB_cong); (focus (simp only [beq_self_eq_true, bne_self_eq_false, Bool.true_bne, Bool.false_bne, Bool.bne_true, Bool.bne_false, Bool.true_beq, Bool.false_beq, Bool.not_true, Bool.not_false, Bool.not_not, Int.reduceBEq, Int.reduceBNe, Int.reduceLE, Int.reduceLT, Int.reduceEq, decide_true, decide_false]; rfl)))
          | with_reducible first | refine spB_no (by decide) ?_
          | (with_reducible refine spB_dec ?_ ?_ <;> intro _ <;> (try (exfalso; first | contradiction | omega | (rename_i hz; refine hz ?_; simp; done) | (rename_i hz; simp at hz; done) | (simp only [LN] at *; omega))))
          | (with_reducible refine spB_beq ?_ ?_ <;> intro _ <;> (try (exfalso; first | contradiction | omega | (rename_i hz; refine hz ?_; simp; done) | (rename_i hz; simp at hz; done) | (simp only [LN] at *; omega))))
          | with_reducible first | refine Z.rowN_known hx ?_
          | ((with_reducible refine Z.vN_K h4 ?_ ?_); (focus rfl))
          | ((with_reducible refine Z.vN_K hk1 ?_ ?_); (focus rfl))
          | ((with_reducible refine ixN_mk k ?_ ?_ ?_); (focus rfl); (focus omega))
          | ((with_reducible refine rowN_mk (cP y) ?_ ?_); (focus (exact padP_at hy)))
          | ((with_reducible apply ixN_litp); (focus (exact rfl)); (focus ((try simp only [LN] at *) <;> omega)))
          | with_reducible refine wr_i64 (by first | omega | (simp only [LN] at *; omega)) ?_
          | with_reducible refine wr_u64 (by omega) ?_
          | with_reducible first | refine wr_mk _ rfl ?_
          | with_reducible refine nzN_mk (by omega) ?_
          | with_reducible first | refine Z.callZ_in tabOk 153 Try.f37 _ Try.func37 (by kernel_rfl) rfl rfl rfl ?_ | refine Z.callZ_in tabOk 42 Try.f39 _ Try.func39 (by kernel_rfl) rfl rfl rfl ?_ | refine Z.callZ_in tabOk 56 Try.f61 _ Try.func61 (by kernel_rfl) rfl rfl rfl ?_
          | ((first | (with_reducible refine Z.conZ_mz ?_ (cba) ?_)); (focus ((repeat' (first | exact trivial | exact rfl | apply And.intro)); done)))
          | ((first | (with_reducible refine Z.callZ_mk ?_ (cse2) ?_)); (focus ((repeat' (first | exact trivial | exact rfl | apply And.intro)); done)))
          | ((with_reducible apply ex_and); exact rfl)
          | with_reducible first | refine Z.drawZ_rule tabOk mixOk ?_ | refine Z.apZ_mk (by kernel_rfl) ?_)
        all_goals (try (conv => whnf))
        all_goals try (show Nat.ble _ _ = true; rfl)
        all_goals try (exfalso; rename_i hz; cases hz; done)
        all_goals try (exfalso; (try simp only [LN] at *) <;> omega)
        all_goals (
          refine Z.loopK tabOk (fun zq : Nat × Nat => [(54, .val (.int .i64 (zq.1 : Int)))]) (fun zq : Nat × Nat => ([(11, some (Z.Ob.b ⟨[[.v (.int .u32 7), .v (.int .u64 ((zq.2 : Int) + 1)), .ro true 5 ((bfL put zq.2 T).map eE), .v (.int .i64 rm)]], 4, 55, true⟩))] : Z.Kr)) (fun zq => zq.1 ≤ Q9.length ∧ LInv rm (i + 1) B' zq.2 T l' put []) (fun zq => Q9.length - zq.1) (0, N) 12 [(5, _), (11, _), (25, _), (26, _), (27, _), (52, _), (53, _)] ⟨rfl, rfl, rfl, rfl, rfl, rfl, rfl, trivial⟩ [(2, _), (3, _), (4, _), (5, _), (6, _), (7, _), (8, _), (9, _), (10, _)] ⟨rfl, rfl, rfl, rfl, rfl, rfl, rfl, rfl, rfl, trivial⟩ ?_ ?_ rfl rfl ⟨Nat.zero_le _, H9⟩ ?_
          · repeat' (first | exact trivial | apply And.intro | exact ⟨_, rfl, Z.Imp.refl _⟩)
          · repeat' (first | exact trivial | exact (fun b hb => ⟨b, hb, Z.ImpO.refl b⟩) | apply And.intro)
          rintro ⟨j, M⟩ HINV
          dsimp only at HINV ⊢
          obtain ⟨HJ, HM⟩ := HINV
          by_cases hj : j < Q9.length
          · obtain ⟨y9, hy9⟩ := getElem?_some' (xs := Q9) (i := j) hj
            obtain ⟨k9, hk9a, hk9b, hk9c, hk9d⟩ := hQ9 y9 (List.mem_of_getElem? hy9)
            have hyok9 : okP put rm M T y9 := by rw [hk9c]; exact ⟨rfl, .inl ⟨rfl, rfl, k9, rfl, hk9b⟩⟩
            have hyse9 : y9.se = 7 := by rw [hk9c]
            have hysq9 : y9.sq = (k9 : Int) + 1 := by rw [hk9c]
            have hykd9 : y9.kd ≠ 2 := by rw [hk9c]; show (1 : Int) ≠ 2; decide
            have hyn9 := hyok9.num HM.hP
            have che := hear_con 7 ((M : Int) + 1) (bfL put M T) rm y9 (by have h9 := HM.hpl; simp only [List.length_take, List.length_drop]; omega) (fun e he => okEs_num HM.hP e (List.mem_of_mem_take (List.mem_of_mem_drop he))) (by omega) hyn9.1 hyn9.2.2
            obtain ⟨M', hM9, hE9, HM2, hgot⟩ := HM.hear (.inl hyok9) hykd9
            rw [hE9] at che
            dsimp only at che
            have hg2 := hgot hyse9
            have hl8 := HM.hl
            have ht8 := HM.hTN
            have hR8 := (okR_all HM.hR).1
            have hbm8 : (List.map eE (bfL put M T)).length = M - T := by rw [List.length_map, bfL_len HM.hNP]
            have hbm7 : (List.map eE (bfL put M' T)).length = M' - T := by rw [List.length_map, bfL_len HM2.hNP]
            have ht7 := HM2.hTN
            by_cases hs9 : y9.sq = (M : Int) + 1
            · have hM8 : M' = M + 1 := hg2 hs9 (by omega)
              repeat' ((conv => whnf); first
                | with_reducible first | refine spB_t ?_
                | ((with_reducible apply spB_cong); (focus (simp only [beq_self_eq_true, bne_self_eq_false, Bool.true_bne, Bool.false_bne, Bool.bne_true, Bool.bne_false, Bool.true_beq, Bool.false_beq, Bool.not_true, Bool.not_false, Bool.not_not, Int.reduceBEq, Int.reduceBNe, Int.reduceLE, Int.reduceLT, Int.reduceEq, decide_true, decide_false]; rfl)))
                | with_reducible first | refine spB_no (by decide) ?_
                | (with_reducible refine spB_dec ?_ ?_ <;> intro _ <;> (try (exfalso; first | contradiction | omega | (rename_i hz; refine hz ?_; simp; done) | (rename_i hz; simp at hz; done) | (simp only [LN] at *; omega))))
                | (with_reducible refine spB_beq ?_ ?_ <;> intro _ <;> (try (exfalso; first | contradiction | omega | (rename_i hz; refine hz ?_; simp; done) | (rename_i hz; simp at hz; done) | (simp only [LN] at *; omega))))
                | (with_reducible refine spB_bne ?_ ?_ <;> intro _ <;> (try (exfalso; first | contradiction | omega | (rename_i hz; refine hz ?_; simp; done) | (rename_i hz; simp at hz; done) | (simp only [LN] at *; omega))))
                | with_reducible first | refine Z.rowN_known hy9 ?_
                | ((with_reducible apply ixN_litp); (focus (exact rfl)); (focus ((try simp only [LN] at *) <;> omega)))
                | with_reducible refine wr_i64 (by first | omega | (simp only [LN] at *; omega)) ?_
                | with_reducible refine wr_u64 (by omega) ?_
                | ((first | (with_reducible refine Z.callZ_mk ?_ (che) ?_)); (focus ((repeat' (first | exact trivial | exact rfl | apply And.intro)); done))))
              all_goals (try (conv => whnf))
              all_goals try (show Nat.ble _ _ = true; rfl)
              all_goals try (exfalso; rename_i hz; cases hz; done)
              all_goals try (exfalso; (try simp only [LN] at *) <;> omega)
              all_goals first
                | ((refine Z.rndK ((j + 1, M')) (fun s => [0, 1, 2, 3, 4, 5, 6, 7, 8, 9, 10, 11]) rfl rfl rfl rfl ?_ ?_ ?_ ?_); (focus (repeat' (first | exact trivial | exact rfl | apply And.intro))); (focus (repeat' (first | exact trivial | (intro b hb; cases hb; first | rfl | (cases w <;> rfl)) | exact Z.blk_sub rfl rfl (ren_map fun _ => rfl) | exact Z.gB_sub rfl rfl (ren_map fun _ => rfl) | apply And.intro))); (focus (exact ⟨by (try dsimp only); omega, HM2⟩)); ((try dsimp only); omega))
            · skip
              repeat' ((conv => whnf); first
                | ((with_reducible apply spB_cong); (focus (simp only [beq_self_eq_true, bne_self_eq_false, Bool.true_bne, Bool.false_bne, Bool.bne_true, Bool.bne_false, Bool.true_beq, Bool.false_beq, Bool.not_true, Bool.not_false, Bool.not_not, Int.reduceBEq, Int.reduceBNe, Int.reduceLE, Int.reduceLT, Int.reduceEq, decide_true, decide_false]; rfl)))
                | with_reducible first | refine spB_no (by decide) ?_
                | (with_reducible refine spB_dec ?_ ?_ <;> intro _ <;> (try (exfalso; first | contradiction | omega | (rename_i hz; refine hz ?_; simp; done) | (rename_i hz; simp at hz; done) | (simp only [LN] at *; omega))))
                | (with_reducible refine spB_beq ?_ ?_ <;> intro _ <;> (try (exfalso; first | contradiction | omega | (rename_i hz; refine hz ?_; simp; done) | (rename_i hz; simp at hz; done) | (simp only [LN] at *; omega))))
                | with_reducible first | refine Z.rowN_known hy9 ?_
                | ((with_reducible apply ixN_litp); (focus (exact rfl)); (focus ((try simp only [LN] at *) <;> omega)))
                | with_reducible refine wr_i64 (by first | omega | (simp only [LN] at *; omega)) ?_
                | with_reducible refine wr_u64 (by omega) ?_
                | ((first | (with_reducible refine Z.callZ_mk ?_ (che) ?_)); (focus ((repeat' (first | exact trivial | exact rfl | apply And.intro)); done))))
              all_goals (try (conv => whnf))
              all_goals try (show Nat.ble _ _ = true; rfl)
              all_goals try (exfalso; rename_i hz; cases hz; done)
              all_goals try (exfalso; (try simp only [LN] at *) <;> omega)
              all_goals first
                | ((refine Z.rndK ((j + 1, M')) (fun s => [0, 1, 2, 3, 4, 5, 6, 7, 8, 9, 10, 11]) rfl rfl rfl rfl ?_ ?_ ?_ ?_); (focus (repeat' (first | exact trivial | exact rfl | apply And.intro))); (focus (repeat' (first | exact trivial | (intro b hb; cases hb; first | rfl | (cases w <;> rfl)) | exact Z.blk_sub rfl rfl (ren_map fun _ => rfl) | exact Z.gB_sub rfl rfl (ren_map fun _ => rfl) | apply And.intro))); (focus (exact ⟨by (try dsimp only); omega, HM2⟩)); ((try dsimp only); omega))
          repeat' ((conv => whnf); first
            | (with_reducible refine spB_dec ?_ ?_ <;> intro _ <;> (try (exfalso; first | contradiction | omega | (rename_i hz; refine hz ?_; simp; done) | (rename_i hz; simp at hz; done) | (simp only [LN] at *; omega))))
            | with_reducible refine wr_i64 (by first | omega | (simp only [LN] at *; omega)) ?_)
          all_goals (try (conv => whnf))
          all_goals try (show Nat.ble _ _ = true; rfl)
          all_goals try (exfalso; rename_i hz; cases hz; done)
          all_goals try (exfalso; (try simp only [LN] at *) <;> omega)
          all_goals first
            | ((refine Z.rndK ((i + 1, B', N, T, l', put, false, (some (L, N9)))) (fun s => [0, 1, 2, 3, 4, 5]) rfl rfl rfl rfl ?_ ?_ ?_ ?_); (focus (repeat' (first | exact trivial | exact rfl | apply And.intro))); (focus (repeat' (first | exact trivial | exact WBb_sub rfl | (intro b hb; cases hb; first | rfl | (cases w <;> rfl)) | exact Z.blk_sub rfl rfl (ren_map fun _ => rfl) | exact Z.gB_sub rfl rfl (ren_map fun _ => rfl) | apply And.intro))); (focus (exact ⟨by (try dsimp only); omega, by (try dsimp only); omega, H3, hw9, HP⟩)); ((try dsimp only); omega)))
      · obtain ⟨rfl, rfl, rfl, rfl⟩ := pe_true HP H
        obtain rfl : B' = 0 := by have h9 := H3.hBN; omega
        repeat' ((conv => whnf); first
          | with_reducible first | refine spB_t ?_
          | ((with_reducible apply spB_cong); (focus (simp only [beq_self_eq_true, bne_self_eq_false, Bool.true_bne, Bool.false_bne, Bool.bne_true, Bool.bne_false, Bool.true_beq, Bool.false_beq, Bool.not_true, Bool.not_false, Bool.not_not, Int.reduceBEq, Int.reduceBNe, Int.reduceLE, Int.reduceLT, Int.reduceEq, decide_true, decide_false]; rfl)))
          | with_reducible first | refine spB_no (by decide) ?_
          | (with_reducible refine spB_dec ?_ ?_ <;> intro _ <;> (try (exfalso; first | contradiction | omega | (rename_i hz; refine hz ?_; simp; done) | (rename_i hz; simp at hz; done) | (simp only [LN] at *; omega))))
          | (with_reducible refine spB_beq ?_ ?_ <;> intro _ <;> (try (exfalso; first | contradiction | omega | (rename_i hz; refine hz ?_; simp; done) | (rename_i hz; simp at hz; done) | (simp only [LN] at *; omega))))
          | with_reducible first | refine Z.rowN_known hx ?_
          | ((with_reducible refine Z.vN_K h4 ?_ ?_); (focus rfl))
          | ((with_reducible refine Z.vN_K hk1 ?_ ?_); (focus rfl))
          | ((with_reducible refine ixN_mk k ?_ ?_ ?_); (focus rfl); (focus omega))
          | ((with_reducible refine rowN_mk (cP y) ?_ ?_); (focus (exact padP_at hy)))
          | ((with_reducible apply ixN_litp); (focus (exact rfl)); (focus ((try simp only [LN] at *) <;> omega)))
          | with_reducible refine wr_i64 (by first | omega | (simp only [LN] at *; omega)) ?_
          | with_reducible refine wr_u64 (by omega) ?_
          | with_reducible first | refine wr_mk _ rfl ?_
          | with_reducible refine nzN_mk (by omega) ?_
          | with_reducible first | refine Z.callZ_in tabOk 153 Try.f37 _ Try.func37 (by kernel_rfl) rfl rfl rfl ?_ | refine Z.callZ_in tabOk 42 Try.f39 _ Try.func39 (by kernel_rfl) rfl rfl rfl ?_ | refine Z.callZ_in tabOk 56 Try.f61 _ Try.func61 (by kernel_rfl) rfl rfl rfl ?_
          | ((first | (with_reducible refine Z.conZ_mz ?_ (cba) ?_)); (focus ((repeat' (first | exact trivial | exact rfl | apply And.intro)); done)))
          | ((first | (with_reducible refine Z.callZ_mk ?_ (cse2) ?_)); (focus ((repeat' (first | exact trivial | exact rfl | apply And.intro)); done)))
          | ((with_reducible apply ex_and); exact rfl)
          | with_reducible first | refine Z.drawZ_rule tabOk mixOk ?_ | refine Z.apZ_mk (by kernel_rfl) ?_)
        all_goals (try (conv => whnf))
        all_goals try (show Nat.ble _ _ = true; rfl)
        all_goals try (exfalso; rename_i hz; cases hz; done)
        all_goals try (exfalso; (try simp only [LN] at *) <;> omega)
        all_goals (
          refine Z.loopK tabOk (fun zq : Nat × Nat => [(54, .val (.int .i64 (zq.1 : Int)))]) (fun zq : Nat × Nat => ([(11, some (Z.Ob.b ⟨[[.v (.int .u32 7), .v (.int .u64 ((zq.2 : Int) + 1)), .ro true 5 ((bfL ([] : List El) zq.2 0).map eE), .v (.int .i64 rm)]], 4, 55, true⟩))] : Z.Kr)) (fun zq => zq.1 ≤ Q9.length ∧ LInv rm (i + 1) 0 zq.2 0 l' ([] : List El) []) (fun zq => Q9.length - zq.1) (0, 0) 12 [(5, _), (11, _), (25, _), (26, _), (27, _), (52, _), (53, _)] ⟨rfl, rfl, rfl, rfl, rfl, rfl, rfl, trivial⟩ [(2, _), (3, _), (4, _), (5, _), (6, _), (7, _), (8, _), (9, _), (10, _)] ⟨rfl, rfl, rfl, rfl, rfl, rfl, rfl, rfl, rfl, trivial⟩ ?_ ?_ rfl rfl ⟨Nat.zero_le _, H9⟩ ?_
          · repeat' (first | exact trivial | apply And.intro | exact ⟨_, rfl, Z.Imp.refl _⟩)
          · repeat' (first | exact trivial | exact (fun b hb => ⟨b, hb, Z.ImpO.refl b⟩) | apply And.intro)
          rintro ⟨j, M⟩ HINV
          dsimp only at HINV ⊢
          obtain ⟨HJ, HM⟩ := HINV
          by_cases hj : j < Q9.length
          · obtain ⟨y9, hy9⟩ := getElem?_some' (xs := Q9) (i := j) hj
            obtain ⟨k9, hk9a, hk9b, hk9c, hk9d⟩ := hQ9 y9 (List.mem_of_getElem? hy9)
            simp at hk9b
          repeat' ((conv => whnf); first
            | (with_reducible refine spB_dec ?_ ?_ <;> intro _ <;> (try (exfalso; first | contradiction | omega | (rename_i hz; refine hz ?_; simp; done) | (rename_i hz; simp at hz; done) | (simp only [LN] at *; omega))))
            | with_reducible refine wr_i64 (by first | omega | (simp only [LN] at *; omega)) ?_)
          all_goals (try (conv => whnf))
          all_goals try (show Nat.ble _ _ = true; rfl)
          all_goals try (exfalso; rename_i hz; cases hz; done)
          all_goals try (exfalso; (try simp only [LN] at *) <;> omega)
          all_goals first
            | ((refine Z.rndK ((i + 1, 0, 0, 0, l', [], true, (some (L, N9)))) (fun s => [0, 1, 2, 3, 4, 5]) rfl rfl rfl rfl ?_ ?_ ?_ ?_); (focus (repeat' (first | exact trivial | exact rfl | apply And.intro))); (focus (repeat' (first | exact trivial | exact WBb_sub rfl | (intro b hb; cases hb; first | rfl | (cases w <;> rfl)) | (intro b hb; cases hb; done) | apply And.intro))); (focus (exact ⟨by (try dsimp only); omega, by (try dsimp only); omega, H3, hw9, HP⟩)); ((try dsimp only); omega)))
    · have che := hear_con 7 ((N : Int) + 1) (bfL put N T) rm y (by have h9 := H.hpl; simp only [List.length_take, List.length_drop]; omega) (fun e he => okEs_num H.hP e (List.mem_of_mem_take (List.mem_of_mem_drop he))) (by omega) hyn.1 hyn.2.2
      obtain ⟨N', hN9, hE, H2, _⟩ := H.hear (.inl hyok) hk9
      rw [hE] at che
      dsimp only at che
      have H3 := H2.more
      have hqm : (List.map eE (put.drop B)).length = put.length - B := by rw [List.length_map, List.length_drop]
      have hbm : (List.map eE (bfL put N' T)).length = N' - T := by rw [List.length_map, bfL_len H3.hNP]
      have hq9 : (put.drop B).length = put.length - B := List.length_drop
      have hb9 := bfL_len (T := T) H3.hNP
      have hn9 := H3.hNP
      have hbn9 := H3.hBN
      have htn9 := H3.hTN
      have hR9 := (okR_all H3.hR).1
      have hpl9 := H3.hpl
      have hS9 := (okS_all H3.hS).1
      have H9 := H3.sub (w' := []) (fun p h => nomatch h) (Nat.zero_le _)
      have cse2 := send_con 7 ((B : Int) + 1) (put.drop B) l (endsL put) (by have h9 := H9.hpl; simp only [List.length_take, List.length_drop]; omega) (fun e he => okEs_num H9.hP e (List.mem_of_mem_drop he)) (by omega) H9.hl0
      rw [H9.sent] at cse2
      dsimp only at cse2
      have hQ9 := fun (p : Pk) hp => H9.pks_ok (p := p) hp
      have hql9 := @pks_len 7 l ((B : Int) + 1) (put.drop B)
      generalize pks 7 l ((B : Int) + 1) (put.drop B) = Q9 at *
      cases pe
      · have hp0 : 0 < put.length := pe_false HP
        have hpne : put ≠ [] := fun h9 => by simp [h9] at hp0
        repeat' ((conv => whnf); first
          | with_reducible first | refine spB_t ?_
          | ((with_reducible apply spB_cong); (focus (simp only [beq_self_eq_true, bne_self_eq_false, Bool.true_bne, Bool.false_bne, Bool.bne_true, Bool.bne_false, Bool.true_beq, Bool.false_beq, Bool.not_true, Bool.not_false, Bool.not_not, Int.reduceBEq, Int.reduceBNe, Int.reduceLE, Int.reduceLT, Int.reduceEq, decide_true, decide_false]; rfl)))
          | with_reducible first | refine spB_no (by decide) ?_
          | (with_reducible refine spB_dec ?_ ?_ <;> intro _ <;> (try (exfalso; first | contradiction | omega | (rename_i hz; refine hz ?_; simp; done) | (rename_i hz; simp at hz; done) | (simp only [LN] at *; omega))))
          | (with_reducible refine spB_beq ?_ ?_ <;> intro _ <;> (try (exfalso; first | contradiction | omega | (rename_i hz; refine hz ?_; simp; done) | (rename_i hz; simp at hz; done) | (simp only [LN] at *; omega))))
          | with_reducible first | refine Z.rowN_known hx ?_
          | ((with_reducible refine Z.vN_K h4 ?_ ?_); (focus rfl))
          | ((with_reducible refine Z.vN_K hk1 ?_ ?_); (focus rfl))
          | ((with_reducible refine ixN_mk k ?_ ?_ ?_); (focus rfl); (focus omega))
          | ((with_reducible refine rowN_mk (cP y) ?_ ?_); (focus (exact padP_at hy)))
          | ((with_reducible apply ixN_litp); (focus (exact rfl)); (focus ((try simp only [LN] at *) <;> omega)))
          | with_reducible refine wr_i64 (by first | omega | (simp only [LN] at *; omega)) ?_
          | with_reducible refine wr_u64 (by omega) ?_
          | with_reducible first | refine wr_mk _ rfl ?_
          | with_reducible refine nzN_mk (by omega) ?_
          | with_reducible first | refine Z.callZ_in tabOk 153 Try.f37 _ Try.func37 (by kernel_rfl) rfl rfl rfl ?_ | refine Z.callZ_in tabOk 42 Try.f39 _ Try.func39 (by kernel_rfl) rfl rfl rfl ?_ | refine Z.callZ_in tabOk 56 Try.f61 _ Try.func61 (by kernel_rfl) rfl rfl rfl ?_
          | ((first | (with_reducible refine Z.conZ_mz ?_ (che) ?_)); (focus ((repeat' (first | exact trivial | exact rfl | apply And.intro)); done)))
          | ((first | (with_reducible refine Z.callZ_mk ?_ (cse2) ?_)); (focus ((repeat' (first | exact trivial | exact rfl | apply And.intro)); done)))
          | ((with_reducible apply ex_and); exact rfl)
          | with_reducible first | refine Z.drawZ_rule tabOk mixOk ?_ | refine Z.apZ_mk (by kernel_rfl) ?_)
        all_goals (try (conv => whnf))
        all_goals try (show Nat.ble _ _ = true; rfl)
        all_goals try (exfalso; rename_i hz; cases hz; done)
        all_goals try (exfalso; (try simp only [LN] at *) <;> omega)
        all_goals (
          refine Z.loopK tabOk (fun zq : Nat × Nat => [(54, .val (.int .i64 (zq.1 : Int)))]) (fun zq : Nat × Nat => ([(11, some (Z.Ob.b ⟨[[.v (.int .u32 7), .v (.int .u64 ((zq.2 : Int) + 1)), .ro true 5 ((bfL put zq.2 T).map eE), .v (.int .i64 rm)]], 4, 55, true⟩))] : Z.Kr)) (fun zq => zq.1 ≤ Q9.length ∧ LInv rm (i + 1) B zq.2 T l put []) (fun zq => Q9.length - zq.1) (0, N') 12 [(5, _), (11, _), (25, _), (26, _), (27, _), (52, _), (53, _)] ⟨rfl, rfl, rfl, rfl, rfl, rfl, rfl, trivial⟩ [(2, _), (3, _), (4, _), (5, _), (6, _), (7, _), (8, _), (9, _), (10, _)] ⟨rfl, rfl, rfl, rfl, rfl, rfl, rfl, rfl, rfl, trivial⟩ ?_ ?_ rfl rfl ⟨Nat.zero_le _, H9⟩ ?_
          · repeat' (first | exact trivial | apply And.intro | exact ⟨_, rfl, Z.Imp.refl _⟩)
          · repeat' (first | exact trivial | exact (fun b hb => ⟨b, hb, Z.ImpO.refl b⟩) | apply And.intro)
          rintro ⟨j, M⟩ HINV
          dsimp only at HINV ⊢
          obtain ⟨HJ, HM⟩ := HINV
          by_cases hj : j < Q9.length
          · obtain ⟨y9, hy9⟩ := getElem?_some' (xs := Q9) (i := j) hj
            obtain ⟨k9, hk9a, hk9b, hk9c, hk9d⟩ := hQ9 y9 (List.mem_of_getElem? hy9)
            have hyok9 : okP put rm M T y9 := by rw [hk9c]; exact ⟨rfl, .inl ⟨rfl, rfl, k9, rfl, hk9b⟩⟩
            have hyse9 : y9.se = 7 := by rw [hk9c]
            have hysq9 : y9.sq = (k9 : Int) + 1 := by rw [hk9c]
            have hykd9 : y9.kd ≠ 2 := by rw [hk9c]; show (1 : Int) ≠ 2; decide
            have hyn9 := hyok9.num HM.hP
            have che := hear_con 7 ((M : Int) + 1) (bfL put M T) rm y9 (by have h9 := HM.hpl; simp only [List.length_take, List.length_drop]; omega) (fun e he => okEs_num HM.hP e (List.mem_of_mem_take (List.mem_of_mem_drop he))) (by omega) hyn9.1 hyn9.2.2
            obtain ⟨M', hM9, hE9, HM2, hgot⟩ := HM.hear (.inl hyok9) hykd9
            rw [hE9] at che
            dsimp only at che
            have hg2 := hgot hyse9
            have hl8 := HM.hl
            have ht8 := HM.hTN
            have hR8 := (okR_all HM.hR).1
            have hbm8 : (List.map eE (bfL put M T)).length = M - T := by rw [List.length_map, bfL_len HM.hNP]
            have hbm7 : (List.map eE (bfL put M' T)).length = M' - T := by rw [List.length_map, bfL_len HM2.hNP]
            have ht7 := HM2.hTN
            by_cases hs9 : y9.sq = (M : Int) + 1
            · have hM8 : M' = M + 1 := hg2 hs9 (by omega)
              repeat' ((conv => whnf); first
                | with_reducible first | refine spB_t ?_
                | ((with_reducible apply spB_cong); (focus (simp only [beq_self_eq_true, bne_self_eq_false, Bool.true_bne, Bool.false_bne, Bool.bne_true, Bool.bne_false, Bool.true_beq, Bool.false_beq, Bool.not_true, Bool.not_false, Bool.not_not, Int.reduceBEq, Int.reduceBNe, Int.reduceLE, Int.reduceLT, Int.reduceEq, decide_true, decide_false]; rfl)))
                | with_reducible first | refine spB_no (by decide) ?_
                | (with_reducible refine spB_dec ?_ ?_ <;> intro _ <;> (try (exfalso; first | contradiction | omega | (rename_i hz; refine hz ?_; simp; done) | (rename_i hz; simp at hz; done) | (simp only [LN] at *; omega))))
                | (with_reducible refine spB_beq ?_ ?_ <;> intro _ <;> (try (exfalso; first | contradiction | omega | (rename_i hz; refine hz ?_; simp; done) | (rename_i hz; simp at hz; done) | (simp only [LN] at *; omega))))
                | (with_reducible refine spB_bne ?_ ?_ <;> intro _ <;> (try (exfalso; first | contradiction | omega | (rename_i hz; refine hz ?_; simp; done) | (rename_i hz; simp at hz; done) | (simp only [LN] at *; omega))))
                | with_reducible first | refine Z.rowN_known hy9 ?_
                | ((with_reducible apply ixN_litp); (focus (exact rfl)); (focus ((try simp only [LN] at *) <;> omega)))
                | with_reducible refine wr_i64 (by first | omega | (simp only [LN] at *; omega)) ?_
                | with_reducible refine wr_u64 (by omega) ?_
                | ((first | (with_reducible refine Z.callZ_mk ?_ (che) ?_)); (focus ((repeat' (first | exact trivial | exact rfl | apply And.intro)); done))))
              all_goals (try (conv => whnf))
              all_goals try (show Nat.ble _ _ = true; rfl)
              all_goals try (exfalso; rename_i hz; cases hz; done)
              all_goals try (exfalso; (try simp only [LN] at *) <;> omega)
              all_goals first
                | ((refine Z.rndK ((j + 1, M')) (fun s => [0, 1, 2, 3, 4, 5, 6, 7, 8, 9, 10, 11]) rfl rfl rfl rfl ?_ ?_ ?_ ?_); (focus (repeat' (first | exact trivial | exact rfl | apply And.intro))); (focus (repeat' (first | exact trivial | (intro b hb; cases hb; first | rfl | (cases w <;> rfl)) | exact Z.blk_sub rfl rfl (ren_map fun _ => rfl) | exact Z.gB_sub rfl rfl (ren_map fun _ => rfl) | apply And.intro))); (focus (exact ⟨by (try dsimp only); omega, HM2⟩)); ((try dsimp only); omega))
            · skip
              repeat' ((conv => whnf); first
                | ((with_reducible apply spB_cong); (focus (simp only [beq_self_eq_true, bne_self_eq_false, Bool.true_bne, Bool.false_bne, Bool.bne_true, Bool.bne_false, Bool.true_beq, Bool.false_beq, Bool.not_true, Bool.not_false, Bool.not_not, Int.reduceBEq, Int.reduceBNe, Int.reduceLE, Int.reduceLT, Int.reduceEq, decide_true, decide_false]; rfl)))
                | with_reducible first | refine spB_no (by decide) ?_
                | (with_reducible refine spB_dec ?_ ?_ <;> intro _ <;> (try (exfalso; first | contradiction | omega | (rename_i hz; refine hz ?_; simp; done) | (rename_i hz; simp at hz; done) | (simp only [LN] at *; omega))))
                | (with_reducible refine spB_beq ?_ ?_ <;> intro _ <;> (try (exfalso; first | contradiction | omega | (rename_i hz; refine hz ?_; simp; done) | (rename_i hz; simp at hz; done) | (simp only [LN] at *; omega))))
                | with_reducible first | refine Z.rowN_known hy9 ?_
                | ((with_reducible apply ixN_litp); (focus (exact rfl)); (focus ((try simp only [LN] at *) <;> omega)))
                | with_reducible refine wr_i64 (by first | omega | (simp only [LN] at *; omega)) ?_
                | with_reducible refine wr_u64 (by omega) ?_
                | ((first | (with_reducible refine Z.callZ_mk ?_ (che) ?_)); (focus ((repeat' (first | exact trivial | exact rfl | apply And.intro)); done))))
              all_goals (try (conv => whnf))
              all_goals try (show Nat.ble _ _ = true; rfl)
              all_goals try (exfalso; rename_i hz; cases hz; done)
              all_goals try (exfalso; (try simp only [LN] at *) <;> omega)
              all_goals first
                | ((refine Z.rndK ((j + 1, M')) (fun s => [0, 1, 2, 3, 4, 5, 6, 7, 8, 9, 10, 11]) rfl rfl rfl rfl ?_ ?_ ?_ ?_); (focus (repeat' (first | exact trivial | exact rfl | apply And.intro))); (focus (repeat' (first | exact trivial | (intro b hb; cases hb; first | rfl | (cases w <;> rfl)) | exact Z.blk_sub rfl rfl (ren_map fun _ => rfl) | exact Z.gB_sub rfl rfl (ren_map fun _ => rfl) | apply And.intro))); (focus (exact ⟨by (try dsimp only); omega, HM2⟩)); ((try dsimp only); omega))
          repeat' ((conv => whnf); first
            | (with_reducible refine spB_dec ?_ ?_ <;> intro _ <;> (try (exfalso; first | contradiction | omega | (rename_i hz; refine hz ?_; simp; done) | (rename_i hz; simp at hz; done) | (simp only [LN] at *; omega))))
            | with_reducible refine wr_i64 (by first | omega | (simp only [LN] at *; omega)) ?_)
          all_goals (try (conv => whnf))
          all_goals try (show Nat.ble _ _ = true; rfl)
          all_goals try (exfalso; rename_i hz; cases hz; done)
          all_goals try (exfalso; (try simp only [LN] at *) <;> omega)
          all_goals first
            | ((refine Z.rndK ((i + 1, B, N', T, l, put, false, (some (L, N9)))) (fun s => [0, 1, 2, 3, 4, 5]) rfl rfl rfl rfl ?_ ?_ ?_ ?_); (focus (repeat' (first | exact trivial | exact rfl | apply And.intro))); (focus (repeat' (first | exact trivial | exact WBb_sub rfl | (intro b hb; cases hb; first | rfl | (cases w <;> rfl)) | exact Z.blk_sub rfl rfl (ren_map fun _ => rfl) | exact Z.gB_sub rfl rfl (ren_map fun _ => rfl) | apply And.intro))); (focus (exact ⟨by (try dsimp only); omega, by (try dsimp only); omega, H3, hw9, HP⟩)); ((try dsimp only); omega)))
      · obtain ⟨rfl, rfl, rfl, rfl⟩ := pe_true HP H
        obtain rfl : N' = 0 := by have h9 := H3.hNP; simpa using h9
        repeat' ((conv => whnf); first
          | with_reducible first | refine spB_t ?_
          | ((with_reducible apply spB_cong); (focus (simp only [beq_self_eq_true, bne_self_eq_false, Bool.true_bne, Bool.false_bne, Bool.bne_true, Bool.bne_false, Bool.true_beq, Bool.false_beq, Bool.not_true, Bool.not_false, Bool.not_not, Int.reduceBEq, Int.reduceBNe, Int.reduceLE, Int.reduceLT, Int.reduceEq, decide_true, decide_false]; rfl)))
          | with_reducible first | refine spB_no (by decide) ?_
          | (with_reducible refine spB_dec ?_ ?_ <;> intro _ <;> (try (exfalso; first | contradiction | omega | (rename_i hz; refine hz ?_; simp; done) | (rename_i hz; simp at hz; done) | (simp only [LN] at *; omega))))
          | (with_reducible refine spB_beq ?_ ?_ <;> intro _ <;> (try (exfalso; first | contradiction | omega | (rename_i hz; refine hz ?_; simp; done) | (rename_i hz; simp at hz; done) | (simp only [LN] at *; omega))))
          | with_reducible first | refine Z.rowN_known hx ?_
          | ((with_reducible refine Z.vN_K h4 ?_ ?_); (focus rfl))
          | ((with_reducible refine Z.vN_K hk1 ?_ ?_); (focus rfl))
          | ((with_reducible refine ixN_mk k ?_ ?_ ?_); (focus rfl); (focus omega))
          | ((with_reducible refine rowN_mk (cP y) ?_ ?_); (focus (exact padP_at hy)))
          | ((with_reducible apply ixN_litp); (focus (exact rfl)); (focus ((try simp only [LN] at *) <;> omega)))
          | with_reducible refine wr_i64 (by first | omega | (simp only [LN] at *; omega)) ?_
          | with_reducible refine wr_u64 (by omega) ?_
          | with_reducible first | refine wr_mk _ rfl ?_
          | with_reducible refine nzN_mk (by omega) ?_
          | with_reducible first | refine Z.callZ_in tabOk 153 Try.f37 _ Try.func37 (by kernel_rfl) rfl rfl rfl ?_ | refine Z.callZ_in tabOk 42 Try.f39 _ Try.func39 (by kernel_rfl) rfl rfl rfl ?_ | refine Z.callZ_in tabOk 56 Try.f61 _ Try.func61 (by kernel_rfl) rfl rfl rfl ?_
          | ((first | (with_reducible refine Z.conZ_mz ?_ (che) ?_)); (focus ((repeat' (first | exact trivial | exact rfl | apply And.intro)); done)))
          | ((first | (with_reducible refine Z.callZ_mk ?_ (cse2) ?_)); (focus ((repeat' (first | exact trivial | exact rfl | apply And.intro)); done)))
          | ((with_reducible apply ex_and); exact rfl)
          | with_reducible first | refine Z.drawZ_rule tabOk mixOk ?_ | refine Z.apZ_mk (by kernel_rfl) ?_)
        all_goals (try (conv => whnf))
        all_goals try (show Nat.ble _ _ = true; rfl)
        all_goals try (exfalso; rename_i hz; cases hz; done)
        all_goals try (exfalso; (try simp only [LN] at *) <;> omega)
        all_goals (
          refine Z.loopK tabOk (fun zq : Nat × Nat => [(54, .val (.int .i64 (zq.1 : Int)))]) (fun zq : Nat × Nat => ([(11, some (Z.Ob.b ⟨[[.v (.int .u32 7), .v (.int .u64 ((zq.2 : Int) + 1)), .ro true 5 ((bfL ([] : List El) zq.2 0).map eE), .v (.int .i64 rm)]], 4, 55, true⟩))] : Z.Kr)) (fun zq => zq.1 ≤ Q9.length ∧ LInv rm (i + 1) 0 zq.2 0 l ([] : List El) []) (fun zq => Q9.length - zq.1) (0, 0) 12 [(5, _), (11, _), (25, _), (26, _), (27, _), (52, _), (53, _)] ⟨rfl, rfl, rfl, rfl, rfl, rfl, rfl, trivial⟩ [(2, _), (3, _), (4, _), (5, _), (6, _), (7, _), (8, _), (9, _), (10, _)] ⟨rfl, rfl, rfl, rfl, rfl, rfl, rfl, rfl, rfl, trivial⟩ ?_ ?_ rfl rfl ⟨Nat.zero_le _, H9⟩ ?_
          · repeat' (first | exact trivial | apply And.intro | exact ⟨_, rfl, Z.Imp.refl _⟩)
          · repeat' (first | exact trivial | exact (fun b hb => ⟨b, hb, Z.ImpO.refl b⟩) | apply And.intro)
          rintro ⟨j, M⟩ HINV
          dsimp only at HINV ⊢
          obtain ⟨HJ, HM⟩ := HINV
          by_cases hj : j < Q9.length
          · obtain ⟨y9, hy9⟩ := getElem?_some' (xs := Q9) (i := j) hj
            obtain ⟨k9, hk9a, hk9b, hk9c, hk9d⟩ := hQ9 y9 (List.mem_of_getElem? hy9)
            simp at hk9b
          repeat' ((conv => whnf); first
            | (with_reducible refine spB_dec ?_ ?_ <;> intro _ <;> (try (exfalso; first | contradiction | omega | (rename_i hz; refine hz ?_; simp; done) | (rename_i hz; simp at hz; done) | (simp only [LN] at *; omega))))
            | with_reducible refine wr_i64 (by first | omega | (simp only [LN] at *; omega)) ?_)
          all_goals (try (conv => whnf))
          all_goals try (show Nat.ble _ _ = true; rfl)
          all_goals try (exfalso; rename_i hz; cases hz; done)
          all_goals try (exfalso; (try simp only [LN] at *) <;> omega)
          all_goals first
            | ((refine Z.rndK ((i + 1, 0, 0, 0, l, [], true, (some (L, N9)))) (fun s => [0, 1, 2, 3, 4, 5]) rfl rfl rfl rfl ?_ ?_ ?_ ?_); (focus (repeat' (first | exact trivial | exact rfl | apply And.intro))); (focus (repeat' (first | exact trivial | exact WBb_sub rfl | (intro b hb; cases hb; first | rfl | (cases w <;> rfl)) | (intro b hb; cases hb; done) | apply And.intro))); (focus (exact ⟨by (try dsimp only); omega, by (try dsimp only); omega, H3, hw9, HP⟩)); ((try dsimp only); omega))))
end Go.Proofs.Ytoiadndmbppobaa
namespace Go.Proofs.Ytoiadndmbppobaa
open Go Go.RowKit Wx
set_option linter.unusedVariables false
set_option linter.unusedSimpArgs false
set_option maxHeartbeats 400000000
theorem r_arrd (rm : Int) (ls : List St) (hl : ls.length ≤ 9223372036854775807) (i B N T : Nat) (l : Int) (put : List El) (pe : Bool) (L : List Pk) (N9 : Nat) (HI : i ≤ ls.length) (HB : i ≤ 50) (H : LInv rm i B N T l put (wl (some (L, N9)))) (HW : wn (some (L, N9))) (HP : pe = true ↔ put = []) (hi : i < ls.length) (kd n : Int)  (e : El) (pk : Pk) (hx : ls[i]? = some ⟨kd, n, false, e, pk⟩) (hux : 0 ≤ e.num ∧ 0 ≤ pk.sq ∧ 0 ≤ pk.lim ∧ 0 ≤ pk.e.num) (hib : ¬ i = 50) (h4 : ((IntKind.u64.wrap kd).tmod 11 = 5 ∨ (IntKind.u64.wrap kd).tmod 11 = 6 ∨ (IntKind.u64.wrap kd).tmod 11 = 7)) (hL : 0 < L.length) {Q : Exit → Z.S → Prop} : Z.codeZ Try.prog tab 96 0 none (lbody Try.f9) ⟨gCH 27 (i, B, N, T, l, put, pe, (some (L, N9))) ++ gFk 5 25 26 ls, gCK rm (i, B, N, T, l, put, pe, (some (L, N9))) ++ [], 6⟩ (loopPost (gRnd rm 27 5 25 26 50 ls (i, B, N, T, l, put, pe, (some (L, N9)))) Q) := by
  dsimp only [gCH, gFk, gCK, gRnd]
  rcases h4 with h4 | h4 | h4
  all_goals (
    have hw9 : L.length ≤ N9 := HW
    have hpd : (padP N9 L).length = N9 := padP_len hw9
    have hwl9 : L.length ≤ 8 * i := H.hwl
    obtain ⟨k, hk1, hkl⟩ := u64_tm (n := n) hL
    obtain ⟨y, hy⟩ := getElem?_some' (xs := L) (i := k) hkl
    have hyok : okP put rm N T y := H.hw y (List.mem_of_getElem? hy)
    have hyn := hyok.num H.hP
    by_cases hk9 : y.kd = 2
    · have cba := acked_con 7 ((B : Int) + 1) (put.drop B) l (endsL put) y (by have h9 := H.hpl; simp only [List.length_take, List.length_drop]; omega) (fun e he => okEs_num H.hP e (List.mem_of_mem_drop he)) (by omega) H.hl0 hyn.1 hyn.2.1
      obtain ⟨B', l', hE, H2, _⟩ := H.back (.inl hyok) hk9 hyn.2.1
      rw [hE] at cba
      dsimp only at cba
      have H3 := (H2.sub (w' := L.eraseIdx k) erase_sub erase_le).more
      have hqm : (List.map eE (put.drop B')).length = put.length - B' := by rw [List.length_map, List.length_drop]
      have hbm : (List.map eE (bfL put N T)).length = N - T := by rw [List.length_map, bfL_len H3.hNP]
      have hq9 : (put.drop B').length = put.length - B' := List.length_drop
      have hb9 := bfL_len (T := T) H3.hNP
      have hn9 := H3.hNP
      have hbn9 := H3.hBN
      have htn9 := H3.hTN
      have hR9 := (okR_all H3.hR).1
      have hpl9 := H3.hpl
      have hS9 := (okS_all H3.hS).1
      have H9 := H3.sub (w' := []) (fun p h => nomatch h) (Nat.zero_le _)
      have cse2 := send_con 7 ((B' : Int) + 1) (put.drop B') l' (endsL put) (by have h9 := H9.hpl; simp only [List.length_take, List.length_drop]; omega) (fun e he => okEs_num H9.hP e (List.mem_of_mem_drop he)) (by omega) H9.hl0
      rw [H9.sent] at cse2
      dsimp only at cse2
      have hQ9 := fun (p : Pk) hp => H9.pks_ok (p := p) hp
      have hql9 := @pks_len 7 l' ((B' : Int) + 1) (put.drop B')
      generalize pks 7 l' ((B' : Int) + 1) (put.drop B') = Q9 at *
      cases pe
      · have hp0 : 0 < put.length := pe_false HP
        have hpne : put ≠ [] := fun h9 => by simp [h9] at hp0
        repeat' ((conv => whnf); first
          | with_reducible first | refine spB_t ?_
          | ((with_reducible apply spB_cong); (focus (simp only [beq_self_eq_true, bne_self_eq_false, Bool.true_bne, Bool.false_bne, Bool.bne_true, Bool.bne_false, Bool.true_beq, Bool.false_beq, Bool.not_true, Bool.not_false, Bool.not_not, Int.reduceBEq, Int.reduceBNe, Int.reduceLE, Int.reduceLT, Int.reduceEq, decide_true, decide_false]; rfl)))
          | with_reducible first | refine spB_no (by decide) ?_
          | (with_reducible refine spB_dec ?_ ?_ <;> intro _ <;> (try (exfalso; first | contradiction | omega | (rename_i hz; refine hz ?_; simp; done) | (rename_i hz; simp at hz; done) | (simp only [LN] at *; omega))))
          | (with_reducible refine spB_beq ?_ ?_ <;> intro _ <;> (try (exfalso; first | contradiction | omega | (rename_i hz; refine hz ?_; simp; done) | (rename_i hz; simp at hz; done) | (simp only [LN] at *; omega))))
          | with_reducible first | refine Z.rowN_known hx ?_
          | ((with_reducible refine Z.vN_K h4 ?_ ?_); (focus rfl))
          | ((with_reducible refine Z.callZ_cap ?_); intro capv hcapv)
          | ((with_reducible refine Z.vN_K hk1 ?_ ?_); (focus rfl))
          | ((with_reducible refine ixN_mk k ?_ ?_ ?_); (focus rfl); (focus omega))
          | ((with_reducible refine rowN_mk (cP y) ?_ ?_); (focus (exact padP_at hy)))
          | ((with_reducible refine slN_hi k ?_ ?_ ?_); (focus omega); (focus ((try simp only [LN] at *) <;> omega)))
          | ((with_reducible refine Z.slN_lo (k + 1) ?_ ?_ ?_); (focus omega); (focus ((try simp only [LN] at *) <;> omega)))
          | ((with_reducible refine Z.slN_lhc (L.length - 1) L.length ?_ ?_ ?_ ?_ ?_); (iterate 3 (focus ((try simp only [LN] at *) <;> omega))); (focus (exact ⟨_, rfl, by (try simp only [LN] at *) <;> omega⟩)))
          | ((with_reducible refine clrN_mk ?_ ?_ ?_); (focus (show _ ≤ (lay (List.map cP (padP N9 L)) _ _).length; rw [lay_length (by (try simp only [LN] at *) <;> omega)]; ((try simp only [LN] at *) <;> omega))); (focus rfl))
          | ((with_reducible apply ixN_litp); (focus (exact rfl)); (focus ((try simp only [LN] at *) <;> omega)))
          | ((with_reducible refine apdE_r ?_); (with_reducible refine aprN.mk ⟨_, rfl, ?_⟩ ?_ ?_ ?_ ?_); (focus ((try simp only [LN] at *) <;> omega)); (focus (first | rfl | ((try simp only [LN] at *) <;> omega))); (focus (first | exact one_all (by rfl) | exact one_drop (fun _ => rfl))); (focus ((try simp only [LN] at *) <;> omega)))
          | ((with_reducible refine slE_a ?_ ?_); (focus ((try simp only [LN] at *) <;> omega)))
          | ((with_reducible refine slE_split ?_ ?_ ?_); (focus ((try simp only [LN] at *) <;> omega)); (all_goals intro _))
          | ((with_reducible apply sl3N_mk); (focus (exact rfl)); (focus (exact rfl)); (focus (exact rfl)); (focus ((try simp only [LN] at *) <;> omega)); (focus ((try simp only [LN] at *) <;> omega)); (focus ((try simp only [LN] at *) <;> omega)); (focus ((try simp only [LN] at *) <;> omega)))
          | with_reducible refine wr_i64 (by first | omega | (simp only [LN] at *; omega)) ?_
          | with_reducible refine wr_u64 (by omega) ?_
          | with_reducible first | refine wr_mk _ rfl ?_
          | with_reducible refine nzN_mk (by omega) ?_
          | with_reducible first | refine Z.callZ_in tabOk 153 Try.f37 _ Try.func37 (by kernel_rfl) rfl rfl rfl ?_ | refine Z.callZ_in tabOk 42 Try.f39 _ Try.func39 (by kernel_rfl) rfl rfl rfl ?_ | refine Z.callZ_in tabOk 56 Try.f61 _ Try.func61 (by kernel_rfl) rfl rfl rfl ?_ | refine Z.callZ_in tabOk 33 Try.f66 _ Try.func66 (by kernel_rfl) rfl rfl rfl ?_
          | ((first | (with_reducible refine Z.conZ_mz ?_ (cba) ?_)); (focus ((repeat' (first | exact trivial | exact rfl | apply And.intro)); done)))
          | ((first | (with_reducible refine Z.callZ_mk ?_ (cse2) ?_)); (focus ((repeat' (first | exact trivial | exact rfl | apply And.intro)); done)))
          | ((with_reducible apply ex_and); exact rfl)
          | with_reducible first | refine Z.drawZ_rule tabOk mixOk ?_ | refine Z.apZ_mk (by kernel_rfl) ?_)
        all_goals (try (conv => whnf))
        all_goals try (show Nat.ble _ _ = true; rfl)
        all_goals try (exfalso; rename_i hz; cases hz; done)
        all_goals try (exfalso; (try simp only [LN] at *) <;> omega)
        all_goals (
          refine Z.loopK tabOk (fun zq : Nat × Nat => [(54, .val (.int .i64 (zq.1 : Int)))]) (fun zq : Nat × Nat => ([(11, some (Z.Ob.b ⟨[[.v (.int .u32 7), .v (.int .u64 ((zq.2 : Int) + 1)), .ro true 5 ((bfL put zq.2 T).map eE), .v (.int .i64 rm)]], 4, 55, true⟩)), (3, some (Z.Ob.b ⟨(padP N9 (L.eraseIdx k)).map cP, 9, 35, false⟩))] : Z.Kr)) (fun zq => zq.1 ≤ Q9.length ∧ LInv rm (i + 1) B' zq.2 T l' put []) (fun zq => Q9.length - zq.1) (0, N) 12 [(5, _), (11, _), (25, _), (26, _), (27, _), (52, _), (53, _)] ⟨rfl, rfl, rfl, rfl, rfl, rfl, rfl, trivial⟩ [(2, _), (4, _), (5, _), (6, _), (7, _), (8, _), (9, _), (10, _)] ⟨rfl, rfl, rfl, rfl, rfl, rfl, rfl, rfl, trivial⟩ ?_ ?_ rfl rfl ⟨Nat.zero_le _, H9⟩ ?_
          · repeat' (first | exact trivial | apply And.intro | exact ⟨_, rfl, Z.Imp.refl _⟩)
          · repeat' (first | exact trivial | exact (fun b hb => ⟨b, hb, Z.ImpO.refl b⟩) | (intro b hb; cases hb; refine ⟨_, rfl, ⟨rfl, rfl, rfl⟩, Z.imp_eq ?_⟩; exact pad_del2 (by omega) rfl hkl (by omega) (by first | exact pad_drop rfl | (rw [List.drop_eq_nil_of_le (by simp only [List.length_map]; omega)]; rfl)); done) | apply And.intro)
          rintro ⟨j, M⟩ HINV
          dsimp only at HINV ⊢
          obtain ⟨HJ, HM⟩ := HINV
          by_cases hj : j < Q9.length
          · obtain ⟨y9, hy9⟩ := getElem?_some' (xs := Q9) (i := j) hj
            obtain ⟨k9, hk9a, hk9b, hk9c, hk9d⟩ := hQ9 y9 (List.mem_of_getElem? hy9)
            have hyok9 : okP put rm M T y9 := by rw [hk9c]; exact ⟨rfl, .inl ⟨rfl, rfl, k9, rfl, hk9b⟩⟩
            have hyse9 : y9.se = 7 := by rw [hk9c]
            have hysq9 : y9.sq = (k9 : Int) + 1 := by rw [hk9c]
            have hykd9 : y9.kd ≠ 2 := by rw [hk9c]; show (1 : Int) ≠ 2; decide
            have hyn9 := hyok9.num HM.hP
            have che := hear_con 7 ((M : Int) + 1) (bfL put M T) rm y9 (by have h9 := HM.hpl; simp only [List.length_take, List.length_drop]; omega) (fun e he => okEs_num HM.hP e (List.mem_of_mem_take (List.mem_of_mem_drop he))) (by omega) hyn9.1 hyn9.2.2
            obtain ⟨M', hM9, hE9, HM2, hgot⟩ := HM.hear (.inl hyok9) hykd9
            rw [hE9] at che
            dsimp only at che
            have hg2 := hgot hyse9
            have hl8 := HM.hl
            have ht8 := HM.hTN
            have hR8 := (okR_all HM.hR).1
            have hbm8 : (List.map eE (bfL put M T)).length = M - T := by rw [List.length_map, bfL_len HM.hNP]
            have hbm7 : (List.map eE (bfL put M' T)).length = M' - T := by rw [List.length_map, bfL_len HM2.hNP]
            have ht7 := HM2.hTN
            by_cases hs9 : y9.sq = (M : Int) + 1
            · have hM8 : M' = M + 1 := hg2 hs9 (by omega)
              repeat' ((conv => whnf); first
                | with_reducible first | refine spB_t ?_
                | ((with_reducible apply spB_cong); (focus (simp only [beq_self_eq_true, bne_self_eq_false, Bool.true_bne, Bool.false_bne, Bool.bne_true, Bool.bne_false, Bool.true_beq, Bool.false_beq, Bool.not_true, Bool.not_false, Bool.not_not, Int.reduceBEq, Int.reduceBNe, Int.reduceLE, Int.reduceLT, Int.reduceEq, decide_true, decide_false]; rfl)))
                | with_reducible first | refine spB_no (by decide) ?_
                | (with_reducible refine spB_dec ?_ ?_ <;> intro _ <;> (try (exfalso; first | contradiction | omega | (rename_i hz; refine hz ?_; simp; done) | (rename_i hz; simp at hz; done) | (simp only [LN] at *; omega))))
                | (with_reducible refine spB_beq ?_ ?_ <;> intro _ <;> (try (exfalso; first | contradiction | omega | (rename_i hz; refine hz ?_; simp; done) | (rename_i hz; simp at hz; done) | (simp only [LN] at *; omega))))
                | (with_reducible refine spB_bne ?_ ?_ <;> intro _ <;> (try (exfalso; first | contradiction | omega | (rename_i hz; refine hz ?_; simp; done) | (rename_i hz; simp at hz; done) | (simp only [LN] at *; omega))))
                | with_reducible first | refine Z.rowN_known hy9 ?_
                | ((with_reducible apply ixN_litp); (focus (exact rfl)); (focus ((try simp only [LN] at *) <;> omega)))
                | with_reducible refine wr_i64 (by first | omega | (simp only [LN] at *; omega)) ?_
                | with_reducible refine wr_u64 (by omega) ?_
                | ((first | (with_reducible refine Z.callZ_mk ?_ (che) ?_)); (focus ((repeat' (first | exact trivial | exact rfl | apply And.intro)); done))))
              all_goals (try (conv => whnf))
              all_goals try (show Nat.ble _ _ = true; rfl)
              all_goals try (exfalso; rename_i hz; cases hz; done)
              all_goals try (exfalso; (try simp only [LN] at *) <;> omega)
              all_goals first
                | ((refine Z.rndK ((j + 1, M')) (fun s => [0, 1, 2, 3, 4, 5, 6, 7, 8, 9, 10, 11]) rfl rfl rfl rfl ?_ ?_ ?_ ?_); (focus (repeat' (first | exact trivial | exact rfl | apply And.intro))); (focus (repeat' (first | exact trivial | (intro b hb; cases hb; first | rfl | (cases w <;> rfl)) | exact Z.blk_sub rfl rfl (ren_map fun _ => rfl) | exact Z.gB_sub rfl rfl (ren_map fun _ => rfl) | apply And.intro))); (focus (exact ⟨by (try dsimp only); omega, HM2⟩)); ((try dsimp only); omega))
            · skip
              repeat' ((conv => whnf); first
                | ((with_reducible apply spB_cong); (focus (simp only [beq_self_eq_true, bne_self_eq_false, Bool.true_bne, Bool.false_bne, Bool.bne_true, Bool.bne_false, Bool.true_beq, Bool.false_beq, Bool.not_true, Bool.not_false, Bool.not_not, Int.reduceBEq, Int.reduceBNe, Int.reduceLE, Int.reduceLT, Int.reduceEq, decide_true, decide_false]; rfl)))
                | with_reducible first | refine spB_no (by decide) ?_
                | (with_reducible refine spB_dec ?_ ?_ <;> intro _ <;> (try (exfalso; first | contradiction | omega | (rename_i hz; refine hz ?_; simp; done) | (rename_i hz; simp at hz; done) | (simp only [LN] at *; omega))))
                | (with_reducible refine spB_beq ?_ ?_ <;> intro _ <;> (try (exfalso; first | contradiction | omega | (rename_i hz; refine hz ?_; simp; done) | (rename_i hz; simp at hz; done) | (simp only [LN] at *; omega))))
                | with_reducible first | refine Z.rowN_known hy9 ?_
                | ((with_reducible apply ixN_litp); (focus (exact rfl)); (focus ((try simp only [LN] at *) <;> omega)))
                | with_reducible refine wr_i64 (by first | omega | (simp only [LN] at *; omega)) ?_
                | with_reducible refine wr_u64 (by omega) ?_
                | ((first | (with_reducible refine Z.callZ_mk ?_ (che) ?_)); (focus ((repeat' (first | exact trivial | exact rfl | apply And.intro)); done))))
              all_goals (try (conv => whnf))
              all_goals try (show Nat.ble _ _ = true; rfl)
              all_goals try (exfalso; rename_i hz; cases hz; done)
              all_goals try (exfalso; (try simp only [LN] at *) <;> omega)
              all_goals first
                | ((refine Z.rndK ((j + 1, M')) (fun s => [0, 1, 2, 3, 4, 5, 6, 7, 8, 9, 10, 11]) rfl rfl rfl rfl ?_ ?_ ?_ ?_); (focus (repeat' (first | exact trivial | exact rfl | apply And.intro))); (focus (repeat' (first | exact trivial | (intro b hb; cases hb; first | rfl | (cases w <;> rfl)) | exact Z.blk_sub rfl rfl (ren_map fun _ => rfl) | exact Z.gB_sub rfl rfl (ren_map fun _ => rfl) | apply And.intro))); (focus (exact ⟨by (try dsimp only); omega, HM2⟩)); ((try dsimp only); omega))
          repeat' ((conv => whnf); first
            | (with_reducible refine spB_dec ?_ ?_ <;> intro _ <;> (try (exfalso; first | contradiction | omega | (rename_i hz; refine hz ?_; simp; done) | (rename_i hz; simp at hz; done) | (simp only [LN] at *; omega))))
            | with_reducible refine wr_i64 (by first | omega | (simp only [LN] at *; omega)) ?_)
          all_goals (try (conv => whnf))
          all_goals try (show Nat.ble _ _ = true; rfl)
          all_goals try (exfalso; rename_i hz; cases hz; done)
          all_goals try (exfalso; (try simp only [LN] at *) <;> omega)
          all_goals first
            | ((refine Z.rnd_rw 3 ((padP N9 (L.eraseIdx k)).map cP) rfl rfl ?_ ?_); (focus (first | rfl)); ((refine Z.rnd_bi 2 [[_, _, _, _, _, _, _, _, _, .osl 3 0 (L.eraseIdx k).length none, _, _]] rfl rfl ⟨⟨Z.Imp.refl _, Z.Imp.refl _, Z.Imp.refl _, Z.Imp.refl _, Z.Imp.refl _, Z.Imp.refl _, Z.Imp.refl _, Z.Imp.refl _, Z.Imp.refl _, Z.Imp.oslcn (by rw [List.length_eraseIdx, if_pos hkl]; (try simp only [LN] at *) <;> omega), Z.Imp.refl _, Z.Imp.refl _, trivial⟩, trivial⟩ ?_); ((refine Z.rndK ((i + 1, B', N, T, l', put, false, (some (L.eraseIdx k, N9)))) (fun s => [0, 1, 2, 3, 4, 5]) rfl rfl rfl rfl ?_ ?_ ?_ ?_); (focus (repeat' (first | exact trivial | exact rfl | apply And.intro))); (focus (repeat' (first | exact trivial | exact WBb_sub rfl | (intro b hb; cases hb; first | rfl | (cases w <;> rfl)) | exact Z.blk_sub rfl rfl (ren_map fun _ => rfl) | exact Z.gB_sub rfl rfl (ren_map fun _ => rfl) | apply And.intro))); (focus (exact ⟨by (try dsimp only); omega, by (try dsimp only); omega, H3, Nat.le_trans erase_le hw9, HP⟩)); ((try dsimp only); omega)))))
      · obtain ⟨rfl, rfl, rfl, rfl⟩ := pe_true HP H
        obtain rfl : B' = 0 := by have h9 := H3.hBN; omega
        repeat' ((conv => whnf); first
          | with_reducible first | refine spB_t ?_
          | ((with_reducible apply spB_cong); (focus (simp only [beq_self_eq_true, bne_self_eq_false, Bool.true_bne, Bool.false_bne, Bool.bne_true, Bool.bne_false, Bool.true_beq, Bool.false_beq, Bool.not_true, Bool.not_false, Bool.not_not, Int.reduceBEq, Int.reduceBNe, Int.reduceLE, Int.reduceLT, Int.reduceEq, decide_true, decide_false]; rfl)))
          | with_reducible first | refine spB_no (by decide) ?_
          | (with_reducible refine spB_dec ?_ ?_ <;> intro _ <;> (try (exfalso; first | contradiction | omega | (rename_i hz; refine hz ?_; simp; done) | (rename_i hz; simp at hz; done) | (simp only [LN] at *; omega))))
          | (with_reducible refine spB_beq ?_ ?_ <;> intro _ <;> (try (exfalso; first | contradiction | omega | (rename_i hz; refine hz ?_; simp; done) | (rename_i hz; simp at hz; done) | (simp only [LN] at *; omega))))
          | with_reducible first | refine Z.rowN_known hx ?_
          | ((with_reducible refine Z.vN_K h4 ?_ ?_); (focus rfl))
          | ((with_reducible refine Z.callZ_cap ?_); intro capv hcapv)
          | ((with_reducible refine Z.vN_K hk1 ?_ ?_); (focus rfl))
          | ((with_reducible refine ixN_mk k ?_ ?_ ?_); (focus rfl); (focus omega))
          | ((with_reducible refine rowN_mk (cP y) ?_ ?_); (focus (exact padP_at hy)))
          | ((with_reducible refine slN_hi k ?_ ?_ ?_); (focus omega); (focus ((try simp only [LN] at *) <;> omega)))
          | ((with_reducible refine Z.slN_lo (k + 1) ?_ ?_ ?_); (focus omega); (focus ((try simp only [LN] at *) <;> omega)))
          | ((with_reducible refine Z.slN_lhc (L.length - 1) L.length ?_ ?_ ?_ ?_ ?_); (iterate 3 (focus ((try simp only [LN] at *) <;> omega))); (focus (exact ⟨_, rfl, by (try simp only [LN] at *) <;> omega⟩)))
          | ((with_reducible refine clrN_mk ?_ ?_ ?_); (focus (show _ ≤ (lay (List.map cP (padP N9 L)) _ _).length; rw [lay_length (by (try simp only [LN] at *) <;> omega)]; ((try simp only [LN] at *) <;> omega))); (focus rfl))
          | ((with_reducible apply ixN_litp); (focus (exact rfl)); (focus ((try simp only [LN] at *) <;> omega)))
          | ((with_reducible refine apdE_r ?_); (with_reducible refine aprN.mk ⟨_, rfl, ?_⟩ ?_ ?_ ?_ ?_); (focus ((try simp only [LN] at *) <;> omega)); (focus (first | rfl | ((try simp only [LN] at *) <;> omega))); (focus (first | exact one_all (by rfl) | exact one_drop (fun _ => rfl))); (focus ((try simp only [LN] at *) <;> omega)))
          | ((with_reducible refine slE_a ?_ ?_); (focus ((try simp only [LN] at *) <;> omega)))
          | ((with_reducible refine slE_split ?_ ?_ ?_); (focus ((try simp only [LN] at *) <;> omega)); (all_goals intro _))
          | ((with_reducible apply sl3N_mk); (focus (exact rfl)); (focus (exact rfl)); (focus (exact rfl)); (focus ((try simp only [LN] at *) <;> omega)); (focus ((try simp only [LN] at *) <;> omega)); (focus ((try simp only [LN] at *) <;> omega)); (focus ((try simp only [LN] at *) <;> omega)))
          | with_reducible refine wr_i64 (by first | omega | (simp only [LN] at *; omega)) ?_
          | with_reducible refine wr_u64 (by omega) ?_
          | with_reducible first | refine wr_mk _ rfl ?_
          | with_reducible refine nzN_mk (by omega) ?_
          | with_reducible first | refine Z.callZ_in tabOk 153 Try.f37 _ Try.func37 (by kernel_rfl) rfl rfl rfl ?_ | refine Z.callZ_in tabOk 42 Try.f39 _ Try.func39 (by kernel_rfl) rfl rfl rfl ?_ | refine Z.callZ_in tabOk 56 Try.f61 _ Try.func61 (by kernel_rfl) rfl rfl rfl ?_ | refine Z.callZ_in tabOk 33 Try.f66 _ Try.func66 (by kernel_rfl) rfl rfl rfl ?_
          | ((first | (with_reducible refine Z.conZ_mz ?_ (cba) ?_)); (focus ((repeat' (first | exact trivial | exact rfl | apply And.intro)); done)))
          | ((first | (with_reducible refine Z.callZ_mk ?_ (cse2) ?_)); (focus ((repeat' (first | exact trivial | exact rfl | apply And.intro)); done)))
          | ((with_reducible apply ex_and); exact rfl)
          | with_reducible first | refine Z.drawZ_rule tabOk mixOk ?_ | refine Z.apZ_mk (by kernel_rfl) ?_)
        all_goals (try (conv => whnf))
        all_goals try (show Nat.ble _ _ = true; rfl)
        all_goals try (exfalso; rename_i hz; cases hz; done)
        all_goals try (exfalso; (try simp only [LN] at *) <;> omega)
        all_goals (
          refine Z.loopK tabOk (fun zq : Nat × Nat => [(54, .val (.int .i64 (zq.1 : Int)))]) (fun zq : Nat × Nat => ([(11, some (Z.Ob.b ⟨[[.v (.int .u32 7), .v (.int .u64 ((zq.2 : Int) + 1)), .ro true 5 ((bfL ([] : List El) zq.2 0).map eE), .v (.int .i64 rm)]], 4, 55, true⟩)), (3, some (Z.Ob.b ⟨(padP N9 (L.eraseIdx k)).map cP, 9, 35, false⟩))] : Z.Kr)) (fun zq => zq.1 ≤ Q9.length ∧ LInv rm (i + 1) 0 zq.2 0 l' ([] : List El) []) (fun zq => Q9.length - zq.1) (0, 0) 12 [(5, _), (11, _), (25, _), (26, _), (27, _), (52, _), (53, _)] ⟨rfl, rfl, rfl, rfl, rfl, rfl, rfl, trivial⟩ [(2, _), (4, _), (5, _), (6, _), (7, _), (8, _), (9, _), (10, _)] ⟨rfl, rfl, rfl, rfl, rfl, rfl, rfl, rfl, trivial⟩ ?_ ?_ rfl rfl ⟨Nat.zero_le _, H9⟩ ?_
          · repeat' (first | exact trivial | apply And.intro | exact ⟨_, rfl, Z.Imp.refl _⟩)
          · repeat' (first | exact trivial | exact (fun b hb => ⟨b, hb, Z.ImpO.refl b⟩) | (intro b hb; cases hb; refine ⟨_, rfl, ⟨rfl, rfl, rfl⟩, Z.imp_eq ?_⟩; exact pad_del2 (by omega) rfl hkl (by omega) (by first | exact pad_drop rfl | (rw [List.drop_eq_nil_of_le (by simp only [List.length_map]; omega)]; rfl)); done) | apply And.intro)
          rintro ⟨j, M⟩ HINV
          dsimp only at HINV ⊢
          obtain ⟨HJ, HM⟩ := HINV
          by_cases hj : j < Q9.length
          · obtain ⟨y9, hy9⟩ := getElem?_some' (xs := Q9) (i := j) hj
            obtain ⟨k9, hk9a, hk9b, hk9c, hk9d⟩ := hQ9 y9 (List.mem_of_getElem? hy9)
            simp at hk9b
          repeat' ((conv => whnf); first
            | (with_reducible refine spB_dec ?_ ?_ <;> intro _ <;> (try (exfalso; first | contradiction | omega | (rename_i hz; refine hz ?_; simp; done) | (rename_i hz; simp at hz; done) | (simp only [LN] at *; omega))))
            | with_reducible refine wr_i64 (by first | omega | (simp only [LN] at *; omega)) ?_)
          all_goals (try (conv => whnf))
          all_goals try (show Nat.ble _ _ = true; rfl)
          all_goals try (exfalso; rename_i hz; cases hz; done)
          all_goals try (exfalso; (try simp only [LN] at *) <;> omega)
          all_goals first
            | ((refine Z.rnd_rw 3 ((padP N9 (L.eraseIdx k)).map cP) rfl rfl ?_ ?_); (focus (first | rfl)); ((refine Z.rnd_bi 2 [[_, _, _, _, _, _, _, _, _, .osl 3 0 (L.eraseIdx k).length none, _, _]] rfl rfl ⟨⟨Z.Imp.refl _, Z.Imp.refl _, Z.Imp.refl _, Z.Imp.refl _, Z.Imp.refl _, Z.Imp.refl _, Z.Imp.refl _, Z.Imp.refl _, Z.Imp.refl _, Z.Imp.oslcn (by rw [List.length_eraseIdx, if_pos hkl]; (try simp only [LN] at *) <;> omega), Z.Imp.refl _, Z.Imp.refl _, trivial⟩, trivial⟩ ?_); ((refine Z.rndK ((i + 1, 0, 0, 0, l', [], true, (some (L.eraseIdx k, N9)))) (fun s => [0, 1, 2, 3, 4, 5]) rfl rfl rfl rfl ?_ ?_ ?_ ?_); (focus (repeat' (first | exact trivial | exact rfl | apply And.intro))); (focus (repeat' (first | exact trivial | exact WBb_sub rfl | (intro b hb; cases hb; first | rfl | (cases w <;> rfl)) | (intro b hb; cases hb; done) | apply And.intro))); (focus (exact ⟨by (try dsimp only); omega, by (try dsimp only); omega, H3, Nat.le_trans erase_le hw9, HP⟩)); ((try dsimp only); omega)))))
    · have che := hear_con 7 ((N : Int) + 1) (bfL put N T) rm y (by have h9 := H.hpl; simp only [List.length_take, List.length_drop]; omega) (fun e he => okEs_num H.hP e (List.mem_of_mem_take (List.mem_of_mem_drop he))) (by omega) hyn.1 hyn.2.2
      obtain ⟨N', hN9, hE, H2, _⟩ := H.hear (.inl hyok) hk9
      rw [hE] at che
      dsimp only at che
      have H3 := (H2.sub (w' := L.eraseIdx k) erase_sub erase_le).more
      have hqm : (List.map eE (put.drop B)).length = put.length - B := by rw [List.length_map, List.length_drop]
      have hbm : (List.map eE (bfL put N' T)).length = N' - T := by rw [List.length_map, bfL_len H3.hNP]
      have hq9 : (put.drop B).length = put.length - B := List.length_drop
      have hb9 := bfL_len (T := T) H3.hNP
      have hn9 := H3.hNP
      have hbn9 := H3.hBN
      have htn9 := H3.hTN
      have hR9 := (okR_all H3.hR).1
      have hpl9 := H3.hpl
      have hS9 := (okS_all H3.hS).1
      have H9 := H3.sub (w' := []) (fun p h => nomatch h) (Nat.zero_le _)
      have cse2 := send_con 7 ((B : Int) + 1) (put.drop B) l (endsL put) (by have h9 := H9.hpl; simp only [List.length_take, List.length_drop]; omega) (fun e he => okEs_num H9.hP e (List.mem_of_mem_drop he)) (by omega) H9.hl0
      rw [H9.sent] at cse2
      dsimp only at cse2
      have hQ9 := fun (p : Pk) hp => H9.pks_ok (p := p) hp
      have hql9 := @pks_len 7 l ((B : Int) + 1) (put.drop B)
      generalize pks 7 l ((B : Int) + 1) (put.drop B) = Q9 at *
      cases pe
      · have hp0 : 0 < put.length := pe_false HP
        have hpne : put ≠ [] := fun h9 => by simp [h9] at hp0
        repeat' ((conv => whnf); first
          | with_reducible first | refine spB_t ?_
          | ((with_reducible apply spB_cong); (focus (simp only [beq_self_eq_true, bne_self_eq_false, Bool.true_bne, Bool.false_bne, Bool.bne_true, Bool.bne_false, Bool.true_beq, Bool.false_beq, Bool.not_true, Bool.not_false, Bool.not_not, Int.reduceBEq, Int.reduceBNe, Int.reduceLE, Int.reduceLT, Int.reduceEq, decide_true, decide_false]; rfl)))
          | with_reducible first | refine spB_no (by decide) ?_
          | (with_reducible refine spB_dec ?_ ?_ <;> intro _ <;> (try (exfalso; first | contradiction | omega | (rename_i hz; refine hz ?_; simp; done) | (rename_i hz; simp at hz; done) | (simp only [LN] at *; omega))))
          | (with_reducible refine spB_beq ?_ ?_ <;> intro _ <;> (try (exfalso; first | contradiction | omega | (rename_i hz; refine hz ?_; simp; done) | (rename_i hz; simp at hz; done) | (simp only [LN] at *; omega))))
          | with_reducible first | refine Z.rowN_known hx ?_
          | ((with_reducible refine Z.vN_K h4 ?_ ?_); (focus rfl))
          | ((with_reducible refine Z.callZ_cap ?_); intro capv hcapv)
          | ((with_reducible refine Z.vN_K hk1 ?_ ?_); (focus rfl))
          | ((with_reducible refine ixN_mk k ?_ ?_ ?_); (focus rfl); (focus omega))
          | ((with_reducible refine rowN_mk (cP y) ?_ ?_); (focus (exact padP_at hy)))
          | ((with_reducible refine slN_hi k ?_ ?_ ?_); (focus omega); (focus ((try simp only [LN] at *) <;> omega)))
          | ((with_reducible refine Z.slN_lo (k + 1) ?_ ?_ ?_); (focus omega); (focus ((try simp only [LN] at *) <;> omega)))
          | ((with_reducible refine Z.slN_lhc (L.length - 1) L.length ?_ ?_ ?_ ?_ ?_); (iterate 3 (focus ((try simp only [LN] at *) <;> omega))); (focus (exact ⟨_, rfl, by (try simp only [LN] at *) <;> omega⟩)))
          | ((with_reducible refine clrN_mk ?_ ?_ ?_); (focus (show _ ≤ (lay (List.map cP (padP N9 L)) _ _).length; rw [lay_length (by (try simp only [LN] at *) <;> omega)]; ((try simp only [LN] at *) <;> omega))); (focus rfl))
          | ((with_reducible apply ixN_litp); (focus (exact rfl)); (focus ((try simp only [LN] at *) <;> omega)))
          | ((with_reducible refine apdE_r ?_); (with_reducible refine aprN.mk ⟨_, rfl, ?_⟩ ?_ ?_ ?_ ?_); (focus ((try simp only [LN] at *) <;> omega)); (focus (first | rfl | ((try simp only [LN] at *) <;> omega))); (focus (first | exact one_all (by rfl) | exact one_drop (fun _ => rfl))); (focus ((try simp only [LN] at *) <;> omega)))
          | ((with_reducible refine slE_a ?_ ?_); (focus ((try simp only [LN] at *) <;> omega)))
          | ((with_reducible refine slE_split ?_ ?_ ?_); (focus ((try simp only [LN] at *) <;> omega)); (all_goals intro _))
          | ((with_reducible apply sl3N_mk); (focus (exact rfl)); (focus (exact rfl)); (focus (exact rfl)); (focus ((try simp only [LN] at *) <;> omega)); (focus ((try simp only [LN] at *) <;> omega)); (focus ((try simp only [LN] at *) <;> omega)); (focus ((try simp only [LN] at *) <;> omega)))
          | with_reducible refine wr_i64 (by first | omega | (simp only [LN] at *; omega)) ?_
          | with_reducible refine wr_u64 (by omega) ?_
          | with_reducible first | refine wr_mk _ rfl ?_
          | with_reducible refine nzN_mk (by omega) ?_
          | with_reducible first | refine Z.callZ_in tabOk 153 Try.f37 _ Try.func37 (by kernel_rfl) rfl rfl rfl ?_ | refine Z.callZ_in tabOk 42 Try.f39 _ Try.func39 (by kernel_rfl) rfl rfl rfl ?_ | refine Z.callZ_in tabOk 56 Try.f61 _ Try.func61 (by kernel_rfl) rfl rfl rfl ?_ | refine Z.callZ_in tabOk 33 Try.f66 _ Try.func66 (by kernel_rfl) rfl rfl rfl ?_
          | ((first | (with_reducible refine Z.conZ_mz ?_ (che) ?_)); (focus ((repeat' (first | exact trivial | exact rfl | apply And.intro)); done)))
          | ((first | (with_reducible refine Z.callZ_mk ?_ (cse2) ?_)); (focus ((repeat' (first | exact trivial | exact rfl | apply And.intro)); done)))
          | ((with_reducible apply ex_and); exact rfl)
          | with_reducible first | refine Z.drawZ_rule tabOk mixOk ?_ | refine Z.apZ_mk (by kernel_rfl) ?_)
        all_goals (try (conv => whnf))
        all_goals try (show Nat.ble _ _ = true; rfl)
        all_goals try (exfalso; rename_i hz; cases hz; done)
        all_goals try (exfalso; (try simp only [LN] at *) <;> omega)
        all_goals (
          refine Z.loopK tabOk (fun zq : Nat × Nat => [(54, .val (.int .i64 (zq.1 : Int)))]) (fun zq : Nat × Nat => ([(11, some (Z.Ob.b ⟨[[.v (.int .u32 7), .v (.int .u64 ((zq.2 : Int) + 1)), .ro true 5 ((bfL put zq.2 T).map eE), .v (.int .i64 rm)]], 4, 55, true⟩)), (3, some (Z.Ob.b ⟨(padP N9 (L.eraseIdx k)).map cP, 9, 35, false⟩))] : Z.Kr)) (fun zq => zq.1 ≤ Q9.length ∧ LInv rm (i + 1) B zq.2 T l put []) (fun zq => Q9.length - zq.1) (0, N') 12 [(5, _), (11, _), (25, _), (26, _), (27, _), (52, _), (53, _)] ⟨rfl, rfl, rfl, rfl, rfl, rfl, rfl, trivial⟩ [(2, _), (4, _), (5, _), (6, _), (7, _), (8, _), (9, _), (10, _)] ⟨rfl, rfl, rfl, rfl, rfl, rfl, rfl, rfl, trivial⟩ ?_ ?_ rfl rfl ⟨Nat.zero_le _, H9⟩ ?_
          · repeat' (first | exact trivial | apply And.intro | exact ⟨_, rfl, Z.Imp.refl _⟩)
          · repeat' (first | exact trivial | exact (fun b hb => ⟨b, hb, Z.ImpO.refl b⟩) | (intro b hb; cases hb; refine ⟨_, rfl, ⟨rfl, rfl, rfl⟩, Z.imp_eq ?_⟩; exact pad_del2 (by omega) rfl hkl (by omega) (by first | exact pad_drop rfl | (rw [List.drop_eq_nil_of_le (by simp only [List.length_map]; omega)]; rfl)); done) | apply And.intro)
          rintro ⟨j, M⟩ HINV
          dsimp only at HINV ⊢
          obtain ⟨HJ, HM⟩ := HINV
          by_cases hj : j < Q9.length
          · obtain ⟨y9, hy9⟩ := getElem?_some' (xs := Q9) (i := j) hj
            obtain ⟨k9, hk9a, hk9b, hk9c, hk9d⟩ := hQ9 y9 (List.mem_of_getElem? hy9)
            have hyok9 : okP put rm M T y9 := by rw [hk9c]; exact ⟨rfl, .inl ⟨rfl, rfl, k9, rfl, hk9b⟩⟩
            have hyse9 : y9.se = 7 := by rw [hk9c]
            have hysq9 : y9.sq = (k9 : Int) + 1 := by rw [hk9c]
            have hykd9 : y9.kd ≠ 2 := by rw [hk9c]; show (1 : Int) ≠ 2; decide
            have hyn9 := hyok9.num HM.hP
            have che := hear_con 7 ((M : Int) + 1) (bfL put M T) rm y9 (by have h9 := HM.hpl; simp only [List.length_take, List.length_drop]; omega) (fun e he => okEs_num HM.hP e (List.mem_of_mem_take (List.mem_of_mem_drop he))) (by omega) hyn9.1 hyn9.2.2
            obtain ⟨M', hM9, hE9, HM2, hgot⟩ := HM.hear (.inl hyok9) hykd9
            rw [hE9] at che
            dsimp only at che
            have hg2 := hgot hyse9
            have hl8 := HM.hl
            have ht8 := HM.hTN
            have hR8 := (okR_all HM.hR).1
            have hbm8 : (List.map eE (bfL put M T)).length = M - T := by rw [List.length_map, bfL_len HM.hNP]
            have hbm7 : (List.map eE (bfL put M' T)).length = M' - T := by rw [List.length_map, bfL_len HM2.hNP]
            have ht7 := HM2.hTN
            by_cases hs9 : y9.sq = (M : Int) + 1
            · have hM8 : M' = M + 1 := hg2 hs9 (by omega)
              repeat' ((conv => whnf); first
                | with_reducible first | refine spB_t ?_
                | ((with_reducible apply spB_cong); (focus (simp only [beq_self_eq_true, bne_self_eq_false, Bool.true_bne, Bool.false_bne, Bool.bne_true, Bool.bne_false, Bool.true_beq, Bool.false_beq, Bool.not_true, Bool.not_false, Bool.not_not, Int.reduceBEq, Int.reduceBNe, Int.reduceLE, Int.reduceLT, Int.reduceEq, decide_true, decide_false]; rfl)))
                | with_reducible first | refine spB_no (by decide) ?_
                | (with_reducible refine spB_dec ?_ ?_ <;> intro _ <;> (try (exfalso; first | contradiction | omega | (rename_i hz; refine hz ?_; simp; done) | (rename_i hz; simp at hz; done) | (simp only [LN] at *; omega))))
                | (with_reducible refine spB_beq ?_ ?_ <;> intro _ <;> (try (exfalso; first | contradiction | omega | (rename_i hz; refine hz ?_; simp; done) | (rename_i hz; simp at hz; done) | (simp only [LN] at *; omega))))
                | (with_reducible refine spB_bne ?_ ?_ <;> intro _ <;> (try (exfalso; first | contradiction | omega | (rename_i hz; refine hz ?_; simp; done) | (rename_i hz; simp at hz; done) | (simp only [LN] at *; omega))))
                | with_reducible first | refine Z.rowN_known hy9 ?_
                | ((with_reducible apply ixN_litp); (focus (exact rfl)); (focus ((try simp only [LN] at *) <;> omega)))
                | with_reducible refine wr_i64 (by first | omega | (simp only [LN] at *; omega)) ?_
                | with_reducible refine wr_u64 (by omega) ?_
                | ((first | (with_reducible refine Z.callZ_mk ?_ (che) ?_)); (focus ((repeat' (first | exact trivial | exact rfl | apply And.intro)); done))))
              all_goals (try (conv => whnf))
              all_goals try (show Nat.ble _ _ = true; rfl)
              all_goals try (exfalso; rename_i hz; cases hz; done)
              all_goals try (exfalso; (try simp only [LN] at *) <;> omega)
              all_goals first
                | ((refine Z.rndK ((j + 1, M')) (fun s => [0, 1, 2, 3, 4, 5, 6, 7, 8, 9, 10, 11]) rfl rfl rfl rfl ?_ ?_ ?_ ?_); (focus (repeat' (first | exact trivial | exact rfl | apply And.intro))); (focus (repeat' (first | exact trivial | (intro b hb; cases hb; first | rfl | (cases w <;> rfl)) | exact Z.blk_sub rfl rfl (ren_map fun _ => rfl) | exact Z.gB_sub rfl rfl (ren_map fun _ => rfl) | apply And.intro))); (focus (exact ⟨by (try dsimp only); omega, HM2⟩)); ((try dsimp only); omega))
            · skip
              repeat' ((conv => whnf); first
                | ((with_reducible apply spB_cong); (focus (simp only [beq_self_eq_true, bne_self_eq_false, Bool.true_bne, Bool.false_bne, Bool.bne_true, Bool.bne_false, Bool.true_beq, Bool.false_beq, Bool.not_true, Bool.not_false, Bool.not_not, Int.reduceBEq, Int.reduceBNe, Int.reduceLE, Int.reduceLT, Int.reduceEq, decide_true, decide_false]; rfl)))
                | with_reducible first | refine spB_no (by decide) ?_
                | (with_reducible refine spB_dec ?_ ?_ <;> intro _ <;> (try (exfalso; first | contradiction | omega | (rename_i hz; refine hz ?_; simp; done) | (rename_i hz; simp at hz; done) | (simp only [LN] at *; omega))))
                | (with_reducible refine spB_beq ?_ ?_ <;> intro _ <;> (try (exfalso; first | contradiction | omega | (rename_i hz; refine hz ?_; simp; done) | (rename_i hz; simp at hz; done) | (simp only [LN] at *; omega))))
                | with_reducible first | refine Z.rowN_known hy9 ?_
                | ((with_reducible apply ixN_litp); (focus (exact rfl)); (focus ((try simp only [LN] at *) <;> omega)))
                | with_reducible refine wr_i64 (by first | omega | (simp only [LN] at *; omega)) ?_
                | with_reducible refine wr_u64 (by omega) ?_
                | ((first | (with_reducible refine Z.callZ_mk ?_ (che) ?_)); (focus ((repeat' (first | exact trivial | exact rfl | apply And.intro)); done))))
              all_goals (try (conv => whnf))
              all_goals try (show Nat.ble _ _ = true; rfl)
              all_goals try (exfalso; rename_i hz; cases hz; done)
              all_goals try (exfalso; (try simp only [LN] at *) <;> omega)
              all_goals first
                | ((refine Z.rndK ((j + 1, M')) (fun s => [0, 1, 2, 3, 4, 5, 6, 7, 8, 9, 10, 11]) rfl rfl rfl rfl ?_ ?_ ?_ ?_); (focus (repeat' (first | exact trivial | exact rfl | apply And.intro))); (focus (repeat' (first | exact trivial | (intro b hb; cases hb; first | rfl | (cases w <;> rfl)) | exact Z.blk_sub rfl rfl (ren_map fun _ => rfl) | exact Z.gB_sub rfl rfl (ren_map fun _ => rfl) | apply And.intro))); (focus (exact ⟨by (try dsimp only); omega, HM2⟩)); ((try dsimp only); omega))
          repeat' ((conv => whnf); first
            | (with_reducible refine spB_dec ?_ ?_ <;> intro _ <;> (try (exfalso; first | contradiction | omega | (rename_i hz; refine hz ?_; simp; done) | (rename_i hz; simp at hz; done) | (simp only [LN] at *; omega))))
            | with_reducible refine wr_i64 (by first | omega | (simp only [LN] at *; omega)) ?_)
          all_goals (try (conv => whnf))
          all_goals try (show Nat.ble _ _ = true; rfl)
          all_goals try (exfalso; rename_i hz; cases hz; done)
          all_goals try (exfalso; (try simp only [LN] at *) <;> omega)
          all_goals first
            | ((refine Z.rnd_rw 3 ((padP N9 (L.eraseIdx k)).map cP) rfl rfl ?_ ?_); (focus (first | rfl)); ((refine Z.rnd_bi 2 [[_, _, _, _, _, _, _, _, _, .osl 3 0 (L.eraseIdx k).length none, _, _]] rfl rfl ⟨⟨Z.Imp.refl _, Z.Imp.refl _, Z.Imp.refl _, Z.Imp.refl _, Z.Imp.refl _, Z.Imp.refl _, Z.Imp.refl _, Z.Imp.refl _, Z.Imp.refl _, Z.Imp.oslcn (by rw [List.length_eraseIdx, if_pos hkl]; (try simp only [LN] at *) <;> omega), Z.Imp.refl _, Z.Imp.refl _, trivial⟩, trivial⟩ ?_); ((refine Z.rndK ((i + 1, B, N', T, l, put, false, (some (L.eraseIdx k, N9)))) (fun s => [0, 1, 2, 3, 4, 5]) rfl rfl rfl rfl ?_ ?_ ?_ ?_); (focus (repeat' (first | exact trivial | exact rfl | apply And.intro))); (focus (repeat' (first | exact trivial | exact WBb_sub rfl | (intro b hb; cases hb; first | rfl | (cases w <;> rfl)) | exact Z.blk_sub rfl rfl (ren_map fun _ => rfl) | exact Z.gB_sub rfl rfl (ren_map fun _ => rfl) | apply And.intro))); (focus (exact ⟨by (try dsimp only); omega, by (try dsimp only); omega, H3, Nat.le_trans erase_le hw9, HP⟩)); ((try dsimp only); omega)))))
      · obtain ⟨rfl, rfl, rfl, rfl⟩ := pe_true HP H
        obtain rfl : N' = 0 := by have h9 := H3.hNP; simpa using h9
        repeat' ((conv => whnf); first
          | with_reducible first | refine spB_t ?_
          | ((with_reducible apply spB_cong); (focus (simp only [beq_self_eq_true, bne_self_eq_false, Bool.true_bne, Bool.false_bne, Bool.bne_true, Bool.bne_false, Bool.true_beq, Bool.false_beq, Bool.not_true, Bool.not_false, Bool.not_not, Int.reduceBEq, Int.reduceBNe, Int.reduceLE, Int.reduceLT, Int.reduceEq, decide_true, decide_false]; rfl)))
          | with_reducible first | refine spB_no (by decide) ?_
          | (with_reducible refine spB_dec ?_ ?_ <;> intro _ <;> (try (exfalso; first | contradiction | omega | (rename_i hz; refine hz ?_; simp; done) | (rename_i hz; simp at hz; done) | (simp only [LN] at *; omega))))
          | (with_reducible refine spB_beq ?_ ?_ <;> intro _ <;> (try (exfalso; first | contradiction | omega | (rename_i hz; refine hz ?_; simp; done) | (rename_i hz; simp at hz; done) | (simp only [LN] at *; omega))))
          | with_reducible first | refine Z.rowN_known hx ?_
          | ((with_reducible refine Z.vN_K h4 ?_ ?_); (focus rfl))
          | ((with_reducible refine Z.callZ_cap ?_); intro capv hcapv)
          | ((with_reducible refine Z.vN_K hk1 ?_ ?_); (focus rfl))
          | ((with_reducible refine ixN_mk k ?_ ?_ ?_); (focus rfl); (focus omega))
          | ((with_reducible refine rowN_mk (cP y) ?_ ?_); (focus (exact padP_at hy)))
          | ((with_reducible refine slN_hi k ?_ ?_ ?_); (focus omega); (focus ((try simp only [LN] at *) <;> omega)))
          | ((with_reducible refine Z.slN_lo (k + 1) ?_ ?_ ?_); (focus omega); (focus ((try simp only [LN] at *) <;> omega)))
          | ((with_reducible refine Z.slN_lhc (L.length - 1) L.length ?_ ?_ ?_ ?_ ?_); (iterate 3 (focus ((try simp only [LN] at *) <;> omega))); (focus (exact ⟨_, rfl, by (try simp only [LN] at *) <;> omega⟩)))
          | ((with_reducible refine clrN_mk ?_ ?_ ?_); (focus (show _ ≤ (lay (List.map cP (padP N9 L)) _ _).length; rw [lay_length (by (try simp only [LN] at *) <;> omega)]; ((try simp only [LN] at *) <;> omega))); (focus rfl))
          | ((with_reducible apply ixN_litp); (focus (exact rfl)); (focus ((try simp only [LN] at *) <;> omega)))
          | ((with_reducible refine apdE_r ?_); (with_reducible refine aprN.mk ⟨_, rfl, ?_⟩ ?_ ?_ ?_ ?_); (focus ((try simp only [LN] at *) <;> omega)); (focus (first | rfl | ((try simp only [LN] at *) <;> omega))); (focus (first | exact one_all (by rfl) | exact one_drop (fun _ => rfl))); (focus ((try simp only [LN] at *) <;> omega)))
          | ((with_reducible refine slE_a ?_ ?_); (focus ((try simp only [LN] at *) <;> omega)))
          | ((with_reducible refine slE_split ?_ ?_ ?_); (focus ((try simp only [LN] at *) <;> omega)); (all_goals intro _))
          | ((with_reducible apply sl3N_mk); (focus (exact rfl)); (focus (exact rfl)); (focus (exact rfl)); (focus ((try simp only [LN] at *) <;> omega)); (focus ((try simp only [LN] at *) <;> omega)); (focus ((try simp only [LN] at *) <;> omega)); (focus ((try simp only [LN] at *) <;> omega)))
          | with_reducible refine wr_i64 (by first | omega | (simp only [LN] at *; omega)) ?_
          | with_reducible refine wr_u64 (by omega) ?_
          | with_reducible first | refine wr_mk _ rfl ?_
          | with_reducible refine nzN_mk (by omega) ?_
          | with_reducible first | refine Z.callZ_in tabOk 153 Try.f37 _ Try.func37 (by kernel_rfl) rfl rfl rfl ?_ | refine Z.callZ_in tabOk 42 Try.f39 _ Try.func39 (by kernel_rfl) rfl rfl rfl ?_ | refine Z.callZ_in tabOk 56 Try.f61 _ Try.func61 (by kernel_rfl) rfl rfl rfl ?_ | refine Z.callZ_in tabOk 33 Try.f66 _ Try.func66 (by kernel_rfl) rfl rfl rfl ?_
          | ((first | (with_reducible refine Z.conZ_mz ?_ (che) ?_)); (focus ((repeat' (first | exact trivial | exact rfl | apply And.intro)); done)))
          | ((first | (with_reducible refine Z.callZ_mk ?_ (cse2) ?_)); (focus ((repeat' (first | exact trivial | exact rfl | apply And.intro)); done)))
          | ((with_reducible apply ex_and); exact rfl)
          | with_reducible first | refine Z.drawZ_rule tabOk mixOk ?_ | refine Z.apZ_mk (by kernel_rfl) ?_)
        all_goals (try (conv => whnf))
        all_goals try (show Nat.ble _ _ = true; rfl)
        all_goals try (exfalso; rename_i hz; cases hz; done)
        all_goals try (exfalso; (try simp only [LN] at *) <;> omega)
        all_goals (
          refine Z.loopK tabOk (fun zq : Nat × Nat => [(54, .val (.int .i64 (zq.1 : Int)))]) (fun zq : Nat × Nat => ([(11, some (Z.Ob.b ⟨[[.v (.int .u32 7), .v (.int .u64 ((zq.2 : Int) + 1)), .ro true 5 ((bfL ([] : List El) zq.2 0).map eE), .v (.int .i64 rm)]], 4, 55, true⟩)), (3, some (Z.Ob.b ⟨(padP N9 (L.eraseIdx k)).map cP, 9, 35, false⟩))] : Z.Kr)) (fun zq => zq.1 ≤ Q9.length ∧ LInv rm (i + 1) 0 zq.2 0 l ([] : List El) []) (fun zq => Q9.length - zq.1) (0, 0) 12 [(5, _), (11, _), (25, _), (26, _), (27, _), (52, _), (53, _)] ⟨rfl, rfl, rfl, rfl, rfl, rfl, rfl, trivial⟩ [(2, _), (4, _), (5, _), (6, _), (7, _), (8, _), (9, _), (10, _)] ⟨rfl, rfl, rfl, rfl, rfl, rfl, rfl, rfl, trivial⟩ ?_ ?_ rfl rfl ⟨Nat.zero_le _, H9⟩ ?_
          · repeat' (first | exact trivial | apply And.intro | exact ⟨_, rfl, Z.Imp.refl _⟩)
          · repeat' (first | exact trivial | exact (fun b hb => ⟨b, hb, Z.ImpO.refl b⟩) | (intro b hb; cases hb; refine ⟨_, rfl, ⟨rfl, rfl, rfl⟩, Z.imp_eq ?_⟩; exact pad_del2 (by omega) rfl hkl (by omega) (by first | exact pad_drop rfl | (rw [List.drop_eq_nil_of_le (by simp only [List.length_map]; omega)]; rfl)); done) | apply And.intro)
          rintro ⟨j, M⟩ HINV
          dsimp only at HINV ⊢
          obtain ⟨HJ, HM⟩ := HINV
          by_cases hj : j < Q9.length
          · obtain ⟨y9, hy9⟩ := getElem?_some' (xs := Q9) (i := j) hj
            obtain ⟨k9, hk9a, hk9b, hk9c, hk9d⟩ := hQ9 y9 (List.mem_of_getElem? hy9)
            simp at hk9b
          repeat' ((conv => whnf); first
            | (with_reducible refine spB_dec ?_ ?_ <;> intro _ <;> (try (exfalso; first | contradiction | omega | (rename_i hz; refine hz ?_; simp; done) | (rename_i hz; simp at hz; done) | (simp only [LN] at *; omega))))
            | with_reducible refine wr_i64 (by first | omega | (simp only [LN] at *; omega)) ?_)
          all_goals (try (conv => whnf))
          all_goals try (show Nat.ble _ _ = true; rfl)
          all_goals try (exfalso; rename_i hz; cases hz; done)
          all_goals try (exfalso; (try simp only [LN] at *) <;> omega)
          all_goals first
            | ((refine Z.rnd_rw 3 ((padP N9 (L.eraseIdx k)).map cP) rfl rfl ?_ ?_); (focus (first | rfl)); ((refine Z.rnd_bi 2 [[_, _, _, _, _, _, _, _, _, .osl 3 0 (L.eraseIdx k).length none, _, _]] rfl rfl ⟨⟨Z.Imp.refl _, Z.Imp.refl _, Z.Imp.refl _, Z.Imp.refl _, Z.Imp.refl _, Z.Imp.refl _, Z.Imp.refl _, Z.Imp.refl _, Z.Imp.refl _, Z.Imp.oslcn (by rw [List.length_eraseIdx, if_pos hkl]; (try simp only [LN] at *) <;> omega), Z.Imp.refl _, Z.Imp.refl _, trivial⟩, trivial⟩ ?_); ((refine Z.rndK ((i + 1, 0, 0, 0, l, [], true, (some (L.eraseIdx k, N9)))) (fun s => [0, 1, 2, 3, 4, 5]) rfl rfl rfl rfl ?_ ?_ ?_ ?_); (focus (repeat' (first | exact trivial | exact rfl | apply And.intro))); (focus (repeat' (first | exact trivial | exact WBb_sub rfl | (intro b hb; cases hb; first | rfl | (cases w <;> rfl)) | (intro b hb; cases hb; done) | apply And.intro))); (focus (exact ⟨by (try dsimp only); omega, by (try dsimp only); omega, H3, Nat.le_trans erase_le hw9, HP⟩)); ((try dsimp only); omega))))))
end Go.Proofs.Ytoiadndmbppobaa
namespace Go.Proofs.Ytoiadndmbppobaa
open Go Go.RowKit Wx
set_option linter.unusedVariables false
set_option linter.unusedSimpArgs false
set_option maxHeartbeats 400000000
theorem r_los0 (rm : Int) (ls : List St) (hl : ls.length ≤ 9223372036854775807) (i B N T : Nat) (l : Int) (put : List El) (pe : Bool) (w : Option (List Pk × Nat)) (HI : i ≤ ls.length) (HB : i ≤ 50) (H : LInv rm i B N T l put (wl w)) (HW : wn w) (HP : pe = true ↔ put = []) (hi : i < ls.length) (kd n : Int) (keeps : Bool) (e : El) (pk : Pk) (hx : ls[i]? = some ⟨kd, n, keeps, e, pk⟩) (hux : 0 ≤ e.num ∧ 0 ≤ pk.sq ∧ 0 ≤ pk.lim ∧ 0 ≤ pk.e.num) (hib : ¬ i = 50) (h4 : (IntKind.u64.wrap kd).tmod 11 = 8) (hw0 : (wl w).length = 0) {Q : Exit → Z.S → Prop} : Z.codeZ Try.prog tab 96 0 none (lbody Try.f9) ⟨gCH 27 (i, B, N, T, l, put, pe, w) ++ gFk 5 25 26 ls, gCK rm (i, B, N, T, l, put, pe, w) ++ [], 6⟩ (loopPost (gRnd rm 27 5 25 26 50 ls (i, B, N, T, l, put, pe, w)) Q) := by
  dsimp only [gCH, gFk, gCK, gRnd]
  rcases w with _ | ⟨L, N9⟩
  · have H2 := H.more
    have hqm : (List.map eE (put.drop B)).length = put.length - B := by rw [List.length_map, List.length_drop]
    have hbm : (List.map eE (bfL put N T)).length = N - T := by rw [List.length_map, bfL_len H2.hNP]
    have hq9 : (put.drop B).length = put.length - B := List.length_drop
    have hb9 := bfL_len (T := T) H2.hNP
    have hn9 := H2.hNP
    have hbn9 := H2.hBN
    have htn9 := H2.hTN
    have hR9 := (okR_all H2.hR).1
    have hpl9 := H2.hpl
    have hS9 := (okS_all H2.hS).1
    have H9 := H2.sub (w' := []) (fun p h => nomatch h) (Nat.zero_le _)
    have cse2 := send_con 7 ((B : Int) + 1) (put.drop B) l (endsL put) (by have h9 := H9.hpl; simp only [List.length_take, List.length_drop]; omega) (fun e he => okEs_num H9.hP e (List.mem_of_mem_drop he)) (by omega) H9.hl0
    rw [H9.sent] at cse2
    dsimp only at cse2
    have hQ9 := fun (p : Pk) hp => H9.pks_ok (p := p) hp
    have hql9 := @pks_len 7 l ((B : Int) + 1) (put.drop B)
    generalize pks 7 l ((B : Int) + 1) (put.drop B) = Q9 at *
    cases pe
    · have hp0 : 0 < put.length := pe_false HP
      have hpne : put ≠ [] := fun h9 => by simp [h9] at hp0
      repeat' ((conv => whnf); first
        | with_reducible first | refine spB_t ?_
        | ((with_reducible apply spB_cong); (focus (simp only [beq_self_eq_true, bne_self_eq_false, Bool.true_bne, Bool.false_bne, Bool.bne_true, Bool.bne_false, Bool.true_beq, Bool.false_beq, Bool.not_true, Bool.not_false, Bool.not_not, Int.reduceBEq, Int.reduceBNe, Int.reduceLE, Int.reduceLT, Int.reduceEq, decide_true, decide_false]; rfl)))
        | with_reducible first | refine spB_yes (by decide) ?_ | refine spB_no (by decide) ?_
        | (with_reducible refine spB_dec ?_ ?_ <;> intro _ <;> (try (exfalso; first | contradiction | omega | (rename_i hz; refine hz ?_; simp; done) | (rename_i hz; simp at hz; done) | (simp only [LN] at *; omega))))
        | (with_reducible refine spB_beq ?_ ?_ <;> intro _ <;> (try (exfalso; first | contradiction | omega | (rename_i hz; refine hz ?_; simp; done) | (rename_i hz; simp at hz; done) | (simp only [LN] at *; omega))))
        | with_reducible first | refine Z.rowN_known hx ?_
        | ((with_reducible refine Z.vN_K h4 ?_ ?_); (focus rfl))
        | ((with_reducible apply ixN_litp); (focus (exact rfl)); (focus ((try simp only [LN] at *) <;> omega)))
        | with_reducible first | refine wr_mk _ rfl ?_
        | with_reducible refine nzN_mk (by omega) ?_
        | with_reducible first | refine Z.callZ_in tabOk 153 Try.f37 _ Try.func37 (by kernel_rfl) rfl rfl rfl ?_ | refine Z.callZ_in tabOk 56 Try.f61 _ Try.func61 (by kernel_rfl) rfl rfl rfl ?_
        | ((first | (with_reducible refine Z.callZ_mk ?_ (cse2) ?_)); (focus ((repeat' (first | exact trivial | exact rfl | apply And.intro)); done)))
        | ((with_reducible apply ex_and); exact rfl))
      all_goals (try (conv => whnf))
      all_goals try (show Nat.ble _ _ = true; rfl)
      all_goals try (exfalso; rename_i hz; cases hz; done)
      all_goals try (exfalso; (try simp only [LN] at *) <;> omega)
      all_goals (
        refine Z.loopK tabOk (fun zq : Nat × Nat => [(54, .val (.int .i64 (zq.1 : Int)))]) (fun zq : Nat × Nat => ([(8, some (Z.Ob.b ⟨[[.v (.int .u32 7), .v (.int .u64 ((zq.2 : Int) + 1)), .ro true 5 ((bfL put zq.2 T).map eE), .v (.int .i64 rm)]], 4, 55, true⟩))] : Z.Kr)) (fun zq => zq.1 ≤ Q9.length ∧ LInv rm (i + 1) B zq.2 T l put []) (fun zq => Q9.length - zq.1) (0, N) 9 [(5, _), (11, _), (25, _), (26, _), (27, _), (52, _), (53, _)] ⟨rfl, rfl, rfl, rfl, rfl, rfl, rfl, trivial⟩ [(2, _), (3, _), (4, _), (5, _), (6, _), (7, _)] ⟨rfl, rfl, rfl, rfl, rfl, rfl, trivial⟩ ?_ ?_ rfl rfl ⟨Nat.zero_le _, H9⟩ ?_
        · repeat' (first | exact trivial | apply And.intro | exact ⟨_, rfl, Z.Imp.refl _⟩)
        · repeat' (first | exact trivial | exact (fun b hb => ⟨b, hb, Z.ImpO.refl b⟩) | apply And.intro)
        rintro ⟨j, M⟩ HINV
        dsimp only at HINV ⊢
        obtain ⟨HJ, HM⟩ := HINV
        by_cases hj : j < Q9.length
        · obtain ⟨y9, hy9⟩ := getElem?_some' (xs := Q9) (i := j) hj
          obtain ⟨k9, hk9a, hk9b, hk9c, hk9d⟩ := hQ9 y9 (List.mem_of_getElem? hy9)
          have hyok9 : okP put rm M T y9 := by rw [hk9c]; exact ⟨rfl, .inl ⟨rfl, rfl, k9, rfl, hk9b⟩⟩
          have hyse9 : y9.se = 7 := by rw [hk9c]
          have hysq9 : y9.sq = (k9 : Int) + 1 := by rw [hk9c]
          have hykd9 : y9.kd ≠ 2 := by rw [hk9c]; show (1 : Int) ≠ 2; decide
          have hyn9 := hyok9.num HM.hP
          have che := hear_con 7 ((M : Int) + 1) (bfL put M T) rm y9 (by have h9 := HM.hpl; simp only [List.length_take, List.length_drop]; omega) (fun e he => okEs_num HM.hP e (List.mem_of_mem_take (List.mem_of_mem_drop he))) (by omega) hyn9.1 hyn9.2.2
          obtain ⟨M', hM9, hE9, HM2, hgot⟩ := HM.hear (.inl hyok9) hykd9
          rw [hE9] at che
          dsimp only at che
          have hg2 := hgot hyse9
          have hl8 := HM.hl
          have ht8 := HM.hTN
          have hR8 := (okR_all HM.hR).1
          have hbm8 : (List.map eE (bfL put M T)).length = M - T := by rw [List.length_map, bfL_len HM.hNP]
          have hbm7 : (List.map eE (bfL put M' T)).length = M' - T := by rw [List.length_map, bfL_len HM2.hNP]
          have ht7 := HM2.hTN
          by_cases hs9 : y9.sq = (M : Int) + 1
          · have hM8 : M' = M + 1 := hg2 hs9 (by omega)
            repeat' ((conv => whnf); first
              | with_reducible first | refine spB_t ?_
              | ((with_reducible apply spB_cong); (focus (simp only [beq_self_eq_true, bne_self_eq_false, Bool.true_bne, Bool.false_bne, Bool.bne_true, Bool.bne_false, Bool.true_beq, Bool.false_beq, Bool.not_true, Bool.not_false, Bool.not_not, Int.reduceBEq, Int.reduceBNe, Int.reduceLE, Int.reduceLT, Int.reduceEq, decide_true, decide_false]; rfl)))
              | with_reducible first | refine spB_no (by decide) ?_
              | (with_reducible refine spB_dec ?_ ?_ <;> intro _ <;> (try (exfalso; first | contradiction | omega | (rename_i hz; refine hz ?_; simp; done) | (rename_i hz; simp at hz; done) | (simp only [LN] at *; omega))))
              | (with_reducible refine spB_beq ?_ ?_ <;> intro _ <;> (try (exfalso; first | contradiction | omega | (rename_i hz; refine hz ?_; simp; done) | (rename_i hz; simp at hz; done) | (simp only [LN] at *; omega))))
              | (with_reducible refine spB_bne ?_ ?_ <;> intro _ <;> (try (exfalso; first | contradiction | omega | (rename_i hz; refine hz ?_; simp; done) | (rename_i hz; simp at hz; done) | (simp only [LN] at *; omega))))
              | with_reducible first | refine Z.rowN_known hy9 ?_
              | ((with_reducible apply ixN_litp); (focus (exact rfl)); (focus ((try simp only [LN] at *) <;> omega)))
              | with_reducible refine wr_i64 (by first | omega | (simp only [LN] at *; omega)) ?_
              | with_reducible refine wr_u64 (by omega) ?_
              | ((first | (with_reducible refine Z.callZ_mk ?_ (che) ?_)); (focus ((repeat' (first | exact trivial | exact rfl | apply And.intro)); done))))
            all_goals (try (conv => whnf))
            all_goals try (show Nat.ble _ _ = true; rfl)
            all_goals try (exfalso; rename_i hz; cases hz; done)
            all_goals try (exfalso; (try simp only [LN] at *) <;> omega)
            all_goals first
              | ((refine Z.rndK ((j + 1, M')) (fun s => [0, 1, 2, 3, 4, 5, 6, 7, 8]) rfl rfl rfl rfl ?_ ?_ ?_ ?_); (focus (repeat' (first | exact trivial | exact rfl | apply And.intro))); (focus (repeat' (first | exact trivial | (intro b hb; cases hb; first | rfl | (cases w <;> rfl)) | (intro b hb; cases hb; done) | exact Z.blk_sub rfl rfl (ren_map fun _ => rfl) | exact Z.gB_sub rfl rfl (ren_map fun _ => rfl) | apply And.intro))); (focus (exact ⟨by (try dsimp only); omega, HM2⟩)); ((try dsimp only); omega))
          · skip
            repeat' ((conv => whnf); first
              | ((with_reducible apply spB_cong); (focus (simp only [beq_self_eq_true, bne_self_eq_false, Bool.true_bne, Bool.false_bne, Bool.bne_true, Bool.bne_false, Bool.true_beq, Bool.false_beq, Bool.not_true, Bool.not_false, Bool.not_not, Int.reduceBEq, Int.reduceBNe, Int.reduceLE, Int.reduceLT, Int.reduceEq, decide_true, decide_false]; rfl)))
              | with_reducible first | refine spB_no (by decide) ?_
              | (with_reducible refine spB_dec ?_ ?_ <;> intro _ <;> (try (exfalso; first | contradiction | omega | (rename_i hz; refine hz ?_; simp; done) | (rename_i hz; simp at hz; done) | (simp only [LN] at *; omega))))
              | (with_reducible refine spB_beq ?_ ?_ <;> intro _ <;> (try (exfalso; first | contradiction | omega | (rename_i hz; refine hz ?_; simp; done) | (rename_i hz; simp at hz; done) | (simp only [LN] at *; omega))))
              | with_reducible first | refine Z.rowN_known hy9 ?_
              | ((with_reducible apply ixN_litp); (focus (exact rfl)); (focus ((try simp only [LN] at *) <;> omega)))
              | with_reducible refine wr_i64 (by first | omega | (simp only [LN] at *; omega)) ?_
              | with_reducible refine wr_u64 (by omega) ?_
              | ((first | (with_reducible refine Z.callZ_mk ?_ (che) ?_)); (focus ((repeat' (first | exact trivial | exact rfl | apply And.intro)); done))))
            all_goals (try (conv => whnf))
            all_goals try (show Nat.ble _ _ = true; rfl)
            all_goals try (exfalso; rename_i hz; cases hz; done)
            all_goals try (exfalso; (try simp only [LN] at *) <;> omega)
            all_goals first
              | ((refine Z.rndK ((j + 1, M')) (fun s => [0, 1, 2, 3, 4, 5, 6, 7, 8]) rfl rfl rfl rfl ?_ ?_ ?_ ?_); (focus (repeat' (first | exact trivial | exact rfl | apply And.intro))); (focus (repeat' (first | exact trivial | (intro b hb; cases hb; first | rfl | (cases w <;> rfl)) | (intro b hb; cases hb; done) | exact Z.blk_sub rfl rfl (ren_map fun _ => rfl) | exact Z.gB_sub rfl rfl (ren_map fun _ => rfl) | apply And.intro))); (focus (exact ⟨by (try dsimp only); omega, HM2⟩)); ((try dsimp only); omega))
        repeat' ((conv => whnf); first
          | (with_reducible refine spB_dec ?_ ?_ <;> intro _ <;> (try (exfalso; first | contradiction | omega | (rename_i hz; refine hz ?_; simp; done) | (rename_i hz; simp at hz; done) | (simp only [LN] at *; omega))))
          | with_reducible refine wr_i64 (by first | omega | (simp only [LN] at *; omega)) ?_)
        all_goals (try (conv => whnf))
        all_goals try (show Nat.ble _ _ = true; rfl)
        all_goals try (exfalso; rename_i hz; cases hz; done)
        all_goals try (exfalso; (try simp only [LN] at *) <;> omega)
        all_goals first
          | ((refine Z.rndK ((i + 1, B, N, T, l, put, false, none)) (fun s => [0, 1, 2, 3, 4, 5]) rfl rfl rfl rfl ?_ ?_ ?_ ?_); (focus (repeat' (first | exact trivial | exact rfl | apply And.intro))); (focus (repeat' (first | exact trivial | exact WBb_sub rfl | (intro b hb; cases hb; first | rfl | (cases w <;> rfl)) | exact Z.blk_sub rfl rfl (ren_map fun _ => rfl) | exact Z.gB_sub rfl rfl (ren_map fun _ => rfl) | apply And.intro))); (focus (exact ⟨by (try dsimp only); omega, by (try dsimp only); omega, H2, trivial, HP⟩)); ((try dsimp only); omega)))
    · obtain ⟨rfl, rfl, rfl, rfl⟩ := pe_true HP H
      repeat' ((conv => whnf); first
        | with_reducible first | refine spB_t ?_
        | ((with_reducible apply spB_cong); (focus (simp only [beq_self_eq_true, bne_self_eq_false, Bool.true_bne, Bool.false_bne, Bool.bne_true, Bool.bne_false, Bool.true_beq, Bool.false_beq, Bool.not_true, Bool.not_false, Bool.not_not, Int.reduceBEq, Int.reduceBNe, Int.reduceLE, Int.reduceLT, Int.reduceEq, decide_true, decide_false]; rfl)))
        | with_reducible first | refine spB_yes (by decide) ?_ | refine spB_no (by decide) ?_
        | (with_reducible refine spB_dec ?_ ?_ <;> intro _ <;> (try (exfalso; first | contradiction | omega | (rename_i hz; refine hz ?_; simp; done) | (rename_i hz; simp at hz; done) | (simp only [LN] at *; omega))))
        | (with_reducible refine spB_beq ?_ ?_ <;> intro _ <;> (try (exfalso; first | contradiction | omega | (rename_i hz; refine hz ?_; simp; done) | (rename_i hz; simp at hz; done) | (simp only [LN] at *; omega))))
        | with_reducible first | refine Z.rowN_known hx ?_
        | ((with_reducible refine Z.vN_K h4 ?_ ?_); (focus rfl))
        | ((with_reducible apply ixN_litp); (focus (exact rfl)); (focus ((try simp only [LN] at *) <;> omega)))
        | with_reducible first | refine wr_mk _ rfl ?_
        | with_reducible refine nzN_mk (by omega) ?_
        | with_reducible first | refine Z.callZ_in tabOk 153 Try.f37 _ Try.func37 (by kernel_rfl) rfl rfl rfl ?_ | refine Z.callZ_in tabOk 56 Try.f61 _ Try.func61 (by kernel_rfl) rfl rfl rfl ?_
        | ((first | (with_reducible refine Z.callZ_mk ?_ (cse2) ?_)); (focus ((repeat' (first | exact trivial | exact rfl | apply And.intro)); done)))
        | ((with_reducible apply ex_and); exact rfl))
      all_goals (try (conv => whnf))
      all_goals try (show Nat.ble _ _ = true; rfl)
      all_goals try (exfalso; rename_i hz; cases hz; done)
      all_goals try (exfalso; (try simp only [LN] at *) <;> omega)
      all_goals (
        refine Z.loopK tabOk (fun zq : Nat × Nat => [(54, .val (.int .i64 (zq.1 : Int)))]) (fun zq : Nat × Nat => ([(8, some (Z.Ob.b ⟨[[.v (.int .u32 7), .v (.int .u64 ((zq.2 : Int) + 1)), .ro true 5 ((bfL ([] : List El) zq.2 0).map eE), .v (.int .i64 rm)]], 4, 55, true⟩))] : Z.Kr)) (fun zq => zq.1 ≤ Q9.length ∧ LInv rm (i + 1) 0 zq.2 0 l ([] : List El) []) (fun zq => Q9.length - zq.1) (0, 0) 9 [(5, _), (11, _), (25, _), (26, _), (27, _), (52, _), (53, _)] ⟨rfl, rfl, rfl, rfl, rfl, rfl, rfl, trivial⟩ [(2, _), (3, _), (4, _), (5, _), (6, _), (7, _)] ⟨rfl, rfl, rfl, rfl, rfl, rfl, trivial⟩ ?_ ?_ rfl rfl ⟨Nat.zero_le _, H9⟩ ?_
        · repeat' (first | exact trivial | apply And.intro | exact ⟨_, rfl, Z.Imp.refl _⟩)
        · repeat' (first | exact trivial | exact (fun b hb => ⟨b, hb, Z.ImpO.refl b⟩) | apply And.intro)
        rintro ⟨j, M⟩ HINV
        dsimp only at HINV ⊢
        obtain ⟨HJ, HM⟩ := HINV
        by_cases hj : j < Q9.length
        · obtain ⟨y9, hy9⟩ := getElem?_some' (xs := Q9) (i := j) hj
          obtain ⟨k9, hk9a, hk9b, hk9c, hk9d⟩ := hQ9 y9 (List.mem_of_getElem? hy9)
          simp at hk9b
        repeat' ((conv => whnf); first
          | (with_reducible refine spB_dec ?_ ?_ <;> intro _ <;> (try (exfalso; first | contradiction | omega | (rename_i hz; refine hz ?_; simp; done) | (rename_i hz; simp at hz; done) | (simp only [LN] at *; omega))))
          | with_reducible refine wr_i64 (by first | omega | (simp only [LN] at *; omega)) ?_)
        all_goals (try (conv => whnf))
        all_goals try (show Nat.ble _ _ = true; rfl)
        all_goals try (exfalso; rename_i hz; cases hz; done)
        all_goals try (exfalso; (try simp only [LN] at *) <;> omega)
        all_goals first
          | ((refine Z.rndK ((i + 1, 0, 0, 0, l, [], true, none)) (fun s => [0, 1, 2, 3, 4, 5]) rfl rfl rfl rfl ?_ ?_ ?_ ?_); (focus (repeat' (first | exact trivial | exact rfl | apply And.intro))); (focus (repeat' (first | exact trivial | exact WBb_sub rfl | (intro b hb; cases hb; first | rfl | (cases w <;> rfl)) | (intro b hb; cases hb; done) | apply And.intro))); (focus (exact ⟨by (try dsimp only); omega, by (try dsimp only); omega, H2, trivial, HP⟩)); ((try dsimp only); omega)))
  have hL : L.length = 0 := hw0
  have hw9 : L.length ≤ N9 := HW
  have hpd : (padP N9 L).length = N9 := padP_len hw9
  have H2 := H.more
  have hqm : (List.map eE (put.drop B)).length = put.length - B := by rw [List.length_map, List.length_drop]
  have hbm : (List.map eE (bfL put N T)).length = N - T := by rw [List.length_map, bfL_len H2.hNP]
  have hq9 : (put.drop B).length = put.length - B := List.length_drop
  have hb9 := bfL_len (T := T) H2.hNP
  have hn9 := H2.hNP
  have hbn9 := H2.hBN
  have htn9 := H2.hTN
  have hR9 := (okR_all H2.hR).1
  have hpl9 := H2.hpl
  have hS9 := (okS_all H2.hS).1
  have H9 := H2.sub (w' := []) (fun p h => nomatch h) (Nat.zero_le _)
  have cse2 := send_con 7 ((B : Int) + 1) (put.drop B) l (endsL put) (by have h9 := H9.hpl; simp only [List.length_take, List.length_drop]; omega) (fun e he => okEs_num H9.hP e (List.mem_of_mem_drop he)) (by omega) H9.hl0
  rw [H9.sent] at cse2
  dsimp only at cse2
  have hQ9 := fun (p : Pk) hp => H9.pks_ok (p := p) hp
  have hql9 := @pks_len 7 l ((B : Int) + 1) (put.drop B)
  generalize pks 7 l ((B : Int) + 1) (put.drop B) = Q9 at *
  cases pe
  · have hp0 : 0 < put.length := pe_false HP
    have hpne : put ≠ [] := fun h9 => by simp [h9] at hp0
    repeat' ((conv => whnf); first
      | with_reducible first | refine spB_t ?_
      | ((with_reducible apply spB_cong); (focus (simp only [beq_self_eq_true, bne_self_eq_false, Bool.true_bne, Bool.false_bne, Bool.bne_true, Bool.bne_false, Bool.true_beq, Bool.false_beq, Bool.not_true, Bool.not_false, Bool.not_not, Int.reduceBEq, Int.reduceBNe, Int.reduceLE, Int.reduceLT, Int.reduceEq, decide_true, decide_false]; rfl)))
      | with_reducible first | refine spB_no (by decide) ?_
      | (with_reducible refine spB_dec ?_ ?_ <;> intro _ <;> (try (exfalso; first | contradiction | omega | (rename_i hz; refine hz ?_; simp; done) | (rename_i hz; simp at hz; done) | (simp only [LN] at *; omega))))
      | (with_reducible refine spB_beq ?_ ?_ <;> intro _ <;> (try (exfalso; first | contradiction | omega | (rename_i hz; refine hz ?_; simp; done) | (rename_i hz; simp at hz; done) | (simp only [LN] at *; omega))))
      | with_reducible first | refine Z.rowN_known hx ?_
      | ((with_reducible refine Z.vN_K h4 ?_ ?_); (focus rfl))
      | ((with_reducible apply ixN_litp); (focus (exact rfl)); (focus ((try simp only [LN] at *) <;> omega)))
      | with_reducible first | refine wr_mk _ rfl ?_
      | with_reducible refine nzN_mk (by omega) ?_
      | with_reducible first | refine Z.callZ_in tabOk 153 Try.f37 _ Try.func37 (by kernel_rfl) rfl rfl rfl ?_ | refine Z.callZ_in tabOk 56 Try.f61 _ Try.func61 (by kernel_rfl) rfl rfl rfl ?_
      | ((first | (with_reducible refine Z.callZ_mk ?_ (cse2) ?_)); (focus ((repeat' (first | exact trivial | exact rfl | apply And.intro)); done)))
      | ((with_reducible apply ex_and); exact rfl))
    all_goals (try (conv => whnf))
    all_goals try (show Nat.ble _ _ = true; rfl)
    all_goals try (exfalso; rename_i hz; cases hz; done)
    all_goals try (exfalso; (try simp only [LN] at *) <;> omega)
    all_goals (
      refine Z.loopK tabOk (fun zq : Nat × Nat => [(54, .val (.int .i64 (zq.1 : Int)))]) (fun zq : Nat × Nat => ([(8, some (Z.Ob.b ⟨[[.v (.int .u32 7), .v (.int .u64 ((zq.2 : Int) + 1)), .ro true 5 ((bfL put zq.2 T).map eE), .v (.int .i64 rm)]], 4, 55, true⟩))] : Z.Kr)) (fun zq => zq.1 ≤ Q9.length ∧ LInv rm (i + 1) B zq.2 T l put []) (fun zq => Q9.length - zq.1) (0, N) 9 [(5, _), (11, _), (25, _), (26, _), (27, _), (52, _), (53, _)] ⟨rfl, rfl, rfl, rfl, rfl, rfl, rfl, trivial⟩ [(2, _), (3, _), (4, _), (5, _), (6, _), (7, _)] ⟨rfl, rfl, rfl, rfl, rfl, rfl, trivial⟩ ?_ ?_ rfl rfl ⟨Nat.zero_le _, H9⟩ ?_
      · repeat' (first | exact trivial | apply And.intro | exact ⟨_, rfl, Z.Imp.refl _⟩)
      · repeat' (first | exact trivial | exact (fun b hb => ⟨b, hb, Z.ImpO.refl b⟩) | apply And.intro)
      rintro ⟨j, M⟩ HINV
      dsimp only at HINV ⊢
      obtain ⟨HJ, HM⟩ := HINV
      by_cases hj : j < Q9.length
      · obtain ⟨y9, hy9⟩ := getElem?_some' (xs := Q9) (i := j) hj
        obtain ⟨k9, hk9a, hk9b, hk9c, hk9d⟩ := hQ9 y9 (List.mem_of_getElem? hy9)
        have hyok9 : okP put rm M T y9 := by rw [hk9c]; exact ⟨rfl, .inl ⟨rfl, rfl, k9, rfl, hk9b⟩⟩
        have hyse9 : y9.se = 7 := by rw [hk9c]
        have hysq9 : y9.sq = (k9 : Int) + 1 := by rw [hk9c]
        have hykd9 : y9.kd ≠ 2 := by rw [hk9c]; show (1 : Int) ≠ 2; decide
        have hyn9 := hyok9.num HM.hP
        have che := hear_con 7 ((M : Int) + 1) (bfL put M T) rm y9 (by have h9 := HM.hpl; simp only [List.length_take, List.length_drop]; omega) (fun e he => okEs_num HM.hP e (List.mem_of_mem_take (List.mem_of_mem_drop he))) (by omega) hyn9.1 hyn9.2.2
        obtain ⟨M', hM9, hE9, HM2, hgot⟩ := HM.hear (.inl hyok9) hykd9
        rw [hE9] at che
        dsimp only at che
        have hg2 := hgot hyse9
        have hl8 := HM.hl
        have ht8 := HM.hTN
        have hR8 := (okR_all HM.hR).1
        have hbm8 : (List.map eE (bfL put M T)).length = M - T := by rw [List.length_map, bfL_len HM.hNP]
        have hbm7 : (List.map eE (bfL put M' T)).length = M' - T := by rw [List.length_map, bfL_len HM2.hNP]
        have ht7 := HM2.hTN
        by_cases hs9 : y9.sq = (M : Int) + 1
        · have hM8 : M' = M + 1 := hg2 hs9 (by omega)
          repeat' ((conv => whnf); first
            | with_reducible first | refine spB_t ?_
            | ((with_reducible apply spB_cong); (focus (simp only [beq_self_eq_true, bne_self_eq_false, Bool.true_bne, Bool.false_bne, Bool.bne_true, Bool.bne_false, Bool.true_beq, Bool.false_beq, Bool.not_true, Bool.not_false, Bool.not_not, Int.reduceBEq, Int.reduceBNe, Int.reduceLE, Int.reduceLT, Int.reduceEq, decide_true, decide_false]; rfl)))
            | with_reducible first | refine spB_no (by decide) ?_
            | (with_reducible refine spB_dec ?_ ?_ <;> intro _ <;> (try (exfalso; first | contradiction | omega | (rename_i hz; refine hz ?_; simp; done) | (rename_i hz; simp at hz; done) | (simp only [LN] at *; omega))))
            | (with_reducible refine spB_beq ?_ ?_ <;> intro _ <;> (try (exfalso; first | contradiction | omega | (rename_i hz; refine hz ?_; simp; done) | (rename_i hz; simp at hz; done) | (simp only [LN] at *; omega))))
            | (with_reducible refine spB_bne ?_ ?_ <;> intro _ <;> (try (exfalso; first | contradiction | omega | (rename_i hz; refine hz ?_; simp; done) | (rename_i hz; simp at hz; done) | (simp only [LN] at *; omega))))
            | with_reducible first | refine Z.rowN_known hy9 ?_
            | ((with_reducible apply ixN_litp); (focus (exact rfl)); (focus ((try simp only [LN] at *) <;> omega)))
            | with_reducible refine wr_i64 (by first | omega | (simp only [LN] at *; omega)) ?_
            | with_reducible refine wr_u64 (by omega) ?_
            | ((first | (with_reducible refine Z.callZ_mk ?_ (che) ?_)); (focus ((repeat' (first | exact trivial | exact rfl | apply And.intro)); done))))
          all_goals (try (conv => whnf))
          all_goals try (show Nat.ble _ _ = true; rfl)
          all_goals try (exfalso; rename_i hz; cases hz; done)
          all_goals try (exfalso; (try simp only [LN] at *) <;> omega)
          all_goals first
            | ((refine Z.rndK ((j + 1, M')) (fun s => [0, 1, 2, 3, 4, 5, 6, 7, 8]) rfl rfl rfl rfl ?_ ?_ ?_ ?_); (focus (repeat' (first | exact trivial | exact rfl | apply And.intro))); (focus (repeat' (first | exact trivial | (intro b hb; cases hb; first | rfl | (cases w <;> rfl)) | exact Z.blk_sub rfl rfl (ren_map fun _ => rfl) | exact Z.gB_sub rfl rfl (ren_map fun _ => rfl) | apply And.intro))); (focus (exact ⟨by (try dsimp only); omega, HM2⟩)); ((try dsimp only); omega))
        · skip
          repeat' ((conv => whnf); first
            | ((with_reducible apply spB_cong); (focus (simp only [beq_self_eq_true, bne_self_eq_false, Bool.true_bne, Bool.false_bne, Bool.bne_true, Bool.bne_false, Bool.true_beq, Bool.false_beq, Bool.not_true, Bool.not_false, Bool.not_not, Int.reduceBEq, Int.reduceBNe, Int.reduceLE, Int.reduceLT, Int.reduceEq, decide_true, decide_false]; rfl)))
            | with_reducible first | refine spB_no (by decide) ?_
            | (with_reducible refine spB_dec ?_ ?_ <;> intro _ <;> (try (exfalso; first | contradiction | omega | (rename_i hz; refine hz ?_; simp; done) | (rename_i hz; simp at hz; done) | (simp only [LN] at *; omega))))
            | (with_reducible refine spB_beq ?_ ?_ <;> intro _ <;> (try (exfalso; first | contradiction | omega | (rename_i hz; refine hz ?_; simp; done) | (rename_i hz; simp at hz; done) | (simp only [LN] at *; omega))))
            | with_reducible first | refine Z.rowN_known hy9 ?_
            | ((with_reducible apply ixN_litp); (focus (exact rfl)); (focus ((try simp only [LN] at *) <;> omega)))
            | with_reducible refine wr_i64 (by first | omega | (simp only [LN] at *; omega)) ?_
            | with_reducible refine wr_u64 (by omega) ?_
            | ((first | (with_reducible refine Z.callZ_mk ?_ (che) ?_)); (focus ((repeat' (first | exact trivial | exact rfl | apply And.intro)); done))))
          all_goals (try (conv => whnf))
          all_goals try (show Nat.ble _ _ = true; rfl)
          all_goals try (exfalso; rename_i hz; cases hz; done)
          all_goals try (exfalso; (try simp only [LN] at *) <;> omega)
          all_goals first
            | ((refine Z.rndK ((j + 1, M')) (fun s => [0, 1, 2, 3, 4, 5, 6, 7, 8]) rfl rfl rfl rfl ?_ ?_ ?_ ?_); (focus (repeat' (first | exact trivial | exact rfl | apply And.intro))); (focus (repeat' (first | exact trivial | (intro b hb; cases hb; first | rfl | (cases w <;> rfl)) | exact Z.blk_sub rfl rfl (ren_map fun _ => rfl) | exact Z.gB_sub rfl rfl (ren_map fun _ => rfl) | apply And.intro))); (focus (exact ⟨by (try dsimp only); omega, HM2⟩)); ((try dsimp only); omega))
      repeat' ((conv => whnf); first
        | (with_reducible refine spB_dec ?_ ?_ <;> intro _ <;> (try (exfalso; first | contradiction | omega | (rename_i hz; refine hz ?_; simp; done) | (rename_i hz; simp at hz; done) | (simp only [LN] at *; omega))))
        | with_reducible refine wr_i64 (by first | omega | (simp only [LN] at *; omega)) ?_)
      all_goals (try (conv => whnf))
      all_goals try (show Nat.ble _ _ = true; rfl)
      all_goals try (exfalso; rename_i hz; cases hz; done)
      all_goals try (exfalso; (try simp only [LN] at *) <;> omega)
      all_goals first
        | ((refine Z.rndK ((i + 1, B, N, T, l, put, false, (some (L, N9)))) (fun s => [0, 1, 2, 3, 4, 5]) rfl rfl rfl rfl ?_ ?_ ?_ ?_); (focus (repeat' (first | exact trivial | exact rfl | apply And.intro))); (focus (repeat' (first | exact trivial | exact WBb_sub rfl | (intro b hb; cases hb; first | rfl | (cases w <;> rfl)) | exact Z.blk_sub rfl rfl (ren_map fun _ => rfl) | exact Z.gB_sub rfl rfl (ren_map fun _ => rfl) | apply And.intro))); (focus (exact ⟨by (try dsimp only); omega, by (try dsimp only); omega, H2, HW, HP⟩)); ((try dsimp only); omega)))
  · obtain ⟨rfl, rfl, rfl, rfl⟩ := pe_true HP H
    repeat' ((conv => whnf); first
      | with_reducible first | refine spB_t ?_
      | ((with_reducible apply spB_cong); (focus (simp only [beq_self_eq_true, bne_self_eq_false, Bool.true_bne, Bool.false_bne, Bool.bne_true, Bool.bne_false, Bool.true_beq, Bool.false_beq, Bool.not_true, Bool.not_false, Bool.not_not, Int.reduceBEq, Int.reduceBNe, Int.reduceLE, Int.reduceLT, Int.reduceEq, decide_true, decide_false]; rfl)))
      | with_reducible first | refine spB_no (by decide) ?_
      | (with_reducible refine spB_dec ?_ ?_ <;> intro _ <;> (try (exfalso; first | contradiction | omega | (rename_i hz; refine hz ?_; simp; done) | (rename_i hz; simp at hz; done) | (simp only [LN] at *; omega))))
      | (with_reducible refine spB_beq ?_ ?_ <;> intro _ <;> (try (exfalso; first | contradiction | omega | (rename_i hz; refine hz ?_; simp; done) | (rename_i hz; simp at hz; done) | (simp only [LN] at *; omega))))
      | with_reducible first | refine Z.rowN_known hx ?_
      | ((with_reducible refine Z.vN_K h4 ?_ ?_); (focus rfl))
      | ((with_reducible apply ixN_litp); (focus (exact rfl)); (focus ((try simp only [LN] at *) <;> omega)))
      | with_reducible first | refine wr_mk _ rfl ?_
      | with_reducible refine nzN_mk (by omega) ?_
      | with_reducible first | refine Z.callZ_in tabOk 153 Try.f37 _ Try.func37 (by kernel_rfl) rfl rfl rfl ?_ | refine Z.callZ_in tabOk 56 Try.f61 _ Try.func61 (by kernel_rfl) rfl rfl rfl ?_
      | ((first | (with_reducible refine Z.callZ_mk ?_ (cse2) ?_)); (focus ((repeat' (first | exact trivial | exact rfl | apply And.intro)); done)))
      | ((with_reducible apply ex_and); exact rfl))
    all_goals (try (conv => whnf))
    all_goals try (show Nat.ble _ _ = true; rfl)
    all_goals try (exfalso; rename_i hz; cases hz; done)
    all_goals try (exfalso; (try simp only [LN] at *) <;> omega)
    all_goals (
      refine Z.loopK tabOk (fun zq : Nat × Nat => [(54, .val (.int .i64 (zq.1 : Int)))]) (fun zq : Nat × Nat => ([(8, some (Z.Ob.b ⟨[[.v (.int .u32 7), .v (.int .u64 ((zq.2 : Int) + 1)), .ro true 5 ((bfL ([] : List El) zq.2 0).map eE), .v (.int .i64 rm)]], 4, 55, true⟩))] : Z.Kr)) (fun zq => zq.1 ≤ Q9.length ∧ LInv rm (i + 1) 0 zq.2 0 l ([] : List El) []) (fun zq => Q9.length - zq.1) (0, 0) 9 [(5, _), (11, _), (25, _), (26, _), (27, _), (52, _), (53, _)] ⟨rfl, rfl, rfl, rfl, rfl, rfl, rfl, trivial⟩ [(2, _), (3, _), (4, _), (5, _), (6, _), (7, _)] ⟨rfl, rfl, rfl, rfl, rfl, rfl, trivial⟩ ?_ ?_ rfl rfl ⟨Nat.zero_le _, H9⟩ ?_
      · repeat' (first | exact trivial | apply And.intro | exact ⟨_, rfl, Z.Imp.refl _⟩)
      · repeat' (first | exact trivial | exact (fun b hb => ⟨b, hb, Z.ImpO.refl b⟩) | apply And.intro)
      rintro ⟨j, M⟩ HINV
      dsimp only at HINV ⊢
      obtain ⟨HJ, HM⟩ := HINV
      by_cases hj : j < Q9.length
      · obtain ⟨y9, hy9⟩ := getElem?_some' (xs := Q9) (i := j) hj
        obtain ⟨k9, hk9a, hk9b, hk9c, hk9d⟩ := hQ9 y9 (List.mem_of_getElem? hy9)
        simp at hk9b
      repeat' ((conv => whnf); first
        | (with_reducible refine spB_dec ?_ ?_ <;> intro _ <;> (try (exfalso; first | contradiction | omega | (rename_i hz; refine hz ?_; simp; done) | (rename_i hz; simp at hz; done) | (simp only [LN] at *; omega))))
        | with_reducible refine wr_i64 (by first | omega | (simp only [LN] at *; omega)) ?_)
      all_goals (try (conv => whnf))
      all_goals try (show Nat.ble _ _ = true; rfl)
      all_goals try (exfalso; rename_i hz; cases hz; done)
      all_goals try (exfalso; (try simp only [LN] at *) <;> omega)
      all_goals first
        | ((refine Z.rndK ((i + 1, 0, 0, 0, l, [], true, (some (L, N9)))) (fun s => [0, 1, 2, 3, 4, 5]) rfl rfl rfl rfl ?_ ?_ ?_ ?_); (focus (repeat' (first | exact trivial | exact rfl | apply And.intro))); (focus (repeat' (first | exact trivial | exact WBb_sub rfl | (intro b hb; cases hb; first | rfl | (cases w <;> rfl)) | (intro b hb; cases hb; done) | apply And.intro))); (focus (exact ⟨by (try dsimp only); omega, by (try dsimp only); omega, H2, HW, HP⟩)); ((try dsimp only); omega)))
end Go.Proofs.Ytoiadndmbppobaa
namespace Go.Proofs.Ytoiadndmbppobaa
open Go Go.RowKit Wx
set_option linter.unusedVariables false
set_option linter.unusedSimpArgs false
set_option maxHeartbeats 400000000
theorem r_lost (rm : Int) (ls : List St) (hl : ls.length ≤ 9223372036854775807) (i B N T : Nat) (l : Int) (put : List El) (pe : Bool) (L : List Pk) (N9 : Nat) (HI : i ≤ ls.length) (HB : i ≤ 50) (H : LInv rm i B N T l put (wl (some (L, N9)))) (HW : wn (some (L, N9))) (HP : pe = true ↔ put = []) (hi : i < ls.length) (kd n : Int) (keeps : Bool) (e : El) (pk : Pk) (hx : ls[i]? = some ⟨kd, n, keeps, e, pk⟩) (hux : 0 ≤ e.num ∧ 0 ≤ pk.sq ∧ 0 ≤ pk.lim ∧ 0 ≤ pk.e.num) (hib : ¬ i = 50) (h4 : (IntKind.u64.wrap kd).tmod 11 = 8) (hL : 0 < L.length) {Q : Exit → Z.S → Prop} : Z.codeZ Try.prog tab 96 0 none (lbody Try.f9) ⟨gCH 27 (i, B, N, T, l, put, pe, (some (L, N9))) ++ gFk 5 25 26 ls, gCK rm (i, B, N, T, l, put, pe, (some (L, N9))) ++ [], 6⟩ (loopPost (gRnd rm 27 5 25 26 50 ls (i, B, N, T, l, put, pe, (some (L, N9)))) Q) := by
  dsimp only [gCH, gFk, gCK, gRnd]
  have hw9 : L.length ≤ N9 := HW
  have hpd : (padP N9 L).length = N9 := padP_len hw9
  have hwl9 : L.length ≤ 8 * i := H.hwl
  obtain ⟨k, hk1, hkl⟩ := u64_tm (n := n) hL
  obtain ⟨y, hy⟩ := getElem?_some' (xs := L) (i := k) hkl
  have hyok : okP put rm N T y := H.hw y (List.mem_of_getElem? hy)
  have hyn := hyok.num H.hP
  have H2 := (H.sub (w' := L.eraseIdx k) erase_sub erase_le).more
  have hqm : (List.map eE (put.drop B)).length = put.length - B := by rw [List.length_map, List.length_drop]
  have hbm : (List.map eE (bfL put N T)).length = N - T := by rw [List.length_map, bfL_len H2.hNP]
  have hq9 : (put.drop B).length = put.length - B := List.length_drop
  have hb9 := bfL_len (T := T) H2.hNP
  have hn9 := H2.hNP
  have hbn9 := H2.hBN
  have htn9 := H2.hTN
  have hR9 := (okR_all H2.hR).1
  have hpl9 := H2.hpl
  have hS9 := (okS_all H2.hS).1
  have H9 := H2.sub (w' := []) (fun p h => nomatch h) (Nat.zero_le _)
  have cse2 := send_con 7 ((B : Int) + 1) (put.drop B) l (endsL put) (by have h9 := H9.hpl; simp only [List.length_take, List.length_drop]; omega) (fun e he => okEs_num H9.hP e (List.mem_of_mem_drop he)) (by omega) H9.hl0
  rw [H9.sent] at cse2
  dsimp only at cse2
  have hQ9 := fun (p : Pk) hp => H9.pks_ok (p := p) hp
  have hql9 := @pks_len 7 l ((B : Int) + 1) (put.drop B)
  generalize pks 7 l ((B : Int) + 1) (put.drop B) = Q9 at *
  cases pe
  · have hp0 : 0 < put.length := pe_false HP
    have hpne : put ≠ [] := fun h9 => by simp [h9] at hp0
    repeat' ((conv => whnf); first
      | with_reducible first | refine spB_t ?_
      | ((with_reducible apply spB_cong); (focus (simp only [beq_self_eq_true, bne_self_eq_false, Bool.true_bne, Bool.false_bne, Bool.bne_true, Bool.bne_false, Bool.true_beq, Bool.false_beq, Bool.not_true, Bool.not_false, Bool.not_not, Int.reduceBEq, Int.reduceBNe, Int.reduceLE, Int.reduceLT, Int.reduceEq, decide_true, decide_false]; rfl)))
      | with_reducible first | refine spB_no (by decide) ?_
      | (with_reducible refine spB_dec ?_ ?_ <;> intro _ <;> (try (exfalso; first | contradiction | omega | (rename_i hz; refine hz ?_; simp; done) | (rename_i hz; simp at hz; done) | (simp only [LN] at *; omega))))
      | (with_reducible refine spB_beq ?_ ?_ <;> intro _ <;> (try (exfalso; first | contradiction | omega | (rename_i hz; refine hz ?_; simp; done) | (rename_i hz; simp at hz; done) | (simp only [LN] at *; omega))))
      | with_reducible first | refine Z.rowN_known hx ?_
      | ((with_reducible refine Z.vN_K h4 ?_ ?_); (focus rfl))
      | ((with_reducible refine Z.callZ_cap ?_); intro capv hcapv)
      | ((with_reducible refine Z.vN_K hk1 ?_ ?_); (focus rfl))
      | ((with_reducible refine ixN_mk k ?_ ?_ ?_); (focus rfl); (focus omega))
      | ((with_reducible refine rowN_mk (cP y) ?_ ?_); (focus (exact padP_at hy)))
      | ((with_reducible refine slN_hi k ?_ ?_ ?_); (focus omega); (focus ((try simp only [LN] at *) <;> omega)))
      | ((with_reducible refine Z.slN_lo (k + 1) ?_ ?_ ?_); (focus omega); (focus ((try simp only [LN] at *) <;> omega)))
      | ((with_reducible refine Z.slN_lhc (L.length - 1) L.length ?_ ?_ ?_ ?_ ?_); (iterate 3 (focus ((try simp only [LN] at *) <;> omega))); (focus (exact ⟨_, rfl, by (try simp only [LN] at *) <;> omega⟩)))
      | ((with_reducible refine clrN_mk ?_ ?_ ?_); (focus (show _ ≤ (lay (List.map cP (padP N9 L)) _ _).length; rw [lay_length (by (try simp only [LN] at *) <;> omega)]; ((try simp only [LN] at *) <;> omega))); (focus rfl))
      | ((with_reducible apply ixN_litp); (focus (exact rfl)); (focus ((try simp only [LN] at *) <;> omega)))
      | ((with_reducible refine apdE_r ?_); (with_reducible refine aprN.mk ⟨_, rfl, ?_⟩ ?_ ?_ ?_ ?_); (focus ((try simp only [LN] at *) <;> omega)); (focus (first | rfl | ((try simp only [LN] at *) <;> omega))); (focus (first | exact one_all (by rfl) | exact one_drop (fun _ => rfl))); (focus ((try simp only [LN] at *) <;> omega)))
      | ((with_reducible refine slE_a ?_ ?_); (focus ((try simp only [LN] at *) <;> omega)))
      | ((with_reducible refine slE_split ?_ ?_ ?_); (focus ((try simp only [LN] at *) <;> omega)); (all_goals intro _))
      | ((with_reducible apply sl3N_mk); (focus (exact rfl)); (focus (exact rfl)); (focus (exact rfl)); (focus ((try simp only [LN] at *) <;> omega)); (focus ((try simp only [LN] at *) <;> omega)); (focus ((try simp only [LN] at *) <;> omega)); (focus ((try simp only [LN] at *) <;> omega)))
      | with_reducible refine wr_i64 (by first | omega | (simp only [LN] at *; omega)) ?_
      | with_reducible refine wr_u64 (by omega) ?_
      | with_reducible first | refine wr_mk _ rfl ?_
      | with_reducible refine nzN_mk (by omega) ?_
      | with_reducible first | refine Z.callZ_in tabOk 153 Try.f37 _ Try.func37 (by kernel_rfl) rfl rfl rfl ?_ | refine Z.callZ_in tabOk 56 Try.f61 _ Try.func61 (by kernel_rfl) rfl rfl rfl ?_ | refine Z.callZ_in tabOk 33 Try.f66 _ Try.func66 (by kernel_rfl) rfl rfl rfl ?_
      | ((first | (with_reducible refine Z.callZ_mk ?_ (cse2) ?_)); (focus ((repeat' (first | exact trivial | exact rfl | apply And.intro)); done)))
      | ((with_reducible apply ex_and); exact rfl)
      | with_reducible first | refine Z.drawZ_rule tabOk mixOk ?_ | refine Z.apZ_mk (by kernel_rfl) ?_)
    all_goals (try (conv => whnf))
    all_goals try (show Nat.ble _ _ = true; rfl)
    all_goals try (exfalso; rename_i hz; cases hz; done)
    all_goals try (exfalso; (try simp only [LN] at *) <;> omega)
    all_goals (
      refine Z.loopK tabOk (fun zq : Nat × Nat => [(54, .val (.int .i64 (zq.1 : Int)))]) (fun zq : Nat × Nat => ([(9, some (Z.Ob.b ⟨[[.v (.int .u32 7), .v (.int .u64 ((zq.2 : Int) + 1)), .ro true 5 ((bfL put zq.2 T).map eE), .v (.int .i64 rm)]], 4, 55, true⟩)), (3, some (Z.Ob.b ⟨(padP N9 (L.eraseIdx k)).map cP, 9, 35, false⟩))] : Z.Kr)) (fun zq => zq.1 ≤ Q9.length ∧ LInv rm (i + 1) B zq.2 T l put []) (fun zq => Q9.length - zq.1) (0, N) 10 [(5, _), (11, _), (25, _), (26, _), (27, _), (52, _), (53, _)] ⟨rfl, rfl, rfl, rfl, rfl, rfl, rfl, trivial⟩ [(2, _), (4, _), (5, _), (6, _), (7, _), (8, _)] ⟨rfl, rfl, rfl, rfl, rfl, rfl, trivial⟩ ?_ ?_ rfl rfl ⟨Nat.zero_le _, H9⟩ ?_
      · repeat' (first | exact trivial | apply And.intro | exact ⟨_, rfl, Z.Imp.refl _⟩)
      · repeat' (first | exact trivial | exact (fun b hb => ⟨b, hb, Z.ImpO.refl b⟩) | (intro b hb; cases hb; refine ⟨_, rfl, ⟨rfl, rfl, rfl⟩, Z.imp_eq ?_⟩; exact pad_del2 (by omega) rfl hkl (by omega) (by first | exact pad_drop rfl | (rw [List.drop_eq_nil_of_le (by simp only [List.length_map]; omega)]; rfl)); done) | apply And.intro)
      rintro ⟨j, M⟩ HINV
      dsimp only at HINV ⊢
      obtain ⟨HJ, HM⟩ := HINV
      by_cases hj : j < Q9.length
      · obtain ⟨y9, hy9⟩ := getElem?_some' (xs := Q9) (i := j) hj
        obtain ⟨k9, hk9a, hk9b, hk9c, hk9d⟩ := hQ9 y9 (List.mem_of_getElem? hy9)
        have hyok9 : okP put rm M T y9 := by rw [hk9c]; exact ⟨rfl, .inl ⟨rfl, rfl, k9, rfl, hk9b⟩⟩
        have hyse9 : y9.se = 7 := by rw [hk9c]
        have hysq9 : y9.sq = (k9 : Int) + 1 := by rw [hk9c]
        have hykd9 : y9.kd ≠ 2 := by rw [hk9c]; show (1 : Int) ≠ 2; decide
        have hyn9 := hyok9.num HM.hP
        have che := hear_con 7 ((M : Int) + 1) (bfL put M T) rm y9 (by have h9 := HM.hpl; simp only [List.length_take, List.length_drop]; omega) (fun e he => okEs_num HM.hP e (List.mem_of_mem_take (List.mem_of_mem_drop he))) (by omega) hyn9.1 hyn9.2.2
        obtain ⟨M', hM9, hE9, HM2, hgot⟩ := HM.hear (.inl hyok9) hykd9
        rw [hE9] at che
        dsimp only at che
        have hg2 := hgot hyse9
        have hl8 := HM.hl
        have ht8 := HM.hTN
        have hR8 := (okR_all HM.hR).1
        have hbm8 : (List.map eE (bfL put M T)).length = M - T := by rw [List.length_map, bfL_len HM.hNP]
        have hbm7 : (List.map eE (bfL put M' T)).length = M' - T := by rw [List.length_map, bfL_len HM2.hNP]
        have ht7 := HM2.hTN
        by_cases hs9 : y9.sq = (M : Int) + 1
        · have hM8 : M' = M + 1 := hg2 hs9 (by omega)
          repeat' ((conv => whnf); first
            | with_reducible first | refine spB_t ?_
            | ((with_reducible apply spB_cong); (focus (simp only [beq_self_eq_true, bne_self_eq_false, Bool.true_bne, Bool.false_bne, Bool.bne_true, Bool.bne_false, Bool.true_beq, Bool.false_beq, Bool.not_true, Bool.not_false, Bool.not_not, Int.reduceBEq, Int.reduceBNe, Int.reduceLE, Int.reduceLT, Int.reduceEq, decide_true, decide_false]; rfl)))
            | with_reducible first | refine spB_no (by decide) ?_
            | (with_reducible refine spB_dec ?_ ?_ <;> intro _ <;> (try (exfalso; first | contradiction | omega | (rename_i hz; refine hz ?_; simp; done) | (rename_i hz; simp at hz; done) | (simp only [LN] at *; omega))))
            | (with_reducible refine spB_beq ?_ ?_ <;> intro _ <;> (try (exfalso; first | contradiction | omega | (rename_i hz; refine hz ?_; simp; done) | (rename_i hz; simp at hz; done) | (simp only [LN] at *; omega))))
            | (with_reducible refine spB_bne ?_ ?_ <;> intro _ <;> (try (exfalso; first | contradiction | omega | (rename_i hz; refine hz ?_; simp; done) | (rename_i hz; simp at hz; done) | (simp only [LN] at *; omega))))
            | with_reducible first | refine Z.rowN_known hy9 ?_
            | ((with_reducible apply ixN_litp); (focus (exact rfl)); (focus ((try simp only [LN] at *) <;> omega)))
            | with_reducible refine wr_i64 (by first | omega | (simp only [LN] at *; omega)) ?_
            | with_reducible refine wr_u64 (by omega) ?_
            | ((first | (with_reducible refine Z.callZ_mk ?_ (che) ?_)); (focus ((repeat' (first | exact trivial | exact rfl | apply And.intro)); done))))
          all_goals (try (conv => whnf))
          all_goals try (show Nat.ble _ _ = true; rfl)
          all_goals try (exfalso; rename_i hz; cases hz; done)
          all_goals try (exfalso; (try simp only [LN] at *) <;> omega)
          all_goals first
            | ((refine Z.rndK ((j + 1, M')) (fun s => [0, 1, 2, 3, 4, 5, 6, 7, 8, 9]) rfl rfl rfl rfl ?_ ?_ ?_ ?_); (focus (repeat' (first | exact trivial | exact rfl | apply And.intro))); (focus (repeat' (first | exact trivial | (intro b hb; cases hb; first | rfl | (cases w <;> rfl)) | exact Z.blk_sub rfl rfl (ren_map fun _ => rfl) | exact Z.gB_sub rfl rfl (ren_map fun _ => rfl) | apply And.intro))); (focus (exact ⟨by (try dsimp only); omega, HM2⟩)); ((try dsimp only); omega))
        · skip
          repeat' ((conv => whnf); first
            | ((with_reducible apply spB_cong); (focus (simp only [beq_self_eq_true, bne_self_eq_false, Bool.true_bne, Bool.false_bne, Bool.bne_true, Bool.bne_false, Bool.true_beq, Bool.false_beq, Bool.not_true, Bool.not_false, Bool.not_not, Int.reduceBEq, Int.reduceBNe, Int.reduceLE, Int.reduceLT, Int.reduceEq, decide_true, decide_false]; rfl)))
            | with_reducible first | refine spB_no (by decide) ?_
            | (with_reducible refine spB_dec ?_ ?_ <;> intro _ <;> (try (exfalso; first | contradiction | omega | (rename_i hz; refine hz ?_; simp; done) | (rename_i hz; simp at hz; done) | (simp only [LN] at *; omega))))
            | (with_reducible refine spB_beq ?_ ?_ <;> intro _ <;> (try (exfalso; first | contradiction | omega | (rename_i hz; refine hz ?_; simp; done) | (rename_i hz; simp at hz; done) | (simp only [LN] at *; omega))))
            | with_reducible first | refine Z.rowN_known hy9 ?_
            | ((with_reducible apply ixN_litp); (focus (exact rfl)); (focus ((try simp only [LN] at *) <;> omega)))
            | with_reducible refine wr_i64 (by first | omega | (simp only [LN] at *; omega)) ?_
            | with_reducible refine wr_u64 (by omega) ?_
            | ((first | (with_reducible refine Z.callZ_mk ?_ (che) ?_)); (focus ((repeat' (first | exact trivial | exact rfl | apply And.intro)); done))))
          all_goals (try (conv => whnf))
          all_goals try (show Nat.ble _ _ = true; rfl)
          all_goals try (exfalso; rename_i hz; cases hz; done)
          all_goals try (exfalso; (try simp only [LN] at *) <;> omega)
          all_goals first
            | ((refine Z.rndK ((j + 1, M')) (fun s => [0, 1, 2, 3, 4, 5, 6, 7, 8, 9]) rfl rfl rfl rfl ?_ ?_ ?_ ?_); (focus (repeat' (first | exact trivial | exact rfl | apply And.intro))); (focus (repeat' (first | exact trivial | (intro b hb; cases hb; first | rfl | (cases w <;> rfl)) | exact Z.blk_sub rfl rfl (ren_map fun _ => rfl) | exact Z.gB_sub rfl rfl (ren_map fun _ => rfl) | apply And.intro))); (focus (exact ⟨by (try dsimp only); omega, HM2⟩)); ((try dsimp only); omega))
      repeat' ((conv => whnf); first
        | (with_reducible refine spB_dec ?_ ?_ <;> intro _ <;> (try (exfalso; first | contradiction | omega | (rename_i hz; refine hz ?_; simp; done) | (rename_i hz; simp at hz; done) | (simp only [LN] at *; omega))))
        | with_reducible refine wr_i64 (by first | omega | (simp only [LN] at *; omega)) ?_)
      all_goals (try (conv => whnf))
      all_goals try (show Nat.ble _ _ = true; rfl)
      all_goals try (exfalso; rename_i hz; cases hz; done)
      all_goals try (exfalso; (try simp only [LN] at *) <;> omega)
      all_goals first
        | ((refine Z.rnd_rw 3 ((padP N9 (L.eraseIdx k)).map cP) rfl rfl ?_ ?_); (focus (first | rfl)); ((refine Z.rnd_bi 2 [[_, _, _, _, _, _, _, _, _, .osl 3 0 (L.eraseIdx k).length none, _, _]] rfl rfl ⟨⟨Z.Imp.refl _, Z.Imp.refl _, Z.Imp.refl _, Z.Imp.refl _, Z.Imp.refl _, Z.Imp.refl _, Z.Imp.refl _, Z.Imp.refl _, Z.Imp.refl _, Z.Imp.oslcn (by rw [List.length_eraseIdx, if_pos hkl]; (try simp only [LN] at *) <;> omega), Z.Imp.refl _, Z.Imp.refl _, trivial⟩, trivial⟩ ?_); ((refine Z.rndK ((i + 1, B, N, T, l, put, false, (some (L.eraseIdx k, N9)))) (fun s => [0, 1, 2, 3, 4, 5]) rfl rfl rfl rfl ?_ ?_ ?_ ?_); (focus (repeat' (first | exact trivial | exact rfl | apply And.intro))); (focus (repeat' (first | exact trivial | exact WBb_sub rfl | (intro b hb; cases hb; first | rfl | (cases w <;> rfl)) | exact Z.blk_sub rfl rfl (ren_map fun _ => rfl) | exact Z.gB_sub rfl rfl (ren_map fun _ => rfl) | apply And.intro))); (focus (exact ⟨by (try dsimp only); omega, by (try dsimp only); omega, H2, Nat.le_trans erase_le hw9, HP⟩)); ((try dsimp only); omega)))))
  · obtain ⟨rfl, rfl, rfl, rfl⟩ := pe_true HP H
    repeat' ((conv => whnf); first
      | with_reducible first | refine spB_t ?_
      | ((with_reducible apply spB_cong); (focus (simp only [beq_self_eq_true, bne_self_eq_false, Bool.true_bne, Bool.false_bne, Bool.bne_true, Bool.bne_false, Bool.true_beq, Bool.false_beq, Bool.not_true, Bool.not_false, Bool.not_not, Int.reduceBEq, Int.reduceBNe, Int.reduceLE, Int.reduceLT, Int.reduceEq, decide_true, decide_false]; rfl)))
      | with_reducible first | refine spB_no (by decide) ?_
      | (with_reducible refine spB_dec ?_ ?_ <;> intro _ <;> (try (exfalso; first | contradiction | omega | (rename_i hz; refine hz ?_; simp; done) | (rename_i hz; simp at hz; done) | (simp only [LN] at *; omega))))
      | (with_reducible refine spB_beq ?_ ?_ <;> intro _ <;> (try (exfalso; first | contradiction | omega | (rename_i hz; refine hz ?_; simp; done) | (rename_i hz; simp at hz; done) | (simp only [LN] at *; omega))))
      | with_reducible first | refine Z.rowN_known hx ?_
      | ((with_reducible refine Z.vN_K h4 ?_ ?_); (focus rfl))
      | ((with_reducible refine Z.callZ_cap ?_); intro capv hcapv)
      | ((with_reducible refine Z.vN_K hk1 ?_ ?_); (focus rfl))
      | ((with_reducible refine ixN_mk k ?_ ?_ ?_); (focus rfl); (focus omega))
      | ((with_reducible refine rowN_mk (cP y) ?_ ?_); (focus (exact padP_at hy)))
      | ((with_reducible refine slN_hi k ?_ ?_ ?_); (focus omega); (focus ((try simp only [LN] at *) <;> omega)))
      | ((with_reducible refine Z.slN_lo (k + 1) ?_ ?_ ?_); (focus omega); (focus ((try simp only [LN] at *) <;> omega)))
      | ((with_reducible refine Z.slN_lhc (L.length - 1) L.length ?_ ?_ ?_ ?_ ?_); (iterate 3 (focus ((try simp only [LN] at *) <;> omega))); (focus (exact ⟨_, rfl, by (try simp only [LN] at *) <;> omega⟩)))
      | ((with_reducible refine clrN_mk ?_ ?_ ?_); (focus (show _ ≤ (lay (List.map cP (padP N9 L)) _ _).length; rw [lay_length (by (try simp only [LN] at *) <;> omega)]; ((try simp only [LN] at *) <;> omega))); (focus rfl))
      | ((with_reducible apply ixN_litp); (focus (exact rfl)); (focus ((try simp only [LN] at *) <;> omega)))
      | ((with_reducible refine apdE_r ?_); (with_reducible refine aprN.mk ⟨_, rfl, ?_⟩ ?_ ?_ ?_ ?_); (focus ((try simp only [LN] at *) <;> omega)); (focus (first | rfl | ((try simp only [LN] at *) <;> omega))); (focus (first | exact one_all (by rfl) | exact one_drop (fun _ => rfl))); (focus ((try simp only [LN] at *) <;> omega)))
      | ((with_reducible refine slE_a ?_ ?_); (focus ((try simp only [LN] at *) <;> omega)))
      | ((with_reducible refine slE_split ?_ ?_ ?_); (focus ((try simp only [LN] at *) <;> omega)); (all_goals intro _))
      | ((with_reducible apply sl3N_mk); (focus (exact rfl)); (focus (exact rfl)); (focus (exact rfl)); (focus ((try simp only [LN] at *) <;> omega)); (focus ((try simp only [LN] at *) <;> omega)); (focus ((try simp only [LN] at *) <;> omega)); (focus ((try simp only [LN] at *) <;> omega)))
      | with_reducible refine wr_i64 (by first | omega | (simp only [LN] at *; omega)) ?_
      | with_reducible refine wr_u64 (by omega) ?_
      | with_reducible first | refine wr_mk _ rfl ?_
      | with_reducible refine nzN_mk (by omega) ?_
      | with_reducible first | refine Z.callZ_in tabOk 153 Try.f37 _ Try.func37 (by kernel_rfl) rfl rfl rfl ?_ | refine Z.callZ_in tabOk 56 Try.f61 _ Try.func61 (by kernel_rfl) rfl rfl rfl ?_ | refine Z.callZ_in tabOk 33 Try.f66 _ Try.func66 (by kernel_rfl) rfl rfl rfl ?_
      | ((first | (with_reducible refine Z.callZ_mk ?_ (cse2) ?_)); (focus ((repeat' (first | exact trivial | exact rfl | apply And.intro)); done)))
      | ((with_reducible apply ex_and); exact rfl)
      | with_reducible first | refine Z.drawZ_rule tabOk mixOk ?_ | refine Z.apZ_mk (by kernel_rfl) ?_)
    all_goals (try (conv => whnf))
    all_goals try (show Nat.ble _ _ = true; rfl)
    all_goals try (exfalso; rename_i hz; cases hz; done)
    all_goals try (exfalso; (try simp only [LN] at *) <;> omega)
    all_goals (
      refine Z.loopK tabOk (fun zq : Nat × Nat => [(54, .val (.int .i64 (zq.1 : Int)))]) (fun zq : Nat × Nat => ([(9, some (Z.Ob.b ⟨[[.v (.int .u32 7), .v (.int .u64 ((zq.2 : Int) + 1)), .ro true 5 ((bfL ([] : List El) zq.2 0).map eE), .v (.int .i64 rm)]], 4, 55, true⟩)), (3, some (Z.Ob.b ⟨(padP N9 (L.eraseIdx k)).map cP, 9, 35, false⟩))] : Z.Kr)) (fun zq => zq.1 ≤ Q9.length ∧ LInv rm (i + 1) 0 zq.2 0 l ([] : List El) []) (fun zq => Q9.length - zq.1) (0, 0) 10 [(5, _), (11, _), (25, _), (26, _), (27, _), (52, _), (53, _)] ⟨rfl, rfl, rfl, rfl, rfl, rfl, rfl, trivial⟩ [(2, _), (4, _), (5, _), (6, _), (7, _), (8, _)] ⟨rfl, rfl, rfl, rfl, rfl, rfl, trivial⟩ ?_ ?_ rfl rfl ⟨Nat.zero_le _, H9⟩ ?_
      · repeat' (first | exact trivial | apply And.intro | exact ⟨_, rfl, Z.Imp.refl _⟩)
      · repeat' (first | exact trivial | exact (fun b hb => ⟨b, hb, Z.ImpO.refl b⟩) | (intro b hb; cases hb; refine ⟨_, rfl, ⟨rfl, rfl, rfl⟩, Z.imp_eq ?_⟩; exact pad_del2 (by omega) rfl hkl (by omega) (by first | exact pad_drop rfl | (rw [List.drop_eq_nil_of_le (by simp only [List.length_map]; omega)]; rfl)); done) | apply And.intro)
      rintro ⟨j, M⟩ HINV
      dsimp only at HINV ⊢
      obtain ⟨HJ, HM⟩ := HINV
      by_cases hj : j < Q9.length
      · obtain ⟨y9, hy9⟩ := getElem?_some' (xs := Q9) (i := j) hj
        obtain ⟨k9, hk9a, hk9b, hk9c, hk9d⟩ := hQ9 y9 (List.mem_of_getElem? hy9)
        simp at hk9b
      repeat' ((conv => whnf); first
        | (with_reducible refine spB_dec ?_ ?_ <;> intro _ <;> (try (exfalso; first | contradiction | omega | (rename_i hz; refine hz ?_; simp; done) | (rename_i hz; simp at hz; done) | (simp only [LN] at *; omega))))
        | with_reducible refine wr_i64 (by first | omega | (simp only [LN] at *; omega)) ?_)
      all_goals (try (conv => whnf))
      all_goals try (show Nat.ble _ _ = true; rfl)
      all_goals try (exfalso; rename_i hz; cases hz; done)
      all_goals try (exfalso; (try simp only [LN] at *) <;> omega)
      all_goals first
        | ((refine Z.rnd_rw 3 ((padP N9 (L.eraseIdx k)).map cP) rfl rfl ?_ ?_); (focus (first | rfl)); ((refine Z.rnd_bi 2 [[_, _, _, _, _, _, _, _, _, .osl 3 0 (L.eraseIdx k).length none, _, _]] rfl rfl ⟨⟨Z.Imp.refl _, Z.Imp.refl _, Z.Imp.refl _, Z.Imp.refl _, Z.Imp.refl _, Z.Imp.refl _, Z.Imp.refl _, Z.Imp.refl _, Z.Imp.refl _, Z.Imp.oslcn (by rw [List.length_eraseIdx, if_pos hkl]; (try simp only [LN] at *) <;> omega), Z.Imp.refl _, Z.Imp.refl _, trivial⟩, trivial⟩ ?_); ((refine Z.rndK ((i + 1, 0, 0, 0, l, [], true, (some (L.eraseIdx k, N9)))) (fun s => [0, 1, 2, 3, 4, 5]) rfl rfl rfl rfl ?_ ?_ ?_ ?_); (focus (repeat' (first | exact trivial | exact rfl | apply And.intro))); (focus (repeat' (first | exact trivial | exact WBb_sub rfl | (intro b hb; cases hb; first | rfl | (cases w <;> rfl)) | (intro b hb; cases hb; done) | apply And.intro))); (focus (exact ⟨by (try dsimp only); omega, by (try dsimp only); omega, H2, Nat.le_trans erase_le hw9, HP⟩)); ((try dsimp only); omega)))))
end Go.Proofs.Ytoiadndmbppobaa
