import Derived.Test.YtoiadndmbppobaaOwn7
import Derived.Test.YtoiadndmbppobaaOwn6
import Derived.Test.YtoiadndmbppobaaRows
namespace Go.Proofs.Ytoiadndmbppobaa
open Go Go.RowKit Wx
set_option linter.unusedVariables false
set_option linter.unusedSimpArgs false
set_option maxHeartbeats 400000000
theorem r_take (rm : Int) (ls : List St) (hl : ls.length ≤ 9223372036854775807) (i B N T : Nat) (l : Int) (put : List El) (pe : Bool) (w : Option (List Pk × Nat)) (HI : i ≤ ls.length) (HB : i ≤ 50) (H : LInv rm i B N T l put (wl w)) (HW : wn w) (HP : pe = true ↔ put = []) (hi : i < ls.length) (kd n : Int) (keeps : Bool) (e : El) (pk : Pk) (hx : ls[i]? = some ⟨kd, n, keeps, e, pk⟩) (hux : 0 ≤ e.num ∧ 0 ≤ pk.sq ∧ 0 ≤ pk.lim ∧ 0 ≤ pk.e.num) (hib : ¬ i = 50) (h4 : (IntKind.u64.wrap kd).tmod 11 = 9)  {Q : Exit → Z.S → Prop} : Z.codeZ Try.prog tab 96 0 none (lbody Try.f9) ⟨gCH 27 (i, B, N, T, l, put, pe, w) ++ gFk 5 25 26 ls, gCK rm (i, B, N, T, l, put, pe, w) ++ [], 6⟩ (loopPost (gRnd rm 27 5 25 26 50 ls (i, B, N, T, l, put, pe, w)) Q) := by
  dsimp only [gCH, gFk, gCK, gRnd]
  have cta := take_con 7 ((N : Int) + 1) (bfL put N T) rm (by have h9 := H.hpl; simp only [List.length_take, List.length_drop]; omega) (fun e he => okEs_num H.hP e (List.mem_of_mem_take (List.mem_of_mem_drop he))) (by omega)
  by_cases hTN9 : T < N
  · obtain ⟨y, hy⟩ := getElem?_some' (xs := put) (i := T) (by have := H.hNP; omega)
    obtain ⟨hE, H2⟩ := H.take hTN9 hy
    rw [hE] at cta
    dsimp only at cta
    replace H2 := H2.more
    have hne9 : put.take (T + 1) ≠ [] := fun h9 => by have h8 := congrArg List.length h9; have h7 := H.hNP; rw [List.length_take] at h8; simp only [List.length_nil] at h8; omega
    have hqm : (List.map eE (put.drop B)).length = put.length - B := by rw [List.length_map, List.length_drop]
    have hbm : (List.map eE (bfL put N (T + 1))).length = N - (T + 1) := by rw [List.length_map, bfL_len H2.hNP]
    have hq9 : (put.drop B).length = put.length - B := List.length_drop
    have hb9 := bfL_len (T := (T + 1)) H2.hNP
    have hn9 := H2.hNP
    have hbn9 := H2.hBN
    have htn9 := H2.hTN
    have hR9 := (okR_all H2.hR).1
    have hpl9 := H2.hpl
    have hS9 := (okS_all H2.hS).1
    have H9 := H2.sub (w' := []) (fun p h => nomatch h) (Nat.zero_le _)
    have cse2 := send_con 7 ((B : Int) + 1) (put.drop B) l (endsL put) (by have h9 := H9.hpl; simp only [List.length_take, List.length_drop]; omega) (fun e he => okEs_num H9.hP e (List.mem_of_mem_drop he)) (by omega) H9.hl0
    rw [H9.sent] at cse2
    dsimp only at cse2
    have hQ9 := fun (p : Pk) hp => H9.pks_ok (p := p) hp
    have hql9 := @pks_len 7 l ((B : Int) + 1) (put.drop B)
    generalize pks 7 l ((B : Int) + 1) (put.drop B) = Q9 at *
    cases pe
    · have hp0 : 0 < put.length := pe_false HP
      have hpne : put ≠ [] := fun h9 => by simp [h9] at hp0
      repeat' ((conv => whnf); first
        | with_reducible first | refine spB_t ?_
        | ((with_reducible apply spB_cong); (focus (simp only [beq_self_eq_true, bne_self_eq_false, Bool.true_bne, Bool.false_bne, Bool.bne_true, Bool.bne_false, Bool.true_beq, Bool.false_beq, Bool.not_true, Bool.not_false, Bool.not_not, Int.reduceBEq, Int.reduceBNe, Int.reduceLE, Int.reduceLT, Int.reduceEq, decide_true, decide_false]; rfl)))
        | with_reducible first | refine spB_no (by decide) ?_
        | (with_reducible refine spB_dec ?_ ?_ <;> intro _ <;> (try (exfalso; first | contradiction | omega | (rename_i hz; refine hz ?_; simp; done) | (rename_i hz; simp at hz; done) | (simp only [LN] at *; omega))))
        | (with_reducible refine spB_beq ?_ ?_ <;> intro _ <;> (try (exfalso; first | contradiction | omega | (rename_i hz; refine hz ?_; simp; done) | (rename_i hz; simp at hz; done) | (simp only [LN] at *; omega))))
        | with_reducible first | refine Z.rowN_known hx ?_
        | ((with_reducible refine Z.vN_K h4 ?_ ?_); (focus rfl))
        | ((with_reducible refine posE_pos ?_ ?_); (focus ((try simp only [LN] at *) <;> omega)))
        | ((with_reducible apply ixN_litp); (focus (exact rfl)); (focus ((try simp only [LN] at *) <;> omega)))
        | ((with_reducible refine apdN.mk ?_ ?_ ?_ ?_ ?_ ?_); (focus (first | rfl)); (focus (first | exact one_all (by rfl))); (focus ((try simp only [LN] at *) <;> omega)); (focus ((try simp only [LN] at *) <;> omega)); (focus ((try simp only [LN] at *) <;> omega)))
        | with_reducible first | refine wr_mk _ rfl ?_
        | with_reducible refine nzN_mk (by omega) ?_
        | with_reducible first | refine Z.callZ_in tabOk 153 Try.f37 _ Try.func37 (by kernel_rfl) rfl rfl rfl ?_
        | ((first | (with_reducible refine Z.callZ_mk ?_ (cta) ?_)); (focus ((repeat' (first | exact trivial | exact rfl | apply And.intro)); done)))
        | ((first | (with_reducible refine Z.callZ_mk ?_ (cse2) ?_)); (focus ((repeat' (first | exact trivial | exact rfl | apply And.intro)); done)))
        | ((with_reducible refine eqN_mk2 ?_ ?_); (focus (exact Z.kb_some rfl)))
        | ((with_reducible apply ex_and); exact rfl)
        | with_reducible first | refine Z.drawZ_rule tabOk mixOk ?_ | refine Z.apZ_mk (by kernel_rfl) ?_)
      all_goals (try (conv => whnf))
      all_goals try (show Nat.ble _ _ = true; rfl)
      all_goals try (exfalso; rename_i hz; cases hz; done)
      all_goals try (exfalso; (try simp only [LN] at *) <;> omega)
      all_goals (
        refine Z.loopK tabOk (fun zq : Nat × Nat => [(54, .val (.int .i64 (zq.1 : Int)))]) (fun zq : Nat × Nat => ([(12, some (Z.Ob.b ⟨[[.v (.int .u32 7), .v (.int .u64 ((zq.2 : Int) + 1)), .ro true 5 ((bfL put zq.2 (T + 1)).map eE), .v (.int .i64 rm)]], 4, 55, true⟩)), (11, some (Z.Ob.b ⟨(put.take (T + 1)).map cE, 5, 33, false⟩))] : Z.Kr)) (fun zq => zq.1 ≤ Q9.length ∧ LInv rm (i + 1) B zq.2 (T + 1) l put []) (fun zq => Q9.length - zq.1) (0, N) 13 [(5, _), (11, _), (25, _), (26, _), (27, _), (52, _), (53, _)] ⟨rfl, rfl, rfl, rfl, rfl, rfl, rfl, trivial⟩ [(2, _), (3, _), (4, _), (6, _), (7, _), (8, _), (9, _), (10, _)] ⟨rfl, rfl, rfl, rfl, rfl, rfl, rfl, rfl, trivial⟩ ?_ ?_ rfl rfl ⟨Nat.zero_le _, H9⟩ ?_
        · repeat' (first | exact trivial | apply And.intro | exact ⟨_, rfl, Z.Imp.refl _⟩)
        · repeat' (first | exact trivial | exact (fun b hb => ⟨b, hb, Z.ImpO.refl b⟩) | (intro b hb; cases hb; refine ⟨_, rfl, ⟨rfl, rfl, rfl⟩, Z.imp_eq ?_⟩; exact tk_snoc hy rfl; done) | apply And.intro)
        rintro ⟨j, M⟩ HINV
        dsimp only at HINV ⊢
        obtain ⟨HJ, HM⟩ := HINV
        by_cases hj : j < Q9.length
        · obtain ⟨y9, hy9⟩ := getElem?_some' (xs := Q9) (i := j) hj
          obtain ⟨k9, hk9a, hk9b, hk9c, hk9d⟩ := hQ9 y9 (List.mem_of_getElem? hy9)
          have hyok9 : okP put rm M (T + 1) y9 := by rw [hk9c]; exact ⟨rfl, .inl ⟨rfl, rfl, k9, rfl, hk9b⟩⟩
          have hyse9 : y9.se = 7 := by rw [hk9c]
          have hysq9 : y9.sq = (k9 : Int) + 1 := by rw [hk9c]
          have hykd9 : y9.kd ≠ 2 := by rw [hk9c]; show (1 : Int) ≠ 2; decide
          have hyn9 := hyok9.num HM.hP
          have che := hear_con 7 ((M : Int) + 1) (bfL put M (T + 1)) rm y9 (by have h9 := HM.hpl; simp only [List.length_take, List.length_drop]; omega) (fun e he => okEs_num HM.hP e (List.mem_of_mem_take (List.mem_of_mem_drop he))) (by omega) hyn9.1 hyn9.2.2
          obtain ⟨M', hM9, hE9, HM2, hgot⟩ := HM.hear (.inl hyok9) hykd9
          rw [hE9] at che
          dsimp only at che
          have hg2 := hgot hyse9
          have hl8 := HM.hl
          have ht8 := HM.hTN
          have hR8 := (okR_all HM.hR).1
          have hbm8 : (List.map eE (bfL put M (T + 1))).length = M - (T + 1) := by rw [List.length_map, bfL_len HM.hNP]
          have hbm7 : (List.map eE (bfL put M' (T + 1))).length = M' - (T + 1) := by rw [List.length_map, bfL_len HM2.hNP]
          have ht7 := HM2.hTN
          by_cases hs9 : y9.sq = (M : Int) + 1
          · have hM8 : M' = M + 1 := hg2 hs9 (by omega)
            repeat' ((conv => whnf); first
              | with_reducible first | refine spB_t ?_
              | ((with_reducible apply spB_cong); (focus (simp only [beq_self_eq_true, bne_self_eq_false, Bool.true_bne, Bool.false_bne, Bool.bne_true, Bool.bne_false, Bool.true_beq, Bool.false_beq, Bool.not_true, Bool.not_false, Bool.not_not, Int.reduceBEq, Int.reduceBNe, Int.reduceLE, Int.reduceLT, Int.reduceEq, decide_true, decide_false]; rfl)))
              | with_reducible first | refine spB_no (by decide) ?_
              | (with_reducible refine spB_dec ?_ ?_ <;> intro _ <;> (try (exfalso; first | contradiction | omega | (rename_i hz; refine hz ?_; simp; done) | (rename_i hz; simp at hz; done) | (simp only [LN] at *; omega))))
              | (with_reducible refine spB_beq ?_ ?_ <;> intro _ <;> (try (exfalso; first | contradiction | omega | (rename_i hz; refine hz ?_; simp; done) | (rename_i hz; simp at hz; done) | (simp only [LN] at *; omega))))
              | (with_reducible refine spB_bne ?_ ?_ <;> intro _ <;> (try (exfalso; first | contradiction | omega | (rename_i hz; refine hz ?_; simp; done) | (rename_i hz; simp at hz; done) | (simp only [LN] at *; omega))))
              | with_reducible first | refine Z.rowN_known hy9 ?_
              | ((with_reducible apply ixN_litp); (focus (exact rfl)); (focus ((try simp only [LN] at *) <;> omega)))
              | with_reducible refine wr_i64 (by first | omega | (simp only [LN] at *; omega)) ?_
              | with_reducible refine wr_u64 (by omega) ?_
              | ((first | (with_reducible refine Z.callZ_mk ?_ (che) ?_)); (focus ((repeat' (first | exact trivial | exact rfl | apply And.intro)); done))))
            all_goals (try (conv => whnf))
            all_goals try (show Nat.ble _ _ = true; rfl)
            all_goals try (exfalso; rename_i hz; cases hz; done)
            all_goals try (exfalso; (try simp only [LN] at *) <;> omega)
            all_goals first
              | ((refine Z.rndK ((j + 1, M')) (fun s => [0, 1, 2, 3, 4, 5, 6, 7, 8, 9, 10, 11, 12]) rfl rfl rfl rfl ?_ ?_ ?_ ?_); (focus (repeat' (first | exact trivial | exact rfl | apply And.intro))); (focus (repeat' (first | exact trivial | exact WBb_sub rfl | (intro b hb; cases hb; first | rfl | (cases w <;> rfl)) | exact Z.blk_sub rfl rfl (ren_map fun _ => rfl) | apply And.intro))); (focus (exact ⟨by (try dsimp only); omega, HM2⟩)); ((try dsimp only); omega))
          · skip
            repeat' ((conv => whnf); first
              | ((with_reducible apply spB_cong); (focus (simp only [beq_self_eq_true, bne_self_eq_false, Bool.true_bne, Bool.false_bne, Bool.bne_true, Bool.bne_false, Bool.true_beq, Bool.false_beq, Bool.not_true, Bool.not_false, Bool.not_not, Int.reduceBEq, Int.reduceBNe, Int.reduceLE, Int.reduceLT, Int.reduceEq, decide_true, decide_false]; rfl)))
              | with_reducible first | refine spB_no (by decide) ?_
              | (with_reducible refine spB_dec ?_ ?_ <;> intro _ <;> (try (exfalso; first | contradiction | omega | (rename_i hz; refine hz ?_; simp; done) | (rename_i hz; simp at hz; done) | (simp only [LN] at *; omega))))
              | (with_reducible refine spB_beq ?_ ?_ <;> intro _ <;> (try (exfalso; first | contradiction | omega | (rename_i hz; refine hz ?_; simp; done) | (rename_i hz; simp at hz; done) | (simp only [LN] at *; omega))))
              | with_reducible first | refine Z.rowN_known hy9 ?_
              | ((with_reducible apply ixN_litp); (focus (exact rfl)); (focus ((try simp only [LN] at *) <;> omega)))
              | with_reducible refine wr_i64 (by first | omega | (simp only [LN] at *; omega)) ?_
              | with_reducible refine wr_u64 (by omega) ?_
              | ((first | (with_reducible refine Z.callZ_mk ?_ (che) ?_)); (focus ((repeat' (first | exact trivial | exact rfl | apply And.intro)); done))))
            all_goals (try (conv => whnf))
            all_goals try (show Nat.ble _ _ = true; rfl)
            all_goals try (exfalso; rename_i hz; cases hz; done)
            all_goals try (exfalso; (try simp only [LN] at *) <;> omega)
            all_goals first
              | ((refine Z.rndK ((j + 1, M')) (fun s => [0, 1, 2, 3, 4, 5, 6, 7, 8, 9, 10, 11, 12]) rfl rfl rfl rfl ?_ ?_ ?_ ?_); (focus (repeat' (first | exact trivial | exact rfl | apply And.intro))); (focus (repeat' (first | exact trivial | exact WBb_sub rfl | (intro b hb; cases hb; first | rfl | (cases w <;> rfl)) | exact Z.blk_sub rfl rfl (ren_map fun _ => rfl) | apply And.intro))); (focus (exact ⟨by (try dsimp only); omega, HM2⟩)); ((try dsimp only); omega))
        repeat' ((conv => whnf); first
          | (with_reducible refine spB_dec ?_ ?_ <;> intro _ <;> (try (exfalso; first | contradiction | omega | (rename_i hz; refine hz ?_; simp; done) | (rename_i hz; simp at hz; done) | (simp only [LN] at *; omega))))
          | with_reducible refine wr_i64 (by first | omega | (simp only [LN] at *; omega)) ?_)
        all_goals (try (conv => whnf))
        all_goals try (show Nat.ble _ _ = true; rfl)
        all_goals try (exfalso; rename_i hz; cases hz; done)
        all_goals try (exfalso; (try simp only [LN] at *) <;> omega)
        all_goals first
          | ((refine Z.rnd_bi 2 [[_, _, _, _, _, _, _, _, _, _, _, .gsl _ ((put.take (T + 1)).map cE)]] rfl rfl ⟨⟨Z.Imp.refl _, Z.Imp.refl _, Z.Imp.refl _, Z.Imp.refl _, Z.Imp.refl _, Z.Imp.refl _, Z.Imp.refl _, Z.Imp.refl _, Z.Imp.refl _, Z.Imp.refl _, Z.Imp.refl _, Z.Imp.of_eq (congrArg (Ce.gsl _) (tk_snoc hy rfl)), trivial⟩, trivial⟩ ?_); ((refine Z.rndK ((i + 1, B, N, (T + 1), l, put, false, w)) (fun s => [0, 1, 2, 3, 4, s.idIn 2 11]) rfl rfl rfl rfl ?_ ?_ ?_ ?_); (focus (repeat' (first | exact trivial | exact rfl | apply And.intro))); (focus (repeat' (first | exact trivial | exact WBb_sub rfl | (intro b hb; cases hb; first | rfl | (cases w <;> rfl)) | exact Z.blk_sub rfl rfl (ren_map fun _ => rfl) | exact Z.gB_sub' rfl (by first | rfl | (rw [List.map_append]; rfl) | simp only [List.map_append, List.map_cons, List.map_nil]) (ren_map fun _ => rfl) | apply And.intro))); (focus (exact ⟨by (try dsimp only); omega, by (try dsimp only); omega, H2, HW, HP⟩)); ((try dsimp only); omega))))
    · have h8 := (pe_true HP H).2.1; omega
  · have hT9 : T = N := by have := H.hTN; omega
    rw [H.none hT9] at cta
    dsimp only at cta
    have H2 := H.more
    have hqm : (List.map eE (put.drop B)).length = put.length - B := by rw [List.length_map, List.length_drop]
    have hbm : (List.map eE (bfL put N T)).length = N - T := by rw [List.length_map, bfL_len H2.hNP]
    have hq9 : (put.drop B).length = put.length - B := List.length_drop
    have hb9 := bfL_len (T := T) H2.hNP
    have hn9 := H2.hNP
    have hbn9 := H2.hBN
    have htn9 := H2.hTN
    have hR9 := (okR_all H2.hR).1
    have hpl9 := H2.hpl
    have hS9 := (okS_all H2.hS).1
    have H9 := H2.sub (w' := []) (fun p h => nomatch h) (Nat.zero_le _)
    have cse2 := send_con 7 ((B : Int) + 1) (put.drop B) l (endsL put) (by have h9 := H9.hpl; simp only [List.length_take, List.length_drop]; omega) (fun e he => okEs_num H9.hP e (List.mem_of_mem_drop he)) (by omega) H9.hl0
    rw [H9.sent] at cse2
    dsimp only at cse2
    have hQ9 := fun (p : Pk) hp => H9.pks_ok (p := p) hp
    have hql9 := @pks_len 7 l ((B : Int) + 1) (put.drop B)
    generalize pks 7 l ((B : Int) + 1) (put.drop B) = Q9 at *
    cases pe
    · have hp0 : 0 < put.length := pe_false HP
      have hpne : put ≠ [] := fun h9 => by simp [h9] at hp0
      repeat' ((conv => whnf); first
        | with_reducible first | refine spB_t ?_
        | ((with_reducible apply spB_cong); (focus (simp only [beq_self_eq_true, bne_self_eq_false, Bool.true_bne, Bool.false_bne, Bool.bne_true, Bool.bne_false, Bool.true_beq, Bool.false_beq, Bool.not_true, Bool.not_false, Bool.not_not, Int.reduceBEq, Int.reduceBNe, Int.reduceLE, Int.reduceLT, Int.reduceEq, decide_true, decide_false]; rfl)))
        | with_reducible first | refine spB_no (by decide) ?_
        | (with_reducible refine spB_dec ?_ ?_ <;> intro _ <;> (try (exfalso; first | contradiction | omega | (rename_i hz; refine hz ?_; simp; done) | (rename_i hz; simp at hz; done) | (simp only [LN] at *; omega))))
        | (with_reducible refine spB_beq ?_ ?_ <;> intro _ <;> (try (exfalso; first | contradiction | omega | (rename_i hz; refine hz ?_; simp; done) | (rename_i hz; simp at hz; done) | (simp only [LN] at *; omega))))
        | with_reducible first | refine Z.rowN_known hx ?_
        | ((with_reducible refine Z.vN_K h4 ?_ ?_); (focus rfl))
        | ((with_reducible apply ixN_litp); (focus (exact rfl)); (focus ((try simp only [LN] at *) <;> omega)))
        | with_reducible first | refine wr_mk _ rfl ?_
        | with_reducible refine nzN_mk (by omega) ?_
        | with_reducible first | refine Z.callZ_in tabOk 153 Try.f37 _ Try.func37 (by kernel_rfl) rfl rfl rfl ?_
        | ((first | (with_reducible refine Z.callZ_mk ?_ (cta) ?_)); (focus ((repeat' (first | exact trivial | exact rfl | apply And.intro)); done)))
        | ((first | (with_reducible refine Z.callZ_mk ?_ (cse2) ?_)); (focus ((repeat' (first | exact trivial | exact rfl | apply And.intro)); done)))
        | ((with_reducible apply ex_and); exact rfl))
      all_goals (try (conv => whnf))
      all_goals try (show Nat.ble _ _ = true; rfl)
      all_goals try (exfalso; rename_i hz; cases hz; done)
      all_goals try (exfalso; (try simp only [LN] at *) <;> omega)
      all_goals (
        refine Z.loopK tabOk (fun zq : Nat × Nat => [(54, .val (.int .i64 (zq.1 : Int)))]) (fun zq : Nat × Nat => ([(10, some (Z.Ob.b ⟨[[.v (.int .u32 7), .v (.int .u64 ((zq.2 : Int) + 1)), .ro true 5 ((bfL put zq.2 T).map eE), .v (.int .i64 rm)]], 4, 55, true⟩))] : Z.Kr)) (fun zq => zq.1 ≤ Q9.length ∧ LInv rm (i + 1) B zq.2 T l put []) (fun zq => Q9.length - zq.1) (0, N) 11 [(5, _), (11, _), (25, _), (26, _), (27, _), (52, _), (53, _)] ⟨rfl, rfl, rfl, rfl, rfl, rfl, rfl, trivial⟩ [(2, _), (3, _), (4, _), (5, _), (6, _), (7, _), (8, _), (9, _)] ⟨rfl, rfl, rfl, rfl, rfl, rfl, rfl, rfl, trivial⟩ ?_ ?_ rfl rfl ⟨Nat.zero_le _, H9⟩ ?_
        · repeat' (first | exact trivial | apply And.intro | exact ⟨_, rfl, Z.Imp.refl _⟩)
        · repeat' (first | exact trivial | exact (fun b hb => ⟨b, hb, Z.ImpO.refl b⟩) | apply And.intro)
        rintro ⟨j, M⟩ HINV
        dsimp only at HINV ⊢
        obtain ⟨HJ, HM⟩ := HINV
        by_cases hj : j < Q9.length
        · obtain ⟨y9, hy9⟩ := getElem?_some' (xs := Q9) (i := j) hj
          obtain ⟨k9, hk9a, hk9b, hk9c, hk9d⟩ := hQ9 y9 (List.mem_of_getElem? hy9)
          have hyok9 : okP put rm M T y9 := by rw [hk9c]; exact ⟨rfl, .inl ⟨rfl, rfl, k9, rfl, hk9b⟩⟩
          have hyse9 : y9.se = 7 := by rw [hk9c]
          have hysq9 : y9.sq = (k9 : Int) + 1 := by rw [hk9c]
          have hykd9 : y9.kd ≠ 2 := by rw [hk9c]; show (1 : Int) ≠ 2; decide
          have hyn9 := hyok9.num HM.hP
          have che := hear_con 7 ((M : Int) + 1) (bfL put M T) rm y9 (by have h9 := HM.hpl; simp only [List.length_take, List.length_drop]; omega) (fun e he => okEs_num HM.hP e (List.mem_of_mem_take (List.mem_of_mem_drop he))) (by omega) hyn9.1 hyn9.2.2
          obtain ⟨M', hM9, hE9, HM2, hgot⟩ := HM.hear (.inl hyok9) hykd9
          rw [hE9] at che
          dsimp only at che
          have hg2 := hgot hyse9
          have hl8 := HM.hl
          have ht8 := HM.hTN
          have hR8 := (okR_all HM.hR).1
          have hbm8 : (List.map eE (bfL put M T)).length = M - T := by rw [List.length_map, bfL_len HM.hNP]
          have hbm7 : (List.map eE (bfL put M' T)).length = M' - T := by rw [List.length_map, bfL_len HM2.hNP]
          have ht7 := HM2.hTN
          by_cases hs9 : y9.sq = (M : Int) + 1
          · have hM8 : M' = M + 1 := hg2 hs9 (by omega)
            repeat' ((conv => whnf); first
              | with_reducible first | refine spB_t ?_
              | ((with_reducible apply spB_cong); (focus (simp only [beq_self_eq_true, bne_self_eq_false, Bool.true_bne, Bool.false_bne, Bool.bne_true, Bool.bne_false, Bool.true_beq, Bool.false_beq, Bool.not_true, Bool.not_false, Bool.not_not, Int.reduceBEq, Int.reduceBNe, Int.reduceLE, Int.reduceLT, Int.reduceEq, decide_true, decide_false]; rfl)))
              | with_reducible first | refine spB_no (by decide) ?_
              | (with_reducible refine spB_dec ?_ ?_ <;> intro _ <;> (try (exfalso; first | contradiction | omega | (rename_i hz; refine hz ?_; simp; done) | (rename_i hz; simp at hz; done) | (simp only [LN] at *; omega))))
              | (with_reducible refine spB_beq ?_ ?_ <;> intro _ <;> (try (exfalso; first | contradiction | omega | (rename_i hz; refine hz ?_; simp; done) | (rename_i hz; simp at hz; done) | (simp only [LN] at *; omega))))
              | (with_reducible refine spB_bne ?_ ?_ <;> intro _ <;> (try (exfalso; first | contradiction | omega | (rename_i hz; refine hz ?_; simp; done) | (rename_i hz; simp at hz; done) | (simp only [LN] at *; omega))))
              | with_reducible first | refine Z.rowN_known hy9 ?_
              | ((with_reducible apply ixN_litp); (focus (exact rfl)); (focus ((try simp only [LN] at *) <;> omega)))
              | with_reducible refine wr_i64 (by first | omega | (simp only [LN] at *; omega)) ?_
              | with_reducible refine wr_u64 (by omega) ?_
              | ((first | (with_reducible refine Z.callZ_mk ?_ (che) ?_)); (focus ((repeat' (first | exact trivial | exact rfl | apply And.intro)); done))))
            all_goals (try (conv => whnf))
            all_goals try (show Nat.ble _ _ = true; rfl)
            all_goals try (exfalso; rename_i hz; cases hz; done)
            all_goals try (exfalso; (try simp only [LN] at *) <;> omega)
            all_goals first
              | ((refine Z.rndK ((j + 1, M')) (fun s => [0, 1, 2, 3, 4, 5, 6, 7, 8, 9, 10]) rfl rfl rfl rfl ?_ ?_ ?_ ?_); (focus (repeat' (first | exact trivial | exact rfl | apply And.intro))); (focus (repeat' (first | exact trivial | exact WBb_sub rfl | (intro b hb; cases hb; first | rfl | (cases w <;> rfl)) | exact Z.blk_sub rfl rfl (ren_map fun _ => rfl) | exact Z.gB_sub rfl rfl (ren_map fun _ => rfl) | apply And.intro))); (focus (exact ⟨by (try dsimp only); omega, HM2⟩)); ((try dsimp only); omega))
          · skip
            repeat' ((conv => whnf); first
              | ((with_reducible apply spB_cong); (focus (simp only [beq_self_eq_true, bne_self_eq_false, Bool.true_bne, Bool.false_bne, Bool.bne_true, Bool.bne_false, Bool.true_beq, Bool.false_beq, Bool.not_true, Bool.not_false, Bool.not_not, Int.reduceBEq, Int.reduceBNe, Int.reduceLE, Int.reduceLT, Int.reduceEq, decide_true, decide_false]; rfl)))
              | with_reducible first | refine spB_no (by decide) ?_
              | (with_reducible refine spB_dec ?_ ?_ <;> intro _ <;> (try (exfalso; first | contradiction | omega | (rename_i hz; refine hz ?_; simp; done) | (rename_i hz; simp at hz; done) | (simp only [LN] at *; omega))))
              | (with_reducible refine spB_beq ?_ ?_ <;> intro _ <;> (try (exfalso; first | contradiction | omega | (rename_i hz; refine hz ?_; simp; done) | (rename_i hz; simp at hz; done) | (simp only [LN] at *; omega))))
              | with_reducible first | refine Z.rowN_known hy9 ?_
              | ((with_reducible apply ixN_litp); (focus (exact rfl)); (focus ((try simp only [LN] at *) <;> omega)))
              | with_reducible refine wr_i64 (by first | omega | (simp only [LN] at *; omega)) ?_
              | with_reducible refine wr_u64 (by omega) ?_
              | ((first | (with_reducible refine Z.callZ_mk ?_ (che) ?_)); (focus ((repeat' (first | exact trivial | exact rfl | apply And.intro)); done))))
            all_goals (try (conv => whnf))
            all_goals try (show Nat.ble _ _ = true; rfl)
            all_goals try (exfalso; rename_i hz; cases hz; done)
            all_goals try (exfalso; (try simp only [LN] at *) <;> omega)
            all_goals first
              | ((refine Z.rndK ((j + 1, M')) (fun s => [0, 1, 2, 3, 4, 5, 6, 7, 8, 9, 10]) rfl rfl rfl rfl ?_ ?_ ?_ ?_); (focus (repeat' (first | exact trivial | exact rfl | apply And.intro))); (focus (repeat' (first | exact trivial | exact WBb_sub rfl | (intro b hb; cases hb; first | rfl | (cases w <;> rfl)) | exact Z.blk_sub rfl rfl (ren_map fun _ => rfl) | exact Z.gB_sub rfl rfl (ren_map fun _ => rfl) | apply And.intro))); (focus (exact ⟨by (try dsimp only); omega, HM2⟩)); ((try dsimp only); omega))
        repeat' ((conv => whnf); first
          | (with_reducible refine spB_dec ?_ ?_ <;> intro _ <;> (try (exfalso; first | contradiction | omega | (rename_i hz; refine hz ?_; simp; done) | (rename_i hz; simp at hz; done) | (simp only [LN] at *; omega))))
          | with_reducible refine wr_i64 (by first | omega | (simp only [LN] at *; omega)) ?_)
        all_goals (try (conv => whnf))
        all_goals try (show Nat.ble _ _ = true; rfl)
        all_goals try (exfalso; rename_i hz; cases hz; done)
        all_goals try (exfalso; (try simp only [LN] at *) <;> omega)
        all_goals first
          | ((refine Z.rndK ((i + 1, B, N, T, l, put, false, w)) (fun s => [0, 1, 2, 3, 4, 5]) rfl rfl rfl rfl ?_ ?_ ?_ ?_); (focus (repeat' (first | exact trivial | exact rfl | apply And.intro))); (focus (repeat' (first | exact trivial | exact WBb_sub rfl | (intro b hb; cases hb; first | rfl | (cases w <;> rfl)) | exact Z.blk_sub rfl rfl (ren_map fun _ => rfl) | exact Z.gB_sub rfl rfl (ren_map fun _ => rfl) | apply And.intro))); (focus (exact ⟨by (try dsimp only); omega, by (try dsimp only); omega, H2, HW, HP⟩)); ((try dsimp only); omega)))
    · obtain ⟨rfl, rfl, rfl, rfl⟩ := pe_true HP H
      repeat' ((conv => whnf); first
        | with_reducible first | refine spB_t ?_
        | ((with_reducible apply spB_cong); (focus (simp only [beq_self_eq_true, bne_self_eq_false, Bool.true_bne, Bool.false_bne, Bool.bne_true, Bool.bne_false, Bool.true_beq, Bool.false_beq, Bool.not_true, Bool.not_false, Bool.not_not, Int.reduceBEq, Int.reduceBNe, Int.reduceLE, Int.reduceLT, Int.reduceEq, decide_true, decide_false]; rfl)))
        | with_reducible first | refine spB_no (by decide) ?_
        | (with_reducible refine spB_dec ?_ ?_ <;> intro _ <;> (try (exfalso; first | contradiction | omega | (rename_i hz; refine hz ?_; simp; done) | (rename_i hz; simp at hz; done) | (simp only [LN] at *; omega))))
        | (with_reducible refine spB_beq ?_ ?_ <;> intro _ <;> (try (exfalso; first | contradiction | omega | (rename_i hz; refine hz ?_; simp; done) | (rename_i hz; simp at hz; done) | (simp only [LN] at *; omega))))
        | with_reducible first | refine Z.rowN_known hx ?_
        | ((with_reducible refine Z.vN_K h4 ?_ ?_); (focus rfl))
        | ((with_reducible apply ixN_litp); (focus (exact rfl)); (focus ((try simp only [LN] at *) <;> omega)))
        | with_reducible first | refine wr_mk _ rfl ?_
        | with_reducible refine nzN_mk (by omega) ?_
        | with_reducible first | refine Z.callZ_in tabOk 153 Try.f37 _ Try.func37 (by kernel_rfl) rfl rfl rfl ?_
        | ((first | (with_reducible refine Z.callZ_mk ?_ (cta) ?_)); (focus ((repeat' (first | exact trivial | exact rfl | apply And.intro)); done)))
        | ((first | (with_reducible refine Z.callZ_mk ?_ (cse2) ?_)); (focus ((repeat' (first | exact trivial | exact rfl | apply And.intro)); done)))
        | ((with_reducible apply ex_and); exact rfl))
      all_goals (try (conv => whnf))
      all_goals try (show Nat.ble _ _ = true; rfl)
      all_goals try (exfalso; rename_i hz; cases hz; done)
      all_goals try (exfalso; (try simp only [LN] at *) <;> omega)
      all_goals (
        refine Z.loopK tabOk (fun zq : Nat × Nat => [(54, .val (.int .i64 (zq.1 : Int)))]) (fun zq : Nat × Nat => ([(10, some (Z.Ob.b ⟨[[.v (.int .u32 7), .v (.int .u64 ((zq.2 : Int) + 1)), .ro true 5 ((bfL ([] : List El) zq.2 0).map eE), .v (.int .i64 rm)]], 4, 55, true⟩))] : Z.Kr)) (fun zq => zq.1 ≤ Q9.length ∧ LInv rm (i + 1) 0 zq.2 0 l ([] : List El) []) (fun zq => Q9.length - zq.1) (0, 0) 11 [(5, _), (11, _), (25, _), (26, _), (27, _), (52, _), (53, _)] ⟨rfl, rfl, rfl, rfl, rfl, rfl, rfl, trivial⟩ [(2, _), (3, _), (4, _), (5, _), (6, _), (7, _), (8, _), (9, _)] ⟨rfl, rfl, rfl, rfl, rfl, rfl, rfl, rfl, trivial⟩ ?_ ?_ rfl rfl ⟨Nat.zero_le _, H9⟩ ?_
        · repeat' (first | exact trivial | apply And.intro | exact ⟨_, rfl, Z.Imp.refl _⟩)
        · repeat' (first | exact trivial | exact (fun b hb => ⟨b, hb, Z.ImpO.refl b⟩) | apply And.intro)
        rintro ⟨j, M⟩ HINV
        dsimp only at HINV ⊢
        obtain ⟨HJ, HM⟩ := HINV
        by_cases hj : j < Q9.length
        · obtain ⟨y9, hy9⟩ := getElem?_some' (xs := Q9) (i := j) hj
          obtain ⟨k9, hk9a, hk9b, hk9c, hk9d⟩ := hQ9 y9 (List.mem_of_getElem? hy9)
          simp at hk9b
        repeat' ((conv => whnf); first
          | (with_reducible refine spB_dec ?_ ?_ <;> intro _ <;> (try (exfalso; first | contradiction | omega | (rename_i hz; refine hz ?_; simp; done) | (rename_i hz; simp at hz; done) | (simp only [LN] at *; omega))))
          | with_reducible refine wr_i64 (by first | omega | (simp only [LN] at *; omega)) ?_)
        all_goals (try (conv => whnf))
        all_goals try (show Nat.ble _ _ = true; rfl)
        all_goals try (exfalso; rename_i hz; cases hz; done)
        all_goals try (exfalso; (try simp only [LN] at *) <;> omega)
        all_goals first
          | ((refine Z.rndK ((i + 1, 0, 0, 0, l, [], true, w)) (fun s => [0, 1, 2, 3, 4, 5]) rfl rfl rfl rfl ?_ ?_ ?_ ?_); (focus (repeat' (first | exact trivial | exact rfl | apply And.intro))); (focus (repeat' (first | exact trivial | exact WBb_sub rfl | (intro b hb; cases hb; first | rfl | (cases w <;> rfl)) | (intro b hb; cases hb; done) | apply And.intro))); (focus (exact ⟨by (try dsimp only); omega, by (try dsimp only); omega, H2, HW, HP⟩)); ((try dsimp only); omega)))
end Go.Proofs.Ytoiadndmbppobaa
namespace Go.Proofs.Ytoiadndmbppobaa
open Go Go.RowKit Wx
set_option linter.unusedVariables false
set_option linter.unusedSimpArgs false
set_option maxHeartbeats 400000000
theorem r_out (rm : Int) (ls : List St) (hl : ls.length ≤ 9223372036854775807) (i B N T : Nat) (l : Int) (put : List El) (pe : Bool) (w : Option (List Pk × Nat)) (HI : i ≤ ls.length) (HB : i ≤ 50) (H : LInv rm i B N T l put (wl w)) (HW : wn w) (HP : pe = true ↔ put = []) (hi : i < ls.length) (kd n : Int) (keeps : Bool) (e : El) (pk : Pk) (hx : ls[i]? = some ⟨kd, n, keeps, e, pk⟩) (hux : 0 ≤ e.num ∧ 0 ≤ pk.sq ∧ 0 ≤ pk.lim ∧ 0 ≤ pk.e.num) (hib : ¬ i = 50) (h4 : (IntKind.u64.wrap kd).tmod 11 = 10)  {Q : Exit → Z.S → Prop} : Z.codeZ Try.prog tab 96 0 none (lbody Try.f9) ⟨gCH 27 (i, B, N, T, l, put, pe, w) ++ gFk 5 25 26 ls, gCK rm (i, B, N, T, l, put, pe, w) ++ [], 6⟩ (loopPost (gRnd rm 27 5 25 26 50 ls (i, B, N, T, l, put, pe, w)) Q) := by
  dsimp only [gCH, gFk, gCK, gRnd]
  by_cases hse : pk.se = 7
  · have hp7 : (⟨pk.kd, 8, pk.sq, pk.lim, pk.e⟩ : Pk).se ≠ 7 := by show (8 : Int) ≠ 7; decide
    by_cases hk9 : pk.kd = 2
    · have cba := acked_con 7 ((B : Int) + 1) (put.drop B) l (endsL put) ⟨pk.kd, 8, pk.sq, pk.lim, pk.e⟩ (by have h9 := H.hpl; simp only [List.length_take, List.length_drop]; omega) (fun e he => okEs_num H.hP e (List.mem_of_mem_drop he)) (by omega) H.hl0 hux.2.1 hux.2.2.1
      obtain ⟨B', l', hE, H2, _⟩ := H.back (p := ⟨pk.kd, 8, pk.sq, pk.lim, pk.e⟩) (.inr hp7) hk9 hux.2.2.1
      rw [hE] at cba
      dsimp only at cba
      have H3 := H2.more
      have hqm : (List.map eE (put.drop B')).length = put.length - B' := by rw [List.length_map, List.length_drop]
      have hbm : (List.map eE (bfL put N T)).length = N - T := by rw [List.length_map, bfL_len H3.hNP]
      have hq9 : (put.drop B').length = put.length - B' := List.length_drop
      have hb9 := bfL_len (T := T) H3.hNP
      have hn9 := H3.hNP
      have hbn9 := H3.hBN
      have htn9 := H3.hTN
      have hR9 := (okR_all H3.hR).1
      have hpl9 := H3.hpl
      have hS9 := (okS_all H3.hS).1
      have H9 := H3.sub (w' := []) (fun p h => nomatch h) (Nat.zero_le _)
      have cse2 := send_con 7 ((B' : Int) + 1) (put.drop B') l' (endsL put) (by have h9 := H9.hpl; simp only [List.length_take, List.length_drop]; omega) (fun e he => okEs_num H9.hP e (List.mem_of_mem_drop he)) (by omega) H9.hl0
      rw [H9.sent] at cse2
      dsimp only at cse2
      have hQ9 := fun (p : Pk) hp => H9.pks_ok (p := p) hp
      have hql9 := @pks_len 7 l' ((B' : Int) + 1) (put.drop B')
      generalize pks 7 l' ((B' : Int) + 1) (put.drop B') = Q9 at *
      cases pe
      · have hp0 : 0 < put.length := pe_false HP
        have hpne : put ≠ [] := fun h9 => by simp [h9] at hp0
        repeat' ((conv => whnf); first
          | ((with_reducible apply spB_cong); (focus (simp only [beq_self_eq_true, bne_self_eq_false, Bool.true_bne, Bool.false_bne, Bool.bne_true, Bool.bne_false, Bool.true_beq, Bool.false_beq, Bool.not_true, Bool.not_false, Bool.not_not, Int.reduceBEq, Int.reduceBNe, Int.reduceLE, Int.reduceLT, Int.reduceEq, decide_true, decide_false]; rfl)))
          | with_reducible first | refine spB_no (by decide) ?_
          | (with_reducible refine spB_dec ?_ ?_ <;> intro _ <;> (try (exfalso; first | contradiction | omega | (rename_i hz; refine hz ?_; simp; done) | (rename_i hz; simp at hz; done) | (simp only [LN] at *; omega))))
          | (with_reducible refine spB_beq ?_ ?_ <;> intro _ <;> (try (exfalso; first | contradiction | omega | (rename_i hz; refine hz ?_; simp; done) | (rename_i hz; simp at hz; done) | (simp only [LN] at *; omega))))
          | with_reducible first | refine Z.rowN_known hx ?_
          | ((with_reducible refine Z.vN_K h4 ?_ ?_); (focus rfl))
          | ((with_reducible apply ixN_litp); (focus (exact rfl)); (focus ((try simp only [LN] at *) <;> omega)))
          | with_reducible first | refine wr_mk _ rfl ?_
          | with_reducible refine nzN_mk (by omega) ?_
          | with_reducible first | refine Z.callZ_in tabOk 153 Try.f37 _ Try.func37 (by kernel_rfl) rfl rfl rfl ?_ | refine Z.callZ_in tabOk 42 Try.f39 _ Try.func39 (by kernel_rfl) rfl rfl rfl ?_
          | ((first | (with_reducible refine Z.conZ_mz ?_ (cba) ?_)); (focus ((repeat' (first | exact trivial | exact rfl | apply And.intro)); done)))
          | ((first | (with_reducible refine Z.callZ_mk ?_ (cse2) ?_)); (focus ((repeat' (first | exact trivial | exact rfl | apply And.intro)); done)))
          | ((with_reducible apply ex_and); exact rfl)
          | with_reducible first | refine Z.drawZ_rule tabOk mixOk ?_ | refine Z.apZ_mk (by kernel_rfl) ?_)
        all_goals (try (conv => whnf))
        all_goals try (show Nat.ble _ _ = true; rfl)
        all_goals try (exfalso; rename_i hz; cases hz; done)
        all_goals try (exfalso; (try simp only [LN] at *) <;> omega)
        all_goals (
          refine Z.loopK tabOk (fun zq : Nat × Nat => [(54, .val (.int .i64 (zq.1 : Int)))]) (fun zq : Nat × Nat => ([(10, some (Z.Ob.b ⟨[[.v (.int .u32 7), .v (.int .u64 ((zq.2 : Int) + 1)), .ro true 5 ((bfL put zq.2 T).map eE), .v (.int .i64 rm)]], 4, 55, true⟩))] : Z.Kr)) (fun zq => zq.1 ≤ Q9.length ∧ LInv rm (i + 1) B' zq.2 T l' put []) (fun zq => Q9.length - zq.1) (0, N) 11 [(5, _), (11, _), (25, _), (26, _), (27, _), (52, _), (53, _)] ⟨rfl, rfl, rfl, rfl, rfl, rfl, rfl, trivial⟩ [(2, _), (3, _), (4, _), (5, _), (6, _), (7, _), (8, _), (9, _)] ⟨rfl, rfl, rfl, rfl, rfl, rfl, rfl, rfl, trivial⟩ ?_ ?_ rfl rfl ⟨Nat.zero_le _, H9⟩ ?_
          · repeat' (first | exact trivial | apply And.intro | exact ⟨_, rfl, Z.Imp.refl _⟩)
          · repeat' (first | exact trivial | exact (fun b hb => ⟨b, hb, Z.ImpO.refl b⟩) | apply And.intro)
          rintro ⟨j, M⟩ HINV
          dsimp only at HINV ⊢
          obtain ⟨HJ, HM⟩ := HINV
          by_cases hj : j < Q9.length
          · obtain ⟨y9, hy9⟩ := getElem?_some' (xs := Q9) (i := j) hj
            obtain ⟨k9, hk9a, hk9b, hk9c, hk9d⟩ := hQ9 y9 (List.mem_of_getElem? hy9)
            have hyok9 : okP put rm M T y9 := by rw [hk9c]; exact ⟨rfl, .inl ⟨rfl, rfl, k9, rfl, hk9b⟩⟩
            have hyse9 : y9.se = 7 := by rw [hk9c]
            have hysq9 : y9.sq = (k9 : Int) + 1 := by rw [hk9c]
            have hykd9 : y9.kd ≠ 2 := by rw [hk9c]; show (1 : Int) ≠ 2; decide
            have hyn9 := hyok9.num HM.hP
            have che := hear_con 7 ((M : Int) + 1) (bfL put M T) rm y9 (by have h9 := HM.hpl; simp only [List.length_take, List.length_drop]; omega) (fun e he => okEs_num HM.hP e (List.mem_of_mem_take (List.mem_of_mem_drop he))) (by omega) hyn9.1 hyn9.2.2
            obtain ⟨M', hM9, hE9, HM2, hgot⟩ := HM.hear (.inl hyok9) hykd9
            rw [hE9] at che
            dsimp only at che
            have hg2 := hgot hyse9
            have hl8 := HM.hl
            have ht8 := HM.hTN
            have hR8 := (okR_all HM.hR).1
            have hbm8 : (List.map eE (bfL put M T)).length = M - T := by rw [List.length_map, bfL_len HM.hNP]
            have hbm7 : (List.map eE (bfL put M' T)).length = M' - T := by rw [List.length_map, bfL_len HM2.hNP]
            have ht7 := HM2.hTN
            by_cases hs9 : y9.sq = (M : Int) + 1
            · have hM8 : M' = M + 1 := hg2 hs9 (by omega)
              repeat' ((conv => whnf); first
                | with_reducible first | refine spB_t ?_
                | ((with_reducible apply spB_cong); (focus (simp only [beq_self_eq_true, bne_self_eq_false, Bool.true_bne, Bool.false_bne, Bool.bne_true, Bool.bne_false, Bool.true_beq, Bool.false_beq, Bool.not_true, Bool.not_false, Bool.not_not, Int.reduceBEq, Int.reduceBNe, Int.reduceLE, Int.reduceLT, Int.reduceEq, decide_true, decide_false]; rfl)))
                | with_reducible first | refine spB_no (by decide) ?_
                | (with_reducible refine spB_dec ?_ ?_ <;> intro _ <;> (try (exfalso; first | contradiction | omega | (rename_i hz; refine hz ?_; simp; done) | (rename_i hz; simp at hz; done) | (simp only [LN] at *; omega))))
                | (with_reducible refine spB_beq ?_ ?_ <;> intro _ <;> (try (exfalso; first | contradiction | omega | (rename_i hz; refine hz ?_; simp; done) | (rename_i hz; simp at hz; done) | (simp only [LN] at *; omega))))
                | (with_reducible refine spB_bne ?_ ?_ <;> intro _ <;> (try (exfalso; first | contradiction | omega | (rename_i hz; refine hz ?_; simp; done) | (rename_i hz; simp at hz; done) | (simp only [LN] at *; omega))))
                | with_reducible first | refine Z.rowN_known hy9 ?_
                | ((with_reducible apply ixN_litp); (focus (exact rfl)); (focus ((try simp only [LN] at *) <;> omega)))
                | with_reducible refine wr_i64 (by first | omega | (simp only [LN] at *; omega)) ?_
                | with_reducible refine wr_u64 (by omega) ?_
                | ((first | (with_reducible refine Z.callZ_mk ?_ (che) ?_)); (focus ((repeat' (first | exact trivial | exact rfl | apply And.intro)); done))))
              all_goals (try (conv => whnf))
              all_goals try (show Nat.ble _ _ = true; rfl)
              all_goals try (exfalso; rename_i hz; cases hz; done)
              all_goals try (exfalso; (try simp only [LN] at *) <;> omega)
              all_goals first
                | ((refine Z.rndK ((j + 1, M')) (fun s => [0, 1, 2, 3, 4, 5, 6, 7, 8, 9, 10]) rfl rfl rfl rfl ?_ ?_ ?_ ?_); (focus (repeat' (first | exact trivial | exact rfl | apply And.intro))); (focus (repeat' (first | exact trivial | exact WBb_sub rfl | (intro b hb; cases hb; first | rfl | (cases w <;> rfl)) | exact Z.blk_sub rfl rfl (ren_map fun _ => rfl) | exact Z.gB_sub rfl rfl (ren_map fun _ => rfl) | apply And.intro))); (focus (exact ⟨by (try dsimp only); omega, HM2⟩)); ((try dsimp only); omega))
            · skip
              repeat' ((conv => whnf); first
                | ((with_reducible apply spB_cong); (focus (simp only [beq_self_eq_true, bne_self_eq_false, Bool.true_bne, Bool.false_bne, Bool.bne_true, Bool.bne_false, Bool.true_beq, Bool.false_beq, Bool.not_true, Bool.not_false, Bool.not_not, Int.reduceBEq, Int.reduceBNe, Int.reduceLE, Int.reduceLT, Int.reduceEq, decide_true, decide_false]; rfl)))
                | with_reducible first | refine spB_no (by decide) ?_
                | (with_reducible refine spB_dec ?_ ?_ <;> intro _ <;> (try (exfalso; first | contradiction | omega | (rename_i hz; refine hz ?_; simp; done) | (rename_i hz; simp at hz; done) | (simp only [LN] at *; omega))))
                | (with_reducible refine spB_beq ?_ ?_ <;> intro _ <;> (try (exfalso; first | contradiction | omega | (rename_i hz; refine hz ?_; simp; done) | (rename_i hz; simp at hz; done) | (simp only [LN] at *; omega))))
                | with_reducible first | refine Z.rowN_known hy9 ?_
                | ((with_reducible apply ixN_litp); (focus (exact rfl)); (focus ((try simp only [LN] at *) <;> omega)))
                | with_reducible refine wr_i64 (by first | omega | (simp only [LN] at *; omega)) ?_
                | with_reducible refine wr_u64 (by omega) ?_
                | ((first | (with_reducible refine Z.callZ_mk ?_ (che) ?_)); (focus ((repeat' (first | exact trivial | exact rfl | apply And.intro)); done))))
              all_goals (try (conv => whnf))
              all_goals try (show Nat.ble _ _ = true; rfl)
              all_goals try (exfalso; rename_i hz; cases hz; done)
              all_goals try (exfalso; (try simp only [LN] at *) <;> omega)
              all_goals first
                | ((refine Z.rndK ((j + 1, M')) (fun s => [0, 1, 2, 3, 4, 5, 6, 7, 8, 9, 10]) rfl rfl rfl rfl ?_ ?_ ?_ ?_); (focus (repeat' (first | exact trivial | exact rfl | apply And.intro))); (focus (repeat' (first | exact trivial | exact WBb_sub rfl | (intro b hb; cases hb; first | rfl | (cases w <;> rfl)) | exact Z.blk_sub rfl rfl (ren_map fun _ => rfl) | exact Z.gB_sub rfl rfl (ren_map fun _ => rfl) | apply And.intro))); (focus (exact ⟨by (try dsimp only); omega, HM2⟩)); ((try dsimp only); omega))
          repeat' ((conv => whnf); first
            | (with_reducible refine spB_dec ?_ ?_ <;> intro _ <;> (try (exfalso; first | contradiction | omega | (rename_i hz; refine hz ?_; simp; done) | (rename_i hz; simp at hz; done) | (simp only [LN] at *; omega))))
            | with_reducible refine wr_i64 (by first | omega | (simp only [LN] at *; omega)) ?_)
          all_goals (try (conv => whnf))
          all_goals try (show Nat.ble _ _ = true; rfl)
          all_goals try (exfalso; rename_i hz; cases hz; done)
          all_goals try (exfalso; (try simp only [LN] at *) <;> omega)
          all_goals first
            | ((refine Z.rndK ((i + 1, B', N, T, l', put, false, w)) (fun s => [0, 1, 2, 3, 4, 5]) rfl rfl rfl rfl ?_ ?_ ?_ ?_); (focus (repeat' (first | exact trivial | exact rfl | apply And.intro))); (focus (repeat' (first | exact trivial | exact WBb_sub rfl | (intro b hb; cases hb; first | rfl | (cases w <;> rfl)) | exact Z.blk_sub rfl rfl (ren_map fun _ => rfl) | exact Z.gB_sub rfl rfl (ren_map fun _ => rfl) | apply And.intro))); (focus (exact ⟨by (try dsimp only); omega, by (try dsimp only); omega, H3, HW, HP⟩)); ((try dsimp only); omega)))
      · obtain ⟨rfl, rfl, rfl, rfl⟩ := pe_true HP H
        obtain rfl : B' = 0 := by have h9 := H3.hBN; omega
        repeat' ((conv => whnf); first
          | ((with_reducible apply spB_cong); (focus (simp only [beq_self_eq_true, bne_self_eq_false, Bool.true_bne, Bool.false_bne, Bool.bne_true, Bool.bne_false, Bool.true_beq, Bool.false_beq, Bool.not_true, Bool.not_false, Bool.not_not, Int.reduceBEq, Int.reduceBNe, Int.reduceLE, Int.reduceLT, Int.reduceEq, decide_true, decide_false]; rfl)))
          | with_reducible first | refine spB_no (by decide) ?_
          | (with_reducible refine spB_dec ?_ ?_ <;> intro _ <;> (try (exfalso; first | contradiction | omega | (rename_i hz; refine hz ?_; simp; done) | (rename_i hz; simp at hz; done) | (simp only [LN] at *; omega))))
          | (with_reducible refine spB_beq ?_ ?_ <;> intro _ <;> (try (exfalso; first | contradiction | omega | (rename_i hz; refine hz ?_; simp; done) | (rename_i hz; simp at hz; done) | (simp only [LN] at *; omega))))
          | with_reducible first | refine Z.rowN_known hx ?_
          | ((with_reducible refine Z.vN_K h4 ?_ ?_); (focus rfl))
          | ((with_reducible apply ixN_litp); (focus (exact rfl)); (focus ((try simp only [LN] at *) <;> omega)))
          | with_reducible first | refine wr_mk _ rfl ?_
          | with_reducible refine nzN_mk (by omega) ?_
          | with_reducible first | refine Z.callZ_in tabOk 153 Try.f37 _ Try.func37 (by kernel_rfl) rfl rfl rfl ?_ | refine Z.callZ_in tabOk 42 Try.f39 _ Try.func39 (by kernel_rfl) rfl rfl rfl ?_
          | ((first | (with_reducible refine Z.conZ_mz ?_ (cba) ?_)); (focus ((repeat' (first | exact trivial | exact rfl | apply And.intro)); done)))
          | ((first | (with_reducible refine Z.callZ_mk ?_ (cse2) ?_)); (focus ((repeat' (first | exact trivial | exact rfl | apply And.intro)); done)))
          | ((with_reducible apply ex_and); exact rfl)
          | with_reducible first | refine Z.drawZ_rule tabOk mixOk ?_ | refine Z.apZ_mk (by kernel_rfl) ?_)
        all_goals (try (conv => whnf))
        all_goals try (show Nat.ble _ _ = true; rfl)
        all_goals try (exfalso; rename_i hz; cases hz; done)
        all_goals try (exfalso; (try simp only [LN] at *) <;> omega)
        all_goals (
          refine Z.loopK tabOk (fun zq : Nat × Nat => [(54, .val (.int .i64 (zq.1 : Int)))]) (fun zq : Nat × Nat => ([(10, some (Z.Ob.b ⟨[[.v (.int .u32 7), .v (.int .u64 ((zq.2 : Int) + 1)), .ro true 5 ((bfL ([] : List El) zq.2 0).map eE), .v (.int .i64 rm)]], 4, 55, true⟩))] : Z.Kr)) (fun zq => zq.1 ≤ Q9.length ∧ LInv rm (i + 1) 0 zq.2 0 l' ([] : List El) []) (fun zq => Q9.length - zq.1) (0, 0) 11 [(5, _), (11, _), (25, _), (26, _), (27, _), (52, _), (53, _)] ⟨rfl, rfl, rfl, rfl, rfl, rfl, rfl, trivial⟩ [(2, _), (3, _), (4, _), (5, _), (6, _), (7, _), (8, _), (9, _)] ⟨rfl, rfl, rfl, rfl, rfl, rfl, rfl, rfl, trivial⟩ ?_ ?_ rfl rfl ⟨Nat.zero_le _, H9⟩ ?_
          · repeat' (first | exact trivial | apply And.intro | exact ⟨_, rfl, Z.Imp.refl _⟩)
          · repeat' (first | exact trivial | exact (fun b hb => ⟨b, hb, Z.ImpO.refl b⟩) | apply And.intro)
          rintro ⟨j, M⟩ HINV
          dsimp only at HINV ⊢
          obtain ⟨HJ, HM⟩ := HINV
          by_cases hj : j < Q9.length
          · obtain ⟨y9, hy9⟩ := getElem?_some' (xs := Q9) (i := j) hj
            obtain ⟨k9, hk9a, hk9b, hk9c, hk9d⟩ := hQ9 y9 (List.mem_of_getElem? hy9)
            simp at hk9b
          repeat' ((conv => whnf); first
            | (with_reducible refine spB_dec ?_ ?_ <;> intro _ <;> (try (exfalso; first | contradiction | omega | (rename_i hz; refine hz ?_; simp; done) | (rename_i hz; simp at hz; done) | (simp only [LN] at *; omega))))
            | with_reducible refine wr_i64 (by first | omega | (simp only [LN] at *; omega)) ?_)
          all_goals (try (conv => whnf))
          all_goals try (show Nat.ble _ _ = true; rfl)
          all_goals try (exfalso; rename_i hz; cases hz; done)
          all_goals try (exfalso; (try simp only [LN] at *) <;> omega)
          all_goals first
            | ((refine Z.rndK ((i + 1, 0, 0, 0, l', [], true, w)) (fun s => [0, 1, 2, 3, 4, 5]) rfl rfl rfl rfl ?_ ?_ ?_ ?_); (focus (repeat' (first | exact trivial | exact rfl | apply And.intro))); (focus (repeat' (first | exact trivial | exact WBb_sub rfl | (intro b hb; cases hb; first | rfl | (cases w <;> rfl)) | (intro b hb; cases hb; done) | apply And.intro))); (focus (exact ⟨by (try dsimp only); omega, by (try dsimp only); omega, H3, HW, HP⟩)); ((try dsimp only); omega)))
    · have che := hear_con 7 ((N : Int) + 1) (bfL put N T) rm ⟨pk.kd, 8, pk.sq, pk.lim, pk.e⟩ (by have h9 := H.hpl; simp only [List.length_take, List.length_drop]; omega) (fun e he => okEs_num H.hP e (List.mem_of_mem_take (List.mem_of_mem_drop he))) (by omega) hux.2.1 hux.2.2.2
      obtain ⟨N', hN9, hE, H2, _⟩ := H.hear (p := ⟨pk.kd, 8, pk.sq, pk.lim, pk.e⟩) (.inr hp7) hk9
      rw [hE] at che
      dsimp only at che
      have H3 := H2.more
      have hqm : (List.map eE (put.drop B)).length = put.length - B := by rw [List.length_map, List.length_drop]
      have hbm : (List.map eE (bfL put N' T)).length = N' - T := by rw [List.length_map, bfL_len H3.hNP]
      have hq9 : (put.drop B).length = put.length - B := List.length_drop
      have hb9 := bfL_len (T := T) H3.hNP
      have hn9 := H3.hNP
      have hbn9 := H3.hBN
      have htn9 := H3.hTN
      have hR9 := (okR_all H3.hR).1
      have hpl9 := H3.hpl
      have hS9 := (okS_all H3.hS).1
      have H9 := H3.sub (w' := []) (fun p h => nomatch h) (Nat.zero_le _)
      have cse2 := send_con 7 ((B : Int) + 1) (put.drop B) l (endsL put) (by have h9 := H9.hpl; simp only [List.length_take, List.length_drop]; omega) (fun e he => okEs_num H9.hP e (List.mem_of_mem_drop he)) (by omega) H9.hl0
      rw [H9.sent] at cse2
      dsimp only at cse2
      have hQ9 := fun (p : Pk) hp => H9.pks_ok (p := p) hp
      have hql9 := @pks_len 7 l ((B : Int) + 1) (put.drop B)
      generalize pks 7 l ((B : Int) + 1) (put.drop B) = Q9 at *
      cases pe
      · have hp0 : 0 < put.length := pe_false HP
        have hpne : put ≠ [] := fun h9 => by simp [h9] at hp0
        repeat' ((conv => whnf); first
          | ((with_reducible apply spB_cong); (focus (simp only [beq_self_eq_true, bne_self_eq_false, Bool.true_bne, Bool.false_bne, Bool.bne_true, Bool.bne_false, Bool.true_beq, Bool.false_beq, Bool.not_true, Bool.not_false, Bool.not_not, Int.reduceBEq, Int.reduceBNe, Int.reduceLE, Int.reduceLT, Int.reduceEq, decide_true, decide_false]; rfl)))
          | with_reducible first | refine spB_no (by decide) ?_
          | (with_reducible refine spB_dec ?_ ?_ <;> intro _ <;> (try (exfalso; first | contradiction | omega | (rename_i hz; refine hz ?_; simp; done) | (rename_i hz; simp at hz; done) | (simp only [LN] at *; omega))))
          | (with_reducible refine spB_beq ?_ ?_ <;> intro _ <;> (try (exfalso; first | contradiction | omega | (rename_i hz; refine hz ?_; simp; done) | (rename_i hz; simp at hz; done) | (simp only [LN] at *; omega))))
          | with_reducible first | refine Z.rowN_known hx ?_
          | ((with_reducible refine Z.vN_K h4 ?_ ?_); (focus rfl))
          | ((with_reducible apply ixN_litp); (focus (exact rfl)); (focus ((try simp only [LN] at *) <;> omega)))
          | with_reducible first | refine wr_mk _ rfl ?_
          | with_reducible refine nzN_mk (by omega) ?_
          | with_reducible first | refine Z.callZ_in tabOk 153 Try.f37 _ Try.func37 (by kernel_rfl) rfl rfl rfl ?_ | refine Z.callZ_in tabOk 42 Try.f39 _ Try.func39 (by kernel_rfl) rfl rfl rfl ?_
          | ((first | (with_reducible refine Z.conZ_mz ?_ (che) ?_)); (focus ((repeat' (first | exact trivial | exact rfl | apply And.intro)); done)))
          | ((first | (with_reducible refine Z.callZ_mk ?_ (cse2) ?_)); (focus ((repeat' (first | exact trivial | exact rfl | apply And.intro)); done)))
          | ((with_reducible apply ex_and); exact rfl)
          | with_reducible first | refine Z.drawZ_rule tabOk mixOk ?_ | refine Z.apZ_mk (by kernel_rfl) ?_)
        all_goals (try (conv => whnf))
        all_goals try (show Nat.ble _ _ = true; rfl)
        all_goals try (exfalso; rename_i hz; cases hz; done)
        all_goals try (exfalso; (try simp only [LN] at *) <;> omega)
        all_goals (
          refine Z.loopK tabOk (fun zq : Nat × Nat => [(54, .val (.int .i64 (zq.1 : Int)))]) (fun zq : Nat × Nat => ([(10, some (Z.Ob.b ⟨[[.v (.int .u32 7), .v (.int .u64 ((zq.2 : Int) + 1)), .ro true 5 ((bfL put zq.2 T).map eE), .v (.int .i64 rm)]], 4, 55, true⟩))] : Z.Kr)) (fun zq => zq.1 ≤ Q9.length ∧ LInv rm (i + 1) B zq.2 T l put []) (fun zq => Q9.length - zq.1) (0, N') 11 [(5, _), (11, _), (25, _), (26, _), (27, _), (52, _), (53, _)] ⟨rfl, rfl, rfl, rfl, rfl, rfl, rfl, trivial⟩ [(2, _), (3, _), (4, _), (5, _), (6, _), (7, _), (8, _), (9, _)] ⟨rfl, rfl, rfl, rfl, rfl, rfl, rfl, rfl, trivial⟩ ?_ ?_ rfl rfl ⟨Nat.zero_le _, H9⟩ ?_
          · repeat' (first | exact trivial | apply And.intro | exact ⟨_, rfl, Z.Imp.refl _⟩)
          · repeat' (first | exact trivial | exact (fun b hb => ⟨b, hb, Z.ImpO.refl b⟩) | apply And.intro)
          rintro ⟨j, M⟩ HINV
          dsimp only at HINV ⊢
          obtain ⟨HJ, HM⟩ := HINV
          by_cases hj : j < Q9.length
          · obtain ⟨y9, hy9⟩ := getElem?_some' (xs := Q9) (i := j) hj
            obtain ⟨k9, hk9a, hk9b, hk9c, hk9d⟩ := hQ9 y9 (List.mem_of_getElem? hy9)
            have hyok9 : okP put rm M T y9 := by rw [hk9c]; exact ⟨rfl, .inl ⟨rfl, rfl, k9, rfl, hk9b⟩⟩
            have hyse9 : y9.se = 7 := by rw [hk9c]
            have hysq9 : y9.sq = (k9 : Int) + 1 := by rw [hk9c]
            have hykd9 : y9.kd ≠ 2 := by rw [hk9c]; show (1 : Int) ≠ 2; decide
            have hyn9 := hyok9.num HM.hP
            have che := hear_con 7 ((M : Int) + 1) (bfL put M T) rm y9 (by have h9 := HM.hpl; simp only [List.length_take, List.length_drop]; omega) (fun e he => okEs_num HM.hP e (List.mem_of_mem_take (List.mem_of_mem_drop he))) (by omega) hyn9.1 hyn9.2.2
            obtain ⟨M', hM9, hE9, HM2, hgot⟩ := HM.hear (.inl hyok9) hykd9
            rw [hE9] at che
            dsimp only at che
            have hg2 := hgot hyse9
            have hl8 := HM.hl
            have ht8 := HM.hTN
            have hR8 := (okR_all HM.hR).1
            have hbm8 : (List.map eE (bfL put M T)).length = M - T := by rw [List.length_map, bfL_len HM.hNP]
            have hbm7 : (List.map eE (bfL put M' T)).length = M' - T := by rw [List.length_map, bfL_len HM2.hNP]
            have ht7 := HM2.hTN
            by_cases hs9 : y9.sq = (M : Int) + 1
            · have hM8 : M' = M + 1 := hg2 hs9 (by omega)
              repeat' ((conv => whnf); first
                | with_reducible first | refine spB_t ?_
                | ((with_reducible apply spB_cong); (focus (simp only [beq_self_eq_true, bne_self_eq_false, Bool.true_bne, Bool.false_bne, Bool.bne_true, Bool.bne_false, Bool.true_beq, Bool.false_beq, Bool.not_true, Bool.not_false, Bool.not_not, Int.reduceBEq, Int.reduceBNe, Int.reduceLE, Int.reduceLT, Int.reduceEq, decide_true, decide_false]; rfl)))
                | with_reducible first | refine spB_no (by decide) ?_
                | (with_reducible refine spB_dec ?_ ?_ <;> intro _ <;> (try (exfalso; first | contradiction | omega | (rename_i hz; refine hz ?_; simp; done) | (rename_i hz; simp at hz; done) | (simp only [LN] at *; omega))))
                | (with_reducible refine spB_beq ?_ ?_ <;> intro _ <;> (try (exfalso; first | contradiction | omega | (rename_i hz; refine hz ?_; simp; done) | (rename_i hz; simp at hz; done) | (simp only [LN] at *; omega))))
                | (with_reducible refine spB_bne ?_ ?_ <;> intro _ <;> (try (exfalso; first | contradiction | omega | (rename_i hz; refine hz ?_; simp; done) | (rename_i hz; simp at hz; done) | (simp only [LN] at *; omega))))
                | with_reducible first | refine Z.rowN_known hy9 ?_
                | ((with_reducible apply ixN_litp); (focus (exact rfl)); (focus ((try simp only [LN] at *) <;> omega)))
                | with_reducible refine wr_i64 (by first | omega | (simp only [LN] at *; omega)) ?_
                | with_reducible refine wr_u64 (by omega) ?_
                | ((first | (with_reducible refine Z.callZ_mk ?_ (che) ?_)); (focus ((repeat' (first | exact trivial | exact rfl | apply And.intro)); done))))
              all_goals (try (conv => whnf))
              all_goals try (show Nat.ble _ _ = true; rfl)
              all_goals try (exfalso; rename_i hz; cases hz; done)
              all_goals try (exfalso; (try simp only [LN] at *) <;> omega)
              all_goals first
                | ((refine Z.rndK ((j + 1, M')) (fun s => [0, 1, 2, 3, 4, 5, 6, 7, 8, 9, 10]) rfl rfl rfl rfl ?_ ?_ ?_ ?_); (focus (repeat' (first | exact trivial | exact rfl | apply And.intro))); (focus (repeat' (first | exact trivial | exact WBb_sub rfl | (intro b hb; cases hb; first | rfl | (cases w <;> rfl)) | exact Z.blk_sub rfl rfl (ren_map fun _ => rfl) | exact Z.gB_sub rfl rfl (ren_map fun _ => rfl) | apply And.intro))); (focus (exact ⟨by (try dsimp only); omega, HM2⟩)); ((try dsimp only); omega))
            · skip
              repeat' ((conv => whnf); first
                | ((with_reducible apply spB_cong); (focus (simp only [beq_self_eq_true, bne_self_eq_false, Bool.true_bne, Bool.false_bne, Bool.bne_true, Bool.bne_false, Bool.true_beq, Bool.false_beq, Bool.not_true, Bool.not_false, Bool.not_not, Int.reduceBEq, Int.reduceBNe, Int.reduceLE, Int.reduceLT, Int.reduceEq, decide_true, decide_false]; rfl)))
                | with_reducible first | refine spB_no (by decide) ?_
                | (with_reducible refine spB_dec ?_ ?_ <;> intro _ <;> (try (exfalso; first | contradiction | omega | (rename_i hz; refine hz ?_; simp; done) | (rename_i hz; simp at hz; done) | (simp only [LN] at *; omega))))
                | (with_reducible refine spB_beq ?_ ?_ <;> intro _ <;> (try (exfalso; first | contradiction | omega | (rename_i hz; refine hz ?_; simp; done) | (rename_i hz; simp at hz; done) | (simp only [LN] at *; omega))))
                | with_reducible first | refine Z.rowN_known hy9 ?_
                | ((with_reducible apply ixN_litp); (focus (exact rfl)); (focus ((try simp only [LN] at *) <;> omega)))
                | with_reducible refine wr_i64 (by first | omega | (simp only [LN] at *; omega)) ?_
                | with_reducible refine wr_u64 (by omega) ?_
                | ((first | (with_reducible refine Z.callZ_mk ?_ (che) ?_)); (focus ((repeat' (first | exact trivial | exact rfl | apply And.intro)); done))))
              all_goals (try (conv => whnf))
              all_goals try (show Nat.ble _ _ = true; rfl)
              all_goals try (exfalso; rename_i hz; cases hz; done)
              all_goals try (exfalso; (try simp only [LN] at *) <;> omega)
              all_goals first
                | ((refine Z.rndK ((j + 1, M')) (fun s => [0, 1, 2, 3, 4, 5, 6, 7, 8, 9, 10]) rfl rfl rfl rfl ?_ ?_ ?_ ?_); (focus (repeat' (first | exact trivial | exact rfl | apply And.intro))); (focus (repeat' (first | exact trivial | exact WBb_sub rfl | (intro b hb; cases hb; first | rfl | (cases w <;> rfl)) | exact Z.blk_sub rfl rfl (ren_map fun _ => rfl) | exact Z.gB_sub rfl rfl (ren_map fun _ => rfl) | apply And.intro))); (focus (exact ⟨by (try dsimp only); omega, HM2⟩)); ((try dsimp only); omega))
          repeat' ((conv => whnf); first
            | (with_reducible refine spB_dec ?_ ?_ <;> intro _ <;> (try (exfalso; first | contradiction | omega | (rename_i hz; refine hz ?_; simp; done) | (rename_i hz; simp at hz; done) | (simp only [LN] at *; omega))))
            | with_reducible refine wr_i64 (by first | omega | (simp only [LN] at *; omega)) ?_)
          all_goals (try (conv => whnf))
          all_goals try (show Nat.ble _ _ = true; rfl)
          all_goals try (exfalso; rename_i hz; cases hz; done)
          all_goals try (exfalso; (try simp only [LN] at *) <;> omega)
          all_goals first
            | ((refine Z.rndK ((i + 1, B, N', T, l, put, false, w)) (fun s => [0, 1, 2, 3, 4, 5]) rfl rfl rfl rfl ?_ ?_ ?_ ?_); (focus (repeat' (first | exact trivial | exact rfl | apply And.intro))); (focus (repeat' (first | exact trivial | exact WBb_sub rfl | (intro b hb; cases hb; first | rfl | (cases w <;> rfl)) | exact Z.blk_sub rfl rfl (ren_map fun _ => rfl) | exact Z.gB_sub rfl rfl (ren_map fun _ => rfl) | apply And.intro))); (focus (exact ⟨by (try dsimp only); omega, by (try dsimp only); omega, H3, HW, HP⟩)); ((try dsimp only); omega)))
      · obtain ⟨rfl, rfl, rfl, rfl⟩ := pe_true HP H
        obtain rfl : N' = 0 := by have h9 := H3.hNP; simpa using h9
        repeat' ((conv => whnf); first
          | ((with_reducible apply spB_cong); (focus (simp only [beq_self_eq_true, bne_self_eq_false, Bool.true_bne, Bool.false_bne, Bool.bne_true, Bool.bne_false, Bool.true_beq, Bool.false_beq, Bool.not_true, Bool.not_false, Bool.not_not, Int.reduceBEq, Int.reduceBNe, Int.reduceLE, Int.reduceLT, Int.reduceEq, decide_true, decide_false]; rfl)))
          | with_reducible first | refine spB_no (by decide) ?_
          | (with_reducible refine spB_dec ?_ ?_ <;> intro _ <;> (try (exfalso; first | contradiction | omega | (rename_i hz; refine hz ?_; simp; done) | (rename_i hz; simp at hz; done) | (simp only [LN] at *; omega))))
          | (with_reducible refine spB_beq ?_ ?_ <;> intro _ <;> (try (exfalso; first | contradiction | omega | (rename_i hz; refine hz ?_; simp; done) | (rename_i hz; simp at hz; done) | (simp only [LN] at *; omega))))
          | with_reducible first | refine Z.rowN_known hx ?_
          | ((with_reducible refine Z.vN_K h4 ?_ ?_); (focus rfl))
          | ((with_reducible apply ixN_litp); (focus (exact rfl)); (focus ((try simp only [LN] at *) <;> omega)))
          | with_reducible first | refine wr_mk _ rfl ?_
          | with_reducible refine nzN_mk (by omega) ?_
          | with_reducible first | refine Z.callZ_in tabOk 153 Try.f37 _ Try.func37 (by kernel_rfl) rfl rfl rfl ?_ | refine Z.callZ_in tabOk 42 Try.f39 _ Try.func39 (by kernel_rfl) rfl rfl rfl ?_
          | ((first | (with_reducible refine Z.conZ_mz ?_ (che) ?_)); (focus ((repeat' (first | exact trivial | exact rfl | apply And.intro)); done)))
          | ((first | (with_reducible refine Z.callZ_mk ?_ (cse2) ?_)); (focus ((repeat' (first | exact trivial | exact rfl | apply And.intro)); done)))
          | ((with_reducible apply ex_and); exact rfl)
          | with_reducible first | refine Z.drawZ_rule tabOk mixOk ?_ | refine Z.apZ_mk (by kernel_rfl) ?_)
        all_goals (try (conv => whnf))
        all_goals try (show Nat.ble _ _ = true; rfl)
        all_goals try (exfalso; rename_i hz; cases hz; done)
        all_goals try (exfalso; (try simp only [LN] at *) <;> omega)
        all_goals (
          refine Z.loopK tabOk (fun zq : Nat × Nat => [(54, .val (.int .i64 (zq.1 : Int)))]) (fun zq : Nat × Nat => ([(10, some (Z.Ob.b ⟨[[.v (.int .u32 7), .v (.int .u64 ((zq.2 : Int) + 1)), .ro true 5 ((bfL ([] : List El) zq.2 0).map eE), .v (.int .i64 rm)]], 4, 55, true⟩))] : Z.Kr)) (fun zq => zq.1 ≤ Q9.length ∧ LInv rm (i + 1) 0 zq.2 0 l ([] : List El) []) (fun zq => Q9.length - zq.1) (0, 0) 11 [(5, _), (11, _), (25, _), (26, _), (27, _), (52, _), (53, _)] ⟨rfl, rfl, rfl, rfl, rfl, rfl, rfl, trivial⟩ [(2, _), (3, _), (4, _), (5, _), (6, _), (7, _), (8, _), (9, _)] ⟨rfl, rfl, rfl, rfl, rfl, rfl, rfl, rfl, trivial⟩ ?_ ?_ rfl rfl ⟨Nat.zero_le _, H9⟩ ?_
          · repeat' (first | exact trivial | apply And.intro | exact ⟨_, rfl, Z.Imp.refl _⟩)
          · repeat' (first | exact trivial | exact (fun b hb => ⟨b, hb, Z.ImpO.refl b⟩) | apply And.intro)
          rintro ⟨j, M⟩ HINV
          dsimp only at HINV ⊢
          obtain ⟨HJ, HM⟩ := HINV
          by_cases hj : j < Q9.length
          · obtain ⟨y9, hy9⟩ := getElem?_some' (xs := Q9) (i := j) hj
            obtain ⟨k9, hk9a, hk9b, hk9c, hk9d⟩ := hQ9 y9 (List.mem_of_getElem? hy9)
            simp at hk9b
          repeat' ((conv => whnf); first
            | (with_reducible refine spB_dec ?_ ?_ <;> intro _ <;> (try (exfalso; first | contradiction | omega | (rename_i hz; refine hz ?_; simp; done) | (rename_i hz; simp at hz; done) | (simp only [LN] at *; omega))))
            | with_reducible refine wr_i64 (by first | omega | (simp only [LN] at *; omega)) ?_)
          all_goals (try (conv => whnf))
          all_goals try (show Nat.ble _ _ = true; rfl)
          all_goals try (exfalso; rename_i hz; cases hz; done)
          all_goals try (exfalso; (try simp only [LN] at *) <;> omega)
          all_goals first
            | ((refine Z.rndK ((i + 1, 0, 0, 0, l, [], true, w)) (fun s => [0, 1, 2, 3, 4, 5]) rfl rfl rfl rfl ?_ ?_ ?_ ?_); (focus (repeat' (first | exact trivial | exact rfl | apply And.intro))); (focus (repeat' (first | exact trivial | exact WBb_sub rfl | (intro b hb; cases hb; first | rfl | (cases w <;> rfl)) | (intro b hb; cases hb; done) | apply And.intro))); (focus (exact ⟨by (try dsimp only); omega, by (try dsimp only); omega, H3, HW, HP⟩)); ((try dsimp only); omega)))
  · have hp7 : (pk : Pk).se ≠ 7 := hse
    by_cases hk9 : pk.kd = 2
    · have cba := acked_con 7 ((B : Int) + 1) (put.drop B) l (endsL put) pk (by have h9 := H.hpl; simp only [List.length_take, List.length_drop]; omega) (fun e he => okEs_num H.hP e (List.mem_of_mem_drop he)) (by omega) H.hl0 hux.2.1 hux.2.2.1
      obtain ⟨B', l', hE, H2, _⟩ := H.back (p := pk) (.inr hp7) hk9 hux.2.2.1
      rw [hE] at cba
      dsimp only at cba
      have H3 := H2.more
      have hqm : (List.map eE (put.drop B')).length = put.length - B' := by rw [List.length_map, List.length_drop]
      have hbm : (List.map eE (bfL put N T)).length = N - T := by rw [List.length_map, bfL_len H3.hNP]
      have hq9 : (put.drop B').length = put.length - B' := List.length_drop
      have hb9 := bfL_len (T := T) H3.hNP
      have hn9 := H3.hNP
      have hbn9 := H3.hBN
      have htn9 := H3.hTN
      have hR9 := (okR_all H3.hR).1
      have hpl9 := H3.hpl
      have hS9 := (okS_all H3.hS).1
      have H9 := H3.sub (w' := []) (fun p h => nomatch h) (Nat.zero_le _)
      have cse2 := send_con 7 ((B' : Int) + 1) (put.drop B') l' (endsL put) (by have h9 := H9.hpl; simp only [List.length_take, List.length_drop]; omega) (fun e he => okEs_num H9.hP e (List.mem_of_mem_drop he)) (by omega) H9.hl0
      rw [H9.sent] at cse2
      dsimp only at cse2
      have hQ9 := fun (p : Pk) hp => H9.pks_ok (p := p) hp
      have hql9 := @pks_len 7 l' ((B' : Int) + 1) (put.drop B')
      generalize pks 7 l' ((B' : Int) + 1) (put.drop B') = Q9 at *
      cases pe
      · have hp0 : 0 < put.length := pe_false HP
        have hpne : put ≠ [] := fun h9 => by simp [h9] at hp0
        repeat' ((conv => whnf); first
          | ((with_reducible apply spB_cong); (focus (simp only [beq_self_eq_true, bne_self_eq_false, Bool.true_bne, Bool.false_bne, Bool.bne_true, Bool.bne_false, Bool.true_beq, Bool.false_beq, Bool.not_true, Bool.not_false, Bool.not_not, Int.reduceBEq, Int.reduceBNe, Int.reduceLE, Int.reduceLT, Int.reduceEq, decide_true, decide_false]; rfl)))
          | with_reducible first | refine spB_no (by decide) ?_
          | (with_reducible refine spB_dec ?_ ?_ <;> intro _ <;> (try (exfalso; first | contradiction | omega | (rename_i hz; refine hz ?_; simp; done) | (rename_i hz; simp at hz; done) | (simp only [LN] at *; omega))))
          | (with_reducible refine spB_beq ?_ ?_ <;> intro _ <;> (try (exfalso; first | contradiction | omega | (rename_i hz; refine hz ?_; simp; done) | (rename_i hz; simp at hz; done) | (simp only [LN] at *; omega))))
          | with_reducible first | refine Z.rowN_known hx ?_
          | ((with_reducible refine Z.vN_K h4 ?_ ?_); (focus rfl))
          | ((with_reducible apply ixN_litp); (focus (exact rfl)); (focus ((try simp only [LN] at *) <;> omega)))
          | with_reducible first | refine wr_mk _ rfl ?_
          | with_reducible refine nzN_mk (by omega) ?_
          | with_reducible first | refine Z.callZ_in tabOk 153 Try.f37 _ Try.func37 (by kernel_rfl) rfl rfl rfl ?_ | refine Z.callZ_in tabOk 42 Try.f39 _ Try.func39 (by kernel_rfl) rfl rfl rfl ?_
          | ((first | (with_reducible refine Z.conZ_mz ?_ (cba) ?_)); (focus ((repeat' (first | exact trivial | exact rfl | apply And.intro)); done)))
          | ((first | (with_reducible refine Z.callZ_mk ?_ (cse2) ?_)); (focus ((repeat' (first | exact trivial | exact rfl | apply And.intro)); done)))
          | ((with_reducible apply ex_and); exact rfl)
          | with_reducible first | refine Z.drawZ_rule tabOk mixOk ?_ | refine Z.apZ_mk (by kernel_rfl) ?_)
        all_goals (try (conv => whnf))
        all_goals try (show Nat.ble _ _ = true; rfl)
        all_goals try (exfalso; rename_i hz; cases hz; done)
        all_goals try (exfalso; (try simp only [LN] at *) <;> omega)
        all_goals (
          refine Z.loopK tabOk (fun zq : Nat × Nat => [(54, .val (.int .i64 (zq.1 : Int)))]) (fun zq : Nat × Nat => ([(10, some (Z.Ob.b ⟨[[.v (.int .u32 7), .v (.int .u64 ((zq.2 : Int) + 1)), .ro true 5 ((bfL put zq.2 T).map eE), .v (.int .i64 rm)]], 4, 55, true⟩))] : Z.Kr)) (fun zq => zq.1 ≤ Q9.length ∧ LInv rm (i + 1) B' zq.2 T l' put []) (fun zq => Q9.length - zq.1) (0, N) 11 [(5, _), (11, _), (25, _), (26, _), (27, _), (52, _), (53, _)] ⟨rfl, rfl, rfl, rfl, rfl, rfl, rfl, trivial⟩ [(2, _), (3, _), (4, _), (5, _), (6, _), (7, _), (8, _), (9, _)] ⟨rfl, rfl, rfl, rfl, rfl, rfl, rfl, rfl, trivial⟩ ?_ ?_ rfl rfl ⟨Nat.zero_le _, H9⟩ ?_
          · repeat' (first | exact trivial | apply And.intro | exact ⟨_, rfl, Z.Imp.refl _⟩)
          · repeat' (first | exact trivial | exact (fun b hb => ⟨b, hb, Z.ImpO.refl b⟩) | apply And.intro)
          rintro ⟨j, M⟩ HINV
          dsimp only at HINV ⊢
          obtain ⟨HJ, HM⟩ := HINV
          by_cases hj : j < Q9.length
          · obtain ⟨y9, hy9⟩ := getElem?_some' (xs := Q9) (i := j) hj
            obtain ⟨k9, hk9a, hk9b, hk9c, hk9d⟩ := hQ9 y9 (List.mem_of_getElem? hy9)
            have hyok9 : okP put rm M T y9 := by rw [hk9c]; exact ⟨rfl, .inl ⟨rfl, rfl, k9, rfl, hk9b⟩⟩
            have hyse9 : y9.se = 7 := by rw [hk9c]
            have hysq9 : y9.sq = (k9 : Int) + 1 := by rw [hk9c]
            have hykd9 : y9.kd ≠ 2 := by rw [hk9c]; show (1 : Int) ≠ 2; decide
            have hyn9 := hyok9.num HM.hP
            have che := hear_con 7 ((M : Int) + 1) (bfL put M T) rm y9 (by have h9 := HM.hpl; simp only [List.length_take, List.length_drop]; omega) (fun e he => okEs_num HM.hP e (List.mem_of_mem_take (List.mem_of_mem_drop he))) (by omega) hyn9.1 hyn9.2.2
            obtain ⟨M', hM9, hE9, HM2, hgot⟩ := HM.hear (.inl hyok9) hykd9
            rw [hE9] at che
            dsimp only at che
            have hg2 := hgot hyse9
            have hl8 := HM.hl
            have ht8 := HM.hTN
            have hR8 := (okR_all HM.hR).1
            have hbm8 : (List.map eE (bfL put M T)).length = M - T := by rw [List.length_map, bfL_len HM.hNP]
            have hbm7 : (List.map eE (bfL put M' T)).length = M' - T := by rw [List.length_map, bfL_len HM2.hNP]
            have ht7 := HM2.hTN
            by_cases hs9 : y9.sq = (M : Int) + 1
            · have hM8 : M' = M + 1 := hg2 hs9 (by omega)
              repeat' ((conv => whnf); first
                | with_reducible first | refine spB_t ?_
                | ((with_reducible apply spB_cong); (focus (simp only [beq_self_eq_true, bne_self_eq_false, Bool.true_bne, Bool.false_bne, Bool.bne_true, Bool.bne_false, Bool.true_beq, Bool.false_beq, Bool.not_true, Bool.not_false, Bool.not_not, Int.reduceBEq, Int.reduceBNe, Int.reduceLE, Int.reduceLT, Int.reduceEq, decide_true, decide_false]; rfl)))
                | with_reducible first | refine spB_no (by decide) ?_
                | (with_reducible refine spB_dec ?_ ?_ <;> intro _ <;> (try (exfalso; first | contradiction | omega | (rename_i hz; refine hz ?_; simp; done) | (rename_i hz; simp at hz; done) | (simp only [LN] at *; omega))))
                | (with_reducible refine spB_beq ?_ ?_ <;> intro _ <;> (try (exfalso; first | contradiction | omega | (rename_i hz; refine hz ?_; simp; done) | (rename_i hz; simp at hz; done) | (simp only [LN] at *; omega))))
                | (with_reducible refine spB_bne ?_ ?_ <;> intro _ <;> (try (exfalso; first | contradiction | omega | (rename_i hz; refine hz ?_; simp; done) | (rename_i hz; simp at hz; done) | (simp only [LN] at *; omega))))
                | with_reducible first | refine Z.rowN_known hy9 ?_
                | ((with_reducible apply ixN_litp); (focus (exact rfl)); (focus ((try simp only [LN] at *) <;> omega)))
                | with_reducible refine wr_i64 (by first | omega | (simp only [LN] at *; omega)) ?_
                | with_reducible refine wr_u64 (by omega) ?_
                | ((first | (with_reducible refine Z.callZ_mk ?_ (che) ?_)); (focus ((repeat' (first | exact trivial | exact rfl | apply And.intro)); done))))
              all_goals (try (conv => whnf))
              all_goals try (show Nat.ble _ _ = true; rfl)
              all_goals try (exfalso; rename_i hz; cases hz; done)
              all_goals try (exfalso; (try simp only [LN] at *) <;> omega)
              all_goals first
                | ((refine Z.rndK ((j + 1, M')) (fun s => [0, 1, 2, 3, 4, 5, 6, 7, 8, 9, 10]) rfl rfl rfl rfl ?_ ?_ ?_ ?_); (focus (repeat' (first | exact trivial | exact rfl | apply And.intro))); (focus (repeat' (first | exact trivial | exact WBb_sub rfl | (intro b hb; cases hb; first | rfl | (cases w <;> rfl)) | exact Z.blk_sub rfl rfl (ren_map fun _ => rfl) | exact Z.gB_sub rfl rfl (ren_map fun _ => rfl) | apply And.intro))); (focus (exact ⟨by (try dsimp only); omega, HM2⟩)); ((try dsimp only); omega))
            · skip
              repeat' ((conv => whnf); first
                | ((with_reducible apply spB_cong); (focus (simp only [beq_self_eq_true, bne_self_eq_false, Bool.true_bne, Bool.false_bne, Bool.bne_true, Bool.bne_false, Bool.true_beq, Bool.false_beq, Bool.not_true, Bool.not_false, Bool.not_not, Int.reduceBEq, Int.reduceBNe, Int.reduceLE, Int.reduceLT, Int.reduceEq, decide_true, decide_false]; rfl)))
                | with_reducible first | refine spB_no (by decide) ?_
                | (with_reducible refine spB_dec ?_ ?_ <;> intro _ <;> (try (exfalso; first | contradiction | omega | (rename_i hz; refine hz ?_; simp; done) | (rename_i hz; simp at hz; done) | (simp only [LN] at *; omega))))
                | (with_reducible refine spB_beq ?_ ?_ <;> intro _ <;> (try (exfalso; first | contradiction | omega | (rename_i hz; refine hz ?_; simp; done) | (rename_i hz; simp at hz; done) | (simp only [LN] at *; omega))))
                | with_reducible first | refine Z.rowN_known hy9 ?_
                | ((with_reducible apply ixN_litp); (focus (exact rfl)); (focus ((try simp only [LN] at *) <;> omega)))
                | with_reducible refine wr_i64 (by first | omega | (simp only [LN] at *; omega)) ?_
                | with_reducible refine wr_u64 (by omega) ?_
                | ((first | (with_reducible refine Z.callZ_mk ?_ (che) ?_)); (focus ((repeat' (first | exact trivial | exact rfl | apply And.intro)); done))))
              all_goals (try (conv => whnf))
              all_goals try (show Nat.ble _ _ = true; rfl)
              all_goals try (exfalso; rename_i hz; cases hz; done)
              all_goals try (exfalso; (try simp only [LN] at *) <;> omega)
              all_goals first
                | ((refine Z.rndK ((j + 1, M')) (fun s => [0, 1, 2, 3, 4, 5, 6, 7, 8, 9, 10]) rfl rfl rfl rfl ?_ ?_ ?_ ?_); (focus (repeat' (first | exact trivial | exact rfl | apply And.intro))); (focus (repeat' (first | exact trivial | exact WBb_sub rfl | (intro b hb; cases hb; first | rfl | (cases w <;> rfl)) | exact Z.blk_sub rfl rfl (ren_map fun _ => rfl) | exact Z.gB_sub rfl rfl (ren_map fun _ => rfl) | apply And.intro))); (focus (exact ⟨by (try dsimp only); omega, HM2⟩)); ((try dsimp only); omega))
          repeat' ((conv => whnf); first
            | (with_reducible refine spB_dec ?_ ?_ <;> intro _ <;> (try (exfalso; first | contradiction | omega | (rename_i hz; refine hz ?_; simp; done) | (rename_i hz; simp at hz; done) | (simp only [LN] at *; omega))))
            | with_reducible refine wr_i64 (by first | omega | (simp only [LN] at *; omega)) ?_)
          all_goals (try (conv => whnf))
          all_goals try (show Nat.ble _ _ = true; rfl)
          all_goals try (exfalso; rename_i hz; cases hz; done)
          all_goals try (exfalso; (try simp only [LN] at *) <;> omega)
          all_goals first
            | ((refine Z.rndK ((i + 1, B', N, T, l', put, false, w)) (fun s => [0, 1, 2, 3, 4, 5]) rfl rfl rfl rfl ?_ ?_ ?_ ?_); (focus (repeat' (first | exact trivial | exact rfl | apply And.intro))); (focus (repeat' (first | exact trivial | exact WBb_sub rfl | (intro b hb; cases hb; first | rfl | (cases w <;> rfl)) | exact Z.blk_sub rfl rfl (ren_map fun _ => rfl) | exact Z.gB_sub rfl rfl (ren_map fun _ => rfl) | apply And.intro))); (focus (exact ⟨by (try dsimp only); omega, by (try dsimp only); omega, H3, HW, HP⟩)); ((try dsimp only); omega)))
      · obtain ⟨rfl, rfl, rfl, rfl⟩ := pe_true HP H
        obtain rfl : B' = 0 := by have h9 := H3.hBN; omega
        repeat' ((conv => whnf); first
          | ((with_reducible apply spB_cong); (focus (simp only [beq_self_eq_true, bne_self_eq_false, Bool.true_bne, Bool.false_bne, Bool.bne_true, Bool.bne_false, Bool.true_beq, Bool.false_beq, Bool.not_true, Bool.not_false, Bool.not_not, Int.reduceBEq, Int.reduceBNe, Int.reduceLE, Int.reduceLT, Int.reduceEq, decide_true, decide_false]; rfl)))
          | with_reducible first | refine spB_no (by decide) ?_
          | (with_reducible refine spB_dec ?_ ?_ <;> intro _ <;> (try (exfalso; first | contradiction | omega | (rename_i hz; refine hz ?_; simp; done) | (rename_i hz; simp at hz; done) | (simp only [LN] at *; omega))))
          | (with_reducible refine spB_beq ?_ ?_ <;> intro _ <;> (try (exfalso; first | contradiction | omega | (rename_i hz; refine hz ?_; simp; done) | (rename_i hz; simp at hz; done) | (simp only [LN] at *; omega))))
          | with_reducible first | refine Z.rowN_known hx ?_
          | ((with_reducible refine Z.vN_K h4 ?_ ?_); (focus rfl))
          | ((with_reducible apply ixN_litp); (focus (exact rfl)); (focus ((try simp only [LN] at *) <;> omega)))
          | with_reducible first | refine wr_mk _ rfl ?_
          | with_reducible refine nzN_mk (by omega) ?_
          | with_reducible first | refine Z.callZ_in tabOk 153 Try.f37 _ Try.func37 (by kernel_rfl) rfl rfl rfl ?_ | refine Z.callZ_in tabOk 42 Try.f39 _ Try.func39 (by kernel_rfl) rfl rfl rfl ?_
          | ((first | (with_reducible refine Z.conZ_mz ?_ (cba) ?_)); (focus ((repeat' (first | exact trivial | exact rfl | apply And.intro)); done)))
          | ((first | (with_reducible refine Z.callZ_mk ?_ (cse2) ?_)); (focus ((repeat' (first | exact trivial | exact rfl | apply And.intro)); done)))
          | ((with_reducible apply ex_and); exact rfl)
          | with_reducible first | refine Z.drawZ_rule tabOk mixOk ?_ | refine Z.apZ_mk (by kernel_rfl) ?_)
        all_goals (try (conv => whnf))
        all_goals try (show Nat.ble _ _ = true; rfl)
        all_goals try (exfalso; rename_i hz; cases hz; done)
        all_goals try (exfalso; (try simp only [LN] at *) <;> omega)
        all_goals (
          refine Z.loopK tabOk (fun zq : Nat × Nat => [(54, .val (.int .i64 (zq.1 : Int)))]) (fun zq : Nat × Nat => ([(10, some (Z.Ob.b ⟨[[.v (.int .u32 7), .v (.int .u64 ((zq.2 : Int) + 1)), .ro true 5 ((bfL ([] : List El) zq.2 0).map eE), .v (.int .i64 rm)]], 4, 55, true⟩))] : Z.Kr)) (fun zq => zq.1 ≤ Q9.length ∧ LInv rm (i + 1) 0 zq.2 0 l' ([] : List El) []) (fun zq => Q9.length - zq.1) (0, 0) 11 [(5, _), (11, _), (25, _), (26, _), (27, _), (52, _), (53, _)] ⟨rfl, rfl, rfl, rfl, rfl, rfl, rfl, trivial⟩ [(2, _), (3, _), (4, _), (5, _), (6, _), (7, _), (8, _), (9, _)] ⟨rfl, rfl, rfl, rfl, rfl, rfl, rfl, rfl, trivial⟩ ?_ ?_ rfl rfl ⟨Nat.zero_le _, H9⟩ ?_
          · repeat' (first | exact trivial | apply And.intro | exact ⟨_, rfl, Z.Imp.refl _⟩)
          · repeat' (first | exact trivial | exact (fun b hb => ⟨b, hb, Z.ImpO.refl b⟩) | apply And.intro)
          rintro ⟨j, M⟩ HINV
          dsimp only at HINV ⊢
          obtain ⟨HJ, HM⟩ := HINV
          by_cases hj : j < Q9.length
          · obtain ⟨y9, hy9⟩ := getElem?_some' (xs := Q9) (i := j) hj
            obtain ⟨k9, hk9a, hk9b, hk9c, hk9d⟩ := hQ9 y9 (List.mem_of_getElem? hy9)
            simp at hk9b
          repeat' ((conv => whnf); first
            | (with_reducible refine spB_dec ?_ ?_ <;> intro _ <;> (try (exfalso; first | contradiction | omega | (rename_i hz; refine hz ?_; simp; done) | (rename_i hz; simp at hz; done) | (simp only [LN] at *; omega))))
            | with_reducible refine wr_i64 (by first | omega | (simp only [LN] at *; omega)) ?_)
          all_goals (try (conv => whnf))
          all_goals try (show Nat.ble _ _ = true; rfl)
          all_goals try (exfalso; rename_i hz; cases hz; done)
          all_goals try (exfalso; (try simp only [LN] at *) <;> omega)
          all_goals first
            | ((refine Z.rndK ((i + 1, 0, 0, 0, l', [], true, w)) (fun s => [0, 1, 2, 3, 4, 5]) rfl rfl rfl rfl ?_ ?_ ?_ ?_); (focus (repeat' (first | exact trivial | exact rfl | apply And.intro))); (focus (repeat' (first | exact trivial | exact WBb_sub rfl | (intro b hb; cases hb; first | rfl | (cases w <;> rfl)) | (intro b hb; cases hb; done) | apply And.intro))); (focus (exact ⟨by (try dsimp only); omega, by (try dsimp only); omega, H3, HW, HP⟩)); ((try dsimp only); omega)))
    · have che := hear_con 7 ((N : Int) + 1) (bfL put N T) rm pk (by have h9 := H.hpl; simp only [List.length_take, List.length_drop]; omega) (fun e he => okEs_num H.hP e (List.mem_of_mem_take (List.mem_of_mem_drop he))) (by omega) hux.2.1 hux.2.2.2
      obtain ⟨N', hN9, hE, H2, _⟩ := H.hear (p := pk) (.inr hp7) hk9
      rw [hE] at che
      dsimp only at che
      have H3 := H2.more
      have hqm : (List.map eE (put.drop B)).length = put.length - B := by rw [List.length_map, List.length_drop]
      have hbm : (List.map eE (bfL put N' T)).length = N' - T := by rw [List.length_map, bfL_len H3.hNP]
      have hq9 : (put.drop B).length = put.length - B := List.length_drop
      have hb9 := bfL_len (T := T) H3.hNP
      have hn9 := H3.hNP
      have hbn9 := H3.hBN
      have htn9 := H3.hTN
      have hR9 := (okR_all H3.hR).1
      have hpl9 := H3.hpl
      have hS9 := (okS_all H3.hS).1
      have H9 := H3.sub (w' := []) (fun p h => nomatch h) (Nat.zero_le _)
      have cse2 := send_con 7 ((B : Int) + 1) (put.drop B) l (endsL put) (by have h9 := H9.hpl; simp only [List.length_take, List.length_drop]; omega) (fun e he => okEs_num H9.hP e (List.mem_of_mem_drop he)) (by omega) H9.hl0
      rw [H9.sent] at cse2
      dsimp only at cse2
      have hQ9 := fun (p : Pk) hp => H9.pks_ok (p := p) hp
      have hql9 := @pks_len 7 l ((B : Int) + 1) (put.drop B)
      generalize pks 7 l ((B : Int) + 1) (put.drop B) = Q9 at *
      cases pe
      · have hp0 : 0 < put.length := pe_false HP
        have hpne : put ≠ [] := fun h9 => by simp [h9] at hp0
        repeat' ((conv => whnf); first
          | ((with_reducible apply spB_cong); (focus (simp only [beq_self_eq_true, bne_self_eq_false, Bool.true_bne, Bool.false_bne, Bool.bne_true, Bool.bne_false, Bool.true_beq, Bool.false_beq, Bool.not_true, Bool.not_false, Bool.not_not, Int.reduceBEq, Int.reduceBNe, Int.reduceLE, Int.reduceLT, Int.reduceEq, decide_true, decide_false]; rfl)))
          | with_reducible first | refine spB_no (by decide) ?_
          | (with_reducible refine spB_dec ?_ ?_ <;> intro _ <;> (try (exfalso; first | contradiction | omega | (rename_i hz; refine hz ?_; simp; done) | (rename_i hz; simp at hz; done) | (simp only [LN] at *; omega))))
          | (with_reducible refine spB_beq ?_ ?_ <;> intro _ <;> (try (exfalso; first | contradiction | omega | (rename_i hz; refine hz ?_; simp; done) | (rename_i hz; simp at hz; done) | (simp only [LN] at *; omega))))
          | with_reducible first | refine Z.rowN_known hx ?_
          | ((with_reducible refine Z.vN_K h4 ?_ ?_); (focus rfl))
          | ((with_reducible apply ixN_litp); (focus (exact rfl)); (focus ((try simp only [LN] at *) <;> omega)))
          | with_reducible first | refine wr_mk _ rfl ?_
          | with_reducible refine nzN_mk (by omega) ?_
          | with_reducible first | refine Z.callZ_in tabOk 153 Try.f37 _ Try.func37 (by kernel_rfl) rfl rfl rfl ?_ | refine Z.callZ_in tabOk 42 Try.f39 _ Try.func39 (by kernel_rfl) rfl rfl rfl ?_
          | ((first | (with_reducible refine Z.conZ_mz ?_ (che) ?_)); (focus ((repeat' (first | exact trivial | exact rfl | apply And.intro)); done)))
          | ((first | (with_reducible refine Z.callZ_mk ?_ (cse2) ?_)); (focus ((repeat' (first | exact trivial | exact rfl | apply And.intro)); done)))
          | ((with_reducible apply ex_and); exact rfl)
          | with_reducible first | refine Z.drawZ_rule tabOk mixOk ?_ | refine Z.apZ_mk (by kernel_rfl) ?_)
        all_goals (try (conv => whnf))
        all_goals try (show Nat.ble _ _ = true; rfl)
        all_goals try (exfalso; rename_i hz; cases hz; done)
        all_goals try (exfalso; (try simp only [LN] at *) <;> omega)
        all_goals (
          refine Z.loopK tabOk (fun zq : Nat × Nat => [(54, .val (.int .i64 (zq.1 : Int)))]) (fun zq : Nat × Nat => ([(10, some (Z.Ob.b ⟨[[.v (.int .u32 7), .v (.int .u64 ((zq.2 : Int) + 1)), .ro true 5 ((bfL put zq.2 T).map eE), .v (.int .i64 rm)]], 4, 55, true⟩))] : Z.Kr)) (fun zq => zq.1 ≤ Q9.length ∧ LInv rm (i + 1) B zq.2 T l put []) (fun zq => Q9.length - zq.1) (0, N') 11 [(5, _), (11, _), (25, _), (26, _), (27, _), (52, _), (53, _)] ⟨rfl, rfl, rfl, rfl, rfl, rfl, rfl, trivial⟩ [(2, _), (3, _), (4, _), (5, _), (6, _), (7, _), (8, _), (9, _)] ⟨rfl, rfl, rfl, rfl, rfl, rfl, rfl, rfl, trivial⟩ ?_ ?_ rfl rfl ⟨Nat.zero_le _, H9⟩ ?_
          · repeat' (first | exact trivial | apply And.intro | exact ⟨_, rfl, Z.Imp.refl _⟩)
          · repeat' (first | exact trivial | exact (fun b hb => ⟨b, hb, Z.ImpO.refl b⟩) | apply And.intro)
          rintro ⟨j, M⟩ HINV
          dsimp only at HINV ⊢
          obtain ⟨HJ, HM⟩ := HINV
          by_cases hj : j < Q9.length
          · obtain ⟨y9, hy9⟩ := getElem?_some' (xs := Q9) (i := j) hj
            obtain ⟨k9, hk9a, hk9b, hk9c, hk9d⟩ := hQ9 y9 (List.mem_of_getElem? hy9)
            have hyok9 : okP put rm M T y9 := by rw [hk9c]; exact ⟨rfl, .inl ⟨rfl, rfl, k9, rfl, hk9b⟩⟩
            have hyse9 : y9.se = 7 := by rw [hk9c]
            have hysq9 : y9.sq = (k9 : Int) + 1 := by rw [hk9c]
            have hykd9 : y9.kd ≠ 2 := by rw [hk9c]; show (1 : Int) ≠ 2; decide
            have hyn9 := hyok9.num HM.hP
            have che := hear_con 7 ((M : Int) + 1) (bfL put M T) rm y9 (by have h9 := HM.hpl; simp only [List.length_take, List.length_drop]; omega) (fun e he => okEs_num HM.hP e (List.mem_of_mem_take (List.mem_of_mem_drop he))) (by omega) hyn9.1 hyn9.2.2
            obtain ⟨M', hM9, hE9, HM2, hgot⟩ := HM.hear (.inl hyok9) hykd9
            rw [hE9] at che
            dsimp only at che
            have hg2 := hgot hyse9
            have hl8 := HM.hl
            have ht8 := HM.hTN
            have hR8 := (okR_all HM.hR).1
            have hbm8 : (List.map eE (bfL put M T)).length = M - T := by rw [List.length_map, bfL_len HM.hNP]
            have hbm7 : (List.map eE (bfL put M' T)).length = M' - T := by rw [List.length_map, bfL_len HM2.hNP]
            have ht7 := HM2.hTN
            by_cases hs9 : y9.sq = (M : Int) + 1
            · have hM8 : M' = M + 1 := hg2 hs9 (by omega)
              repeat' ((conv => whnf); first
                | with_reducible first | refine spB_t ?_
                | ((with_reducible apply spB_cong); (focus (simp only [beq_self_eq_true, bne_self_eq_false, Bool.true_bne, Bool.false_bne, Bool.bne_true, Bool.bne_false, Bool.true_beq, Bool.false_beq, Bool.not_true, Bool.not_false, Bool.not_not, Int.reduceBEq, Int.reduceBNe, Int.reduceLE, Int.reduceLT, Int.reduceEq, decide_true, decide_false]; rfl)))
                | with_reducible first | refine spB_no (by decide) ?_
                | (with_reducible refine spB_dec ?_ ?_ <;> intro _ <;> (try (exfalso; first | contradiction | omega | (rename_i hz; refine hz ?_; simp; done) | (rename_i hz; simp at hz; done) | (simp only [LN] at *; omega))))
                | (with_reducible refine spB_beq ?_ ?_ <;> intro _ <;> (try (exfalso; first | contradiction | omega | (rename_i hz; refine hz ?_; simp; done) | (rename_i hz; simp at hz; done) | (simp only [LN] at *; omega))))
                | (with_reducible refine spB_bne ?_ ?_ <;> intro _ <;> (try (exfalso; first | contradiction | omega | (rename_i hz; refine hz ?_; simp; done) | (rename_i hz; simp at hz; done) | (simp only [LN] at *; omega))))
                | with_reducible first | refine Z.rowN_known hy9 ?_
                | ((with_reducible apply ixN_litp); (focus (exact rfl)); (focus ((try simp only [LN] at *) <;> omega)))
                | with_reducible refine wr_i64 (by first | omega | (simp only [LN] at *; omega)) ?_
                | with_reducible refine wr_u64 (by omega) ?_
                | ((first | (with_reducible refine Z.callZ_mk ?_ (che) ?_)); (focus ((repeat' (first | exact trivial | exact rfl | apply And.intro)); done))))
              all_goals (try (conv => whnf))
              all_goals try (show Nat.ble _ _ = true; rfl)
              all_goals try (exfalso; rename_i hz; cases hz; done)
              all_goals try (exfalso; (try simp only [LN] at *) <;> omega)
              all_goals first
                | ((refine Z.rndK ((j + 1, M')) (fun s => [0, 1, 2, 3, 4, 5, 6, 7, 8, 9, 10]) rfl rfl rfl rfl ?_ ?_ ?_ ?_); (focus (repeat' (first | exact trivial | exact rfl | apply And.intro))); (focus (repeat' (first | exact trivial | exact WBb_sub rfl | (intro b hb; cases hb; first | rfl | (cases w <;> rfl)) | exact Z.blk_sub rfl rfl (ren_map fun _ => rfl) | exact Z.gB_sub rfl rfl (ren_map fun _ => rfl) | apply And.intro))); (focus (exact ⟨by (try dsimp only); omega, HM2⟩)); ((try dsimp only); omega))
            · skip
              repeat' ((conv => whnf); first
                | ((with_reducible apply spB_cong); (focus (simp only [beq_self_eq_true, bne_self_eq_false, Bool.true_bne, Bool.false_bne, Bool.bne_true, Bool.bne_false, Bool.true_beq, Bool.false_beq, Bool.not_true, Bool.not_false, Bool.not_not, Int.reduceBEq, Int.reduceBNe, Int.reduceLE, Int.reduceLT, Int.reduceEq, decide_true, decide_false]; rfl)))
                | with_reducible first | refine spB_no (by decide) ?_
                | (with_reducible refine spB_dec ?_ ?_ <;> intro _ <;> (try (exfalso; first | contradiction | omega | (rename_i hz; refine hz ?_; simp; done) | (rename_i hz; simp at hz; done) | (simp only [LN] at *; omega))))
                | (with_reducible refine spB_beq ?_ ?_ <;> intro _ <;> (try (exfalso; first | contradiction | omega | (rename_i hz; refine hz ?_; simp; done) | (rename_i hz; simp at hz; done) | (simp only [LN] at *; omega))))
                | with_reducible first | refine Z.rowN_known hy9 ?_
                | ((with_reducible apply ixN_litp); (focus (exact rfl)); (focus ((try simp only [LN] at *) <;> omega)))
                | with_reducible refine wr_i64 (by first | omega | (simp only [LN] at *; omega)) ?_
                | with_reducible refine wr_u64 (by omega) ?_
                | ((first | (with_reducible refine Z.callZ_mk ?_ (che) ?_)); (focus ((repeat' (first | exact trivial | exact rfl | apply And.intro)); done))))
              all_goals (try (conv => whnf))
              all_goals try (show Nat.ble _ _ = true; rfl)
              all_goals try (exfalso; rename_i hz; cases hz; done)
              all_goals try (exfalso; (try simp only [LN] at *) <;> omega)
              all_goals first
                | ((refine Z.rndK ((j + 1, M')) (fun s => [0, 1, 2, 3, 4, 5, 6, 7, 8, 9, 10]) rfl rfl rfl rfl ?_ ?_ ?_ ?_); (focus (repeat' (first | exact trivial | exact rfl | apply And.intro))); (focus (repeat' (first | exact trivial | exact WBb_sub rfl | (intro b hb; cases hb; first | rfl | (cases w <;> rfl)) | exact Z.blk_sub rfl rfl (ren_map fun _ => rfl) | exact Z.gB_sub rfl rfl (ren_map fun _ => rfl) | apply And.intro))); (focus (exact ⟨by (try dsimp only); omega, HM2⟩)); ((try dsimp only); omega))
          repeat' ((conv => whnf); first
            | (with_reducible refine spB_dec ?_ ?_ <;> intro _ <;> (try (exfalso; first | contradiction | omega | (rename_i hz; refine hz ?_; simp; done) | (rename_i hz; simp at hz; done) | (simp only [LN] at *; omega))))
            | with_reducible refine wr_i64 (by first | omega | (simp only [LN] at *; omega)) ?_)
          all_goals (try (conv => whnf))
          all_goals try (show Nat.ble _ _ = true; rfl)
          all_goals try (exfalso; rename_i hz; cases hz; done)
          all_goals try (exfalso; (try simp only [LN] at *) <;> omega)
          all_goals first
            | ((refine Z.rndK ((i + 1, B, N', T, l, put, false, w)) (fun s => [0, 1, 2, 3, 4, 5]) rfl rfl rfl rfl ?_ ?_ ?_ ?_); (focus (repeat' (first | exact trivial | exact rfl | apply And.intro))); (focus (repeat' (first | exact trivial | exact WBb_sub rfl | (intro b hb; cases hb; first | rfl | (cases w <;> rfl)) | exact Z.blk_sub rfl rfl (ren_map fun _ => rfl) | exact Z.gB_sub rfl rfl (ren_map fun _ => rfl) | apply And.intro))); (focus (exact ⟨by (try dsimp only); omega, by (try dsimp only); omega, H3, HW, HP⟩)); ((try dsimp only); omega)))
      · obtain ⟨rfl, rfl, rfl, rfl⟩ := pe_true HP H
        obtain rfl : N' = 0 := by have h9 := H3.hNP; simpa using h9
        repeat' ((conv => whnf); first
          | ((with_reducible apply spB_cong); (focus (simp only [beq_self_eq_true, bne_self_eq_false, Bool.true_bne, Bool.false_bne, Bool.bne_true, Bool.bne_false, Bool.true_beq, Bool.false_beq, Bool.not_true, Bool.not_false, Bool.not_not, Int.reduceBEq, Int.reduceBNe, Int.reduceLE, Int.reduceLT, Int.reduceEq, decide_true, decide_false]; rfl)))
          | with_reducible first | refine spB_no (by decide) ?_
          | (with_reducible refine spB_dec ?_ ?_ <;> intro _ <;> (try (exfalso; first | contradiction | omega | (rename_i hz; refine hz ?_; simp; done) | (rename_i hz; simp at hz; done) | (simp only [LN] at *; omega))))
          | (with_reducible refine spB_beq ?_ ?_ <;> intro _ <;> (try (exfalso; first | contradiction | omega | (rename_i hz; refine hz ?_; simp; done) | (rename_i hz; simp at hz; done) | (simp only [LN] at *; omega))))
          | with_reducible first | refine Z.rowN_known hx ?_
          | ((with_reducible refine Z.vN_K h4 ?_ ?_); (focus rfl))
          | ((with_reducible apply ixN_litp); (focus (exact rfl)); (focus ((try simp only [LN] at *) <;> omega)))
          | with_reducible first | refine wr_mk _ rfl ?_
          | with_reducible refine nzN_mk (by omega) ?_
          | with_reducible first | refine Z.callZ_in tabOk 153 Try.f37 _ Try.func37 (by kernel_rfl) rfl rfl rfl ?_ | refine Z.callZ_in tabOk 42 Try.f39 _ Try.func39 (by kernel_rfl) rfl rfl rfl ?_
          | ((first | (with_reducible refine Z.conZ_mz ?_ (che) ?_)); (focus ((repeat' (first | exact trivial | exact rfl | apply And.intro)); done)))
          | ((first | (with_reducible refine Z.callZ_mk ?_ (cse2) ?_)); (focus ((repeat' (first | exact trivial | exact rfl | apply And.intro)); done)))
          | ((with_reducible apply ex_and); exact rfl)
          | with_reducible first | refine Z.drawZ_rule tabOk mixOk ?_ | refine Z.apZ_mk (by kernel_rfl) ?_)
        all_goals (try (conv => whnf))
        all_goals try (show Nat.ble _ _ = true; rfl)
        all_goals try (exfalso; rename_i hz; cases hz; done)
        all_goals try (exfalso; (try simp only [LN] at *) <;> omega)
        all_goals (
          refine Z.loopK tabOk (fun zq : Nat × Nat => [(54, .val (.int .i64 (zq.1 : Int)))]) (fun zq : Nat × Nat => ([(10, some (Z.Ob.b ⟨[[.v (.int .u32 7), .v (.int .u64 ((zq.2 : Int) + 1)), .ro true 5 ((bfL ([] : List El) zq.2 0).map eE), .v (.int .i64 rm)]], 4, 55, true⟩))] : Z.Kr)) (fun zq => zq.1 ≤ Q9.length ∧ LInv rm (i + 1) 0 zq.2 0 l ([] : List El) []) (fun zq => Q9.length - zq.1) (0, 0) 11 [(5, _), (11, _), (25, _), (26, _), (27, _), (52, _), (53, _)] ⟨rfl, rfl, rfl, rfl, rfl, rfl, rfl, trivial⟩ [(2, _), (3, _), (4, _), (5, _), (6, _), (7, _), (8, _), (9, _)] ⟨rfl, rfl, rfl, rfl, rfl, rfl, rfl, rfl, trivial⟩ ?_ ?_ rfl rfl ⟨Nat.zero_le _, H9⟩ ?_
          · repeat' (first | exact trivial | apply And.intro | exact ⟨_, rfl, Z.Imp.refl _⟩)
          · repeat' (first | exact trivial | exact (fun b hb => ⟨b, hb, Z.ImpO.refl b⟩) | apply And.intro)
          rintro ⟨j, M⟩ HINV
          dsimp only at HINV ⊢
          obtain ⟨HJ, HM⟩ := HINV
          by_cases hj : j < Q9.length
          · obtain ⟨y9, hy9⟩ := getElem?_some' (xs := Q9) (i := j) hj
            obtain ⟨k9, hk9a, hk9b, hk9c, hk9d⟩ := hQ9 y9 (List.mem_of_getElem? hy9)
            simp at hk9b
          repeat' ((conv => whnf); first
            | (with_reducible refine spB_dec ?_ ?_ <;> intro _ <;> (try (exfalso; first | contradiction | omega | (rename_i hz; refine hz ?_; simp; done) | (rename_i hz; simp at hz; done) | (simp only [LN] at *; omega))))
            | with_reducible refine wr_i64 (by first | omega | (simp only [LN] at *; omega)) ?_)
          all_goals (try (conv => whnf))
          all_goals try (show Nat.ble _ _ = true; rfl)
          all_goals try (exfalso; rename_i hz; cases hz; done)
          all_goals try (exfalso; (try simp only [LN] at *) <;> omega)
          all_goals first
            | ((refine Z.rndK ((i + 1, 0, 0, 0, l, [], true, w)) (fun s => [0, 1, 2, 3, 4, 5]) rfl rfl rfl rfl ?_ ?_ ?_ ?_); (focus (repeat' (first | exact trivial | exact rfl | apply And.intro))); (focus (repeat' (first | exact trivial | exact WBb_sub rfl | (intro b hb; cases hb; first | rfl | (cases w <;> rfl)) | (intro b hb; cases hb; done) | apply And.intro))); (focus (exact ⟨by (try dsimp only); omega, by (try dsimp only); omega, H3, HW, HP⟩)); ((try dsimp only); omega)))
end Go.Proofs.Ytoiadndmbppobaa
namespace Go.Proofs.Ytoiadndmbppobaa
open Go Go.RowKit Wx
set_option linter.unusedVariables false
set_option linter.unusedSimpArgs false
set_option maxHeartbeats 4000000
theorem room_con (room : Int) (ls : List St) (hl : ls.length ≤ 9223372036854775807) (hu : ∀ x ∈ ls, 0 ≤ x.e.num ∧ 0 ≤ x.p.sq ∧ 0 ≤ x.p.lim ∧ 0 ≤ x.p.e.num) : Con Try.prog 9 [.one (.v (.int .i64 room)), .one (.ro false 17 (ls.map eT))] (fun rx rK rt => rx = .val (.bool true) ∧ rK = [] ∧ rt = 0) := by
  refine Z.con_ofF tabOk 96 Try.f9 _ Try.func9 (by kernel_rfl) rfl rfl rfl rfl ?_
  have hr8 := tm8 room
  have cl := listen_con (1 + (IntKind.u64.wrap room).tmod 8) (by omega) (by omega)
  repeat' ((conv => whnf); first
    | with_reducible first | refine spB_t ?_
    | ((with_reducible apply spB_cong); (focus (simp only [beq_self_eq_true, bne_self_eq_false, Bool.true_bne, Bool.false_bne, Bool.bne_true, Bool.bne_false, Bool.true_beq, Bool.false_beq, Bool.not_true, Bool.not_false, Bool.not_not, Int.reduceBEq, Int.reduceBNe, Int.reduceLE, Int.reduceLT, Int.reduceEq, decide_true, decide_false]; rfl)))
    | with_reducible first | refine spB_no (by decide) ?_
    | ((with_reducible refine vN_mk ?_))
    | with_reducible refine wr_i64 (by first | omega | (simp only [LN] at *; omega)) ?_
    | with_reducible first | refine wr_mk _ rfl ?_
    | with_reducible refine nzN_mk (by omega) ?_
    | with_reducible first | refine Z.callZ_in tabOk 31 Try.f36 _ Try.func36 (by kernel_rfl) rfl rfl rfl ?_
    | ((first | (with_reducible refine Z.callZ_mk ?_ (wakes_con) ?_) | (with_reducible refine Z.callZ_mk ?_ (open_con) ?_) | (with_reducible refine Z.callZ_mk ?_ (cl) ?_)); (focus ((repeat' (first | exact trivial | exact rfl | apply And.intro)); done)))
    | ((with_reducible apply ex_and); exact rfl))
  all_goals (try (conv => whnf))
  all_goals try (show Nat.ble _ _ = true; rfl)
  all_goals try (exfalso; rename_i hz; cases hz; done)
  all_goals try (exfalso; (try simp only [LN] at *) <;> omega)
  refine Z.loopK tabOk (gCH 27) (gCK (1 + (IntKind.u64.wrap room).tmod 8)) (gInv (1 + (IntKind.u64.wrap room).tmod 8) ls.length 50) (fun zq => ls.length - zq.1) (0, 0, 0, 0, 0, [], true, none) 6 (gFk 5 25 26 ls) ⟨rfl, rfl, rfl, trivial⟩ [] trivial ?_ ?_ rfl rfl ⟨Nat.zero_le _, Nat.zero_le _, LInv.begin (by omega) (by omega), trivial, by simp⟩ ?_
  · repeat' (first | exact trivial | apply And.intro | exact ⟨_, rfl, Z.Imp.refl _⟩)
  · repeat' (first | exact trivial | (intro b hb; cases hb; done) | (intro b hb; cases hb; refine ⟨_, rfl, ⟨rfl, rfl, rfl⟩, ?_⟩; (repeat' (first | exact trivial | apply And.intro | exact Z.Imp.refl _ | exact Z.Imp.nilg _ | exact Z.Imp.nilr _ _)); done) | apply And.intro)
  rintro ⟨i, B, N, T, l, put, pe, w⟩ HINV
  obtain ⟨HI, HB, H, HW, HP⟩ := HINV
  dsimp only at HI HB H HW HP
  clear cl
  generalize 1 + (IntKind.u64.wrap room).tmod 8 = rm at *
  clear hr8
  by_cases hi : i < ls.length
  rotate_left
  · dsimp only [gCH, gFk, gCK]
    repeat' ((conv => whnf); first
      | (with_reducible refine spB_dec ?_ ?_ <;> intro _ <;> (try (exfalso; first | contradiction | omega | (rename_i hz; refine hz ?_; simp; done) | (rename_i hz; simp at hz; done) | (simp only [LN] at *; omega)))))
    all_goals (try (conv => whnf))
    all_goals try (show Nat.ble _ _ = true; rfl)
    all_goals first
      | ((first | (with_reducible apply Z.retF1)); (focus (exact rfl)); (repeat' (first | exact trivial | (with_reducible apply Z.frz_one) | (with_reducible apply Z.fq_bool) | exact rfl | apply And.intro)); (all_goals (try exact (fun _ => none))); all_goals (rfl))
  obtain ⟨x, hx⟩ := getElem?_some' (xs := ls) (i := i) hi
  have hux := hu x (List.mem_of_getElem? hx)
  obtain ⟨kd, n, keeps, e, pk⟩ := x
  dsimp only at hux
  by_cases hib : i = 50
  · dsimp only [gCH, gFk, gCK]
    repeat' ((conv => whnf); first
      | (with_reducible refine spB_dec ?_ ?_ <;> intro _ <;> (try (exfalso; first | contradiction | omega | (rename_i hz; refine hz ?_; simp; done) | (rename_i hz; simp at hz; done) | (simp only [LN] at *; omega))))
      | (with_reducible refine spB_beq ?_ ?_ <;> intro _ <;> (try (exfalso; first | contradiction | omega | (rename_i hz; refine hz ?_; simp; done) | (rename_i hz; simp at hz; done) | (simp only [LN] at *; omega))))
      | with_reducible first | refine Z.rowN_known hx ?_
      | ((with_reducible apply ixN_litp); (focus (exact rfl)); (focus ((try simp only [LN] at *) <;> omega))))
    all_goals (try (conv => whnf))
    all_goals try (show Nat.ble _ _ = true; rfl)
    all_goals first
      | ((first | (with_reducible apply Z.retF1)); (focus (exact rfl)); (repeat' (first | exact trivial | (with_reducible apply Z.frz_one) | (with_reducible apply Z.fq_bool) | exact rfl | apply And.intro)); (all_goals (try exact (fun _ => none))); all_goals (rfl))
  rcases kind_g kd with h4 | h4 | h4 | h4 | h4 | h4 | h4
  · exact r_put rm ls hl i B N T l put pe w HI HB H HW HP hi kd n keeps e pk hx hux hib h4
  · exact r_send rm ls hl i B N T l put pe w HI HB H HW HP hi kd n keeps e pk hx hux hib h4
  · exact r_ack rm ls hl i B N T l put pe w HI HB H HW HP hi kd n keeps e pk hx hux hib h4
  · rcases Nat.eq_zero_or_pos (wl w).length with hw0 | hL
    · exact r_arr0 rm ls hl i B N T l put pe w HI HB H HW HP hi kd n keeps e pk hx hux hib h4 hw0
    · rcases w with _ | ⟨L, N9⟩
      · exact absurd hL (by simp)
      · cases keeps
        · exact r_arrd rm ls hl i B N T l put pe L N9 HI HB H HW HP hi kd n e pk hx hux hib h4 hL
        · exact r_arrk rm ls hl i B N T l put pe L N9 HI HB H HW HP hi kd n e pk hx hux hib h4 hL
  · rcases Nat.eq_zero_or_pos (wl w).length with hw0 | hL
    · exact r_los0 rm ls hl i B N T l put pe w HI HB H HW HP hi kd n keeps e pk hx hux hib h4 hw0
    · rcases w with _ | ⟨L, N9⟩
      · exact absurd hL (by simp)
      · exact r_lost rm ls hl i B N T l put pe L N9 HI HB H HW HP hi kd n keeps e pk hx hux hib h4 hL
  · exact r_take rm ls hl i B N T l put pe w HI HB H HW HP hi kd n keeps e pk hx hux hib h4
  · exact r_out rm ls hl i B N T l put pe w HI HB H HW HP hi kd n keeps e pk hx hux hib h4

end Go.Proofs.Ytoiadndmbppobaa
namespace Go.Proofs.Ytoiadndmbppobaa
open Go Go.RowKit Wx
set_option linter.unusedVariables false
set_option linter.unusedSimpArgs false
set_option maxHeartbeats 4000000
theorem wf_u {z : Int} (h : (Lit.int .u64 z).wf = true) : 0 ≤ z := by
  simp [Lit.wf, IntKind.min, IntKind.max, IntKind.signed, IntKind.bits] at h; omega
def okSt (x : St) : Prop := (Lit.int .u64 x.e.num).wf = true ∧ (Lit.int .u64 x.p.sq).wf = true ∧ (Lit.int .u64 x.p.lim).wf = true ∧ (Lit.int .u64 x.p.e.num).wf = true
theorem rowSt (row : List RT) (h : RowF (.st (.cons 3 1 (.int .i64) (.cons 3 1 (.int .i64) (.cons 4 1 .bool (.cons 33 5 (.st (.cons 3 1 (.int .i64) (.cons 31 3 (.st (.cons 3 1 (.int .i64) (.cons 3 1 (.int .i64) (.cons 2 1 (.int .i64) .nil)))) (.cons 23 1 (.int .u64) .nil)))) (.cons 35 9 (.st (.cons 3 1 (.int .i64) (.cons 22 1 (.int .u32) (.cons 23 1 (.int .u64) (.cons 23 1 (.int .u64) (.cons 33 5 (.st (.cons 3 1 (.int .i64) (.cons 31 3 (.st (.cons 3 1 (.int .i64) (.cons 3 1 (.int .i64) (.cons 2 1 (.int .i64) .nil)))) (.cons 23 1 (.int .u64) .nil)))) .nil)))))) .nil)))))) row) : ∃ x, row = eT x ∧ okSt x := by
  obtain ⟨a0, r0, rfl, _, ⟨z0, rfl, _⟩, a1, r1, rfl, _, ⟨z1, rfl, _⟩, a2, r2, rfl, _, ⟨z2, rfl⟩, a3, r3, rfl, _, ⟨c0, s0, rfl, _, ⟨y0, rfl, _⟩, c1, s1, rfl, _, ⟨d0, t0, rfl, _, ⟨x0, rfl, _⟩, d1, t1, rfl, _, ⟨x1, rfl, _⟩, d2, t2, rfl, _, ⟨x2, rfl, _⟩, rfl⟩, c2, s2, rfl, _, ⟨y2, rfl, w2⟩, rfl⟩, a4, r4, rfl, _, ⟨p0, q0, rfl, _, ⟨u0, rfl, _⟩, p1, q1, rfl, _, ⟨u1, rfl, _⟩, p2, q2, rfl, _, ⟨u2, rfl, w3⟩, p3, q3, rfl, _, ⟨u3, rfl, w4⟩, p4, q4, rfl, _, ⟨e0, g0, rfl, _, ⟨v0, rfl, _⟩, e1, g1, rfl, _, ⟨f0, h0, rfl, _, ⟨m0, rfl, _⟩, f1, h1, rfl, _, ⟨m1, rfl, _⟩, f2, h2, rfl, _, ⟨m2, rfl, _⟩, rfl⟩, e2, g2, rfl, _, ⟨v2, rfl, w5⟩, rfl⟩, rfl⟩, rfl⟩ := h
  exact ⟨⟨z0, z1, z2, ⟨y0, x0, x1, x2, y2⟩, ⟨u0, u1, u2, u3, ⟨v0, m0, m1, m2, v2⟩⟩⟩, rfl, w2, w3, w4, w5⟩
namespace linkRoom
theorem main (avs : List A0) (h : All2 FitA [(.int .i64), (.sl (.st (.cons 3 1 (.int .i64) (.cons 3 1 (.int .i64) (.cons 4 1 .bool (.cons 33 5 (.st (.cons 3 1 (.int .i64) (.cons 31 3 (.st (.cons 3 1 (.int .i64) (.cons 3 1 (.int .i64) (.cons 2 1 (.int .i64) .nil)))) (.cons 23 1 (.int .u64) .nil)))) (.cons 35 9 (.st (.cons 3 1 (.int .i64) (.cons 22 1 (.int .u32) (.cons 23 1 (.int .u64) (.cons 23 1 (.int .u64) (.cons 33 5 (.st (.cons 3 1 (.int .i64) (.cons 31 3 (.st (.cons 3 1 (.int .i64) (.cons 3 1 (.int .i64) (.cons 2 1 (.int .i64) .nil)))) (.cons 23 1 (.int .u64) .nil)))) .nil)))))) .nil)))))) 81 17)] avs) : Con Try.prog 9 avs (fun x K t => x = .val (.bool true) ∧ K = [] ∧ t = 0) := by
  obtain ⟨x0, x1, rfl, h0, h1⟩ : ∃ x0 x1, avs = [x0, x1] ∧ FitA (.int .i64) x0 ∧ FitA (.sl (.st (.cons 3 1 (.int .i64) (.cons 3 1 (.int .i64) (.cons 4 1 .bool (.cons 33 5 (.st (.cons 3 1 (.int .i64) (.cons 31 3 (.st (.cons 3 1 (.int .i64) (.cons 3 1 (.int .i64) (.cons 2 1 (.int .i64) .nil)))) (.cons 23 1 (.int .u64) .nil)))) (.cons 35 9 (.st (.cons 3 1 (.int .i64) (.cons 22 1 (.int .u32) (.cons 23 1 (.int .u64) (.cons 23 1 (.int .u64) (.cons 33 5 (.st (.cons 3 1 (.int .i64) (.cons 31 3 (.st (.cons 3 1 (.int .i64) (.cons 3 1 (.int .i64) (.cons 2 1 (.int .i64) .nil)))) (.cons 23 1 (.int .u64) .nil)))) .nil)))))) .nil)))))) 81 17) x1 := by
    cases avs with
    | nil => exact h.elim
    | cons x0 r => cases r with
      | nil => exact h.2.elim
      | cons x1 r => cases r with
        | nil => exact ⟨x0, x1, rfl, h.1, h.2.1⟩
        | cons => exact h.2.2.elim
  clear h
  obtain ⟨room, rfl, wroom⟩ := fit_int h0
  obtain ⟨r1, ⟨rows1, hr1, lls, hrows1⟩, rfl⟩ := h1
  simp only [List.cons.injEq, and_true] at hr1
  subst hr1
  obtain ⟨ls, rfl, kls⟩ := rows_map eT (okSt) rowSt rows1 hrows1
  rw [List.length_map] at lls
  exact room_con room ls (by simpa [maxLen] using lls) (fun x hx => ⟨wf_u (kls x hx).1, wf_u (kls x hx).2.1, wf_u (kls x hx).2.2.1, wf_u (kls x hx).2.2.2⟩)
end linkRoom
end Go.Proofs.Ytoiadndmbppobaa
