import Derived.Test.YtjjdfiapcpbapaaOwn6
import Derived.Test.YtjjdfiapcpbapaaRows
namespace Go.Proofs.Ytjjdfiapcpbapaa
open Go Go.RowKit Wx
set_option linter.unusedVariables false
set_option linter.unusedSimpArgs false
set_option maxHeartbeats 40000000
theorem dec_f (b : List Int) (N i : Nat) (acc : List Op) (t w n : Int) (r q : List Int) (hB : isB (t :: w :: r)) (hL : ((t :: w :: r) : List Int).length ≤ 1099511627776) (HC : acc.length = i) (HO : ∀ o ∈ acc, o.ins.length ≤ 8) (HD : decN N b = preD acc (decN (N - i) (t :: w :: r))) (hi : i < N) (hN : N ≤ 8) (h4 : 16 < r.length) (h5 : r.drop 16 = n :: q) (h6 : 8 < n) {Q : Exit → Z.S → Prop} : Z.codeZ Try.prog tab 57 0 none (lbody Try.f27) ⟨dCH (i, (t :: w :: r), acc, 0, 0) ++ dFk N, dCK (i, (t :: w :: r), acc, 0, 0) ++ dKk, 6⟩ (loopPost (dRnd b N (i, (t :: w :: r), acc, 0, 0)) Q) := by
  dsimp only [dCH, dFk, dCK, dKk, dRnd]
  have hb_t := hB t (by simp)
  have hb_w := hB w (by simp)
  have hBr : isB r := fun x hx => hB x (by simp [hx])
  have h50 : r[16]? = some n := by have := congrArg (fun l : List Int => l[0]?) h5; simpa using this
  have hb_n := hBr n (List.mem_of_getElem? h50)
  have h51 : r.drop 17 = q := by have := congrArg (List.drop 1) h5; simpa using this
  repeat' ((conv => whnf); first
    | with_reducible first | refine spB_t ?_
    | ((with_reducible apply spB_cong); (focus (simp only [beq_self_eq_true, bne_self_eq_false, Bool.true_bne, Bool.false_bne, Bool.bne_true, Bool.bne_false, Bool.true_beq, Bool.false_beq, Bool.not_true, Bool.not_false, Bool.not_not, Int.reduceBEq, Int.reduceBNe, Int.reduceLE, Int.reduceLT, Int.reduceEq, decide_true, decide_false]; rfl)))
    | with_reducible first | refine spB_no (by decide) ?_
    | (with_reducible refine spB_dec ?_ ?_ <;> intro _ <;> (try (exfalso; first | contradiction | omega | (rename_i hz; refine hz ?_; simp; done) | (rename_i hz; simp at hz; done) | (simp only [LN] at *; omega))))
    | ((refine sl3N_mk 0 1 1 rfl rfl rfl ?_ ?_ ?_ ?_ ?_); (iterate 4 (focus (first | exact .inl rfl | ((try simp only [LN] at *) <;> omega)))))
    | ((refine sl3N_mk 0 8 8 rfl rfl rfl ?_ ?_ ?_ ?_ ?_); (iterate 4 (focus (first | exact .inl rfl | ((try simp only [LN] at *) <;> omega)))))
    | ((with_reducible refine Z.slN_lo 1 ?_ ?_ ?_); (focus rfl); (focus ((try simp only [LN] at *) <;> omega)))
    | (refine loopZ_unr1 tabOk rfl ?_)
    | ((with_reducible refine wr_shl8 ?_ ?_); (focus omega))
    | ((with_reducible refine wr_or0 ?_ ?_); (focus omega))
    | with_reducible first | refine rowN_mk _ rfl ?_
    | ((with_reducible apply ixN_lit); (focus (exact rfl)); (focus (exact rfl)))
    | ((with_reducible refine eqN_mk2 ?_ ?_); (focus rfl))
    | with_reducible refine wr_i64 (by first | omega | (simp only [LN] at *; omega)) ?_
    | with_reducible refine wr_u64 (by omega) ?_
    | with_reducible first | refine Z.callZ_in tabOk 18 Try.f83 _ Try.func83 (by kernel_rfl) rfl rfl rfl ?_ | refine Z.callZ_in tabOk 44 Try.f46 _ Try.func46 (by kernel_rfl) rfl rfl rfl ?_ | refine Z.callZ_in tabOk 6 Try.f58 _ Try.func58 (by kernel_rfl) rfl rfl rfl ?_ | refine Z.callZ_in tabOk 5 Try.f60 _ Try.func60 (by kernel_rfl) rfl rfl rfl ?_ | refine Z.callZ_in tabOk 10 Try.f74 _ Try.func74 (by kernel_rfl) rfl rfl rfl ?_ | refine Z.callZ_in tabOk 58 Try.f82 _ Try.func82 (by kernel_rfl) rfl rfl rfl ?_
    | ((with_reducible apply ex_and); exact rfl)
    | with_reducible first | refine Z.drawZ_rule tabOk mixOk ?_ | refine Z.apZ_mk (by kernel_rfl) ?_)
  all_goals (try (conv => whnf))
  all_goals try (show Nat.ble _ _ = true; rfl)
  all_goals try (exfalso; rename_i hz; cases hz; done)
  all_goals try (exfalso; (try simp only [LN] at *) <;> omega)
  all_goals (
    apply loopQ3
    · intro Q0 hq9
      refine Z.loopK tabOk (fun zq : Nat => [(6, .val (.int .i64 (zq : Int)))]) (fun zq : Nat => ([(13, some (Z.Ob.b ⟨[[.v (.int .u64 (numR (r.take zq)))]], 1, 66, true⟩)), (0, some (Z.Ob.b ⟨[[.v (.slice none 0 0)]], 1, 26, true⟩)), (1, some (Z.Ob.b ⟨[[.ro true 1 (r.map eB), .v (.int .i64 0)]], 2, 86, true⟩)), (4, some (Z.Ob.b ⟨[[.gsl 5 (acc.map cO)]], 1, 26, true⟩)), (5, (gB 5 34 (acc.map cO)).map Z.Ob.b), (6, some (Z.Ob.b ⟨[[.v (.int .i64 0), .v (.int .i64 0), .v (.slice none 0 0), .v (.int .i64 0), .v (.int .i64 0)]], 5, 34, true⟩)), (7, some (Z.Ob.b ⟨[[.v (.int .i64 t), .v (.int .i64 w), .v (.slice none 0 0), .v (.int .i64 (0)), .v (.int .i64 0)]], 5, 34, true⟩))] : Z.Kr)) (fun zq => zq ≤ 8) (fun zq => 8 - zq) 0 14 [(0, _), (2, _), (5, _)] ⟨rfl, rfl, rfl, trivial⟩ [] trivial ?_ ?_ rfl rfl (Nat.zero_le _) ?_
      · repeat' (first | exact trivial | apply And.intro | exact ⟨_, rfl, Z.Imp.refl _⟩)
      · repeat' (first | exact trivial | exact (fun b hb => ⟨b, hb, Z.ImpO.refl b⟩) | (intro b hb; cases hb; refine ⟨_, rfl, ⟨rfl, rfl, rfl⟩, ⟨⟨Z.Imp.of_eq (congrArg (Ce.ro true 1) (by first | ((try simp only [tk_drop]); simp only [← List.map_drop, List.drop_drop, List.map_cons, List.drop_succ_cons, List.drop_zero]; done) | ((try simp only [tk_drop]); simp only [← List.map_drop, List.drop_drop]; (rw [h51]; done)) | (simp [tk_map]; done) | (simp [tk_map, List.take_of_length_le]; done))), Z.Imp.refl _, trivial⟩, trivial⟩⟩; done) | apply And.intro)
      rintro j HINV
      (try dsimp only at HINV); (try dsimp only)
      by_cases hj : j < 8
      · obtain ⟨z9, hzr⟩ := getElem?_some' (xs := r) (i := j) (by (try rw [List.length_drop]); omega)
        have hzd : (r.take 8)[j]? = some z9 := by rw [List.getElem?_take, if_pos hj]; exact hzr
        have hzb := hBr z9 (List.mem_of_getElem? hzr)
        have hnl := num_lt (l := r) (i := j) (by omega) (by (try rw [List.length_drop]); omega) hBr
        generalize hnv : numR (r.take j) = nv at *
        repeat' ((conv => whnf); first
          | (with_reducible refine spB_dec ?_ ?_ <;> intro _ <;> (try (exfalso; first | contradiction | omega | (rename_i hz; refine hz ?_; simp; done) | (rename_i hz; simp at hz; done) | (simp only [LN] at *; omega))))
          | ((with_reducible refine wr_shl8 ?_ ?_); (focus omega))
          | ((with_reducible refine rowN_mk (eB z9) ?_ ?_); (focus (exact rest_at (by first | ((try simp only [tk_drop]); simp only [Nat.sub_zero, List.drop_zero, ← List.map_drop, ← List.map_take, List.map_cons, List.drop_succ_cons]; done) | (simp [tk_map]; done)) hzd)))
          | ((with_reducible refine ixN_mk (j) ?_ ?_ ?_); (focus (first | rfl)); (focus ((try simp only [LN] at *) <;> omega)))
          | ((with_reducible refine eqN_mk2 ?_ ?_); (focus rfl))
          | with_reducible refine wr_i64 (by first | omega | (simp only [LN] at *; omega)) ?_
          | with_reducible refine wr_u64 (by omega) ?_
          | with_reducible first | refine Z.drawZ_rule tabOk mixOk ?_ | refine Z.apZ_mk (by kernel_rfl) ?_)
        all_goals (try (conv => whnf))
        all_goals try (show Nat.ble _ _ = true; rfl)
        all_goals try (exfalso; rename_i hz; cases hz; done)
        all_goals try (exfalso; (try simp only [LN] at *) <;> omega)
        all_goals first
          | ((refine Z.rnd_rw 13 ([[.v (.int .u64 (numR (r.take (j + 1))))]]) rfl rfl ?_ ?_); (focus (rw [take_snoc hzr, numR_snoc, hnv]; exact congrArg (fun z => [[Ce.v (.int .u64 z)]]) (or_add hnl hzb))); ((refine Z.rndK ((j + 1)) (fun s => [0, 1, 2, 3, 4, 5, 6, 7, 8, 9, 10, 11, 12, 13]) rfl rfl rfl rfl ?_ ?_ ?_ ?_); (focus (repeat' (first | exact trivial | exact rfl | apply And.intro))); (focus (repeat' (first | exact trivial | (intro b hb; cases hb; rfl) | exact Z.gB_sub rfl rfl (ren_map fun _ => rfl) | apply And.intro))); (focus (((try dsimp only); omega))); ((try dsimp only); omega)))
      have hj8 : j = 8 := by omega
      repeat' ((conv => whnf); first
        | (with_reducible refine spB_dec ?_ ?_ <;> intro _ <;> (try (exfalso; first | contradiction | omega | (rename_i hz; refine hz ?_; simp; done) | (rename_i hz; simp at hz; done) | (simp only [LN] at *; omega)))))
      all_goals (try (conv => whnf))
      subst hj8
      exact hq9
    generalize hnv8 : numR (r.take 8) = v8 at *)
  repeat' ((conv => whnf); first
    | ((with_reducible apply spB_cong); (focus (simp only [beq_self_eq_true, bne_self_eq_false, Bool.true_bne, Bool.false_bne, Bool.bne_true, Bool.bne_false, Bool.true_beq, Bool.false_beq, Bool.not_true, Bool.not_false, Bool.not_not, Int.reduceBEq, Int.reduceBNe, Int.reduceLE, Int.reduceLT, Int.reduceEq, decide_true, decide_false]; rfl)))
    | with_reducible first | refine spB_no (by decide) ?_
    | (with_reducible refine spB_dec ?_ ?_ <;> intro _ <;> (try (exfalso; first | contradiction | omega | (rename_i hz; refine hz ?_; simp; done) | (rename_i hz; simp at hz; done) | (simp only [LN] at *; omega))))
    | ((refine sl3N_mk 0 8 8 rfl rfl rfl ?_ ?_ ?_ ?_ ?_); (iterate 4 (focus (first | exact .inl rfl | ((try simp only [LN] at *) <;> omega)))))
    | ((with_reducible refine Z.slN_lo 8 ?_ ?_ ?_); (focus rfl); (focus ((try simp only [LN] at *) <;> omega)))
    | (refine wr_mk (IntKind.i64.wrap v8) rfl ?_)
    | with_reducible first | refine Z.callZ_in tabOk 18 Try.f83 _ Try.func83 (by kernel_rfl) rfl rfl rfl ?_ | refine Z.callZ_in tabOk 5 Try.f60 _ Try.func60 (by kernel_rfl) rfl rfl rfl ?_ | refine Z.callZ_in tabOk 10 Try.f74 _ Try.func74 (by kernel_rfl) rfl rfl rfl ?_ | refine Z.callZ_in tabOk 58 Try.f82 _ Try.func82 (by kernel_rfl) rfl rfl rfl ?_
    | ((with_reducible apply ex_and); exact rfl))
  all_goals (try (conv => whnf))
  all_goals try (show Nat.ble _ _ = true; rfl)
  all_goals try (exfalso; rename_i hz; cases hz; done)
  all_goals try (exfalso; (try simp only [LN] at *) <;> omega)
  all_goals (
    apply loopQ3
    · intro Q0 hq9
      refine Z.loopK tabOk (fun zq : Nat => [(6, .val (.int .i64 (zq : Int)))]) (fun zq : Nat => ([(15, some (Z.Ob.b ⟨[[.v (.int .u64 (numR ((r.drop 8).take zq)))]], 1, 66, true⟩)), (0, some (Z.Ob.b ⟨[[.v (.slice none 0 0)]], 1, 26, true⟩)), (1, some (Z.Ob.b ⟨[[.ro true 1 ((r.drop 8).map eB), .v (.int .i64 0)]], 2, 86, true⟩)), (4, some (Z.Ob.b ⟨[[.gsl 5 (acc.map cO)]], 1, 26, true⟩)), (5, (gB 5 34 (acc.map cO)).map Z.Ob.b), (6, some (Z.Ob.b ⟨[[.v (.int .i64 0), .v (.int .i64 0), .v (.slice none 0 0), .v (.int .i64 0), .v (.int .i64 0)]], 5, 34, true⟩)), (7, some (Z.Ob.b ⟨[[.v (.int .i64 t), .v (.int .i64 w), .v (.slice none 0 0), .v (.int .i64 (0)), .v (.int .i64 0)]], 5, 34, true⟩))] : Z.Kr)) (fun zq => zq ≤ 8) (fun zq => 8 - zq) 0 16 [(0, _), (2, _), (5, _)] ⟨rfl, rfl, rfl, trivial⟩ [] trivial ?_ ?_ rfl rfl (Nat.zero_le _) ?_
      · repeat' (first | exact trivial | apply And.intro | exact ⟨_, rfl, Z.Imp.refl _⟩)
      · repeat' (first | exact trivial | exact (fun b hb => ⟨b, hb, Z.ImpO.refl b⟩) | (intro b hb; cases hb; refine ⟨_, rfl, ⟨rfl, rfl, rfl⟩, ⟨⟨Z.Imp.of_eq (congrArg (Ce.ro true 1) (by first | ((try simp only [tk_drop]); simp only [← List.map_drop, List.drop_drop, List.map_cons, List.drop_succ_cons, List.drop_zero]; done) | ((try simp only [tk_drop]); simp only [← List.map_drop, List.drop_drop]; (rw [h51]; done)) | (simp [tk_map]; done) | (simp [tk_map, List.take_of_length_le]; done))), Z.Imp.refl _, trivial⟩, trivial⟩⟩; done) | apply And.intro)
      rintro j HINV
      (try dsimp only at HINV); (try dsimp only)
      by_cases hj : j < 8
      · obtain ⟨z9, hzr⟩ := getElem?_some' (xs := (r.drop 8)) (i := j) (by (try rw [List.length_drop]); omega)
        have hzd : ((r.drop 8).take 8)[j]? = some z9 := by rw [List.getElem?_take, if_pos hj]; exact hzr
        have hzb := (isB_drop hBr) z9 (List.mem_of_getElem? hzr)
        have hnl := num_lt (l := (r.drop 8)) (i := j) (by omega) (by (try rw [List.length_drop]); omega) (isB_drop hBr)
        generalize hnv : numR ((r.drop 8).take j) = nv at *
        repeat' ((conv => whnf); first
          | (with_reducible refine spB_dec ?_ ?_ <;> intro _ <;> (try (exfalso; first | contradiction | omega | (rename_i hz; refine hz ?_; simp; done) | (rename_i hz; simp at hz; done) | (simp only [LN] at *; omega))))
          | ((with_reducible refine wr_shl8 ?_ ?_); (focus omega))
          | ((with_reducible refine rowN_mk (eB z9) ?_ ?_); (focus (exact rest_at (by first | ((try simp only [tk_drop]); simp only [Nat.sub_zero, List.drop_zero, ← List.map_drop, ← List.map_take, List.map_cons, List.drop_succ_cons]; done) | (simp [tk_map]; done)) hzd)))
          | ((with_reducible refine ixN_mk (j) ?_ ?_ ?_); (focus (first | rfl)); (focus ((try simp only [LN] at *) <;> omega)))
          | ((with_reducible refine eqN_mk2 ?_ ?_); (focus rfl))
          | with_reducible refine wr_i64 (by first | omega | (simp only [LN] at *; omega)) ?_
          | with_reducible refine wr_u64 (by omega) ?_
          | with_reducible first | refine Z.drawZ_rule tabOk mixOk ?_ | refine Z.apZ_mk (by kernel_rfl) ?_)
        all_goals (try (conv => whnf))
        all_goals try (show Nat.ble _ _ = true; rfl)
        all_goals try (exfalso; rename_i hz; cases hz; done)
        all_goals try (exfalso; (try simp only [LN] at *) <;> omega)
        all_goals first
          | ((refine Z.rnd_rw 15 ([[.v (.int .u64 (numR ((r.drop 8).take (j + 1))))]]) rfl rfl ?_ ?_); (focus (rw [take_snoc hzr, numR_snoc, hnv]; exact congrArg (fun z => [[Ce.v (.int .u64 z)]]) (or_add hnl hzb))); ((refine Z.rndK ((j + 1)) (fun s => [0, 1, 2, 3, 4, 5, 6, 7, 8, 9, 10, 11, 12, 13, 14, 15]) rfl rfl rfl rfl ?_ ?_ ?_ ?_); (focus (repeat' (first | exact trivial | exact rfl | apply And.intro))); (focus (repeat' (first | exact trivial | (intro b hb; cases hb; rfl) | exact Z.gB_sub rfl rfl (ren_map fun _ => rfl) | apply And.intro))); (focus (((try dsimp only); omega))); ((try dsimp only); omega)))
      have hj8 : j = 8 := by omega
      repeat' ((conv => whnf); first
        | (with_reducible refine spB_dec ?_ ?_ <;> intro _ <;> (try (exfalso; first | contradiction | omega | (rename_i hz; refine hz ?_; simp; done) | (rename_i hz; simp at hz; done) | (simp only [LN] at *; omega)))))
      all_goals (try (conv => whnf))
      subst hj8
      exact hq9
    generalize hnv9 : numR ((r.drop 8).take 8) = v9 at *)
  repeat' ((conv => whnf); first
    | with_reducible first | refine spB_t ?_
    | ((with_reducible apply spB_cong); (focus (simp only [beq_self_eq_true, bne_self_eq_false, Bool.true_bne, Bool.false_bne, Bool.bne_true, Bool.bne_false, Bool.true_beq, Bool.false_beq, Bool.not_true, Bool.not_false, Bool.not_not, Int.reduceBEq, Int.reduceBNe, Int.reduceLE, Int.reduceLT, Int.reduceEq, decide_true, decide_false]; rfl)))
    | with_reducible first | refine spB_no (by decide) ?_
    | (with_reducible refine spB_dec ?_ ?_ <;> intro _ <;> (try (exfalso; first | contradiction | omega | (rename_i hz; refine hz ?_; simp; done) | (rename_i hz; simp at hz; done) | (simp only [LN] at *; omega))))
    | ((refine sl3N_mk 0 1 1 rfl rfl rfl ?_ ?_ ?_ ?_ ?_); (iterate 4 (focus (first | exact .inl rfl | ((try simp only [LN] at *) <;> omega)))))
    | ((with_reducible refine Z.slN_lo 1 ?_ ?_ ?_); (focus rfl); (focus ((try simp only [LN] at *) <;> omega)))
    | ((with_reducible refine Z.slN_lo 8 ?_ ?_ ?_); (focus rfl); (focus ((try simp only [LN] at *) <;> omega)))
    | (refine loopZ_unr1 tabOk rfl ?_)
    | ((with_reducible refine wr_shl8 ?_ ?_); (focus omega))
    | ((with_reducible refine wr_or0 ?_ ?_); (focus omega))
    | ((with_reducible refine rowN_mk (eB n) ?_ ?_); (focus (first | exact row16 h50)))
    | (refine wr_mk (IntKind.i64.wrap v9) rfl ?_)
    | ((with_reducible apply ixN_litp); (focus (exact rfl)); (focus ((try simp only [LN] at *) <;> omega)))
    | ((with_reducible refine eqN_mk2 ?_ ?_); (focus rfl))
    | with_reducible refine wr_i64 (by first | omega | (simp only [LN] at *; omega)) ?_
    | with_reducible refine wr_u64 (by omega) ?_
    | with_reducible first | refine Z.callZ_in tabOk 18 Try.f83 _ Try.func83 (by kernel_rfl) rfl rfl rfl ?_ | refine Z.callZ_in tabOk 13 Try.f45 _ Try.func45 (by kernel_rfl) rfl rfl rfl ?_ | refine Z.callZ_in tabOk 6 Try.f58 _ Try.func58 (by kernel_rfl) rfl rfl rfl ?_ | refine Z.callZ_in tabOk 10 Try.f74 _ Try.func74 (by kernel_rfl) rfl rfl rfl ?_ | refine Z.callZ_in tabOk 58 Try.f82 _ Try.func82 (by kernel_rfl) rfl rfl rfl ?_
    | ((with_reducible apply ex_and); exact rfl)
    | with_reducible first | refine Z.drawZ_rule tabOk mixOk ?_ | refine Z.apZ_mk (by kernel_rfl) ?_)
  all_goals (try (conv => whnf))
  all_goals try (show Nat.ble _ _ = true; rfl)
  all_goals try (exfalso; rename_i hz; cases hz; done)
  all_goals try (exfalso; (try simp only [LN] at *) <;> omega)
  all_goals (refine Z.loopZ_unroll tabOk 1 ?_)
  repeat' ((conv => whnf); first
    | ((with_reducible apply spB_cong); (focus (simp only [beq_self_eq_true, bne_self_eq_false, Bool.true_bne, Bool.false_bne, Bool.bne_true, Bool.bne_false, Bool.true_beq, Bool.false_beq, Bool.not_true, Bool.not_false, Bool.not_not, Int.reduceBEq, Int.reduceBNe, Int.reduceLE, Int.reduceLT, Int.reduceEq, decide_true, decide_false]; rfl)))
    | with_reducible first | refine spB_no (by decide) ?_
    | ((with_reducible refine posE_pos ?_ ?_); (focus ((try simp only [LN] at *) <;> omega)))
    | ((with_reducible refine apdN.mk ?_ ?_ ?_ ?_ ?_ ?_); (focus (first | rfl)); (focus (first | exact one_all (by rfl))); (focus ((try simp only [LN] at *) <;> omega)); (focus ((try simp only [LN] at *) <;> omega)); (focus ((try simp only [LN] at *) <;> omega)))
    | with_reducible refine wr_i64 (by first | omega | (simp only [LN] at *; omega)) ?_
    | ((with_reducible refine eqN_mk2 ?_ ?_); (focus (exact Z.kb_some rfl)))
    | ((with_reducible apply ex_and); exact rfl))
  all_goals (try (conv => whnf))
  all_goals try (show Nat.ble _ _ = true; rfl)
  all_goals try (exfalso; rename_i hz; cases hz; done)
  all_goals try (exfalso; (try simp only [LN] at *) <;> omega)
  all_goals first
    | ((refine rnd_fzj 6 4 0 ((acc ++ [(⟨t, w, [], IntKind.i64.wrap (numR (r.take 8)), IntKind.i64.wrap (numR ((r.drop 8).take 8))⟩ : Op)]).map cO) rfl rfl rfl rfl rfl rfl (Z.rows_snoc ⟨?_, ?_, ?_, ?_, ?_, trivial⟩) ?_); (focus (first | exact Z.fzC.refl _)); (focus (first | exact Z.fzC.refl _)); (focus (first | exact .inl (Z.Imp.nilr _ _))); (focus (first | exact .inl (Z.Imp.of_eq (by first | (rw [hnv8]; done) | (rw [hnv9]; done) | (simp; done))))); (focus (first | exact .inl (Z.Imp.of_eq (by first | (rw [hnv8]; done) | (rw [hnv9]; done) | (simp; done))))); ((refine Z.rnd_bi 1 [[.ro true 1 (q.map eB), _]] rfl rfl ⟨⟨Z.Imp.of_eq (congrArg (Ce.ro true 1) (by first | ((try simp only [tk_drop]); simp only [← List.map_drop, List.drop_drop, List.map_cons, List.drop_succ_cons, List.drop_zero]; done) | ((try simp only [tk_drop]); simp only [← List.map_drop, List.drop_drop]; (rw [h51]; done)) | (simp; done) | (simp [tk_map]; done) | (simp [tk_map, List.take_of_length_le]; done))), Z.Imp.refl _, trivial⟩, trivial⟩ ?_); ((refine Z.rndK ((i + 1, q, acc ++ [(⟨t, w, [], IntKind.i64.wrap (numR (r.take 8)), IntKind.i64.wrap (numR ((r.drop 8).take 8))⟩ : Op)], 160, 0)) (fun s => [0, 1, 2, 3, 4, s.idIn 4 0]) rfl rfl rfl rfl ?_ ?_ ?_ ?_); (focus (repeat' (first | exact trivial | exact rfl | apply And.intro))); (focus (repeat' (first | exact trivial | (intro b hb; cases hb; rfl) | exact Z.gB_sub' rfl (by first | rfl | (rw [List.map_append]; rfl) | simp only [List.map_append, List.map_cons, List.map_nil]) (ren_map fun _ => rfl) | apply And.intro))); (focus (exact ⟨by (try dsimp only); omega, ⟨by (try dsimp only); exact fun x hx => hBr x (List.mem_of_mem_drop (h5 ▸ List.mem_cons_of_mem _ hx)), by (try dsimp only); have := congrArg List.length h5; simp only [List.length_cons, List.length_drop] at *; omega⟩, by (try dsimp only); rw [List.length_append, HC]; rfl, fun o ho => by rcases List.mem_append.1 ho with h | h; exact HO o h; rw [List.mem_singleton.1 h]; exact Nat.zero_le _, .inr ⟨by (try dsimp only); decide, by (try dsimp only); rw [HD, show N - i = (N - (i + 1)) + 1 by omega]; exact preD_bad (by simp only [dec1]; rw [h5]; exact (congrArg (fun x : Op × Int × List Int => x.2.1) (if_pos h6))) (by decide)⟩⟩)); ((try dsimp only); omega))))
end Go.Proofs.Ytjjdfiapcpbapaa
namespace Go.Proofs.Ytjjdfiapcpbapaa
open Go Go.RowKit Wx
set_option linter.unusedVariables false
set_option linter.unusedSimpArgs false
set_option maxHeartbeats 40000000
theorem dec_g (b : List Int) (N i : Nat) (acc : List Op) (t w : Int) (n : Nat) (r q : List Int) (hB : isB (t :: w :: r)) (hL : ((t :: w :: r) : List Int).length ≤ 1099511627776) (HC : acc.length = i) (HO : ∀ o ∈ acc, o.ins.length ≤ 8) (HD : decN N b = preD acc (decN (N - i) (t :: w :: r))) (hi : i < N) (hN : N ≤ 8) (h4 : 16 < r.length) (h5 : r.drop 16 = (n : Int) :: q) (h6 : n ≤ 8) {Q : Exit → Z.S → Prop} : Z.codeZ Try.prog tab 57 0 none (lbody Try.f27) ⟨dCH (i, (t :: w :: r), acc, 0, 0) ++ dFk N, dCK (i, (t :: w :: r), acc, 0, 0) ++ dKk, 6⟩ (loopPost (dRnd b N (i, (t :: w :: r), acc, 0, 0)) Q) := by
  dsimp only [dCH, dFk, dCK, dKk, dRnd]
  have hb_t := hB t (by simp)
  have hb_w := hB w (by simp)
  have hBr : isB r := fun x hx => hB x (by simp [hx])
  have h50 : r[16]? = some (n : Int) := by have := congrArg (fun l : List Int => l[0]?) h5; simpa using this
  have hb_n := hBr (n : Int) (List.mem_of_getElem? h50)
  have h51 : r.drop 17 = q := by have := congrArg (List.drop 1) h5; simpa using this
  repeat' ((conv => whnf); first
    | with_reducible first | refine spB_t ?_
    | ((with_reducible apply spB_cong); (focus (simp only [beq_self_eq_true, bne_self_eq_false, Bool.true_bne, Bool.false_bne, Bool.bne_true, Bool.bne_false, Bool.true_beq, Bool.false_beq, Bool.not_true, Bool.not_false, Bool.not_not, Int.reduceBEq, Int.reduceBNe, Int.reduceLE, Int.reduceLT, Int.reduceEq, decide_true, decide_false]; rfl)))
    | with_reducible first | refine spB_yes (by decide) ?_ | refine spB_no (by decide) ?_ | refine spB_f ?_ | refine spB_not ?_ | refine spB_yes (by assumption) ?_ | refine spB_no (by assumption) ?_
    | (with_reducible refine spB_dec ?_ ?_ <;> intro _ <;> (try (exfalso; first | contradiction | omega | (rename_i hz; refine hz ?_; simp; done) | (rename_i hz; simp at hz; done) | (simp only [LN] at *; omega))))
    | (with_reducible refine spB_beq ?_ ?_ <;> intro _ <;> (try (exfalso; first | contradiction | omega | (rename_i hz; refine hz ?_; simp; done) | (rename_i hz; simp at hz; done) | (simp only [LN] at *; omega))))
    | (with_reducible refine spB_bne ?_ ?_ <;> intro _ <;> (try (exfalso; first | contradiction | omega | (rename_i hz; refine hz ?_; simp; done) | (rename_i hz; simp at hz; done) | (simp only [LN] at *; omega))))
    | (with_reducible refine spB_mk ?_ ?_ <;> intro _ <;> (try (exfalso; first | contradiction | omega | (rename_i hz; refine hz ?_; simp; done) | (rename_i hz; simp at hz; done) | (simp only [LN] at *; omega))))
    | (refine Z.updN.mk ⟨_, rfl, ?_⟩)
    | (refine Z.lookN.mk ⟨_, _, rfl, ?_⟩)
    | with_reducible first | refine Z.callZ_mfa ?_
    | ((refine sl3N_mk 0 1 1 rfl rfl rfl ?_ ?_ ?_ ?_ ?_); (iterate 4 (focus (first | exact .inl rfl | ((try simp only [LN] at *) <;> omega)))))
    | ((refine sl3N_mk 0 8 8 rfl rfl rfl ?_ ?_ ?_ ?_ ?_); (iterate 4 (focus (first | exact .inl rfl | ((try simp only [LN] at *) <;> omega)))))
    | ((with_reducible refine Z.slN_lo 1 ?_ ?_ ?_); (focus rfl); (focus ((try simp only [LN] at *) <;> omega)))
    | ((with_reducible refine Z.slN_lo 8 ?_ ?_ ?_); (focus rfl); (focus ((try simp only [LN] at *) <;> omega)))
    | (refine loopZ_unr1 tabOk rfl ?_)
    | ((with_reducible refine wr_shl8 ?_ ?_); (focus omega))
    | ((with_reducible refine wr_or0 ?_ ?_); (focus omega))
    | with_reducible first | refine rowN_mk _ rfl ?_
    | ((with_reducible refine rowN_mk (eB (n : Int)) ?_ ?_); (focus (first | exact row16 h50 | (fail))))
    | ((with_reducible refine posE_pos ?_ ?_); (focus ((try simp only [LN] at *) <;> omega)))
    | ((with_reducible refine posE_nil ?_ ?_); (focus rfl))
    | ((with_reducible apply rowN_mk); (focus rfl))
    | ((with_reducible apply ixN_lit); (focus (exact rfl)); (focus (exact rfl)))
    | ((with_reducible apply ixN_litp); (focus (exact rfl)); (focus ((try simp only [LN] at *) <;> omega)))
    | ((with_reducible refine eqN_mk2 ?_ ?_); (focus rfl))
    | ((with_reducible refine posN_mk2 ?_ ?_); (focus (first | decide | ((try simp only [LN] at *) <;> omega))))
    | ((with_reducible refine apdE_r ?_); (with_reducible refine aprN.mk ⟨_, rfl, ?_⟩ ?_ ?_ ?_ ?_); (focus ((try simp only [LN] at *) <;> omega)); (focus (first | rfl | (simp; done) | ((try simp only [LN] at *) <;> omega))); (focus (first | exact one_all (by rfl) | exact one_map (fun _ => rfl) | exact one_map2 (fun _ => rfl) | exact one_drop (fun _ => rfl))); (focus ((try simp only [LN] at *) <;> omega)))
    | ((with_reducible refine apdE_k ?_); (with_reducible refine apkN.mk ⟨_, rfl, ?_⟩ ?_); (focus ((try simp only [LN] at *) <;> omega)))
    | with_reducible first | refine apdE_n ?_
    | ((with_reducible refine slE_a ?_ ?_); (focus ((try simp only [LN] at *) <;> omega)))
    | ((with_reducible refine slE_b ?_ ?_); (focus ((try simp only [LN] at *) <;> omega)))
    | ((with_reducible refine slE_split ?_ ?_ ?_); (focus ((try simp only [LN] at *) <;> omega)); (all_goals intro _))
    | ((with_reducible apply sl3N_mk); (focus (exact rfl)); (focus (exact rfl)); (focus (exact rfl)); (focus ((try simp only [LN] at *) <;> omega)); (focus ((try simp only [LN] at *) <;> omega)); (focus ((try simp only [LN] at *) <;> omega)); (focus ((try simp only [LN] at *) <;> omega)))
    | ((with_reducible refine apdN.mk ?_ ?_ ?_ ?_ ?_ ?_); (focus (first | rfl | (simp; done))); (focus (first | exact one_all (by rfl) | exact one_map (fun _ => rfl) | exact one_map2 (fun _ => rfl))); (focus ((try simp only [LN] at *) <;> omega)); (focus ((try simp only [LN] at *) <;> omega)); (focus ((try simp only [LN] at *) <;> omega)))
    | with_reducible refine wr_i64 (by first | omega | (simp only [LN] at *; omega)) ?_
    | with_reducible refine wr_u64 (by omega) ?_
    | with_reducible refine wr_u8 (by omega) ?_
    | with_reducible refine wr_u32 (by omega) ?_
    | with_reducible first | refine wr_mk _ rfl ?_
    | ((with_reducible refine ixN_nat ?_ ?_); (focus ((try simp only [LN] at *) <;> omega)))
    | ((with_reducible refine rowN_map ?_ ?_); (focus ((try simp only [LN] at *) <;> omega)); intro x hx)
    | ((with_reducible refine posE_nil (by rfl) ?_))
    | ((with_reducible refine posE_pos (by decide) ?_))
    | with_reducible refine vN_mod (by omega) ?_
    | with_reducible first | refine vN_mk ?_
    | with_reducible refine nzN_mk (by omega) ?_
    | with_reducible refine eqN_dec (by omega) ?_
    | with_reducible first | refine apN_mk (by kernel_rfl) ?_ | refine Z.callZ_in tabOk 18 Try.f83 _ Try.func83 (by kernel_rfl) rfl rfl rfl ?_ | refine Z.callZ_in tabOk 8 Try.f44 _ Try.func44 (by kernel_rfl) rfl rfl rfl ?_ | refine Z.callZ_in tabOk 13 Try.f45 _ Try.func45 (by kernel_rfl) rfl rfl rfl ?_ | refine Z.callZ_in tabOk 44 Try.f46 _ Try.func46 (by kernel_rfl) rfl rfl rfl ?_ | refine Z.callZ_in tabOk 11 Try.f47 _ Try.func47 (by kernel_rfl) rfl rfl rfl ?_ | refine Z.callZ_in tabOk 6 Try.f58 _ Try.func58 (by kernel_rfl) rfl rfl rfl ?_ | refine Z.callZ_in tabOk 10 Try.f59 _ Try.func59 (by kernel_rfl) rfl rfl rfl ?_ | refine Z.callZ_in tabOk 5 Try.f60 _ Try.func60 (by kernel_rfl) rfl rfl rfl ?_ | refine Z.callZ_in tabOk 10 Try.f74 _ Try.func74 (by kernel_rfl) rfl rfl rfl ?_ | refine Z.callZ_in tabOk 58 Try.f82 _ Try.func82 (by kernel_rfl) rfl rfl rfl ?_
    | ((first | (with_reducible refine Z.conZ_mz ?_ (cc) ?_) | (with_reducible refine Z.callZ_mk ?_ (cc) ?_) | (with_reducible refine Z.conZ_mz ?_ (ccp) ?_) | (with_reducible refine Z.callZ_mk ?_ (ccp) ?_)); (focus ((repeat' (first | exact trivial | exact rfl | exact Z.low_nil | exact Z.low_nil2 | exact low_osl (fun _ => rfl) | (refine Z.low_osln ?_ (fun _ => rfl); (simp only [List.length_map]; done)) | exact low_oslr (fun _ => rfl) | exact Z.low_gslm (by first | rfl | exact Z.kb_some rfl) (fun _ => rfl) | exact .inl rfl | exact .inr ⟨_, rfl⟩ | apply And.intro)); done)))
    | ((with_reducible refine eqN_mk2 ?_ ?_); (focus (exact Z.kb_some rfl)))
    | ((with_reducible apply ex_and); exact rfl)
    | with_reducible first | refine Z.drawZ_rule tabOk mixOk ?_ | refine Z.apZ_mk (by kernel_rfl) ?_
    | ((with_reducible refine Z.ConZ.red ?_); (try subst hlb); (apply Z.conZ_all); (focus (repeat (first | exact Z.FK.nil | (apply Z.FK.keep; exact rfl)))); (focus rfl); (focus rfl); (focus (repeat (first | exact trivial | (refine ⟨(fun o ho => (by first | (cases ho; rfl) | (cases ho; exact Z.inL_map fun _ => rfl) | (cases ho; exact Z.inL_mapr fun _ => rfl) | exact Z.inL_gB ho fun _ => rfl)), ?_⟩)))))
    | ((refine ⟨rfl, ?_, rfl⟩); (focus (repeat (first | exact Z.DK.nil | apply Z.DK.cons))))
    | (focus (exact (rfl : Nat.ble _ _ = true))))
  all_goals (try (conv => whnf))
  all_goals try (show Nat.ble _ _ = true; rfl)
  all_goals try (exfalso; rename_i hz; cases hz; done)
  all_goals try (exfalso; (try simp only [LN] at *) <;> omega)
  all_goals (
    apply loopQ3
    · intro Q0 hq9
      refine Z.loopK tabOk (fun zq : Nat => [(6, .val (.int .i64 (zq : Int)))]) (fun zq : Nat => ([(13, some (Z.Ob.b ⟨[[.v (.int .u64 (numR (r.take zq)))]], 1, 66, true⟩)), (0, some (Z.Ob.b ⟨[[.v (.slice none 0 0)]], 1, 26, true⟩)), (1, some (Z.Ob.b ⟨[[.ro true 1 (r.map eB), .v (.int .i64 0)]], 2, 86, true⟩)), (4, some (Z.Ob.b ⟨[[.gsl 5 (acc.map cO)]], 1, 26, true⟩)), (5, (gB 5 34 (acc.map cO)).map Z.Ob.b), (6, some (Z.Ob.b ⟨[[.v (.int .i64 0), .v (.int .i64 0), .v (.slice none 0 0), .v (.int .i64 0), .v (.int .i64 0)]], 5, 34, true⟩)), (7, some (Z.Ob.b ⟨[[.v (.int .i64 t), .v (.int .i64 w), .v (.slice none 0 0), .v (.int .i64 (0)), .v (.int .i64 0)]], 5, 34, true⟩))] : Z.Kr)) (fun zq => zq ≤ 8) (fun zq => 8 - zq) 0 14 [(0, _), (2, _), (5, _)] ⟨rfl, rfl, rfl, trivial⟩ [] trivial ?_ ?_ rfl rfl (Nat.zero_le _) ?_
      · repeat' (first | exact trivial | apply And.intro | exact ⟨_, rfl, rfl⟩ | exact ⟨_, rfl, Z.Imp.refl _⟩ | exact ⟨_, rfl, Z.Imp.nilg _⟩ | exact ⟨_, rfl, Z.Imp.nilr _ _⟩)
      · repeat' (first | exact trivial | (intro b hb; cases hb; done) | exact (fun b hb => ⟨b, hb, Z.ImpO.refl b⟩) | (intro b hb; cases hb; refine ⟨_, rfl, ⟨rfl, rfl, rfl⟩, ⟨⟨Z.Imp.of_eq (congrArg (Ce.ro true 1) (by first | ((try simp only [tk_drop]); simp only [← List.map_drop, List.drop_drop, List.map_cons, List.drop_succ_cons, List.drop_zero]; done) | ((try simp only [tk_drop]); simp only [← List.map_drop, List.drop_drop]; (rw [h51]; done)) | (simp [tk_map]; done) | (simp [tk_map, List.take_of_length_le]; done))), Z.Imp.refl _, trivial⟩, trivial⟩⟩; done) | (intro b hb; cases hb; refine ⟨_, rfl, ⟨rfl, rfl, rfl⟩, ?_⟩; (repeat' (first | exact trivial | apply And.intro | exact Z.Imp.refl _ | exact Z.Imp.nilg _ | exact Z.Imp.nilr _ _)); done) | (intro b hb; cases hb; refine ⟨_, rfl, ⟨rfl, rfl, rfl⟩, Z.imp_eq ?_⟩; first | rfl | (simp [tk_map]; done); done) | apply And.intro)
      rintro j HINV
      (try dsimp only at HINV); (try dsimp only)
      by_cases hj : j < 8
      · obtain ⟨z9, hzr⟩ := getElem?_some' (xs := r) (i := j) (by (try rw [List.length_drop]); omega)
        have hzd : (r.take 8)[j]? = some z9 := by rw [List.getElem?_take, if_pos hj]; exact hzr
        have hzb := hBr z9 (List.mem_of_getElem? hzr)
        have hnl := num_lt (l := r) (i := j) (by omega) (by (try rw [List.length_drop]); omega) hBr
        generalize hnv : numR (r.take j) = nv at *
        repeat' ((conv => whnf); first
          | with_reducible first | refine spB_t ?_
          | ((with_reducible apply spB_cong); (focus (simp only [beq_self_eq_true, bne_self_eq_false, Bool.true_bne, Bool.false_bne, Bool.bne_true, Bool.bne_false, Bool.true_beq, Bool.false_beq, Bool.not_true, Bool.not_false, Bool.not_not, Int.reduceBEq, Int.reduceBNe, Int.reduceLE, Int.reduceLT, Int.reduceEq, decide_true, decide_false]; rfl)))
          | with_reducible first | refine spB_yes (by decide) ?_ | refine spB_no (by decide) ?_ | refine spB_f ?_ | refine spB_not ?_ | refine spB_yes (by assumption) ?_ | refine spB_no (by assumption) ?_
          | (with_reducible refine spB_dec ?_ ?_ <;> intro _ <;> (try (exfalso; first | contradiction | omega | (rename_i hz; refine hz ?_; simp; done) | (rename_i hz; simp at hz; done) | (simp only [LN] at *; omega))))
          | (with_reducible refine spB_beq ?_ ?_ <;> intro _ <;> (try (exfalso; first | contradiction | omega | (rename_i hz; refine hz ?_; simp; done) | (rename_i hz; simp at hz; done) | (simp only [LN] at *; omega))))
          | (with_reducible refine spB_bne ?_ ?_ <;> intro _ <;> (try (exfalso; first | contradiction | omega | (rename_i hz; refine hz ?_; simp; done) | (rename_i hz; simp at hz; done) | (simp only [LN] at *; omega))))
          | (with_reducible refine spB_mk ?_ ?_ <;> intro _ <;> (try (exfalso; first | contradiction | omega | (rename_i hz; refine hz ?_; simp; done) | (rename_i hz; simp at hz; done) | (simp only [LN] at *; omega))))
          | ((with_reducible refine Z.slN_lo 1 ?_ ?_ ?_); (focus rfl); (focus ((try simp only [LN] at *) <;> omega)))
          | ((with_reducible refine Z.slN_lo 8 ?_ ?_ ?_); (focus rfl); (focus ((try simp only [LN] at *) <;> omega)))
          | (refine loopZ_unr1 tabOk rfl ?_)
          | ((with_reducible refine wr_shl8 ?_ ?_); (focus omega))
          | ((with_reducible refine wr_or0 ?_ ?_); (focus omega))
          | ((with_reducible refine rowN_mk (eB z9) ?_ ?_); (focus (exact rest_at (by first | ((try simp only [tk_drop]); simp only [Nat.sub_zero, List.drop_zero, ← List.map_drop, ← List.map_take, List.map_cons, List.drop_succ_cons]; done) | (simp [tk_map]; done)) hzd)))
          | ((with_reducible refine ixN_mk (j) ?_ ?_ ?_); (focus (first | rfl | ((try simp only [LN] at *) <;> omega))); (focus ((try simp only [LN] at *) <;> omega)))
          | ((with_reducible apply rowN_mk); (focus rfl))
          | ((with_reducible apply ixN_lit); (focus (exact rfl)); (focus (exact rfl)))
          | ((with_reducible apply ixN_litp); (focus (exact rfl)); (focus ((try simp only [LN] at *) <;> omega)))
          | ((with_reducible refine eqN_mk2 ?_ ?_); (focus rfl))
          | with_reducible refine wr_i64 (by first | omega | (simp only [LN] at *; omega)) ?_
          | with_reducible refine wr_u64 (by omega) ?_
          | with_reducible refine wr_u8 (by omega) ?_
          | with_reducible refine wr_u32 (by omega) ?_
          | with_reducible first | refine wr_mk _ rfl ?_
          | ((with_reducible refine ixN_nat ?_ ?_); (focus ((try simp only [LN] at *) <;> omega)))
          | ((with_reducible refine rowN_map ?_ ?_); (focus ((try simp only [LN] at *) <;> omega)); intro x hx)
          | with_reducible refine vN_mod (by omega) ?_
          | with_reducible first | refine vN_mk ?_
          | with_reducible refine nzN_mk (by omega) ?_
          | with_reducible refine eqN_dec (by omega) ?_
          | with_reducible first | refine apN_mk (by kernel_rfl) ?_
          | ((with_reducible refine eqN_mk2 ?_ ?_); (focus (exact Z.kb_some rfl)))
          | ((with_reducible apply ex_and); exact rfl)
          | with_reducible first | refine Z.drawZ_rule tabOk mixOk ?_ | refine Z.apZ_mk (by kernel_rfl) ?_
          | ((with_reducible refine Z.ConZ.red ?_); (try subst hlb); (apply Z.conZ_all); (focus (repeat (first | exact Z.FK.nil | (apply Z.FK.keep; exact rfl)))); (focus rfl); (focus rfl); (focus (repeat (first | exact trivial | (refine ⟨(fun o ho => (by first | (cases ho; rfl) | (cases ho; exact Z.inL_map fun _ => rfl) | (cases ho; exact Z.inL_mapr fun _ => rfl) | exact Z.inL_gB ho fun _ => rfl)), ?_⟩)))))
          | ((refine ⟨rfl, ?_, rfl⟩); (focus (repeat (first | exact Z.DK.nil | apply Z.DK.cons))))
          | (focus (exact (rfl : Nat.ble _ _ = true))))
        all_goals (try (conv => whnf))
        all_goals try (show Nat.ble _ _ = true; rfl)
        all_goals try (exfalso; rename_i hz; cases hz; done)
        all_goals try (exfalso; (try simp only [LN] at *) <;> omega)
        all_goals first
          | ((refine Z.rnd_rw 13 ([[.v (.int .u64 (numR (r.take (j + 1))))]]) rfl rfl ?_ ?_); (focus (rw [take_snoc hzr, numR_snoc, hnv]; exact congrArg (fun z => [[Ce.v (.int .u64 z)]]) (or_add hnl hzb))); ((refine Z.rndK ((j + 1)) (fun s => [0, 1, 2, 3, 4, 5, 6, 7, 8, 9, 10, 11, 12, 13]) rfl rfl rfl rfl ?_ ?_ ?_ ?_); (focus (repeat' (first | exact trivial | exact Z.map_sub (Z.MapL.ren HM0 fun _ => rfl) rfl | exact Z.it_sub rfl | exact rfl | (rw [List.map_append]; exact rfl) | apply And.intro))); (focus (repeat' (first | exact trivial | exact Z.map_sub (Z.MapL.ren HM0 fun _ => rfl) rfl | exact Z.it_sub rfl | (intro b hb; cases hb; rfl) | (intro b hb; cases hb; subst hlb; rfl) | (intro b hb; cases hb; rw [List.map_append]; rfl) | (intro b hb; cases hb; done) | exact Z.blk_sub rfl rfl (ren_map fun _ => rfl) | exact Z.blk_sub rfl rfl (Z.ren_app (ren_map fun _ => rfl) (ren_map fun _ => rfl)) | exact Z.blk_sub rfl (by first | (rw [List.map_append]; rfl) | (rw [List.map_set]; rfl) | simp only [List.map_append, List.map_cons, List.map_nil, List.map_set]) (ren_map fun _ => rfl) | exact Z.gB_sub rfl rfl (ren_map fun _ => rfl) | exact Z.gB_sub' rfl (by first | rfl | (rw [List.map_append]; rfl) | simp only [List.map_append, List.map_cons, List.map_nil]) (ren_map fun _ => rfl) | apply And.intro))); (focus (((try dsimp only); omega))); ((try dsimp only); omega)))
          | (exfalso; rename_i hz; cases hz; done)
          | (exfalso; (try simp only [LN] at *) <;> omega)
          | (fail)
      have hj8 : j = 8 := by omega
      repeat' ((conv => whnf); first
        | with_reducible first | refine spB_t ?_
        | ((with_reducible apply spB_cong); (focus (simp only [beq_self_eq_true, bne_self_eq_false, Bool.true_bne, Bool.false_bne, Bool.bne_true, Bool.bne_false, Bool.true_beq, Bool.false_beq, Bool.not_true, Bool.not_false, Bool.not_not, Int.reduceBEq, Int.reduceBNe, Int.reduceLE, Int.reduceLT, Int.reduceEq, decide_true, decide_false]; rfl)))
        | with_reducible first | refine spB_yes (by decide) ?_ | refine spB_no (by decide) ?_ | refine spB_f ?_ | refine spB_not ?_ | refine spB_yes (by assumption) ?_ | refine spB_no (by assumption) ?_
        | (with_reducible refine spB_dec ?_ ?_ <;> intro _ <;> (try (exfalso; first | contradiction | omega | (rename_i hz; refine hz ?_; simp; done) | (rename_i hz; simp at hz; done) | (simp only [LN] at *; omega))))
        | (with_reducible refine spB_beq ?_ ?_ <;> intro _ <;> (try (exfalso; first | contradiction | omega | (rename_i hz; refine hz ?_; simp; done) | (rename_i hz; simp at hz; done) | (simp only [LN] at *; omega))))
        | (with_reducible refine spB_bne ?_ ?_ <;> intro _ <;> (try (exfalso; first | contradiction | omega | (rename_i hz; refine hz ?_; simp; done) | (rename_i hz; simp at hz; done) | (simp only [LN] at *; omega))))
        | (with_reducible refine spB_mk ?_ ?_ <;> intro _ <;> (try (exfalso; first | contradiction | omega | (rename_i hz; refine hz ?_; simp; done) | (rename_i hz; simp at hz; done) | (simp only [LN] at *; omega))))
        | ((with_reducible refine Z.slN_lo 1 ?_ ?_ ?_); (focus rfl); (focus ((try simp only [LN] at *) <;> omega)))
        | ((with_reducible refine Z.slN_lo 8 ?_ ?_ ?_); (focus rfl); (focus ((try simp only [LN] at *) <;> omega)))
        | (refine loopZ_unr1 tabOk rfl ?_)
        | ((with_reducible refine wr_shl8 ?_ ?_); (focus omega))
        | ((with_reducible refine wr_or0 ?_ ?_); (focus omega))
        | ((with_reducible apply rowN_mk); (focus rfl))
        | ((with_reducible apply ixN_lit); (focus (exact rfl)); (focus (exact rfl)))
        | ((with_reducible apply ixN_litp); (focus (exact rfl)); (focus ((try simp only [LN] at *) <;> omega)))
        | ((with_reducible refine eqN_mk2 ?_ ?_); (focus rfl))
        | with_reducible refine wr_i64 (by first | omega | (simp only [LN] at *; omega)) ?_
        | with_reducible refine wr_u64 (by omega) ?_
        | with_reducible refine wr_u8 (by omega) ?_
        | with_reducible refine wr_u32 (by omega) ?_
        | with_reducible first | refine wr_mk _ rfl ?_
        | ((with_reducible refine ixN_nat ?_ ?_); (focus ((try simp only [LN] at *) <;> omega)))
        | ((with_reducible refine rowN_map ?_ ?_); (focus ((try simp only [LN] at *) <;> omega)); intro x hx)
        | with_reducible refine vN_mod (by omega) ?_
        | with_reducible first | refine vN_mk ?_
        | with_reducible refine nzN_mk (by omega) ?_
        | with_reducible refine eqN_dec (by omega) ?_
        | with_reducible first | refine apN_mk (by kernel_rfl) ?_
        | ((with_reducible refine eqN_mk2 ?_ ?_); (focus (exact Z.kb_some rfl)))
        | ((with_reducible apply ex_and); exact rfl)
        | with_reducible first | refine Z.drawZ_rule tabOk mixOk ?_ | refine Z.apZ_mk (by kernel_rfl) ?_
        | ((with_reducible refine Z.ConZ.red ?_); (try subst hlb); (apply Z.conZ_all); (focus (repeat (first | exact Z.FK.nil | (apply Z.FK.keep; exact rfl)))); (focus rfl); (focus rfl); (focus (repeat (first | exact trivial | (refine ⟨(fun o ho => (by first | (cases ho; rfl) | (cases ho; exact Z.inL_map fun _ => rfl) | (cases ho; exact Z.inL_mapr fun _ => rfl) | exact Z.inL_gB ho fun _ => rfl)), ?_⟩)))))
        | ((refine ⟨rfl, ?_, rfl⟩); (focus (repeat (first | exact Z.DK.nil | apply Z.DK.cons))))
        | (focus (exact (rfl : Nat.ble _ _ = true))))
      all_goals (try (conv => whnf))
      subst hj8
      exact hq9
    generalize hnv8 : numR (r.take 8) = v8 at *)
  repeat' ((conv => whnf); first
    | with_reducible first | refine spB_t ?_
    | ((with_reducible apply spB_cong); (focus (simp only [beq_self_eq_true, bne_self_eq_false, Bool.true_bne, Bool.false_bne, Bool.bne_true, Bool.bne_false, Bool.true_beq, Bool.false_beq, Bool.not_true, Bool.not_false, Bool.not_not, Int.reduceBEq, Int.reduceBNe, Int.reduceLE, Int.reduceLT, Int.reduceEq, decide_true, decide_false]; rfl)))
    | with_reducible first | refine spB_yes (by decide) ?_ | refine spB_no (by decide) ?_ | refine spB_f ?_ | refine spB_not ?_ | refine spB_yes (by assumption) ?_ | refine spB_no (by assumption) ?_
    | (with_reducible refine spB_dec ?_ ?_ <;> intro _ <;> (try (exfalso; first | contradiction | omega | (rename_i hz; refine hz ?_; simp; done) | (rename_i hz; simp at hz; done) | (simp only [LN] at *; omega))))
    | (with_reducible refine spB_beq ?_ ?_ <;> intro _ <;> (try (exfalso; first | contradiction | omega | (rename_i hz; refine hz ?_; simp; done) | (rename_i hz; simp at hz; done) | (simp only [LN] at *; omega))))
    | (with_reducible refine spB_bne ?_ ?_ <;> intro _ <;> (try (exfalso; first | contradiction | omega | (rename_i hz; refine hz ?_; simp; done) | (rename_i hz; simp at hz; done) | (simp only [LN] at *; omega))))
    | (with_reducible refine spB_mk ?_ ?_ <;> intro _ <;> (try (exfalso; first | contradiction | omega | (rename_i hz; refine hz ?_; simp; done) | (rename_i hz; simp at hz; done) | (simp only [LN] at *; omega))))
    | (refine Z.updN.mk ⟨_, rfl, ?_⟩)
    | (refine Z.lookN.mk ⟨_, _, rfl, ?_⟩)
    | with_reducible first | refine Z.callZ_mfa ?_
    | ((refine sl3N_mk 0 1 1 rfl rfl rfl ?_ ?_ ?_ ?_ ?_); (iterate 4 (focus (first | exact .inl rfl | ((try simp only [LN] at *) <;> omega)))))
    | ((refine sl3N_mk 0 8 8 rfl rfl rfl ?_ ?_ ?_ ?_ ?_); (iterate 4 (focus (first | exact .inl rfl | ((try simp only [LN] at *) <;> omega)))))
    | ((with_reducible refine Z.slN_lo 1 ?_ ?_ ?_); (focus rfl); (focus ((try simp only [LN] at *) <;> omega)))
    | ((with_reducible refine Z.slN_lo 8 ?_ ?_ ?_); (focus rfl); (focus ((try simp only [LN] at *) <;> omega)))
    | (refine loopZ_unr1 tabOk rfl ?_)
    | ((with_reducible refine wr_shl8 ?_ ?_); (focus omega))
    | ((with_reducible refine wr_or0 ?_ ?_); (focus omega))
    | with_reducible first | refine rowN_mk _ rfl ?_
    | ((with_reducible refine rowN_mk (eB (n : Int)) ?_ ?_); (focus (first | exact row16 h50 | (fail))))
    | (refine wr_mk (IntKind.i64.wrap v8) rfl ?_)
    | ((with_reducible refine posE_pos ?_ ?_); (focus ((try simp only [LN] at *) <;> omega)))
    | ((with_reducible refine posE_nil ?_ ?_); (focus rfl))
    | ((with_reducible apply rowN_mk); (focus rfl))
    | ((with_reducible apply ixN_lit); (focus (exact rfl)); (focus (exact rfl)))
    | ((with_reducible apply ixN_litp); (focus (exact rfl)); (focus ((try simp only [LN] at *) <;> omega)))
    | ((with_reducible refine eqN_mk2 ?_ ?_); (focus rfl))
    | ((with_reducible refine posN_mk2 ?_ ?_); (focus (first | decide | ((try simp only [LN] at *) <;> omega))))
    | ((with_reducible refine apdE_r ?_); (with_reducible refine aprN.mk ⟨_, rfl, ?_⟩ ?_ ?_ ?_ ?_); (focus ((try simp only [LN] at *) <;> omega)); (focus (first | rfl | (simp; done) | ((try simp only [LN] at *) <;> omega))); (focus (first | exact one_all (by rfl) | exact one_map (fun _ => rfl) | exact one_map2 (fun _ => rfl) | exact one_drop (fun _ => rfl))); (focus ((try simp only [LN] at *) <;> omega)))
    | ((with_reducible refine apdE_k ?_); (with_reducible refine apkN.mk ⟨_, rfl, ?_⟩ ?_); (focus ((try simp only [LN] at *) <;> omega)))
    | with_reducible first | refine apdE_n ?_
    | ((with_reducible refine slE_a ?_ ?_); (focus ((try simp only [LN] at *) <;> omega)))
    | ((with_reducible refine slE_b ?_ ?_); (focus ((try simp only [LN] at *) <;> omega)))
    | ((with_reducible refine slE_split ?_ ?_ ?_); (focus ((try simp only [LN] at *) <;> omega)); (all_goals intro _))
    | ((with_reducible apply sl3N_mk); (focus (exact rfl)); (focus (exact rfl)); (focus (exact rfl)); (focus ((try simp only [LN] at *) <;> omega)); (focus ((try simp only [LN] at *) <;> omega)); (focus ((try simp only [LN] at *) <;> omega)); (focus ((try simp only [LN] at *) <;> omega)))
    | ((with_reducible refine apdN.mk ?_ ?_ ?_ ?_ ?_ ?_); (focus (first | rfl | (simp; done))); (focus (first | exact one_all (by rfl) | exact one_map (fun _ => rfl) | exact one_map2 (fun _ => rfl))); (focus ((try simp only [LN] at *) <;> omega)); (focus ((try simp only [LN] at *) <;> omega)); (focus ((try simp only [LN] at *) <;> omega)))
    | with_reducible refine wr_i64 (by first | omega | (simp only [LN] at *; omega)) ?_
    | with_reducible refine wr_u64 (by omega) ?_
    | with_reducible refine wr_u8 (by omega) ?_
    | with_reducible refine wr_u32 (by omega) ?_
    | with_reducible first | refine wr_mk _ rfl ?_
    | ((with_reducible refine ixN_nat ?_ ?_); (focus ((try simp only [LN] at *) <;> omega)))
    | ((with_reducible refine rowN_map ?_ ?_); (focus ((try simp only [LN] at *) <;> omega)); intro x hx)
    | ((with_reducible refine posE_nil (by rfl) ?_))
    | ((with_reducible refine posE_pos (by decide) ?_))
    | with_reducible refine vN_mod (by omega) ?_
    | with_reducible first | refine vN_mk ?_
    | with_reducible refine nzN_mk (by omega) ?_
    | with_reducible refine eqN_dec (by omega) ?_
    | with_reducible first | refine apN_mk (by kernel_rfl) ?_ | refine Z.callZ_in tabOk 18 Try.f83 _ Try.func83 (by kernel_rfl) rfl rfl rfl ?_ | refine Z.callZ_in tabOk 8 Try.f44 _ Try.func44 (by kernel_rfl) rfl rfl rfl ?_ | refine Z.callZ_in tabOk 13 Try.f45 _ Try.func45 (by kernel_rfl) rfl rfl rfl ?_ | refine Z.callZ_in tabOk 44 Try.f46 _ Try.func46 (by kernel_rfl) rfl rfl rfl ?_ | refine Z.callZ_in tabOk 11 Try.f47 _ Try.func47 (by kernel_rfl) rfl rfl rfl ?_ | refine Z.callZ_in tabOk 6 Try.f58 _ Try.func58 (by kernel_rfl) rfl rfl rfl ?_ | refine Z.callZ_in tabOk 10 Try.f59 _ Try.func59 (by kernel_rfl) rfl rfl rfl ?_ | refine Z.callZ_in tabOk 5 Try.f60 _ Try.func60 (by kernel_rfl) rfl rfl rfl ?_ | refine Z.callZ_in tabOk 10 Try.f74 _ Try.func74 (by kernel_rfl) rfl rfl rfl ?_ | refine Z.callZ_in tabOk 58 Try.f82 _ Try.func82 (by kernel_rfl) rfl rfl rfl ?_
    | ((first | (with_reducible refine Z.conZ_mz ?_ (cc) ?_) | (with_reducible refine Z.callZ_mk ?_ (cc) ?_) | (with_reducible refine Z.conZ_mz ?_ (ccp) ?_) | (with_reducible refine Z.callZ_mk ?_ (ccp) ?_)); (focus ((repeat' (first | exact trivial | exact rfl | exact Z.low_nil | exact Z.low_nil2 | exact low_osl (fun _ => rfl) | (refine Z.low_osln ?_ (fun _ => rfl); (simp only [List.length_map]; done)) | exact low_oslr (fun _ => rfl) | exact Z.low_gslm (by first | rfl | exact Z.kb_some rfl) (fun _ => rfl) | exact .inl rfl | exact .inr ⟨_, rfl⟩ | apply And.intro)); done)))
    | ((with_reducible refine eqN_mk2 ?_ ?_); (focus (exact Z.kb_some rfl)))
    | ((with_reducible apply ex_and); exact rfl)
    | with_reducible first | refine Z.drawZ_rule tabOk mixOk ?_ | refine Z.apZ_mk (by kernel_rfl) ?_
    | ((with_reducible refine Z.ConZ.red ?_); (try subst hlb); (apply Z.conZ_all); (focus (repeat (first | exact Z.FK.nil | (apply Z.FK.keep; exact rfl)))); (focus rfl); (focus rfl); (focus (repeat (first | exact trivial | (refine ⟨(fun o ho => (by first | (cases ho; rfl) | (cases ho; exact Z.inL_map fun _ => rfl) | (cases ho; exact Z.inL_mapr fun _ => rfl) | exact Z.inL_gB ho fun _ => rfl)), ?_⟩)))))
    | ((refine ⟨rfl, ?_, rfl⟩); (focus (repeat (first | exact Z.DK.nil | apply Z.DK.cons))))
    | (focus (exact (rfl : Nat.ble _ _ = true))))
  all_goals (try (conv => whnf))
  all_goals try (show Nat.ble _ _ = true; rfl)
  all_goals try (exfalso; rename_i hz; cases hz; done)
  all_goals try (exfalso; (try simp only [LN] at *) <;> omega)
  all_goals (
    apply loopQ3
    · intro Q0 hq9
      refine Z.loopK tabOk (fun zq : Nat => [(6, .val (.int .i64 (zq : Int)))]) (fun zq : Nat => ([(15, some (Z.Ob.b ⟨[[.v (.int .u64 (numR ((r.drop 8).take zq)))]], 1, 66, true⟩)), (0, some (Z.Ob.b ⟨[[.v (.slice none 0 0)]], 1, 26, true⟩)), (1, some (Z.Ob.b ⟨[[.ro true 1 ((r.drop 8).map eB), .v (.int .i64 0)]], 2, 86, true⟩)), (4, some (Z.Ob.b ⟨[[.gsl 5 (acc.map cO)]], 1, 26, true⟩)), (5, (gB 5 34 (acc.map cO)).map Z.Ob.b), (6, some (Z.Ob.b ⟨[[.v (.int .i64 0), .v (.int .i64 0), .v (.slice none 0 0), .v (.int .i64 0), .v (.int .i64 0)]], 5, 34, true⟩)), (7, some (Z.Ob.b ⟨[[.v (.int .i64 t), .v (.int .i64 w), .v (.slice none 0 0), .v (.int .i64 (0)), .v (.int .i64 0)]], 5, 34, true⟩))] : Z.Kr)) (fun zq => zq ≤ 8) (fun zq => 8 - zq) 0 16 [(0, _), (2, _), (5, _)] ⟨rfl, rfl, rfl, trivial⟩ [] trivial ?_ ?_ rfl rfl (Nat.zero_le _) ?_
      · repeat' (first | exact trivial | apply And.intro | exact ⟨_, rfl, rfl⟩ | exact ⟨_, rfl, Z.Imp.refl _⟩ | exact ⟨_, rfl, Z.Imp.nilg _⟩ | exact ⟨_, rfl, Z.Imp.nilr _ _⟩)
      · repeat' (first | exact trivial | (intro b hb; cases hb; done) | exact (fun b hb => ⟨b, hb, Z.ImpO.refl b⟩) | (intro b hb; cases hb; refine ⟨_, rfl, ⟨rfl, rfl, rfl⟩, ⟨⟨Z.Imp.of_eq (congrArg (Ce.ro true 1) (by first | ((try simp only [tk_drop]); simp only [← List.map_drop, List.drop_drop, List.map_cons, List.drop_succ_cons, List.drop_zero]; done) | ((try simp only [tk_drop]); simp only [← List.map_drop, List.drop_drop]; (rw [h51]; done)) | (simp [tk_map]; done) | (simp [tk_map, List.take_of_length_le]; done))), Z.Imp.refl _, trivial⟩, trivial⟩⟩; done) | (intro b hb; cases hb; refine ⟨_, rfl, ⟨rfl, rfl, rfl⟩, ?_⟩; (repeat' (first | exact trivial | apply And.intro | exact Z.Imp.refl _ | exact Z.Imp.nilg _ | exact Z.Imp.nilr _ _)); done) | (intro b hb; cases hb; refine ⟨_, rfl, ⟨rfl, rfl, rfl⟩, Z.imp_eq ?_⟩; first | rfl | (simp [tk_map]; done); done) | apply And.intro)
      rintro j HINV
      (try dsimp only at HINV); (try dsimp only)
      by_cases hj : j < 8
      · obtain ⟨z9, hzr⟩ := getElem?_some' (xs := (r.drop 8)) (i := j) (by (try rw [List.length_drop]); omega)
        have hzd : ((r.drop 8).take 8)[j]? = some z9 := by rw [List.getElem?_take, if_pos hj]; exact hzr
        have hzb := (isB_drop hBr) z9 (List.mem_of_getElem? hzr)
        have hnl := num_lt (l := (r.drop 8)) (i := j) (by omega) (by (try rw [List.length_drop]); omega) (isB_drop hBr)
        generalize hnv : numR ((r.drop 8).take j) = nv at *
        repeat' ((conv => whnf); first
          | with_reducible first | refine spB_t ?_
          | ((with_reducible apply spB_cong); (focus (simp only [beq_self_eq_true, bne_self_eq_false, Bool.true_bne, Bool.false_bne, Bool.bne_true, Bool.bne_false, Bool.true_beq, Bool.false_beq, Bool.not_true, Bool.not_false, Bool.not_not, Int.reduceBEq, Int.reduceBNe, Int.reduceLE, Int.reduceLT, Int.reduceEq, decide_true, decide_false]; rfl)))
          | with_reducible first | refine spB_yes (by decide) ?_ | refine spB_no (by decide) ?_ | refine spB_f ?_ | refine spB_not ?_ | refine spB_yes (by assumption) ?_ | refine spB_no (by assumption) ?_
          | (with_reducible refine spB_dec ?_ ?_ <;> intro _ <;> (try (exfalso; first | contradiction | omega | (rename_i hz; refine hz ?_; simp; done) | (rename_i hz; simp at hz; done) | (simp only [LN] at *; omega))))
          | (with_reducible refine spB_beq ?_ ?_ <;> intro _ <;> (try (exfalso; first | contradiction | omega | (rename_i hz; refine hz ?_; simp; done) | (rename_i hz; simp at hz; done) | (simp only [LN] at *; omega))))
          | (with_reducible refine spB_bne ?_ ?_ <;> intro _ <;> (try (exfalso; first | contradiction | omega | (rename_i hz; refine hz ?_; simp; done) | (rename_i hz; simp at hz; done) | (simp only [LN] at *; omega))))
          | (with_reducible refine spB_mk ?_ ?_ <;> intro _ <;> (try (exfalso; first | contradiction | omega | (rename_i hz; refine hz ?_; simp; done) | (rename_i hz; simp at hz; done) | (simp only [LN] at *; omega))))
          | ((with_reducible refine Z.slN_lo 1 ?_ ?_ ?_); (focus rfl); (focus ((try simp only [LN] at *) <;> omega)))
          | ((with_reducible refine Z.slN_lo 8 ?_ ?_ ?_); (focus rfl); (focus ((try simp only [LN] at *) <;> omega)))
          | (refine loopZ_unr1 tabOk rfl ?_)
          | ((with_reducible refine wr_shl8 ?_ ?_); (focus omega))
          | ((with_reducible refine wr_or0 ?_ ?_); (focus omega))
          | ((with_reducible refine rowN_mk (eB z9) ?_ ?_); (focus (exact rest_at (by first | ((try simp only [tk_drop]); simp only [Nat.sub_zero, List.drop_zero, ← List.map_drop, ← List.map_take, List.map_cons, List.drop_succ_cons]; done) | (simp [tk_map]; done)) hzd)))
          | ((with_reducible refine ixN_mk (j) ?_ ?_ ?_); (focus (first | rfl | ((try simp only [LN] at *) <;> omega))); (focus ((try simp only [LN] at *) <;> omega)))
          | ((with_reducible apply rowN_mk); (focus rfl))
          | ((with_reducible apply ixN_lit); (focus (exact rfl)); (focus (exact rfl)))
          | ((with_reducible apply ixN_litp); (focus (exact rfl)); (focus ((try simp only [LN] at *) <;> omega)))
          | ((with_reducible refine eqN_mk2 ?_ ?_); (focus rfl))
          | with_reducible refine wr_i64 (by first | omega | (simp only [LN] at *; omega)) ?_
          | with_reducible refine wr_u64 (by omega) ?_
          | with_reducible refine wr_u8 (by omega) ?_
          | with_reducible refine wr_u32 (by omega) ?_
          | with_reducible first | refine wr_mk _ rfl ?_
          | ((with_reducible refine ixN_nat ?_ ?_); (focus ((try simp only [LN] at *) <;> omega)))
          | ((with_reducible refine rowN_map ?_ ?_); (focus ((try simp only [LN] at *) <;> omega)); intro x hx)
          | with_reducible refine vN_mod (by omega) ?_
          | with_reducible first | refine vN_mk ?_
          | with_reducible refine nzN_mk (by omega) ?_
          | with_reducible refine eqN_dec (by omega) ?_
          | with_reducible first | refine apN_mk (by kernel_rfl) ?_
          | ((with_reducible refine eqN_mk2 ?_ ?_); (focus (exact Z.kb_some rfl)))
          | ((with_reducible apply ex_and); exact rfl)
          | with_reducible first | refine Z.drawZ_rule tabOk mixOk ?_ | refine Z.apZ_mk (by kernel_rfl) ?_
          | ((with_reducible refine Z.ConZ.red ?_); (try subst hlb); (apply Z.conZ_all); (focus (repeat (first | exact Z.FK.nil | (apply Z.FK.keep; exact rfl)))); (focus rfl); (focus rfl); (focus (repeat (first | exact trivial | (refine ⟨(fun o ho => (by first | (cases ho; rfl) | (cases ho; exact Z.inL_map fun _ => rfl) | (cases ho; exact Z.inL_mapr fun _ => rfl) | exact Z.inL_gB ho fun _ => rfl)), ?_⟩)))))
          | ((refine ⟨rfl, ?_, rfl⟩); (focus (repeat (first | exact Z.DK.nil | apply Z.DK.cons))))
          | (focus (exact (rfl : Nat.ble _ _ = true))))
        all_goals (try (conv => whnf))
        all_goals try (show Nat.ble _ _ = true; rfl)
        all_goals try (exfalso; rename_i hz; cases hz; done)
        all_goals try (exfalso; (try simp only [LN] at *) <;> omega)
        all_goals first
          | ((refine Z.rnd_rw 15 ([[.v (.int .u64 (numR ((r.drop 8).take (j + 1))))]]) rfl rfl ?_ ?_); (focus (rw [take_snoc hzr, numR_snoc, hnv]; exact congrArg (fun z => [[Ce.v (.int .u64 z)]]) (or_add hnl hzb))); ((refine Z.rndK ((j + 1)) (fun s => [0, 1, 2, 3, 4, 5, 6, 7, 8, 9, 10, 11, 12, 13, 14, 15]) rfl rfl rfl rfl ?_ ?_ ?_ ?_); (focus (repeat' (first | exact trivial | exact Z.map_sub (Z.MapL.ren HM0 fun _ => rfl) rfl | exact Z.it_sub rfl | exact rfl | (rw [List.map_append]; exact rfl) | apply And.intro))); (focus (repeat' (first | exact trivial | exact Z.map_sub (Z.MapL.ren HM0 fun _ => rfl) rfl | exact Z.it_sub rfl | (intro b hb; cases hb; rfl) | (intro b hb; cases hb; subst hlb; rfl) | (intro b hb; cases hb; rw [List.map_append]; rfl) | (intro b hb; cases hb; done) | exact Z.blk_sub rfl rfl (ren_map fun _ => rfl) | exact Z.blk_sub rfl rfl (Z.ren_app (ren_map fun _ => rfl) (ren_map fun _ => rfl)) | exact Z.blk_sub rfl (by first | (rw [List.map_append]; rfl) | (rw [List.map_set]; rfl) | simp only [List.map_append, List.map_cons, List.map_nil, List.map_set]) (ren_map fun _ => rfl) | exact Z.gB_sub rfl rfl (ren_map fun _ => rfl) | exact Z.gB_sub' rfl (by first | rfl | (rw [List.map_append]; rfl) | simp only [List.map_append, List.map_cons, List.map_nil]) (ren_map fun _ => rfl) | apply And.intro))); (focus (((try dsimp only); omega))); ((try dsimp only); omega)))
          | (exfalso; rename_i hz; cases hz; done)
          | (exfalso; (try simp only [LN] at *) <;> omega)
          | (fail)
      have hj8 : j = 8 := by omega
      repeat' ((conv => whnf); first
        | with_reducible first | refine spB_t ?_
        | ((with_reducible apply spB_cong); (focus (simp only [beq_self_eq_true, bne_self_eq_false, Bool.true_bne, Bool.false_bne, Bool.bne_true, Bool.bne_false, Bool.true_beq, Bool.false_beq, Bool.not_true, Bool.not_false, Bool.not_not, Int.reduceBEq, Int.reduceBNe, Int.reduceLE, Int.reduceLT, Int.reduceEq, decide_true, decide_false]; rfl)))
        | with_reducible first | refine spB_yes (by decide) ?_ | refine spB_no (by decide) ?_ | refine spB_f ?_ | refine spB_not ?_ | refine spB_yes (by assumption) ?_ | refine spB_no (by assumption) ?_
        | (with_reducible refine spB_dec ?_ ?_ <;> intro _ <;> (try (exfalso; first | contradiction | omega | (rename_i hz; refine hz ?_; simp; done) | (rename_i hz; simp at hz; done) | (simp only [LN] at *; omega))))
        | (with_reducible refine spB_beq ?_ ?_ <;> intro _ <;> (try (exfalso; first | contradiction | omega | (rename_i hz; refine hz ?_; simp; done) | (rename_i hz; simp at hz; done) | (simp only [LN] at *; omega))))
        | (with_reducible refine spB_bne ?_ ?_ <;> intro _ <;> (try (exfalso; first | contradiction | omega | (rename_i hz; refine hz ?_; simp; done) | (rename_i hz; simp at hz; done) | (simp only [LN] at *; omega))))
        | (with_reducible refine spB_mk ?_ ?_ <;> intro _ <;> (try (exfalso; first | contradiction | omega | (rename_i hz; refine hz ?_; simp; done) | (rename_i hz; simp at hz; done) | (simp only [LN] at *; omega))))
        | ((with_reducible refine Z.slN_lo 1 ?_ ?_ ?_); (focus rfl); (focus ((try simp only [LN] at *) <;> omega)))
        | ((with_reducible refine Z.slN_lo 8 ?_ ?_ ?_); (focus rfl); (focus ((try simp only [LN] at *) <;> omega)))
        | (refine loopZ_unr1 tabOk rfl ?_)
        | ((with_reducible refine wr_shl8 ?_ ?_); (focus omega))
        | ((with_reducible refine wr_or0 ?_ ?_); (focus omega))
        | ((with_reducible apply rowN_mk); (focus rfl))
        | ((with_reducible apply ixN_lit); (focus (exact rfl)); (focus (exact rfl)))
        | ((with_reducible apply ixN_litp); (focus (exact rfl)); (focus ((try simp only [LN] at *) <;> omega)))
        | ((with_reducible refine eqN_mk2 ?_ ?_); (focus rfl))
        | with_reducible refine wr_i64 (by first | omega | (simp only [LN] at *; omega)) ?_
        | with_reducible refine wr_u64 (by omega) ?_
        | with_reducible refine wr_u8 (by omega) ?_
        | with_reducible refine wr_u32 (by omega) ?_
        | with_reducible first | refine wr_mk _ rfl ?_
        | ((with_reducible refine ixN_nat ?_ ?_); (focus ((try simp only [LN] at *) <;> omega)))
        | ((with_reducible refine rowN_map ?_ ?_); (focus ((try simp only [LN] at *) <;> omega)); intro x hx)
        | with_reducible refine vN_mod (by omega) ?_
        | with_reducible first | refine vN_mk ?_
        | with_reducible refine nzN_mk (by omega) ?_
        | with_reducible refine eqN_dec (by omega) ?_
        | with_reducible first | refine apN_mk (by kernel_rfl) ?_
        | ((with_reducible refine eqN_mk2 ?_ ?_); (focus (exact Z.kb_some rfl)))
        | ((with_reducible apply ex_and); exact rfl)
        | with_reducible first | refine Z.drawZ_rule tabOk mixOk ?_ | refine Z.apZ_mk (by kernel_rfl) ?_
        | ((with_reducible refine Z.ConZ.red ?_); (try subst hlb); (apply Z.conZ_all); (focus (repeat (first | exact Z.FK.nil | (apply Z.FK.keep; exact rfl)))); (focus rfl); (focus rfl); (focus (repeat (first | exact trivial | (refine ⟨(fun o ho => (by first | (cases ho; rfl) | (cases ho; exact Z.inL_map fun _ => rfl) | (cases ho; exact Z.inL_mapr fun _ => rfl) | exact Z.inL_gB ho fun _ => rfl)), ?_⟩)))))
        | ((refine ⟨rfl, ?_, rfl⟩); (focus (repeat (first | exact Z.DK.nil | apply Z.DK.cons))))
        | (focus (exact (rfl : Nat.ble _ _ = true))))
      all_goals (try (conv => whnf))
      subst hj8
      exact hq9
    generalize hnv9 : numR ((r.drop 8).take 8) = v9 at *)
  repeat' ((conv => whnf); first
    | with_reducible first | refine spB_t ?_
    | ((with_reducible apply spB_cong); (focus (simp only [beq_self_eq_true, bne_self_eq_false, Bool.true_bne, Bool.false_bne, Bool.bne_true, Bool.bne_false, Bool.true_beq, Bool.false_beq, Bool.not_true, Bool.not_false, Bool.not_not, Int.reduceBEq, Int.reduceBNe, Int.reduceLE, Int.reduceLT, Int.reduceEq, decide_true, decide_false]; rfl)))
    | with_reducible first | refine spB_yes (by decide) ?_ | refine spB_no (by decide) ?_ | refine spB_f ?_ | refine spB_not ?_ | refine spB_yes (by assumption) ?_ | refine spB_no (by assumption) ?_
    | (with_reducible refine spB_dec ?_ ?_ <;> intro _ <;> (try (exfalso; first | contradiction | omega | (rename_i hz; refine hz ?_; simp; done) | (rename_i hz; simp at hz; done) | (simp only [LN] at *; omega))))
    | (with_reducible refine spB_beq ?_ ?_ <;> intro _ <;> (try (exfalso; first | contradiction | omega | (rename_i hz; refine hz ?_; simp; done) | (rename_i hz; simp at hz; done) | (simp only [LN] at *; omega))))
    | (with_reducible refine spB_bne ?_ ?_ <;> intro _ <;> (try (exfalso; first | contradiction | omega | (rename_i hz; refine hz ?_; simp; done) | (rename_i hz; simp at hz; done) | (simp only [LN] at *; omega))))
    | (with_reducible refine spB_mk ?_ ?_ <;> intro _ <;> (try (exfalso; first | contradiction | omega | (rename_i hz; refine hz ?_; simp; done) | (rename_i hz; simp at hz; done) | (simp only [LN] at *; omega))))
    | (refine Z.updN.mk ⟨_, rfl, ?_⟩)
    | (refine Z.lookN.mk ⟨_, _, rfl, ?_⟩)
    | with_reducible first | refine Z.callZ_mfa ?_
    | ((refine sl3N_mk 0 1 1 rfl rfl rfl ?_ ?_ ?_ ?_ ?_); (iterate 4 (focus (first | exact .inl rfl | ((try simp only [LN] at *) <;> omega)))))
    | ((refine sl3N_mk 0 8 8 rfl rfl rfl ?_ ?_ ?_ ?_ ?_); (iterate 4 (focus (first | exact .inl rfl | ((try simp only [LN] at *) <;> omega)))))
    | ((with_reducible refine Z.slN_lo 1 ?_ ?_ ?_); (focus rfl); (focus ((try simp only [LN] at *) <;> omega)))
    | ((with_reducible refine Z.slN_lo 8 ?_ ?_ ?_); (focus rfl); (focus ((try simp only [LN] at *) <;> omega)))
    | (refine loopZ_unr1 tabOk rfl ?_)
    | ((with_reducible refine wr_shl8 ?_ ?_); (focus omega))
    | ((with_reducible refine wr_or0 ?_ ?_); (focus omega))
    | with_reducible first | refine rowN_mk _ rfl ?_
    | ((with_reducible refine rowN_mk (eB (n : Int)) ?_ ?_); (focus (first | exact row16 h50 | (fail))))
    | (refine wr_mk (IntKind.i64.wrap v8) rfl ?_)
    | (refine wr_mk (IntKind.i64.wrap v9) rfl ?_)
    | ((with_reducible refine posE_pos ?_ ?_); (focus ((try simp only [LN] at *) <;> omega)))
    | ((with_reducible refine posE_nil ?_ ?_); (focus rfl))
    | ((with_reducible apply rowN_mk); (focus rfl))
    | ((with_reducible apply ixN_lit); (focus (exact rfl)); (focus (exact rfl)))
    | ((with_reducible apply ixN_litp); (focus (exact rfl)); (focus ((try simp only [LN] at *) <;> omega)))
    | ((with_reducible refine eqN_mk2 ?_ ?_); (focus rfl))
    | ((with_reducible refine posN_mk2 ?_ ?_); (focus (first | decide | ((try simp only [LN] at *) <;> omega))))
    | ((with_reducible refine apdE_r ?_); (with_reducible refine aprN.mk ⟨_, rfl, ?_⟩ ?_ ?_ ?_ ?_); (focus ((try simp only [LN] at *) <;> omega)); (focus (first | rfl | (simp; done) | ((try simp only [LN] at *) <;> omega))); (focus (first | exact one_all (by rfl) | exact one_map (fun _ => rfl) | exact one_map2 (fun _ => rfl) | exact one_drop (fun _ => rfl))); (focus ((try simp only [LN] at *) <;> omega)))
    | ((with_reducible refine apdE_k ?_); (with_reducible refine apkN.mk ⟨_, rfl, ?_⟩ ?_); (focus ((try simp only [LN] at *) <;> omega)))
    | with_reducible first | refine apdE_n ?_
    | ((with_reducible refine slE_a ?_ ?_); (focus ((try simp only [LN] at *) <;> omega)))
    | ((with_reducible refine slE_b ?_ ?_); (focus ((try simp only [LN] at *) <;> omega)))
    | ((with_reducible refine slE_split ?_ ?_ ?_); (focus ((try simp only [LN] at *) <;> omega)); (all_goals intro _))
    | ((with_reducible apply sl3N_mk); (focus (exact rfl)); (focus (exact rfl)); (focus (exact rfl)); (focus ((try simp only [LN] at *) <;> omega)); (focus ((try simp only [LN] at *) <;> omega)); (focus ((try simp only [LN] at *) <;> omega)); (focus ((try simp only [LN] at *) <;> omega)))
    | ((with_reducible refine apdN.mk ?_ ?_ ?_ ?_ ?_ ?_); (focus (first | rfl | (simp; done))); (focus (first | exact one_all (by rfl) | exact one_map (fun _ => rfl) | exact one_map2 (fun _ => rfl))); (focus ((try simp only [LN] at *) <;> omega)); (focus ((try simp only [LN] at *) <;> omega)); (focus ((try simp only [LN] at *) <;> omega)))
    | with_reducible refine wr_i64 (by first | omega | (simp only [LN] at *; omega)) ?_
    | with_reducible refine wr_u64 (by omega) ?_
    | with_reducible refine wr_u8 (by omega) ?_
    | with_reducible refine wr_u32 (by omega) ?_
    | with_reducible first | refine wr_mk _ rfl ?_
    | ((with_reducible refine ixN_nat ?_ ?_); (focus ((try simp only [LN] at *) <;> omega)))
    | ((with_reducible refine rowN_map ?_ ?_); (focus ((try simp only [LN] at *) <;> omega)); intro x hx)
    | ((with_reducible refine posE_nil (by rfl) ?_))
    | ((with_reducible refine posE_pos (by decide) ?_))
    | with_reducible refine vN_mod (by omega) ?_
    | with_reducible first | refine vN_mk ?_
    | with_reducible refine nzN_mk (by omega) ?_
    | with_reducible refine eqN_dec (by omega) ?_
    | with_reducible first | refine apN_mk (by kernel_rfl) ?_ | refine Z.callZ_in tabOk 18 Try.f83 _ Try.func83 (by kernel_rfl) rfl rfl rfl ?_ | refine Z.callZ_in tabOk 8 Try.f44 _ Try.func44 (by kernel_rfl) rfl rfl rfl ?_ | refine Z.callZ_in tabOk 13 Try.f45 _ Try.func45 (by kernel_rfl) rfl rfl rfl ?_ | refine Z.callZ_in tabOk 44 Try.f46 _ Try.func46 (by kernel_rfl) rfl rfl rfl ?_ | refine Z.callZ_in tabOk 11 Try.f47 _ Try.func47 (by kernel_rfl) rfl rfl rfl ?_ | refine Z.callZ_in tabOk 6 Try.f58 _ Try.func58 (by kernel_rfl) rfl rfl rfl ?_ | refine Z.callZ_in tabOk 10 Try.f59 _ Try.func59 (by kernel_rfl) rfl rfl rfl ?_ | refine Z.callZ_in tabOk 5 Try.f60 _ Try.func60 (by kernel_rfl) rfl rfl rfl ?_ | refine Z.callZ_in tabOk 10 Try.f74 _ Try.func74 (by kernel_rfl) rfl rfl rfl ?_ | refine Z.callZ_in tabOk 58 Try.f82 _ Try.func82 (by kernel_rfl) rfl rfl rfl ?_
    | ((first | (with_reducible refine Z.conZ_mz ?_ (cc) ?_) | (with_reducible refine Z.callZ_mk ?_ (cc) ?_) | (with_reducible refine Z.conZ_mz ?_ (ccp) ?_) | (with_reducible refine Z.callZ_mk ?_ (ccp) ?_)); (focus ((repeat' (first | exact trivial | exact rfl | exact Z.low_nil | exact Z.low_nil2 | exact low_osl (fun _ => rfl) | (refine Z.low_osln ?_ (fun _ => rfl); (simp only [List.length_map]; done)) | exact low_oslr (fun _ => rfl) | exact Z.low_gslm (by first | rfl | exact Z.kb_some rfl) (fun _ => rfl) | exact .inl rfl | exact .inr ⟨_, rfl⟩ | apply And.intro)); done)))
    | ((with_reducible refine eqN_mk2 ?_ ?_); (focus (exact Z.kb_some rfl)))
    | ((with_reducible apply ex_and); exact rfl)
    | with_reducible first | refine Z.drawZ_rule tabOk mixOk ?_ | refine Z.apZ_mk (by kernel_rfl) ?_
    | ((with_reducible refine Z.ConZ.red ?_); (try subst hlb); (apply Z.conZ_all); (focus (repeat (first | exact Z.FK.nil | (apply Z.FK.keep; exact rfl)))); (focus rfl); (focus rfl); (focus (repeat (first | exact trivial | (refine ⟨(fun o ho => (by first | (cases ho; rfl) | (cases ho; exact Z.inL_map fun _ => rfl) | (cases ho; exact Z.inL_mapr fun _ => rfl) | exact Z.inL_gB ho fun _ => rfl)), ?_⟩)))))
    | ((refine ⟨rfl, ?_, rfl⟩); (focus (repeat (first | exact Z.DK.nil | apply Z.DK.cons))))
    | (focus (exact (rfl : Nat.ble _ _ = true))))
  all_goals (try (conv => whnf))
  all_goals try (show Nat.ble _ _ = true; rfl)
  all_goals try (exfalso; rename_i hz; cases hz; done)
  all_goals try (exfalso; (try simp only [LN] at *) <;> omega)
  have hBq : isB q := fun x hx => hBr x (List.mem_of_mem_drop (h5 ▸ List.mem_cons_of_mem _ hx))
  have hql : q.length + 17 = r.length := by have := congrArg List.length h5; simp only [List.length_cons, List.length_drop] at this; omega
  refine Z.loopK tabOk (fun zq : Nat × List Int × List Int × Int => [(27, .val (.int .i64 (zq.1 : Int)))]) (fun zq : Nat × List Int × List Int × Int => ([(0, some (Z.Ob.b ⟨[[.v (.slice none 0 0)]], 1, 26, true⟩)), (1, some (Z.Ob.b ⟨[[.ro true 1 (zq.2.2.1.map eB), .v (.int .i64 zq.2.2.2)]], 2, 86, true⟩)), (4, some (Z.Ob.b ⟨[[.gsl 5 (acc.map cO)]], 1, 26, true⟩)), (5, (gB 5 34 (acc.map cO)).map Z.Ob.b), (6, some (Z.Ob.b ⟨[[.v (.int .i64 0), .v (.int .i64 0), .v (.slice none 0 0), .v (.int .i64 0), .v (.int .i64 0)]], 5, 34, true⟩)), (7, some (Z.Ob.b ⟨[[.v (.int .i64 t), .v (.int .i64 w), .gsl 18 (zq.2.1.map cI), .v (.int .i64 (IntKind.i64.wrap v8)), .v (.int .i64 (IntKind.i64.wrap v9))]], 5, 34, true⟩)), (18, (gB 1 3 (zq.2.1.map cI)).map Z.Ob.b)] : Z.Kr)) (fun zq => zq.1 ≤ n ∧ zq.2.1.length = zq.1 ∧ ((zq.2.2.2 = 0 ∧ zq.2.1 = q.take zq.1 ∧ zq.2.2.1 = q.drop zq.1 ∧ zq.1 ≤ q.length) ∨ (zq.2.2.2 = 7 ∧ zq.2.2.1 = [] ∧ q.length < n))) (fun zq => n - zq.1) (0, [], q, 0) 19 [(0, _), (2, _), (3, _), (26, _)] ⟨rfl, rfl, rfl, rfl, trivial⟩ [] trivial ?_ ?_ rfl rfl ⟨Nat.zero_le _, rfl, .inl ⟨rfl, rfl, rfl, Nat.zero_le _⟩⟩ ?_
  · repeat' (first | exact trivial | apply And.intro | exact ⟨_, rfl, rfl⟩ | exact ⟨_, rfl, Z.Imp.refl _⟩ | exact ⟨_, rfl, Z.Imp.nilg _⟩ | exact ⟨_, rfl, Z.Imp.nilr _ _⟩)
  · repeat' (first | exact trivial | (intro b hb; cases hb; done) | exact (fun b hb => ⟨b, hb, Z.ImpO.refl b⟩) | (intro b hb; cases hb; refine ⟨_, rfl, ⟨rfl, rfl, rfl⟩, ⟨⟨Z.Imp.of_eq (congrArg (Ce.ro true 1) (by first | ((try simp only [tk_drop]); simp only [← List.map_drop, List.drop_drop, List.map_cons, List.drop_succ_cons, List.drop_zero]; done) | ((try simp only [tk_drop]); simp only [← List.map_drop, List.drop_drop]; (rw [h51]; done)) | (simp; done) | (simp [tk_map]; done) | (simp [tk_map, List.take_of_length_le]; done))), Z.Imp.refl _, trivial⟩, trivial⟩⟩; done) | (intro b hb; cases hb; refine ⟨_, rfl, ⟨rfl, rfl, rfl⟩, ?_⟩; (repeat' (first | exact trivial | apply And.intro | exact Z.Imp.refl _ | exact Z.Imp.nilg _ | exact Z.Imp.nilr _ _)); done) | (intro b hb; cases hb; refine ⟨_, rfl, ⟨rfl, rfl, rfl⟩, Z.imp_eq ?_⟩; first | rfl | (simp [tk_map]; done); done) | apply And.intro)
  rintro ⟨m, ins, rs, rf⟩ HINV
  (try dsimp only at HINV); (try dsimp only)
  obtain ⟨HI, HL9, HR⟩ := HINV
  by_cases hm : m < n
  · rcases HR with ⟨rfl, HA, HRS, HM⟩ | ⟨rfl, rfl, HQ⟩
    · by_cases hmq : m < q.length
      · obtain ⟨z, hz⟩ := getElem?_some' (xs := q) (i := m) hmq
        have hzb := hBq z (List.mem_of_getElem? hz)
        have hzl : (q.drop (m + 1)).length + m + 1 = q.length := by rw [List.length_drop]; omega
        rw [drop_cons hz] at HRS
        subst HRS
        repeat' ((conv => whnf); first
          | with_reducible first | refine spB_t ?_
          | ((with_reducible apply spB_cong); (focus (simp only [beq_self_eq_true, bne_self_eq_false, Bool.true_bne, Bool.false_bne, Bool.bne_true, Bool.bne_false, Bool.true_beq, Bool.false_beq, Bool.not_true, Bool.not_false, Bool.not_not, Int.reduceBEq, Int.reduceBNe, Int.reduceLE, Int.reduceLT, Int.reduceEq, decide_true, decide_false]; rfl)))
          | with_reducible first | refine spB_yes (by decide) ?_ | refine spB_no (by decide) ?_ | refine spB_f ?_ | refine spB_not ?_ | refine spB_yes (by assumption) ?_ | refine spB_no (by assumption) ?_
          | (with_reducible refine spB_dec ?_ ?_ <;> intro _ <;> (try (exfalso; first | contradiction | omega | (rename_i hz; refine hz ?_; simp; done) | (rename_i hz; simp at hz; done) | (simp only [LN] at *; omega))))
          | (with_reducible refine spB_beq ?_ ?_ <;> intro _ <;> (try (exfalso; first | contradiction | omega | (rename_i hz; refine hz ?_; simp; done) | (rename_i hz; simp at hz; done) | (simp only [LN] at *; omega))))
          | (with_reducible refine spB_bne ?_ ?_ <;> intro _ <;> (try (exfalso; first | contradiction | omega | (rename_i hz; refine hz ?_; simp; done) | (rename_i hz; simp at hz; done) | (simp only [LN] at *; omega))))
          | (with_reducible refine spB_mk ?_ ?_ <;> intro _ <;> (try (exfalso; first | contradiction | omega | (rename_i hz; refine hz ?_; simp; done) | (rename_i hz; simp at hz; done) | (simp only [LN] at *; omega))))
          | (refine Z.updN.mk ⟨_, rfl, ?_⟩)
          | (refine Z.lookN.mk ⟨_, _, rfl, ?_⟩)
          | with_reducible first | refine Z.callZ_mfa ?_
          | ((refine sl3N_mk 0 1 1 rfl rfl rfl ?_ ?_ ?_ ?_ ?_); (iterate 4 (focus (first | exact .inl rfl | ((try simp only [LN] at *) <;> omega)))))
          | ((refine sl3N_mk 0 8 8 rfl rfl rfl ?_ ?_ ?_ ?_ ?_); (iterate 4 (focus (first | exact .inl rfl | ((try simp only [LN] at *) <;> omega)))))
          | ((with_reducible refine Z.slN_lo 1 ?_ ?_ ?_); (focus rfl); (focus ((try simp only [LN] at *) <;> omega)))
          | ((with_reducible refine Z.slN_lo 8 ?_ ?_ ?_); (focus rfl); (focus ((try simp only [LN] at *) <;> omega)))
          | (refine loopZ_unr1 tabOk rfl ?_)
          | ((with_reducible refine wr_shl8 ?_ ?_); (focus omega))
          | ((with_reducible refine wr_or0 ?_ ?_); (focus omega))
          | with_reducible first | refine rowN_mk _ rfl ?_
          | ((with_reducible refine posE_pos ?_ ?_); (focus ((try simp only [LN] at *) <;> omega)))
          | ((with_reducible refine posE_nil ?_ ?_); (focus rfl))
          | ((with_reducible apply rowN_mk); (focus rfl))
          | ((with_reducible apply ixN_lit); (focus (exact rfl)); (focus (exact rfl)))
          | ((with_reducible apply ixN_litp); (focus (exact rfl)); (focus ((try simp only [LN] at *) <;> omega)))
          | ((with_reducible refine eqN_mk2 ?_ ?_); (focus rfl))
          | ((with_reducible refine posN_mk2 ?_ ?_); (focus (first | decide | ((try simp only [LN] at *) <;> omega))))
          | ((with_reducible refine apdE_r ?_); (with_reducible refine aprN.mk ⟨_, rfl, ?_⟩ ?_ ?_ ?_ ?_); (focus ((try simp only [LN] at *) <;> omega)); (focus (first | rfl | (simp; done) | ((try simp only [LN] at *) <;> omega))); (focus (first | exact one_all (by rfl) | exact one_map (fun _ => rfl) | exact one_map2 (fun _ => rfl) | exact one_drop (fun _ => rfl))); (focus ((try simp only [LN] at *) <;> omega)))
          | ((with_reducible refine apdE_k ?_); (with_reducible refine apkN.mk ⟨_, rfl, ?_⟩ ?_); (focus ((try simp only [LN] at *) <;> omega)))
          | with_reducible first | refine apdE_n ?_
          | ((with_reducible refine slE_a ?_ ?_); (focus ((try simp only [LN] at *) <;> omega)))
          | ((with_reducible refine slE_b ?_ ?_); (focus ((try simp only [LN] at *) <;> omega)))
          | ((with_reducible refine slE_split ?_ ?_ ?_); (focus ((try simp only [LN] at *) <;> omega)); (all_goals intro _))
          | ((with_reducible apply sl3N_mk); (focus (exact rfl)); (focus (exact rfl)); (focus (exact rfl)); (focus ((try simp only [LN] at *) <;> omega)); (focus ((try simp only [LN] at *) <;> omega)); (focus ((try simp only [LN] at *) <;> omega)); (focus ((try simp only [LN] at *) <;> omega)))
          | ((with_reducible refine apdN.mk ?_ ?_ ?_ ?_ ?_ ?_); (focus (first | rfl | (simp; done))); (focus (first | exact one_all (by rfl) | exact one_map (fun _ => rfl) | exact one_map2 (fun _ => rfl))); (focus ((try simp only [LN] at *) <;> omega)); (focus ((try simp only [LN] at *) <;> omega)); (focus ((try simp only [LN] at *) <;> omega)))
          | with_reducible refine wr_i64 (by first | omega | (simp only [LN] at *; omega)) ?_
          | with_reducible refine wr_u64 (by omega) ?_
          | with_reducible refine wr_u8 (by omega) ?_
          | with_reducible refine wr_u32 (by omega) ?_
          | with_reducible first | refine wr_mk _ rfl ?_
          | ((with_reducible refine ixN_nat ?_ ?_); (focus ((try simp only [LN] at *) <;> omega)))
          | ((with_reducible refine rowN_map ?_ ?_); (focus ((try simp only [LN] at *) <;> omega)); intro x hx)
          | ((with_reducible refine posE_nil (by rfl) ?_))
          | ((with_reducible refine posE_pos (by decide) ?_))
          | with_reducible refine vN_mod (by omega) ?_
          | with_reducible first | refine vN_mk ?_
          | with_reducible refine nzN_mk (by omega) ?_
          | with_reducible refine eqN_dec (by omega) ?_
          | with_reducible first | refine apN_mk (by kernel_rfl) ?_ | refine Z.callZ_in tabOk 18 Try.f83 _ Try.func83 (by kernel_rfl) rfl rfl rfl ?_ | refine Z.callZ_in tabOk 13 Try.f45 _ Try.func45 (by kernel_rfl) rfl rfl rfl ?_ | refine Z.callZ_in tabOk 6 Try.f58 _ Try.func58 (by kernel_rfl) rfl rfl rfl ?_ | refine Z.callZ_in tabOk 10 Try.f59 _ Try.func59 (by kernel_rfl) rfl rfl rfl ?_ | refine Z.callZ_in tabOk 5 Try.f60 _ Try.func60 (by kernel_rfl) rfl rfl rfl ?_ | refine Z.callZ_in tabOk 10 Try.f74 _ Try.func74 (by kernel_rfl) rfl rfl rfl ?_ | refine Z.callZ_in tabOk 58 Try.f82 _ Try.func82 (by kernel_rfl) rfl rfl rfl ?_
          | ((with_reducible refine eqN_mk2 ?_ ?_); (focus (exact Z.kb_some rfl)))
          | ((with_reducible apply ex_and); exact rfl)
          | with_reducible first | refine Z.drawZ_rule tabOk mixOk ?_ | refine Z.apZ_mk (by kernel_rfl) ?_
          | ((with_reducible refine Z.ConZ.red ?_); (try subst hlb); (apply Z.conZ_all); (focus (repeat (first | exact Z.FK.nil | (apply Z.FK.keep; exact rfl)))); (focus rfl); (focus rfl); (focus (repeat (first | exact trivial | (refine ⟨(fun o ho => (by first | (cases ho; rfl) | (cases ho; exact Z.inL_map fun _ => rfl) | (cases ho; exact Z.inL_mapr fun _ => rfl) | exact Z.inL_gB ho fun _ => rfl)), ?_⟩)))))
          | ((refine ⟨rfl, ?_, rfl⟩); (focus (repeat (first | exact Z.DK.nil | apply Z.DK.cons))))
          | (focus (exact (rfl : Nat.ble _ _ = true))))
        all_goals (try (conv => whnf))
        all_goals try (show Nat.ble _ _ = true; rfl)
        all_goals try (exfalso; rename_i hz; cases hz; done)
        all_goals try (exfalso; (try simp only [LN] at *) <;> omega)
        all_goals first
          | ((refine Z.rnd_bi 1 [[.ro true 1 ((q.drop (m + 1)).map eB), _]] rfl rfl ⟨⟨Z.Imp.of_eq (congrArg (Ce.ro true 1) (by first | ((try simp only [tk_drop]); simp only [← List.map_drop, List.drop_drop, List.map_cons, List.drop_succ_cons, List.drop_zero]; done) | ((try simp only [tk_drop]); simp only [← List.map_drop, List.drop_drop]; (rw [h51]; done)) | (simp; done) | (simp [tk_map]; done) | (simp [tk_map, List.take_of_length_le]; done))), Z.Imp.refl _, trivial⟩, trivial⟩ ?_); ((refine Z.rndK ((m + 1, ins ++ [z], q.drop (m + 1), 0)) (fun s => [0, 1, 2, 3, 4, 5, 6, 7, 8, 9, 10, 11, 12, 13, 14, 15, 16, 17, s.idIn 7 2]) rfl rfl rfl rfl ?_ ?_ ?_ ?_); (focus (repeat' (first | exact trivial | exact Z.map_sub (Z.MapL.ren HM0 fun _ => rfl) rfl | exact Z.it_sub rfl | exact rfl | (rw [List.map_append]; exact rfl) | apply And.intro))); (focus (repeat' (first | exact trivial | exact Z.map_sub (Z.MapL.ren HM0 fun _ => rfl) rfl | exact Z.it_sub rfl | (intro b hb; cases hb; rfl) | (intro b hb; cases hb; subst hlb; rfl) | (intro b hb; cases hb; rw [List.map_append]; rfl) | (intro b hb; cases hb; done) | exact Z.blk_sub rfl rfl (ren_map fun _ => rfl) | exact Z.blk_sub rfl rfl (Z.ren_app (ren_map fun _ => rfl) (ren_map fun _ => rfl)) | exact Z.blk_sub rfl (by first | (rw [List.map_append]; rfl) | (rw [List.map_set]; rfl) | simp only [List.map_append, List.map_cons, List.map_nil, List.map_set]) (ren_map fun _ => rfl) | exact Z.gB_sub rfl rfl (ren_map fun _ => rfl) | exact Z.gB_sub' rfl (by first | rfl | (rw [List.map_append]; rfl) | simp only [List.map_append, List.map_cons, List.map_nil]) (ren_map fun _ => rfl) | apply And.intro))); (focus (exact ⟨by (try dsimp only); omega, by (try dsimp only); rw [List.length_append, HL9]; rfl, .inl ⟨rfl, by (try dsimp only); rw [take_snoc hz, HA], rfl, by (try dsimp only); omega⟩⟩)); ((try dsimp only); omega)))
          | (exfalso; rename_i hz; cases hz; done)
          | (exfalso; (try simp only [LN] at *) <;> omega)
          | (fail)
      · have hr0 : rs = [] := by rw [HRS]; exact List.drop_eq_nil_of_le (by omega)
        subst hr0
        repeat' ((conv => whnf); first
          | with_reducible first | refine spB_t ?_
          | ((with_reducible apply spB_cong); (focus (simp only [beq_self_eq_true, bne_self_eq_false, Bool.true_bne, Bool.false_bne, Bool.bne_true, Bool.bne_false, Bool.true_beq, Bool.false_beq, Bool.not_true, Bool.not_false, Bool.not_not, Int.reduceBEq, Int.reduceBNe, Int.reduceLE, Int.reduceLT, Int.reduceEq, decide_true, decide_false]; rfl)))
          | with_reducible first | refine spB_yes (by decide) ?_ | refine spB_no (by decide) ?_ | refine spB_f ?_ | refine spB_not ?_ | refine spB_yes (by assumption) ?_ | refine spB_no (by assumption) ?_
          | (with_reducible refine spB_dec ?_ ?_ <;> intro _ <;> (try (exfalso; first | contradiction | omega | (rename_i hz; refine hz ?_; simp; done) | (rename_i hz; simp at hz; done) | (simp only [LN] at *; omega))))
          | (with_reducible refine spB_beq ?_ ?_ <;> intro _ <;> (try (exfalso; first | contradiction | omega | (rename_i hz; refine hz ?_; simp; done) | (rename_i hz; simp at hz; done) | (simp only [LN] at *; omega))))
          | (with_reducible refine spB_bne ?_ ?_ <;> intro _ <;> (try (exfalso; first | contradiction | omega | (rename_i hz; refine hz ?_; simp; done) | (rename_i hz; simp at hz; done) | (simp only [LN] at *; omega))))
          | (with_reducible refine spB_mk ?_ ?_ <;> intro _ <;> (try (exfalso; first | contradiction | omega | (rename_i hz; refine hz ?_; simp; done) | (rename_i hz; simp at hz; done) | (simp only [LN] at *; omega))))
          | (refine Z.updN.mk ⟨_, rfl, ?_⟩)
          | (refine Z.lookN.mk ⟨_, _, rfl, ?_⟩)
          | with_reducible first | refine Z.callZ_mfa ?_
          | ((refine sl3N_mk 0 1 1 rfl rfl rfl ?_ ?_ ?_ ?_ ?_); (iterate 4 (focus (first | exact .inl rfl | ((try simp only [LN] at *) <;> omega)))))
          | ((refine sl3N_mk 0 8 8 rfl rfl rfl ?_ ?_ ?_ ?_ ?_); (iterate 4 (focus (first | exact .inl rfl | ((try simp only [LN] at *) <;> omega)))))
          | ((with_reducible refine Z.slN_lo 1 ?_ ?_ ?_); (focus rfl); (focus ((try simp only [LN] at *) <;> omega)))
          | ((with_reducible refine Z.slN_lo 8 ?_ ?_ ?_); (focus rfl); (focus ((try simp only [LN] at *) <;> omega)))
          | (refine loopZ_unr1 tabOk rfl ?_)
          | ((with_reducible refine wr_shl8 ?_ ?_); (focus omega))
          | ((with_reducible refine wr_or0 ?_ ?_); (focus omega))
          | with_reducible first | refine rowN_mk _ rfl ?_
          | ((with_reducible refine posE_pos ?_ ?_); (focus ((try simp only [LN] at *) <;> omega)))
          | ((with_reducible refine posE_nil ?_ ?_); (focus rfl))
          | ((with_reducible apply rowN_mk); (focus rfl))
          | ((with_reducible apply ixN_lit); (focus (exact rfl)); (focus (exact rfl)))
          | ((with_reducible apply ixN_litp); (focus (exact rfl)); (focus ((try simp only [LN] at *) <;> omega)))
          | ((with_reducible refine eqN_mk2 ?_ ?_); (focus rfl))
          | ((with_reducible refine posN_mk2 ?_ ?_); (focus (first | decide | ((try simp only [LN] at *) <;> omega))))
          | ((with_reducible refine apdE_r ?_); (with_reducible refine aprN.mk ⟨_, rfl, ?_⟩ ?_ ?_ ?_ ?_); (focus ((try simp only [LN] at *) <;> omega)); (focus (first | rfl | (simp; done) | ((try simp only [LN] at *) <;> omega))); (focus (first | exact one_all (by rfl) | exact one_map (fun _ => rfl) | exact one_map2 (fun _ => rfl) | exact one_drop (fun _ => rfl))); (focus ((try simp only [LN] at *) <;> omega)))
          | ((with_reducible refine apdE_k ?_); (with_reducible refine apkN.mk ⟨_, rfl, ?_⟩ ?_); (focus ((try simp only [LN] at *) <;> omega)))
          | with_reducible first | refine apdE_n ?_
          | ((with_reducible refine slE_a ?_ ?_); (focus ((try simp only [LN] at *) <;> omega)))
          | ((with_reducible refine slE_b ?_ ?_); (focus ((try simp only [LN] at *) <;> omega)))
          | ((with_reducible refine slE_split ?_ ?_ ?_); (focus ((try simp only [LN] at *) <;> omega)); (all_goals intro _))
          | ((with_reducible apply sl3N_mk); (focus (exact rfl)); (focus (exact rfl)); (focus (exact rfl)); (focus ((try simp only [LN] at *) <;> omega)); (focus ((try simp only [LN] at *) <;> omega)); (focus ((try simp only [LN] at *) <;> omega)); (focus ((try simp only [LN] at *) <;> omega)))
          | ((with_reducible refine apdN.mk ?_ ?_ ?_ ?_ ?_ ?_); (focus (first | rfl | (simp; done))); (focus (first | exact one_all (by rfl) | exact one_map (fun _ => rfl) | exact one_map2 (fun _ => rfl))); (focus ((try simp only [LN] at *) <;> omega)); (focus ((try simp only [LN] at *) <;> omega)); (focus ((try simp only [LN] at *) <;> omega)))
          | with_reducible refine wr_i64 (by first | omega | (simp only [LN] at *; omega)) ?_
          | with_reducible refine wr_u64 (by omega) ?_
          | with_reducible refine wr_u8 (by omega) ?_
          | with_reducible refine wr_u32 (by omega) ?_
          | with_reducible first | refine wr_mk _ rfl ?_
          | ((with_reducible refine ixN_nat ?_ ?_); (focus ((try simp only [LN] at *) <;> omega)))
          | ((with_reducible refine rowN_map ?_ ?_); (focus ((try simp only [LN] at *) <;> omega)); intro x hx)
          | ((with_reducible refine posE_nil (by rfl) ?_))
          | ((with_reducible refine posE_pos (by decide) ?_))
          | with_reducible refine vN_mod (by omega) ?_
          | with_reducible first | refine vN_mk ?_
          | with_reducible refine nzN_mk (by omega) ?_
          | with_reducible refine eqN_dec (by omega) ?_
          | with_reducible first | refine apN_mk (by kernel_rfl) ?_ | refine Z.callZ_in tabOk 18 Try.f83 _ Try.func83 (by kernel_rfl) rfl rfl rfl ?_ | refine Z.callZ_in tabOk 13 Try.f45 _ Try.func45 (by kernel_rfl) rfl rfl rfl ?_ | refine Z.callZ_in tabOk 6 Try.f58 _ Try.func58 (by kernel_rfl) rfl rfl rfl ?_ | refine Z.callZ_in tabOk 10 Try.f59 _ Try.func59 (by kernel_rfl) rfl rfl rfl ?_ | refine Z.callZ_in tabOk 5 Try.f60 _ Try.func60 (by kernel_rfl) rfl rfl rfl ?_ | refine Z.callZ_in tabOk 10 Try.f74 _ Try.func74 (by kernel_rfl) rfl rfl rfl ?_ | refine Z.callZ_in tabOk 58 Try.f82 _ Try.func82 (by kernel_rfl) rfl rfl rfl ?_
          | ((with_reducible refine eqN_mk2 ?_ ?_); (focus (exact Z.kb_some rfl)))
          | ((with_reducible apply ex_and); exact rfl)
          | with_reducible first | refine Z.drawZ_rule tabOk mixOk ?_ | refine Z.apZ_mk (by kernel_rfl) ?_
          | ((with_reducible refine Z.ConZ.red ?_); (try subst hlb); (apply Z.conZ_all); (focus (repeat (first | exact Z.FK.nil | (apply Z.FK.keep; exact rfl)))); (focus rfl); (focus rfl); (focus (repeat (first | exact trivial | (refine ⟨(fun o ho => (by first | (cases ho; rfl) | (cases ho; exact Z.inL_map fun _ => rfl) | (cases ho; exact Z.inL_mapr fun _ => rfl) | exact Z.inL_gB ho fun _ => rfl)), ?_⟩)))))
          | ((refine ⟨rfl, ?_, rfl⟩); (focus (repeat (first | exact Z.DK.nil | apply Z.DK.cons))))
          | (focus (exact (rfl : Nat.ble _ _ = true))))
        all_goals (try (conv => whnf))
        all_goals try (show Nat.ble _ _ = true; rfl)
        all_goals try (exfalso; rename_i hz; cases hz; done)
        all_goals try (exfalso; (try simp only [LN] at *) <;> omega)
        all_goals first
          | ((refine Z.rndK ((m + 1, ins ++ [0], ([] : List Int), 7)) (fun s => [0, 1, 2, 3, 4, 5, 6, 7, 8, 9, 10, 11, 12, 13, 14, 15, 16, 17, s.idIn 7 2]) rfl rfl rfl rfl ?_ ?_ ?_ ?_); (focus (repeat' (first | exact trivial | exact Z.map_sub (Z.MapL.ren HM0 fun _ => rfl) rfl | exact Z.it_sub rfl | exact rfl | (rw [List.map_append]; exact rfl) | apply And.intro))); (focus (repeat' (first | exact trivial | exact Z.map_sub (Z.MapL.ren HM0 fun _ => rfl) rfl | exact Z.it_sub rfl | (intro b hb; cases hb; rfl) | (intro b hb; cases hb; subst hlb; rfl) | (intro b hb; cases hb; rw [List.map_append]; rfl) | (intro b hb; cases hb; done) | exact Z.blk_sub rfl rfl (ren_map fun _ => rfl) | exact Z.blk_sub rfl rfl (Z.ren_app (ren_map fun _ => rfl) (ren_map fun _ => rfl)) | exact Z.blk_sub rfl (by first | (rw [List.map_append]; rfl) | (rw [List.map_set]; rfl) | simp only [List.map_append, List.map_cons, List.map_nil, List.map_set]) (ren_map fun _ => rfl) | exact Z.gB_sub rfl rfl (ren_map fun _ => rfl) | exact Z.gB_sub' rfl (by first | rfl | (rw [List.map_append]; rfl) | simp only [List.map_append, List.map_cons, List.map_nil]) (ren_map fun _ => rfl) | apply And.intro))); (focus (exact ⟨by (try dsimp only); omega, by (try dsimp only); rw [List.length_append, HL9]; rfl, .inr ⟨rfl, rfl, by (try dsimp only); omega⟩⟩)); ((try dsimp only); omega))
          | (exfalso; rename_i hz; cases hz; done)
          | (exfalso; (try simp only [LN] at *) <;> omega)
          | (fail)
    · skip
      repeat' ((conv => whnf); first
        | with_reducible first | refine spB_t ?_
        | ((with_reducible apply spB_cong); (focus (simp only [beq_self_eq_true, bne_self_eq_false, Bool.true_bne, Bool.false_bne, Bool.bne_true, Bool.bne_false, Bool.true_beq, Bool.false_beq, Bool.not_true, Bool.not_false, Bool.not_not, Int.reduceBEq, Int.reduceBNe, Int.reduceLE, Int.reduceLT, Int.reduceEq, decide_true, decide_false]; rfl)))
        | with_reducible first | refine spB_yes (by decide) ?_ | refine spB_no (by decide) ?_ | refine spB_f ?_ | refine spB_not ?_ | refine spB_yes (by assumption) ?_ | refine spB_no (by assumption) ?_
        | (with_reducible refine spB_dec ?_ ?_ <;> intro _ <;> (try (exfalso; first | contradiction | omega | (rename_i hz; refine hz ?_; simp; done) | (rename_i hz; simp at hz; done) | (simp only [LN] at *; omega))))
        | (with_reducible refine spB_beq ?_ ?_ <;> intro _ <;> (try (exfalso; first | contradiction | omega | (rename_i hz; refine hz ?_; simp; done) | (rename_i hz; simp at hz; done) | (simp only [LN] at *; omega))))
        | (with_reducible refine spB_bne ?_ ?_ <;> intro _ <;> (try (exfalso; first | contradiction | omega | (rename_i hz; refine hz ?_; simp; done) | (rename_i hz; simp at hz; done) | (simp only [LN] at *; omega))))
        | (with_reducible refine spB_mk ?_ ?_ <;> intro _ <;> (try (exfalso; first | contradiction | omega | (rename_i hz; refine hz ?_; simp; done) | (rename_i hz; simp at hz; done) | (simp only [LN] at *; omega))))
        | (refine Z.updN.mk ⟨_, rfl, ?_⟩)
        | (refine Z.lookN.mk ⟨_, _, rfl, ?_⟩)
        | with_reducible first | refine Z.callZ_mfa ?_
        | ((refine sl3N_mk 0 1 1 rfl rfl rfl ?_ ?_ ?_ ?_ ?_); (iterate 4 (focus (first | exact .inl rfl | ((try simp only [LN] at *) <;> omega)))))
        | ((refine sl3N_mk 0 8 8 rfl rfl rfl ?_ ?_ ?_ ?_ ?_); (iterate 4 (focus (first | exact .inl rfl | ((try simp only [LN] at *) <;> omega)))))
        | ((with_reducible refine Z.slN_lo 1 ?_ ?_ ?_); (focus rfl); (focus ((try simp only [LN] at *) <;> omega)))
        | ((with_reducible refine Z.slN_lo 8 ?_ ?_ ?_); (focus rfl); (focus ((try simp only [LN] at *) <;> omega)))
        | (refine loopZ_unr1 tabOk rfl ?_)
        | ((with_reducible refine wr_shl8 ?_ ?_); (focus omega))
        | ((with_reducible refine wr_or0 ?_ ?_); (focus omega))
        | with_reducible first | refine rowN_mk _ rfl ?_
        | ((with_reducible refine posE_pos ?_ ?_); (focus ((try simp only [LN] at *) <;> omega)))
        | ((with_reducible refine posE_nil ?_ ?_); (focus rfl))
        | ((with_reducible apply rowN_mk); (focus rfl))
        | ((with_reducible apply ixN_lit); (focus (exact rfl)); (focus (exact rfl)))
        | ((with_reducible apply ixN_litp); (focus (exact rfl)); (focus ((try simp only [LN] at *) <;> omega)))
        | ((with_reducible refine eqN_mk2 ?_ ?_); (focus rfl))
        | ((with_reducible refine posN_mk2 ?_ ?_); (focus (first | decide | ((try simp only [LN] at *) <;> omega))))
        | ((with_reducible refine apdE_r ?_); (with_reducible refine aprN.mk ⟨_, rfl, ?_⟩ ?_ ?_ ?_ ?_); (focus ((try simp only [LN] at *) <;> omega)); (focus (first | rfl | (simp; done) | ((try simp only [LN] at *) <;> omega))); (focus (first | exact one_all (by rfl) | exact one_map (fun _ => rfl) | exact one_map2 (fun _ => rfl) | exact one_drop (fun _ => rfl))); (focus ((try simp only [LN] at *) <;> omega)))
        | ((with_reducible refine apdE_k ?_); (with_reducible refine apkN.mk ⟨_, rfl, ?_⟩ ?_); (focus ((try simp only [LN] at *) <;> omega)))
        | with_reducible first | refine apdE_n ?_
        | ((with_reducible refine slE_a ?_ ?_); (focus ((try simp only [LN] at *) <;> omega)))
        | ((with_reducible refine slE_b ?_ ?_); (focus ((try simp only [LN] at *) <;> omega)))
        | ((with_reducible refine slE_split ?_ ?_ ?_); (focus ((try simp only [LN] at *) <;> omega)); (all_goals intro _))
        | ((with_reducible apply sl3N_mk); (focus (exact rfl)); (focus (exact rfl)); (focus (exact rfl)); (focus ((try simp only [LN] at *) <;> omega)); (focus ((try simp only [LN] at *) <;> omega)); (focus ((try simp only [LN] at *) <;> omega)); (focus ((try simp only [LN] at *) <;> omega)))
        | ((with_reducible refine apdN.mk ?_ ?_ ?_ ?_ ?_ ?_); (focus (first | rfl | (simp; done))); (focus (first | exact one_all (by rfl) | exact one_map (fun _ => rfl) | exact one_map2 (fun _ => rfl))); (focus ((try simp only [LN] at *) <;> omega)); (focus ((try simp only [LN] at *) <;> omega)); (focus ((try simp only [LN] at *) <;> omega)))
        | with_reducible refine wr_i64 (by first | omega | (simp only [LN] at *; omega)) ?_
        | with_reducible refine wr_u64 (by omega) ?_
        | with_reducible refine wr_u8 (by omega) ?_
        | with_reducible refine wr_u32 (by omega) ?_
        | with_reducible first | refine wr_mk _ rfl ?_
        | ((with_reducible refine ixN_nat ?_ ?_); (focus ((try simp only [LN] at *) <;> omega)))
        | ((with_reducible refine rowN_map ?_ ?_); (focus ((try simp only [LN] at *) <;> omega)); intro x hx)
        | ((with_reducible refine posE_nil (by rfl) ?_))
        | ((with_reducible refine posE_pos (by decide) ?_))
        | with_reducible refine vN_mod (by omega) ?_
        | with_reducible first | refine vN_mk ?_
        | with_reducible refine nzN_mk (by omega) ?_
        | with_reducible refine eqN_dec (by omega) ?_
        | with_reducible first | refine apN_mk (by kernel_rfl) ?_ | refine Z.callZ_in tabOk 18 Try.f83 _ Try.func83 (by kernel_rfl) rfl rfl rfl ?_ | refine Z.callZ_in tabOk 13 Try.f45 _ Try.func45 (by kernel_rfl) rfl rfl rfl ?_ | refine Z.callZ_in tabOk 6 Try.f58 _ Try.func58 (by kernel_rfl) rfl rfl rfl ?_ | refine Z.callZ_in tabOk 10 Try.f59 _ Try.func59 (by kernel_rfl) rfl rfl rfl ?_ | refine Z.callZ_in tabOk 5 Try.f60 _ Try.func60 (by kernel_rfl) rfl rfl rfl ?_ | refine Z.callZ_in tabOk 10 Try.f74 _ Try.func74 (by kernel_rfl) rfl rfl rfl ?_ | refine Z.callZ_in tabOk 58 Try.f82 _ Try.func82 (by kernel_rfl) rfl rfl rfl ?_
        | ((with_reducible refine eqN_mk2 ?_ ?_); (focus (exact Z.kb_some rfl)))
        | ((with_reducible apply ex_and); exact rfl)
        | with_reducible first | refine Z.drawZ_rule tabOk mixOk ?_ | refine Z.apZ_mk (by kernel_rfl) ?_
        | ((with_reducible refine Z.ConZ.red ?_); (try subst hlb); (apply Z.conZ_all); (focus (repeat (first | exact Z.FK.nil | (apply Z.FK.keep; exact rfl)))); (focus rfl); (focus rfl); (focus (repeat (first | exact trivial | (refine ⟨(fun o ho => (by first | (cases ho; rfl) | (cases ho; exact Z.inL_map fun _ => rfl) | (cases ho; exact Z.inL_mapr fun _ => rfl) | exact Z.inL_gB ho fun _ => rfl)), ?_⟩)))))
        | ((refine ⟨rfl, ?_, rfl⟩); (focus (repeat (first | exact Z.DK.nil | apply Z.DK.cons))))
        | (focus (exact (rfl : Nat.ble _ _ = true))))
      all_goals (try (conv => whnf))
      all_goals try (show Nat.ble _ _ = true; rfl)
      all_goals try (exfalso; rename_i hz; cases hz; done)
      all_goals try (exfalso; (try simp only [LN] at *) <;> omega)
      all_goals first
        | ((refine Z.rndK ((m + 1, ins ++ [0], ([] : List Int), 7)) (fun s => [0, 1, 2, 3, 4, 5, 6, 7, 8, 9, 10, 11, 12, 13, 14, 15, 16, 17, s.idIn 7 2]) rfl rfl rfl rfl ?_ ?_ ?_ ?_); (focus (repeat' (first | exact trivial | exact Z.map_sub (Z.MapL.ren HM0 fun _ => rfl) rfl | exact Z.it_sub rfl | exact rfl | (rw [List.map_append]; exact rfl) | apply And.intro))); (focus (repeat' (first | exact trivial | exact Z.map_sub (Z.MapL.ren HM0 fun _ => rfl) rfl | exact Z.it_sub rfl | (intro b hb; cases hb; rfl) | (intro b hb; cases hb; subst hlb; rfl) | (intro b hb; cases hb; rw [List.map_append]; rfl) | (intro b hb; cases hb; done) | exact Z.blk_sub rfl rfl (ren_map fun _ => rfl) | exact Z.blk_sub rfl rfl (Z.ren_app (ren_map fun _ => rfl) (ren_map fun _ => rfl)) | exact Z.blk_sub rfl (by first | (rw [List.map_append]; rfl) | (rw [List.map_set]; rfl) | simp only [List.map_append, List.map_cons, List.map_nil, List.map_set]) (ren_map fun _ => rfl) | exact Z.gB_sub rfl rfl (ren_map fun _ => rfl) | exact Z.gB_sub' rfl (by first | rfl | (rw [List.map_append]; rfl) | simp only [List.map_append, List.map_cons, List.map_nil]) (ren_map fun _ => rfl) | apply And.intro))); (focus (exact ⟨by (try dsimp only); omega, by (try dsimp only); rw [List.length_append, HL9]; rfl, .inr ⟨rfl, rfl, HQ⟩⟩)); ((try dsimp only); omega))
        | (exfalso; rename_i hz; cases hz; done)
        | (exfalso; (try simp only [LN] at *) <;> omega)
        | (fail)
  have hmn : m = n := by omega
  subst hmn
  rcases HR with ⟨rfl, HA, HRS, HM⟩ | ⟨rfl, rfl, HQ⟩
  · subst HA HRS
    have hd1 : dec1 (t :: w :: r) = (⟨t, w, q.take m, IntKind.i64.wrap (numR (r.take 8)), IntKind.i64.wrap (numR ((r.drop 8).take 8))⟩, 0, q.drop m) := by
      simp only [dec1, h5]
      rw [if_neg (by omega), if_neg (by rw [Int.toNat_natCast]; omega), Int.toNat_natCast]
    repeat' ((conv => whnf); first
      | with_reducible first | refine spB_t ?_
      | ((with_reducible apply spB_cong); (focus (simp only [beq_self_eq_true, bne_self_eq_false, Bool.true_bne, Bool.false_bne, Bool.bne_true, Bool.bne_false, Bool.true_beq, Bool.false_beq, Bool.not_true, Bool.not_false, Bool.not_not, Int.reduceBEq, Int.reduceBNe, Int.reduceLE, Int.reduceLT, Int.reduceEq, decide_true, decide_false]; rfl)))
      | with_reducible first | refine spB_yes (by decide) ?_ | refine spB_no (by decide) ?_ | refine spB_f ?_ | refine spB_not ?_ | refine spB_yes (by assumption) ?_ | refine spB_no (by assumption) ?_
      | (with_reducible refine spB_dec ?_ ?_ <;> intro _ <;> (try (exfalso; first | contradiction | omega | (rename_i hz; refine hz ?_; simp; done) | (rename_i hz; simp at hz; done) | (simp only [LN] at *; omega))))
      | (with_reducible refine spB_beq ?_ ?_ <;> intro _ <;> (try (exfalso; first | contradiction | omega | (rename_i hz; refine hz ?_; simp; done) | (rename_i hz; simp at hz; done) | (simp only [LN] at *; omega))))
      | (with_reducible refine spB_bne ?_ ?_ <;> intro _ <;> (try (exfalso; first | contradiction | omega | (rename_i hz; refine hz ?_; simp; done) | (rename_i hz; simp at hz; done) | (simp only [LN] at *; omega))))
      | (with_reducible refine spB_mk ?_ ?_ <;> intro _ <;> (try (exfalso; first | contradiction | omega | (rename_i hz; refine hz ?_; simp; done) | (rename_i hz; simp at hz; done) | (simp only [LN] at *; omega))))
      | (refine Z.updN.mk ⟨_, rfl, ?_⟩)
      | (refine Z.lookN.mk ⟨_, _, rfl, ?_⟩)
      | with_reducible first | refine Z.callZ_mfa ?_
      | ((refine sl3N_mk 0 1 1 rfl rfl rfl ?_ ?_ ?_ ?_ ?_); (iterate 4 (focus (first | exact .inl rfl | ((try simp only [LN] at *) <;> omega)))))
      | ((refine sl3N_mk 0 8 8 rfl rfl rfl ?_ ?_ ?_ ?_ ?_); (iterate 4 (focus (first | exact .inl rfl | ((try simp only [LN] at *) <;> omega)))))
      | ((with_reducible refine Z.slN_lo 1 ?_ ?_ ?_); (focus rfl); (focus ((try simp only [LN] at *) <;> omega)))
      | ((with_reducible refine Z.slN_lo 8 ?_ ?_ ?_); (focus rfl); (focus ((try simp only [LN] at *) <;> omega)))
      | (refine loopZ_unr1 tabOk rfl ?_)
      | ((with_reducible refine wr_shl8 ?_ ?_); (focus omega))
      | ((with_reducible refine wr_or0 ?_ ?_); (focus omega))
      | with_reducible first | refine rowN_mk _ rfl ?_
      | ((with_reducible refine rowN_mk (eB (n : Int)) ?_ ?_); (focus (first | exact row16 h50 | (fail))))
      | (refine wr_mk (IntKind.i64.wrap v8) rfl ?_)
      | (refine wr_mk (IntKind.i64.wrap v9) rfl ?_)
      | ((with_reducible refine posE_pos ?_ ?_); (focus ((try simp only [LN] at *) <;> omega)))
      | ((with_reducible refine posE_nil ?_ ?_); (focus rfl))
      | ((with_reducible apply rowN_mk); (focus rfl))
      | ((with_reducible apply ixN_lit); (focus (exact rfl)); (focus (exact rfl)))
      | ((with_reducible apply ixN_litp); (focus (exact rfl)); (focus ((try simp only [LN] at *) <;> omega)))
      | ((with_reducible refine eqN_mk2 ?_ ?_); (focus rfl))
      | ((with_reducible refine posN_mk2 ?_ ?_); (focus (first | decide | ((try simp only [LN] at *) <;> omega))))
      | ((with_reducible refine apdE_r ?_); (with_reducible refine aprN.mk ⟨_, rfl, ?_⟩ ?_ ?_ ?_ ?_); (focus ((try simp only [LN] at *) <;> omega)); (focus (first | rfl | (simp; done) | ((try simp only [LN] at *) <;> omega))); (focus (first | exact one_all (by rfl) | exact one_map (fun _ => rfl) | exact one_map2 (fun _ => rfl) | exact one_drop (fun _ => rfl))); (focus ((try simp only [LN] at *) <;> omega)))
      | ((with_reducible refine apdE_k ?_); (with_reducible refine apkN.mk ⟨_, rfl, ?_⟩ ?_); (focus ((try simp only [LN] at *) <;> omega)))
      | with_reducible first | refine apdE_n ?_
      | ((with_reducible refine slE_a ?_ ?_); (focus ((try simp only [LN] at *) <;> omega)))
      | ((with_reducible refine slE_b ?_ ?_); (focus ((try simp only [LN] at *) <;> omega)))
      | ((with_reducible refine slE_split ?_ ?_ ?_); (focus ((try simp only [LN] at *) <;> omega)); (all_goals intro _))
      | ((with_reducible apply sl3N_mk); (focus (exact rfl)); (focus (exact rfl)); (focus (exact rfl)); (focus ((try simp only [LN] at *) <;> omega)); (focus ((try simp only [LN] at *) <;> omega)); (focus ((try simp only [LN] at *) <;> omega)); (focus ((try simp only [LN] at *) <;> omega)))
      | ((with_reducible refine apdN.mk ?_ ?_ ?_ ?_ ?_ ?_); (focus (first | rfl | (simp; done))); (focus (first | exact one_all (by rfl) | exact one_map (fun _ => rfl) | exact one_map2 (fun _ => rfl))); (focus ((try simp only [LN] at *) <;> omega)); (focus ((try simp only [LN] at *) <;> omega)); (focus ((try simp only [LN] at *) <;> omega)))
      | with_reducible refine wr_i64 (by first | omega | (simp only [LN] at *; omega)) ?_
      | with_reducible refine wr_u64 (by omega) ?_
      | with_reducible refine wr_u8 (by omega) ?_
      | with_reducible refine wr_u32 (by omega) ?_
      | with_reducible first | refine wr_mk _ rfl ?_
      | ((with_reducible refine ixN_nat ?_ ?_); (focus ((try simp only [LN] at *) <;> omega)))
      | ((with_reducible refine rowN_map ?_ ?_); (focus ((try simp only [LN] at *) <;> omega)); intro x hx)
      | ((with_reducible refine posE_nil (by rfl) ?_))
      | ((with_reducible refine posE_pos (by decide) ?_))
      | with_reducible refine vN_mod (by omega) ?_
      | with_reducible first | refine vN_mk ?_
      | with_reducible refine nzN_mk (by omega) ?_
      | with_reducible refine eqN_dec (by omega) ?_
      | with_reducible first | refine apN_mk (by kernel_rfl) ?_ | refine Z.callZ_in tabOk 44 Try.f46 _ Try.func46 (by kernel_rfl) rfl rfl rfl ?_ | refine Z.callZ_in tabOk 18 Try.f83 _ Try.func83 (by kernel_rfl) rfl rfl rfl ?_ | refine Z.callZ_in tabOk 13 Try.f45 _ Try.func45 (by kernel_rfl) rfl rfl rfl ?_ | refine Z.callZ_in tabOk 6 Try.f58 _ Try.func58 (by kernel_rfl) rfl rfl rfl ?_ | refine Z.callZ_in tabOk 10 Try.f59 _ Try.func59 (by kernel_rfl) rfl rfl rfl ?_ | refine Z.callZ_in tabOk 5 Try.f60 _ Try.func60 (by kernel_rfl) rfl rfl rfl ?_ | refine Z.callZ_in tabOk 10 Try.f74 _ Try.func74 (by kernel_rfl) rfl rfl rfl ?_ | refine Z.callZ_in tabOk 58 Try.f82 _ Try.func82 (by kernel_rfl) rfl rfl rfl ?_ | refine Z.callZ_in tabOk 8 Try.f44 _ Try.func44 (by kernel_rfl) rfl rfl rfl ?_ | refine Z.callZ_in tabOk 11 Try.f47 _ Try.func47 (by kernel_rfl) rfl rfl rfl ?_
      | ((first | (with_reducible refine Z.conZ_mz ?_ (cc) ?_) | (with_reducible refine Z.callZ_mk ?_ (cc) ?_) | (with_reducible refine Z.conZ_mz ?_ (ccp) ?_) | (with_reducible refine Z.callZ_mk ?_ (ccp) ?_)); (focus ((repeat' (first | exact trivial | exact rfl | exact Z.low_nil | exact Z.low_nil2 | exact low_osl (fun _ => rfl) | (refine Z.low_osln ?_ (fun _ => rfl); (simp only [List.length_map]; done)) | exact low_oslr (fun _ => rfl) | exact Z.low_gslm (by first | rfl | exact Z.kb_some rfl) (fun _ => rfl) | exact .inl rfl | exact .inr ⟨_, rfl⟩ | apply And.intro)); done)))
      | ((with_reducible refine eqN_mk2 ?_ ?_); (focus (exact Z.kb_some rfl)))
      | ((with_reducible apply ex_and); exact rfl)
      | with_reducible first | refine Z.drawZ_rule tabOk mixOk ?_ | refine Z.apZ_mk (by kernel_rfl) ?_
      | ((with_reducible refine Z.ConZ.red ?_); (try subst hlb); (apply Z.conZ_all); (focus (repeat (first | exact Z.FK.nil | (apply Z.FK.keep; exact rfl)))); (focus rfl); (focus rfl); (focus (repeat (first | exact trivial | (refine ⟨(fun o ho => (by first | (cases ho; rfl) | (cases ho; exact Z.inL_map fun _ => rfl) | (cases ho; exact Z.inL_mapr fun _ => rfl) | exact Z.inL_gB ho fun _ => rfl)), ?_⟩)))))
      | ((refine ⟨rfl, ?_, rfl⟩); (focus (repeat (first | exact Z.DK.nil | apply Z.DK.cons))))
      | (focus (exact (rfl : Nat.ble _ _ = true))))
    all_goals (try (conv => whnf))
    all_goals try (show Nat.ble _ _ = true; rfl)
    all_goals try (exfalso; rename_i hz; cases hz; done)
    all_goals try (exfalso; (try simp only [LN] at *) <;> omega)
    all_goals first
      | ((refine rnd_fzj 18 4 0 ((acc ++ [(⟨t, w, q.take m, IntKind.i64.wrap (numR (r.take 8)), IntKind.i64.wrap (numR ((r.drop 8).take 8))⟩ : Op)]).map cO) rfl rfl rfl rfl rfl rfl (Z.rows_snoc ⟨?_, ?_, ?_, ?_, ?_, trivial⟩) ?_); (focus (first | exact Z.fzC.refl _ | exact Z.fzC.gslm (Z.kb_some rfl) (fun _ => rfl) | exact .inl (Z.Imp.of_eq (by first | (rw [hnv8]; done) | (rw [hnv9]; done) | (simp; done))))); (focus (first | exact Z.fzC.refl _ | exact Z.fzC.gslm (Z.kb_some rfl) (fun _ => rfl) | exact .inl (Z.Imp.of_eq (by first | (rw [hnv8]; done) | (rw [hnv9]; done) | (simp; done))))); (focus (first | exact Z.fzC.refl _ | exact Z.fzC.gslm (Z.kb_some rfl) (fun _ => rfl) | exact .inl (Z.Imp.of_eq (by first | (rw [hnv8]; done) | (rw [hnv9]; done) | (simp; done))))); (focus (first | exact Z.fzC.refl _ | exact Z.fzC.gslm (Z.kb_some rfl) (fun _ => rfl) | exact .inl (Z.Imp.of_eq (by first | (rw [hnv8]; done) | (rw [hnv9]; done) | (simp; done))))); (focus (first | exact Z.fzC.refl _ | exact Z.fzC.gslm (Z.kb_some rfl) (fun _ => rfl) | exact .inl (Z.Imp.of_eq (by first | (rw [hnv8]; done) | (rw [hnv9]; done) | (simp; done))))); ((refine Z.rndK ((i + 1, q.drop m, acc ++ [(⟨t, w, q.take m, IntKind.i64.wrap (numR (r.take 8)), IntKind.i64.wrap (numR ((r.drop 8).take 8))⟩ : Op)], 0, 0)) (fun s => [0, 1, 2, 3, 4, s.idIn 4 0]) rfl rfl rfl rfl ?_ ?_ ?_ ?_); (focus (repeat' (first | exact trivial | exact Z.map_sub (Z.MapL.ren HM0 fun _ => rfl) rfl | exact Z.it_sub rfl | exact rfl | (rw [List.map_append]; exact rfl) | apply And.intro))); (focus (repeat' (first | exact trivial | exact Z.map_sub (Z.MapL.ren HM0 fun _ => rfl) rfl | exact Z.it_sub rfl | (intro b hb; cases hb; rfl) | (intro b hb; cases hb; subst hlb; rfl) | (intro b hb; cases hb; rw [List.map_append]; rfl) | (intro b hb; cases hb; done) | exact Z.blk_sub rfl rfl (ren_map fun _ => rfl) | exact Z.blk_sub rfl rfl (Z.ren_app (ren_map fun _ => rfl) (ren_map fun _ => rfl)) | exact Z.blk_sub rfl (by first | (rw [List.map_append]; rfl) | (rw [List.map_set]; rfl) | simp only [List.map_append, List.map_cons, List.map_nil, List.map_set]) (ren_map fun _ => rfl) | exact Z.gB_sub rfl rfl (ren_map fun _ => rfl) | exact Z.gB_sub' rfl (by first | rfl | (rw [List.map_append]; rfl) | simp only [List.map_append, List.map_cons, List.map_nil]) (ren_map fun _ => rfl) | apply And.intro))); (focus (exact ⟨by (try dsimp only); omega, ⟨by (try dsimp only); first | (intro x hx; cases hx; done) | exact isB_drop hBq, by (try dsimp only); (try simp only [List.length_cons, List.length_drop, List.length_nil] at *); omega⟩, by (try dsimp only); rw [List.length_append, HC]; rfl, fun o ho => by rcases List.mem_append.1 ho with h | h; exact HO o h; rw [List.mem_singleton.1 h]; (try dsimp only); omega, .inl ⟨rfl, rfl, by (try dsimp only); rw [HD, show N - i = (N - (i + 1)) + 1 by omega, preD_step hd1]⟩⟩)); ((try dsimp only); omega)))
      | (exfalso; rename_i hz; cases hz; done)
      | (exfalso; (try simp only [LN] at *) <;> omega)
      | (fail)
  · skip
    repeat' ((conv => whnf); first
      | with_reducible first | refine spB_t ?_
      | ((with_reducible apply spB_cong); (focus (simp only [beq_self_eq_true, bne_self_eq_false, Bool.true_bne, Bool.false_bne, Bool.bne_true, Bool.bne_false, Bool.true_beq, Bool.false_beq, Bool.not_true, Bool.not_false, Bool.not_not, Int.reduceBEq, Int.reduceBNe, Int.reduceLE, Int.reduceLT, Int.reduceEq, decide_true, decide_false]; rfl)))
      | with_reducible first | refine spB_yes (by decide) ?_ | refine spB_no (by decide) ?_ | refine spB_f ?_ | refine spB_not ?_ | refine spB_yes (by assumption) ?_ | refine spB_no (by assumption) ?_
      | (with_reducible refine spB_dec ?_ ?_ <;> intro _ <;> (try (exfalso; first | contradiction | omega | (rename_i hz; refine hz ?_; simp; done) | (rename_i hz; simp at hz; done) | (simp only [LN] at *; omega))))
      | (with_reducible refine spB_beq ?_ ?_ <;> intro _ <;> (try (exfalso; first | contradiction | omega | (rename_i hz; refine hz ?_; simp; done) | (rename_i hz; simp at hz; done) | (simp only [LN] at *; omega))))
      | (with_reducible refine spB_bne ?_ ?_ <;> intro _ <;> (try (exfalso; first | contradiction | omega | (rename_i hz; refine hz ?_; simp; done) | (rename_i hz; simp at hz; done) | (simp only [LN] at *; omega))))
      | (with_reducible refine spB_mk ?_ ?_ <;> intro _ <;> (try (exfalso; first | contradiction | omega | (rename_i hz; refine hz ?_; simp; done) | (rename_i hz; simp at hz; done) | (simp only [LN] at *; omega))))
      | (refine Z.updN.mk ⟨_, rfl, ?_⟩)
      | (refine Z.lookN.mk ⟨_, _, rfl, ?_⟩)
      | with_reducible first | refine Z.callZ_mfa ?_
      | ((refine sl3N_mk 0 1 1 rfl rfl rfl ?_ ?_ ?_ ?_ ?_); (iterate 4 (focus (first | exact .inl rfl | ((try simp only [LN] at *) <;> omega)))))
      | ((refine sl3N_mk 0 8 8 rfl rfl rfl ?_ ?_ ?_ ?_ ?_); (iterate 4 (focus (first | exact .inl rfl | ((try simp only [LN] at *) <;> omega)))))
      | ((with_reducible refine Z.slN_lo 1 ?_ ?_ ?_); (focus rfl); (focus ((try simp only [LN] at *) <;> omega)))
      | ((with_reducible refine Z.slN_lo 8 ?_ ?_ ?_); (focus rfl); (focus ((try simp only [LN] at *) <;> omega)))
      | (refine loopZ_unr1 tabOk rfl ?_)
      | ((with_reducible refine wr_shl8 ?_ ?_); (focus omega))
      | ((with_reducible refine wr_or0 ?_ ?_); (focus omega))
      | with_reducible first | refine rowN_mk _ rfl ?_
      | ((with_reducible refine rowN_mk (eB (n : Int)) ?_ ?_); (focus (first | exact row16 h50 | (fail))))
      | (refine wr_mk (IntKind.i64.wrap v8) rfl ?_)
      | (refine wr_mk (IntKind.i64.wrap v9) rfl ?_)
      | ((with_reducible refine posE_pos ?_ ?_); (focus ((try simp only [LN] at *) <;> omega)))
      | ((with_reducible refine posE_nil ?_ ?_); (focus rfl))
      | ((with_reducible apply rowN_mk); (focus rfl))
      | ((with_reducible apply ixN_lit); (focus (exact rfl)); (focus (exact rfl)))
      | ((with_reducible apply ixN_litp); (focus (exact rfl)); (focus ((try simp only [LN] at *) <;> omega)))
      | ((with_reducible refine eqN_mk2 ?_ ?_); (focus rfl))
      | ((with_reducible refine posN_mk2 ?_ ?_); (focus (first | decide | ((try simp only [LN] at *) <;> omega))))
      | ((with_reducible refine apdE_r ?_); (with_reducible refine aprN.mk ⟨_, rfl, ?_⟩ ?_ ?_ ?_ ?_); (focus ((try simp only [LN] at *) <;> omega)); (focus (first | rfl | (simp; done) | ((try simp only [LN] at *) <;> omega))); (focus (first | exact one_all (by rfl) | exact one_map (fun _ => rfl) | exact one_map2 (fun _ => rfl) | exact one_drop (fun _ => rfl))); (focus ((try simp only [LN] at *) <;> omega)))
      | ((with_reducible refine apdE_k ?_); (with_reducible refine apkN.mk ⟨_, rfl, ?_⟩ ?_); (focus ((try simp only [LN] at *) <;> omega)))
      | with_reducible first | refine apdE_n ?_
      | ((with_reducible refine slE_a ?_ ?_); (focus ((try simp only [LN] at *) <;> omega)))
      | ((with_reducible refine slE_b ?_ ?_); (focus ((try simp only [LN] at *) <;> omega)))
      | ((with_reducible refine slE_split ?_ ?_ ?_); (focus ((try simp only [LN] at *) <;> omega)); (all_goals intro _))
      | ((with_reducible apply sl3N_mk); (focus (exact rfl)); (focus (exact rfl)); (focus (exact rfl)); (focus ((try simp only [LN] at *) <;> omega)); (focus ((try simp only [LN] at *) <;> omega)); (focus ((try simp only [LN] at *) <;> omega)); (focus ((try simp only [LN] at *) <;> omega)))
      | ((with_reducible refine apdN.mk ?_ ?_ ?_ ?_ ?_ ?_); (focus (first | rfl | (simp; done))); (focus (first | exact one_all (by rfl) | exact one_map (fun _ => rfl) | exact one_map2 (fun _ => rfl))); (focus ((try simp only [LN] at *) <;> omega)); (focus ((try simp only [LN] at *) <;> omega)); (focus ((try simp only [LN] at *) <;> omega)))
      | with_reducible refine wr_i64 (by first | omega | (simp only [LN] at *; omega)) ?_
      | with_reducible refine wr_u64 (by omega) ?_
      | with_reducible refine wr_u8 (by omega) ?_
      | with_reducible refine wr_u32 (by omega) ?_
      | with_reducible first | refine wr_mk _ rfl ?_
      | ((with_reducible refine ixN_nat ?_ ?_); (focus ((try simp only [LN] at *) <;> omega)))
      | ((with_reducible refine rowN_map ?_ ?_); (focus ((try simp only [LN] at *) <;> omega)); intro x hx)
      | ((with_reducible refine posE_nil (by rfl) ?_))
      | ((with_reducible refine posE_pos (by decide) ?_))
      | with_reducible refine vN_mod (by omega) ?_
      | with_reducible first | refine vN_mk ?_
      | with_reducible refine nzN_mk (by omega) ?_
      | with_reducible refine eqN_dec (by omega) ?_
      | with_reducible first | refine apN_mk (by kernel_rfl) ?_ | refine Z.callZ_in tabOk 44 Try.f46 _ Try.func46 (by kernel_rfl) rfl rfl rfl ?_ | refine Z.callZ_in tabOk 18 Try.f83 _ Try.func83 (by kernel_rfl) rfl rfl rfl ?_ | refine Z.callZ_in tabOk 13 Try.f45 _ Try.func45 (by kernel_rfl) rfl rfl rfl ?_ | refine Z.callZ_in tabOk 6 Try.f58 _ Try.func58 (by kernel_rfl) rfl rfl rfl ?_ | refine Z.callZ_in tabOk 10 Try.f59 _ Try.func59 (by kernel_rfl) rfl rfl rfl ?_ | refine Z.callZ_in tabOk 5 Try.f60 _ Try.func60 (by kernel_rfl) rfl rfl rfl ?_ | refine Z.callZ_in tabOk 10 Try.f74 _ Try.func74 (by kernel_rfl) rfl rfl rfl ?_ | refine Z.callZ_in tabOk 58 Try.f82 _ Try.func82 (by kernel_rfl) rfl rfl rfl ?_ | refine Z.callZ_in tabOk 8 Try.f44 _ Try.func44 (by kernel_rfl) rfl rfl rfl ?_ | refine Z.callZ_in tabOk 11 Try.f47 _ Try.func47 (by kernel_rfl) rfl rfl rfl ?_
      | ((first | (with_reducible refine Z.conZ_mz ?_ (cc) ?_) | (with_reducible refine Z.callZ_mk ?_ (cc) ?_) | (with_reducible refine Z.conZ_mz ?_ (ccp) ?_) | (with_reducible refine Z.callZ_mk ?_ (ccp) ?_)); (focus ((repeat' (first | exact trivial | exact rfl | exact Z.low_nil | exact Z.low_nil2 | exact low_osl (fun _ => rfl) | (refine Z.low_osln ?_ (fun _ => rfl); (simp only [List.length_map]; done)) | exact low_oslr (fun _ => rfl) | exact Z.low_gslm (by first | rfl | exact Z.kb_some rfl) (fun _ => rfl) | exact .inl rfl | exact .inr ⟨_, rfl⟩ | apply And.intro)); done)))
      | ((with_reducible refine eqN_mk2 ?_ ?_); (focus (exact Z.kb_some rfl)))
      | ((with_reducible apply ex_and); exact rfl)
      | with_reducible first | refine Z.drawZ_rule tabOk mixOk ?_ | refine Z.apZ_mk (by kernel_rfl) ?_
      | ((with_reducible refine Z.ConZ.red ?_); (try subst hlb); (apply Z.conZ_all); (focus (repeat (first | exact Z.FK.nil | (apply Z.FK.keep; exact rfl)))); (focus rfl); (focus rfl); (focus (repeat (first | exact trivial | (refine ⟨(fun o ho => (by first | (cases ho; rfl) | (cases ho; exact Z.inL_map fun _ => rfl) | (cases ho; exact Z.inL_mapr fun _ => rfl) | exact Z.inL_gB ho fun _ => rfl)), ?_⟩)))))
      | ((refine ⟨rfl, ?_, rfl⟩); (focus (repeat (first | exact Z.DK.nil | apply Z.DK.cons))))
      | (focus (exact (rfl : Nat.ble _ _ = true))))
    all_goals (try (conv => whnf))
    all_goals try (show Nat.ble _ _ = true; rfl)
    all_goals try (exfalso; rename_i hz; cases hz; done)
    all_goals try (exfalso; (try simp only [LN] at *) <;> omega)
    all_goals first
      | ((refine rnd_fzj 18 4 0 ((acc ++ [(⟨t, w, ins, IntKind.i64.wrap (numR (r.take 8)), IntKind.i64.wrap (numR ((r.drop 8).take 8))⟩ : Op)]).map cO) rfl rfl rfl rfl rfl rfl (Z.rows_snoc ⟨?_, ?_, ?_, ?_, ?_, trivial⟩) ?_); (focus (first | exact Z.fzC.refl _ | exact Z.fzC.gslm (Z.kb_some rfl) (fun _ => rfl) | exact .inl (Z.Imp.of_eq (by first | (rw [hnv8]; done) | (rw [hnv9]; done) | (simp; done))))); (focus (first | exact Z.fzC.refl _ | exact Z.fzC.gslm (Z.kb_some rfl) (fun _ => rfl) | exact .inl (Z.Imp.of_eq (by first | (rw [hnv8]; done) | (rw [hnv9]; done) | (simp; done))))); (focus (first | exact Z.fzC.refl _ | exact Z.fzC.gslm (Z.kb_some rfl) (fun _ => rfl) | exact .inl (Z.Imp.of_eq (by first | (rw [hnv8]; done) | (rw [hnv9]; done) | (simp; done))))); (focus (first | exact Z.fzC.refl _ | exact Z.fzC.gslm (Z.kb_some rfl) (fun _ => rfl) | exact .inl (Z.Imp.of_eq (by first | (rw [hnv8]; done) | (rw [hnv9]; done) | (simp; done))))); (focus (first | exact Z.fzC.refl _ | exact Z.fzC.gslm (Z.kb_some rfl) (fun _ => rfl) | exact .inl (Z.Imp.of_eq (by first | (rw [hnv8]; done) | (rw [hnv9]; done) | (simp; done))))); ((refine Z.rndK ((i + 1, ([] : List Int), acc ++ [(⟨t, w, ins, IntKind.i64.wrap (numR (r.take 8)), IntKind.i64.wrap (numR ((r.drop 8).take 8))⟩ : Op)], 7, 7)) (fun s => [0, 1, 2, 3, 4, s.idIn 4 0]) rfl rfl rfl rfl ?_ ?_ ?_ ?_); (focus (repeat' (first | exact trivial | exact Z.map_sub (Z.MapL.ren HM0 fun _ => rfl) rfl | exact Z.it_sub rfl | exact rfl | (rw [List.map_append]; exact rfl) | apply And.intro))); (focus (repeat' (first | exact trivial | exact Z.map_sub (Z.MapL.ren HM0 fun _ => rfl) rfl | exact Z.it_sub rfl | (intro b hb; cases hb; rfl) | (intro b hb; cases hb; subst hlb; rfl) | (intro b hb; cases hb; rw [List.map_append]; rfl) | (intro b hb; cases hb; done) | exact Z.blk_sub rfl rfl (ren_map fun _ => rfl) | exact Z.blk_sub rfl rfl (Z.ren_app (ren_map fun _ => rfl) (ren_map fun _ => rfl)) | exact Z.blk_sub rfl (by first | (rw [List.map_append]; rfl) | (rw [List.map_set]; rfl) | simp only [List.map_append, List.map_cons, List.map_nil, List.map_set]) (ren_map fun _ => rfl) | exact Z.gB_sub rfl rfl (ren_map fun _ => rfl) | exact Z.gB_sub' rfl (by first | rfl | (rw [List.map_append]; rfl) | simp only [List.map_append, List.map_cons, List.map_nil]) (ren_map fun _ => rfl) | apply And.intro))); (focus (exact ⟨by (try dsimp only); omega, ⟨by (try dsimp only); first | (intro x hx; cases hx; done) | exact isB_drop hBq, by (try dsimp only); (try simp only [List.length_cons, List.length_drop, List.length_nil] at *); omega⟩, by (try dsimp only); rw [List.length_append, HC]; rfl, fun o ho => by rcases List.mem_append.1 ho with h | h; exact HO o h; rw [List.mem_singleton.1 h]; (try dsimp only); omega, .inr ⟨by (try dsimp only); decide, by (try dsimp only); rw [HD, show N - i = (N - (i + 1)) + 1 by omega]; exact preD_bad (by simp only [dec1, h5]; rw [if_neg (by omega), if_pos (by rw [Int.toNat_natCast]; exact HQ)]) (by decide)⟩⟩)); ((try dsimp only); omega)))
      | (exfalso; rename_i hz; cases hz; done)
      | (exfalso; (try simp only [LN] at *) <;> omega)
      | (fail)
end Go.Proofs.Ytjjdfiapcpbapaa
namespace Go.Proofs.Ytjjdfiapcpbapaa
open Go Go.RowKit Wx
set_option linter.unusedVariables false
set_option linter.unusedSimpArgs false
set_option maxHeartbeats 4000000
theorem decode_con (b : List Int) (hl : b.length ≤ 1099511627776) (hB : isB b) : Con Try.prog 27 [.one (.ro false 1 (b.map eB))] (fun rx rK rt => rx = .tup [.agg [.ro true 5 ((decR b).1.map eO)], .one (.v (.int .i64 (decR b).2))] ∧ rK = [] ∧ rt = 0) := by
  refine Z.con_ofF tabOk 57 Try.f27 _ Try.func27 (by kernel_rfl) rfl rfl rfl rfl ?_
  rcases b with _ | ⟨n0, b⟩
  · have ccp := copied_con [] (by simp)
    repeat' ((conv => whnf); first
      | ((with_reducible apply spB_cong); (focus (simp only [beq_self_eq_true, bne_self_eq_false, Bool.true_bne, Bool.false_bne, Bool.bne_true, Bool.bne_false, Bool.true_beq, Bool.false_beq, Bool.not_true, Bool.not_false, Bool.not_not, Int.reduceBEq, Int.reduceBNe, Int.reduceLE, Int.reduceLT, Int.reduceEq, decide_true, decide_false]; rfl)))
      | with_reducible first | refine spB_yes (by decide) ?_ | refine spB_no (by decide) ?_
      | with_reducible refine wr_i64 (by first | omega | (simp only [LN] at *; omega)) ?_
      | with_reducible refine wr_u8 (by omega) ?_
      | with_reducible first | refine Z.callZ_in tabOk 8 Try.f44 _ Try.func44 (by kernel_rfl) rfl rfl rfl ?_ | refine Z.callZ_in tabOk 13 Try.f45 _ Try.func45 (by kernel_rfl) rfl rfl rfl ?_ | refine Z.callZ_in tabOk 6 Try.f58 _ Try.func58 (by kernel_rfl) rfl rfl rfl ?_ | refine Z.callZ_in tabOk 10 Try.f59 _ Try.func59 (by kernel_rfl) rfl rfl rfl ?_ | refine Z.callZ_in tabOk 10 Try.f74 _ Try.func74 (by kernel_rfl) rfl rfl rfl ?_ | refine Z.callZ_in tabOk 58 Try.f82 _ Try.func82 (by kernel_rfl) rfl rfl rfl ?_
      | ((first | (with_reducible refine Z.callZ_mk ?_ (ccp) ?_)); (focus ((repeat' (first | exact trivial | exact rfl | apply And.intro)); done)))
      | ((with_reducible apply ex_and); exact rfl))
    all_goals (try (conv => whnf))
    all_goals try (show Nat.ble _ _ = true; rfl)
    all_goals try (exfalso; rename_i hz; cases hz; done)
    all_goals try (exfalso; (try simp only [LN] at *) <;> omega)
    all_goals (refine Z.loopZ_unroll tabOk 1 ?_)
    repeat' ((conv => whnf); first
      | with_reducible first | refine spB_t ?_
      | ((with_reducible apply spB_cong); (focus (simp only [beq_self_eq_true, bne_self_eq_false, Bool.true_bne, Bool.false_bne, Bool.bne_true, Bool.bne_false, Bool.true_beq, Bool.false_beq, Bool.not_true, Bool.not_false, Bool.not_not, Int.reduceBEq, Int.reduceBNe, Int.reduceLE, Int.reduceLT, Int.reduceEq, decide_true, decide_false]; rfl)))
      | with_reducible first | refine spB_no (by decide) ?_)
    all_goals (try (conv => whnf))
    all_goals try (show Nat.ble _ _ = true; rfl)
    all_goals try (exfalso; rename_i hz; cases hz; done)
    all_goals try (exfalso; (try simp only [LN] at *) <;> omega)
    all_goals first
      | ((first | (with_reducible apply Z.retF2)); (focus (exact rfl)); (repeat' (first | exact trivial | (with_reducible apply Z.frz_one) | (with_reducible apply Z.frz_agg) | (with_reducible apply Z.fq_int) | (exact Z.frz_nil) | exact rfl | apply And.intro)); (all_goals (try exact (fun _ => none))); all_goals (first | (simp; done)))
  have hn0 := hB n0 (List.mem_cons_self ..)
  have hBb : isB b := fun x hx => hB x (List.mem_cons_of_mem _ hx)
  obtain ⟨N, rfl⟩ : ∃ N : Nat, n0 = (N : Int) := ⟨n0.toNat, by omega⟩
  have ccp := copied_con ((N : Int) :: b) hl
  have hll : b.length + 1 ≤ 1099511627776 := by simpa using hl
  by_cases hN : 8 < N
  · rw [show decR ((N : Int) :: b) = ([], 160) from if_pos (show (8 : Int) < (N : Int) by omega)]
    repeat' ((conv => whnf); first
      | with_reducible first | refine spB_t ?_
      | ((with_reducible apply spB_cong); (focus (simp only [beq_self_eq_true, bne_self_eq_false, Bool.true_bne, Bool.false_bne, Bool.bne_true, Bool.bne_false, Bool.true_beq, Bool.false_beq, Bool.not_true, Bool.not_false, Bool.not_not, Int.reduceBEq, Int.reduceBNe, Int.reduceLE, Int.reduceLT, Int.reduceEq, decide_true, decide_false]; rfl)))
      | with_reducible first | refine spB_no (by decide) ?_
      | (with_reducible refine spB_dec ?_ ?_ <;> intro _ <;> (try (exfalso; first | contradiction | omega | (rename_i hz; refine hz ?_; simp; done) | (rename_i hz; simp at hz; done) | (simp only [LN] at *; omega))))
      | ((refine sl3N_mk 0 1 1 rfl rfl rfl ?_ ?_ ?_ ?_ ?_); (iterate 4 (focus (first | exact .inl rfl | ((try simp only [LN] at *) <;> omega)))))
      | ((with_reducible refine Z.slN_lo 1 ?_ ?_ ?_); (focus rfl); (focus ((try simp only [LN] at *) <;> omega)))
      | (refine loopZ_unr1 tabOk rfl ?_)
      | ((with_reducible refine wr_shl8 ?_ ?_); (focus omega))
      | ((with_reducible refine wr_or0 ?_ ?_); (focus omega))
      | with_reducible first | refine rowN_mk _ rfl ?_
      | ((with_reducible apply ixN_lit); (focus (exact rfl)); (focus (exact rfl)))
      | ((with_reducible refine eqN_mk2 ?_ ?_); (focus rfl))
      | with_reducible refine wr_i64 (by first | omega | (simp only [LN] at *; omega)) ?_
      | with_reducible refine wr_u64 (by omega) ?_
      | with_reducible first | refine Z.callZ_in tabOk 8 Try.f44 _ Try.func44 (by kernel_rfl) rfl rfl rfl ?_ | refine Z.callZ_in tabOk 13 Try.f45 _ Try.func45 (by kernel_rfl) rfl rfl rfl ?_ | refine Z.callZ_in tabOk 6 Try.f58 _ Try.func58 (by kernel_rfl) rfl rfl rfl ?_ | refine Z.callZ_in tabOk 10 Try.f74 _ Try.func74 (by kernel_rfl) rfl rfl rfl ?_ | refine Z.callZ_in tabOk 58 Try.f82 _ Try.func82 (by kernel_rfl) rfl rfl rfl ?_ | refine Z.callZ_in tabOk 18 Try.f83 _ Try.func83 (by kernel_rfl) rfl rfl rfl ?_
      | ((first | (with_reducible refine Z.callZ_mk ?_ (ccp) ?_)); (focus ((repeat' (first | exact trivial | exact rfl | apply And.intro)); done)))
      | ((with_reducible apply ex_and); exact rfl)
      | with_reducible first | refine Z.drawZ_rule tabOk mixOk ?_ | refine Z.apZ_mk (by kernel_rfl) ?_)
    all_goals (try (conv => whnf))
    all_goals try (show Nat.ble _ _ = true; rfl)
    all_goals try (exfalso; rename_i hz; cases hz; done)
    all_goals try (exfalso; (try simp only [LN] at *) <;> omega)
    all_goals (refine Z.loopZ_unroll tabOk 1 ?_)
    repeat' ((conv => whnf); first
      | with_reducible first | refine spB_t ?_
      | ((with_reducible apply spB_cong); (focus (simp only [beq_self_eq_true, bne_self_eq_false, Bool.true_bne, Bool.false_bne, Bool.bne_true, Bool.bne_false, Bool.true_beq, Bool.false_beq, Bool.not_true, Bool.not_false, Bool.not_not, Int.reduceBEq, Int.reduceBNe, Int.reduceLE, Int.reduceLT, Int.reduceEq, decide_true, decide_false]; rfl)))
      | with_reducible first | refine spB_no (by decide) ?_)
    all_goals (try (conv => whnf))
    all_goals try (show Nat.ble _ _ = true; rfl)
    all_goals try (exfalso; rename_i hz; cases hz; done)
    all_goals try (exfalso; (try simp only [LN] at *) <;> omega)
    all_goals first
      | ((first | (with_reducible apply Z.retF2)); (focus (exact rfl)); (repeat' (first | exact trivial | (with_reducible apply Z.frz_one) | (with_reducible apply Z.frz_agg) | (with_reducible apply Z.fq_int) | (exact Z.frz_nil) | exact rfl | apply And.intro)); (all_goals (try exact (fun _ => none))); all_goals (first | (simp; done)))
  have hdR : decR ((N : Int) :: b) = if (decN N b).2.1 = 0 then (if (chkR (decN N b).1).2 = 0 ∧ (decN N b).2.2 = [] then ((decN N b).1, 0) else ([], 160)) else ([], (decN N b).2.1) := by
    show (if (8 : Int) < (N : Int) then _ else _) = _
    rw [if_neg (by omega), Int.toNat_natCast]
  rw [hdR]
  repeat' ((conv => whnf); first
    | with_reducible first | refine spB_t ?_
    | ((with_reducible apply spB_cong); (focus (simp only [beq_self_eq_true, bne_self_eq_false, Bool.true_bne, Bool.false_bne, Bool.bne_true, Bool.bne_false, Bool.true_beq, Bool.false_beq, Bool.not_true, Bool.not_false, Bool.not_not, Int.reduceBEq, Int.reduceBNe, Int.reduceLE, Int.reduceLT, Int.reduceEq, decide_true, decide_false]; rfl)))
    | with_reducible first | refine spB_no (by decide) ?_
    | (with_reducible refine spB_dec ?_ ?_ <;> intro _ <;> (try (exfalso; first | contradiction | omega | (rename_i hz; refine hz ?_; simp; done) | (rename_i hz; simp at hz; done) | (simp only [LN] at *; omega))))
    | ((refine sl3N_mk 0 1 1 rfl rfl rfl ?_ ?_ ?_ ?_ ?_); (iterate 4 (focus (first | exact .inl rfl | ((try simp only [LN] at *) <;> omega)))))
    | ((with_reducible refine Z.slN_lo 1 ?_ ?_ ?_); (focus rfl); (focus ((try simp only [LN] at *) <;> omega)))
    | (refine loopZ_unr1 tabOk rfl ?_)
    | ((with_reducible refine wr_shl8 ?_ ?_); (focus omega))
    | ((with_reducible refine wr_or0 ?_ ?_); (focus omega))
    | with_reducible first | refine rowN_mk _ rfl ?_
    | ((with_reducible apply ixN_lit); (focus (exact rfl)); (focus (exact rfl)))
    | ((with_reducible refine eqN_mk2 ?_ ?_); (focus rfl))
    | with_reducible refine wr_i64 (by first | omega | (simp only [LN] at *; omega)) ?_
    | with_reducible refine wr_u64 (by omega) ?_
    | with_reducible first | refine Z.callZ_in tabOk 8 Try.f44 _ Try.func44 (by kernel_rfl) rfl rfl rfl ?_ | refine Z.callZ_in tabOk 13 Try.f45 _ Try.func45 (by kernel_rfl) rfl rfl rfl ?_ | refine Z.callZ_in tabOk 6 Try.f58 _ Try.func58 (by kernel_rfl) rfl rfl rfl ?_ | refine Z.callZ_in tabOk 10 Try.f59 _ Try.func59 (by kernel_rfl) rfl rfl rfl ?_ | refine Z.callZ_in tabOk 10 Try.f74 _ Try.func74 (by kernel_rfl) rfl rfl rfl ?_ | refine Z.callZ_in tabOk 58 Try.f82 _ Try.func82 (by kernel_rfl) rfl rfl rfl ?_ | refine Z.callZ_in tabOk 18 Try.f83 _ Try.func83 (by kernel_rfl) rfl rfl rfl ?_
    | ((first | (with_reducible refine Z.callZ_mk ?_ (ccp) ?_)); (focus ((repeat' (first | exact trivial | exact rfl | apply And.intro)); done)))
    | ((with_reducible apply ex_and); exact rfl)
    | with_reducible first | refine Z.drawZ_rule tabOk mixOk ?_ | refine Z.apZ_mk (by kernel_rfl) ?_)
  all_goals (try (conv => whnf))
  all_goals try (show Nat.ble _ _ = true; rfl)
  all_goals try (exfalso; rename_i hz; cases hz; done)
  all_goals try (exfalso; (try simp only [LN] at *) <;> omega)
  refine Z.loopK tabOk dCH dCK (dInv b N) (fun zq => N - zq.1) (0, b, [], 0, 0) 6 (dFk N) ⟨rfl, rfl, rfl, rfl, trivial⟩ dKk ⟨rfl, trivial⟩ ?_ ?_ rfl rfl ⟨Nat.zero_le _, ⟨hBb, by (try dsimp only); omega⟩, rfl, (fun o ho => nomatch ho), .inl ⟨rfl, rfl, preD_nil N b⟩⟩ ?_
  · repeat' (first | exact trivial | apply And.intro | exact ⟨_, rfl, Z.Imp.refl _⟩)
  · repeat' (first | exact trivial | (intro b hb; cases hb; done) | (intro b hb; cases hb; refine ⟨_, rfl, ⟨rfl, rfl, rfl⟩, ?_⟩; (try exact ⟨⟨Z.Imp.of_eq (congrArg (Ce.ro true 1) (by simp [tk_map])), Z.Imp.refl _, trivial⟩, trivial⟩); (repeat' (first | exact trivial | apply And.intro | exact Z.Imp.nilg _)); done) | apply And.intro)
  rintro ⟨i, r, acc, er, rf⟩ HINV
  obtain ⟨HI, ⟨HBr, HLr⟩, HC, HO, HD⟩ := HINV
  dsimp only at HI HBr HLr HC HO HD
  rcases HD with ⟨rfl, rfl, HD⟩ | ⟨he, HD⟩
  rotate_left
  · rw [HD]
    dsimp only [dCH, dFk, dCK, dKk]
    simp only [if_neg he]
    by_cases hi : i < N
    all_goals (
    repeat' ((conv => whnf); first
      | with_reducible first | refine spB_t ?_
      | with_reducible first | refine spB_no (by decide) ?_
      | (with_reducible refine spB_dec ?_ ?_ <;> intro _ <;> (try (exfalso; first | contradiction | omega | (rename_i hz; refine hz ?_; simp; done) | (rename_i hz; simp at hz; done) | (simp only [LN] at *; omega) | (simp_all; done))))
      | (with_reducible refine spB_beq ?_ ?_ <;> intro _ <;> (try (exfalso; first | contradiction | omega | (rename_i hz; refine hz ?_; simp; done) | (rename_i hz; simp at hz; done) | (simp only [LN] at *; omega) | (simp_all; done))))
      | (with_reducible refine spB_bne ?_ ?_ <;> intro _ <;> (try (exfalso; first | contradiction | omega | (rename_i hz; refine hz ?_; simp; done) | (rename_i hz; simp at hz; done) | (simp only [LN] at *; omega) | (simp_all; done)))))
    all_goals (try (conv => whnf)))
    all_goals try (show Nat.ble _ _ = true; rfl)
    all_goals try (exfalso; rename_i hz; cases hz; done)
    all_goals try (exfalso; (try simp only [LN] at *) <;> omega)
    all_goals first
      | ((first | (with_reducible apply Z.retF2)); (focus (exact rfl)); (repeat' (first | exact trivial | (with_reducible apply Z.frz_one) | (with_reducible apply Z.frz_agg) | (with_reducible apply Z.fq_int) | (exact Z.frz_nil) | exact rfl | apply And.intro)); (all_goals (try exact (fun _ => none))); all_goals (first | (simp; done)))
  by_cases hi : i < N
  · rcases r with _ | ⟨t, r⟩
    · exact dec_a b N i acc HBr HLr HC HO HD hi (by omega)
    rcases r with _ | ⟨w, r⟩
    · exact dec_b b N i acc t HBr HLr HC HO HD hi (by omega)
    by_cases h4 : r.length < 8
    · exact dec_c b N i acc t w r HBr HLr HC HO HD hi (by omega) h4
    by_cases h5 : r.length < 16
    · exact dec_d b N i acc t w r HBr HLr HC HO HD hi (by omega) (by omega) h5
    by_cases h6 : r.length = 16
    · exact dec_e b N i acc t w r HBr HLr HC HO HD hi (by omega) h6
    obtain ⟨n, q, hd⟩ : ∃ n q, r.drop 16 = n :: q := by
      cases hc : r.drop 16 with
      | nil => exact absurd (congrArg List.length hc) (by simp; omega)
      | cons n q => exact ⟨n, q, rfl⟩
    by_cases h8 : 8 < n
    · exact dec_f b N i acc t w n r q HBr HLr HC HO HD hi (by omega) (by omega) hd h8
    have hBn : 0 ≤ n := (HBr n (List.mem_cons_of_mem _ (List.mem_cons_of_mem _ (List.mem_of_mem_drop (hd ▸ List.mem_cons_self ..))))).1
    obtain ⟨k, rfl⟩ : ∃ k : Nat, n = (k : Int) := ⟨n.toNat, by omega⟩
    exact dec_g b N i acc t w k r q HBr HLr HC HO HD hi (by omega) (by omega) hd (by omega)
  have hil : i = N := by omega
  subst hil
  rw [Nat.sub_self] at HD
  have hD9 : decN i b = (acc, 0, r) := by rw [HD]; simp [preD, decN]
  rw [hD9]
  dsimp only [dCH, dFk, dCK, dKk]
  simp only [if_true]
  have cc := check_con acc (fun o ho => by have := HO o ho; omega) (by omega)
  by_cases hk : (chkR acc).2 = 0
  · rw [hk] at cc ⊢
    generalize (chkR acc).1 = a9 at *
    rcases r with _ | ⟨x, r⟩
    all_goals simp only [true_and, if_true, reduceCtorEq, if_false, and_false]
    all_goals (
      repeat' ((conv => whnf); first
        | ((with_reducible apply spB_cong); (focus (simp only [beq_self_eq_true, bne_self_eq_false, Bool.true_bne, Bool.false_bne, Bool.bne_true, Bool.bne_false, Bool.true_beq, Bool.false_beq, Bool.not_true, Bool.not_false, Bool.not_not, Int.reduceBEq, Int.reduceBNe, Int.reduceLE, Int.reduceLT, Int.reduceEq, decide_true, decide_false]; rfl)))
        | with_reducible first | refine spB_no (by decide) ?_
        | (with_reducible refine spB_dec ?_ ?_ <;> intro _ <;> (try (exfalso; first | contradiction | omega | (rename_i hz; refine hz ?_; simp; done) | (rename_i hz; simp at hz; done) | (simp only [LN] at *; omega))))
        | with_reducible first | refine Z.callZ_in tabOk 11 Try.f47 _ Try.func47 (by kernel_rfl) rfl rfl rfl ?_
        | ((first | (with_reducible refine Z.callZ_mk ?_ (cc) ?_)); (focus ((repeat' (first | exact trivial | exact Z.low_gslm (by first | rfl | exact Z.kb_some rfl) (fun _ => rfl) | apply And.intro)); done)))
        | ((with_reducible apply ex_and); exact rfl))
      all_goals (try (conv => whnf)))
    all_goals try (show Nat.ble _ _ = true; rfl)
    all_goals try (exfalso; rename_i hz; cases hz; done)
    all_goals try (exfalso; (try simp only [LN] at *) <;> omega)
    all_goals first
      | ((first | (with_reducible apply Z.retF2)); (focus (exact rfl)); (repeat' (first | exact trivial | (with_reducible apply Z.frz_one) | (with_reducible apply Z.frz_agg) | (with_reducible apply Z.fq_int) | (exact Z.frz_nil) | ((with_reducible apply Z.fq_gsl); (focus (first | exact Z.isB_map _)); (focus (exact fun _ => rfl))) | exact rfl | apply And.intro)); (all_goals (try exact (fun _ => none))); all_goals (first | (simp; done)))
  · rw [if_neg (fun h => hk h.1)]
    rw [show chkR acc = ((chkR acc).1, (chkR acc).2) from rfl] at cc
    generalize (chkR acc).2 = e9 at *
    generalize (chkR acc).1 = a9 at *
    repeat' ((conv => whnf); first
      | with_reducible first | refine spB_t ?_
      | ((with_reducible apply spB_cong); (focus (simp only [beq_self_eq_true, bne_self_eq_false, Bool.true_bne, Bool.false_bne, Bool.bne_true, Bool.bne_false, Bool.true_beq, Bool.false_beq, Bool.not_true, Bool.not_false, Bool.not_not, Int.reduceBEq, Int.reduceBNe, Int.reduceLE, Int.reduceLT, Int.reduceEq, decide_true, decide_false]; rfl)))
      | with_reducible first | refine spB_no (by decide) ?_
      | (with_reducible refine spB_dec ?_ ?_ <;> intro _ <;> (try (exfalso; first | contradiction | omega | (rename_i hz; refine hz ?_; simp; done) | (rename_i hz; simp at hz; done) | (simp only [LN] at *; omega))))
      | (with_reducible refine spB_bne ?_ ?_ <;> intro _ <;> (try (exfalso; first | contradiction | omega | (rename_i hz; refine hz ?_; simp; done) | (rename_i hz; simp at hz; done) | (simp only [LN] at *; omega))))
      | ((first | (with_reducible refine Z.callZ_mk ?_ (cc) ?_)); (focus ((repeat' (first | exact trivial | exact Z.low_gslm (by first | rfl | exact Z.kb_some rfl) (fun _ => rfl) | apply And.intro)); done))))
    all_goals (try (conv => whnf))
    all_goals try (show Nat.ble _ _ = true; rfl)
    all_goals try (exfalso; rename_i hz; cases hz; done)
    all_goals try (exfalso; (try simp only [LN] at *) <;> omega)
    all_goals first
      | ((first | (with_reducible apply Z.retF2)); (focus (exact rfl)); (repeat' (first | exact trivial | (with_reducible apply Z.frz_one) | (with_reducible apply Z.frz_agg) | (with_reducible apply Z.fq_int) | (exact Z.frz_nil) | exact rfl | apply And.intro)); (all_goals (try exact (fun _ => none))); all_goals (first | (simp; done)))

end Go.Proofs.Ytjjdfiapcpbapaa
namespace Go.Proofs.Ytjjdfiapcpbapaa
open Go Go.RowKit Wx
set_option linter.unusedVariables false
set_option linter.unusedSimpArgs false
set_option maxHeartbeats 4000000
end Go.Proofs.Ytjjdfiapcpbapaa
namespace Go.Proofs.Ytjjdfiapcpbapaa
open Go Go.RowKit Wx
set_option linter.unusedVariables false
set_option linter.unusedSimpArgs false
set_option maxHeartbeats 4000000
/-- Who reads an operator, from a place on. -/
def rdF (i : Int) : List Op → Nat → List Int
  | [], _ => []
  | o :: r, k => if (o.ins.any fun x => decide (x = i)) = true then (k : Int) :: rdF i r (k + 1) else rdF i r (k + 1)
theorem rdF_nil {i : Int} : ∀ (l : List Op) (k : Nat), (rdF i l k).length = 0 ↔ (l.any fun o => o.ins.any fun x => decide (x = i)) = false
  | [], _ => by simp [rdF]
  | o :: r, k => by
    rw [rdF, List.any_cons]
    cases (o.ins.any fun x => decide (x = i)) with
    | true => simp
    | false => simp only [Bool.false_eq_true, if_false, Bool.false_or]; exact rdF_nil r (k + 1)
end Go.Proofs.Ytjjdfiapcpbapaa
namespace Go.Proofs.Ytjjdfiapcpbapaa
open Go Go.RowKit Wx
set_option linter.unusedVariables false
set_option linter.unusedSimpArgs false
set_option maxHeartbeats 4000000
end Go.Proofs.Ytjjdfiapcpbapaa
namespace Go.Proofs.Ytjjdfiapcpbapaa
open Go Go.RowKit Wx
set_option linter.unusedVariables false
set_option linter.unusedSimpArgs false
set_option maxHeartbeats 4000000
end Go.Proofs.Ytjjdfiapcpbapaa
namespace Go.Proofs.Ytjjdfiapcpbapaa
open Go Go.RowKit Wx
set_option linter.unusedVariables false
set_option linter.unusedSimpArgs false
set_option maxHeartbeats 4000000
end Go.Proofs.Ytjjdfiapcpbapaa
namespace Go.Proofs.Ytjjdfiapcpbapaa
open Go Go.RowKit Wx
set_option linter.unusedVariables false
set_option linter.unusedSimpArgs false
set_option maxHeartbeats 4000000
end Go.Proofs.Ytjjdfiapcpbapaa
namespace Go.Proofs.Ytjjdfiapcpbapaa
open Go Go.RowKit Wx
set_option linter.unusedVariables false
set_option linter.unusedSimpArgs false
set_option maxHeartbeats 4000000
theorem fault_parts {ops : List Op} {j : Nat} {o : Op} (ho : ops[j]? = some o) (h : faultR ops j = 0) : aloneR o (j : Int) = true ∧ o.ins.any (isSnk ops) = false ∧ (o.tag = 6 → meetR ops o = false) := by
  unfold faultR at h
  rw [ho] at h
  simp only at h
  unfold faultW at h
  split at h
  · cases h
  · rename_i h1
    split at h
    · cases h
    · rename_i h2
      split at h
      · cases h
      · split at h
        · cases h
        · rename_i h4
          refine ⟨by cases ha : aloneR o (j : Int) with | true => rfl | false => exact absurd ha h1, by cases hb : o.ins.any (isSnk ops) with | false => rfl | true => exact absurd hb h2, fun h6 => ?_⟩
          cases hm : meetR ops o with
          | false => rfl
          | true => exact absurd ⟨h6, hm⟩ h4
theorem rdF_mem {i : Int} : ∀ (l : List Op) (k : Nat) (x : Int), x ∈ rdF i l k ↔ ∃ j o, l[j]? = some o ∧ x = ((k + j : Nat) : Int) ∧ i ∈ o.ins
  | [], k, x => by simp [rdF]
  | p :: r, k, x => by
    have ih := rdF_mem (i := i) r (k + 1) x
    have hany : ((p.ins.any fun x => decide (x = i)) = true) ↔ i ∈ p.ins := by simp
    constructor
    · intro h
      rw [rdF] at h
      split at h
      · rename_i hp
        rcases List.mem_cons.1 h with rfl | h
        · exact ⟨0, p, rfl, rfl, hany.1 hp⟩
        · obtain ⟨j, o, h1, h2, h3⟩ := ih.1 h
          exact ⟨j + 1, o, by simpa using h1, by rw [h2]; omega, h3⟩
      · obtain ⟨j, o, h1, h2, h3⟩ := ih.1 h
        exact ⟨j + 1, o, by simpa using h1, by rw [h2]; omega, h3⟩
    · rintro ⟨j, o, h1, h2, h3⟩
      rw [rdF]
      cases j with
      | zero =>
        simp only [List.getElem?_cons_zero, Option.some.injEq] at h1
        subst h1
        rw [if_pos (hany.2 h3)]
        exact List.mem_cons.2 (.inl (by rw [h2]; rfl))
      | succ j =>
        have := ih.2 ⟨j, o, by simpa using h1, by rw [h2]; omega, h3⟩
        split
        · exact List.mem_cons_of_mem _ this
        · exact this
theorem unrF_none {ops : List Op} : ∀ (l : List Op) (k : Nat), unrF ops l k = none → ∀ j o, l[j]? = some o → o.tag = 7 ∨ readB ops ((k + j : Nat) : Int) = true
  | [], k, _, j, o, h => by simp at h
  | p :: r, k, hu, j, o, h => by
    rw [unrF] at hu
    split at hu
    · cases hu
    · rename_i hc
      cases j with
      | zero =>
        simp only [List.getElem?_cons_zero, Option.some.injEq] at h
        subst h
        by_cases h7 : p.tag = 7
        · exact .inl h7
        · right
          cases hr : readB ops ((k + 0 : Nat) : Int) with
          | true => rfl
          | false => exact absurd ⟨h7, hr⟩ hc
      | succ j =>
        have := unrF_none r (k + 1) hu j o (by simpa using h)
        rwa [show k + 1 + j = k + (j + 1) by omega] at this
/-- Whoever is no sink is read, by those behind it. -/
theorem rd_next {ops : List Op} (hok : (chkR ops).2 = 0) {k : Nat} {o : Op} (ho : ops[k]? = some o) (h7 : o.tag ≠ 7) : ∃ r : Nat, (rdF (k : Int) ops 0)[0]? = some (r : Int) ∧ k < r ∧ r < ops.length := by
  obtain ⟨_, _, hf, hu⟩ := chk_ok hok
  rcases unrF_none ops 0 hu k o ho with h | h
  · exact absurd h h7
  · rw [Nat.zero_add] at h
    have hne : (rdF (k : Int) ops 0).length ≠ 0 := fun e => by
      have := (rdF_nil ops 0).1 e
      unfold readB at h
      rw [this] at h; cases h
    obtain ⟨x, hx⟩ := getElem?_some' (xs := rdF (k : Int) ops 0) (i := 0) (by omega)
    obtain ⟨j, p, h1, h2, h3⟩ := (rdF_mem _ _ _).1 (List.mem_of_getElem? hx)
    have hj := (List.getElem?_eq_some_iff.1 h1).1
    have hin := (alone_parts (fault_parts h1 (hf j hj)).1).2.2.1 _ h3
    refine ⟨j, ?_, by omega, hj⟩
    rw [hx, h2, Nat.zero_add]
end Go.Proofs.Ytjjdfiapcpbapaa
namespace Go.Proofs.Ytjjdfiapcpbapaa
open Go Go.RowKit Wx
set_option linter.unusedVariables false
set_option linter.unusedSimpArgs false
set_option maxHeartbeats 4000000
/-- An operator whose numbers are bytes where bytes are due. -/
def okO (o : Op) : Prop := (0 ≤ o.tag ∧ o.tag ≤ 255) ∧ (0 ≤ o.wid ∧ o.wid ≤ 255) ∧ (-9223372036854775808 ≤ o.a ∧ o.a ≤ 9223372036854775807) ∧ (-9223372036854775808 ≤ o.b ∧ o.b ≤ 9223372036854775807) ∧ o.ins.length ≤ 8 ∧ ∀ x ∈ o.ins, 0 ≤ x ∧ x ≤ 255
theorem map_mod {l : List Int} (h : ∀ x ∈ l, 0 ≤ x ∧ x ≤ 255) : l.map (· % 256) = l := by
  conv => rhs; rw [← List.map_id l]
  refine List.map_congr_left fun x hx => ?_
  have := h x hx
  show x % 256 = x
  omega
theorem encO_eq {o : Op} (h : okO o) : encO o = o.tag :: o.wid :: (be 8 (IntKind.u64.wrap o.a) ++ (be 8 (IntKind.u64.wrap o.b) ++ ((o.ins.length : Int) :: o.ins))) := by
  obtain ⟨h1, h2, _, _, h5, h6⟩ := h
  unfold encO
  rw [map_mod h6, show o.tag % 256 = o.tag by omega, show o.wid % 256 = o.wid by omega, show (o.ins.length : Int) % 256 = (o.ins.length : Int) by omega]
  simp
theorem drop16 {A B X : List Int} (ha : A.length = 8) (hb : B.length = 8) : (A ++ (B ++ X)).drop 16 = X := by
  rw [← List.append_assoc]
  exact List.drop_left' (by simp [ha, hb])
theorem dec1_enc {o : Op} (h : okO o) (T : List Int) : dec1 (encO o ++ T) = (o, 0, T) := by
  rw [encO_eq h]
  obtain ⟨h1, h2, h3, h4, h5, h6⟩ := h
  have l1 : (be 8 (IntKind.u64.wrap o.a)).length = 8 := be_len
  have l2 : (be 8 (IntKind.u64.wrap o.b)).length = 8 := be_len
  have n1 : numR (be 8 (IntKind.u64.wrap o.a)) = IntKind.u64.wrap o.a := numR_be (u64_rng _).1 (u64_rng _).2
  have n2 : numR (be 8 (IntKind.u64.wrap o.b)) = IntKind.u64.wrap o.b := numR_be (u64_rng _).1 (u64_rng _).2
  generalize be 8 (IntKind.u64.wrap o.a) = A at *
  generalize be 8 (IntKind.u64.wrap o.b) = B at *
  have e : (o.tag :: o.wid :: (A ++ (B ++ ((o.ins.length : Int) :: o.ins)))) ++ T = o.tag :: o.wid :: (A ++ (B ++ ((o.ins.length : Int) :: (o.ins ++ T)))) := by simp
  rw [e]
  simp only [dec1, drop16 l1 l2]
  rw [if_neg (by omega), if_neg (by simp), Int.toNat_natCast, List.take_left' rfl, List.drop_left' rfl, List.take_left' l1, List.drop_left' l1, List.take_left' l2, n1, n2, i64_u64 h3, i64_u64 h4]
theorem decN_enc : ∀ {L : List Op}, (∀ o ∈ L, okO o) → ∀ T : List Int, decN L.length (L.flatMap encO ++ T) = (L, 0, T)
  | [], _, T => rfl
  | o :: L, h, T => by
    rw [List.flatMap_cons, List.append_assoc, List.length_cons, decN, dec1_enc (h o (by simp)), decN_enc fun p hp => h p (by simp [hp])]
    rfl
theorem dec1_pre {o : Op} (h : okO o) {k : Nat} (hk : k < (encO o).length) : (dec1 ((encO o).take k)).2.1 = 7 := by
  rw [encO_len] at hk
  rw [encO_eq h]
  have l1 : (be 8 (IntKind.u64.wrap o.a)).length = 8 := be_len
  have l2 : (be 8 (IntKind.u64.wrap o.b)).length = 8 := be_len
  generalize be 8 (IntKind.u64.wrap o.a) = A at *
  generalize be 8 (IntKind.u64.wrap o.b) = B at *
  obtain ⟨h1, h2, h3, h4, h5, h6⟩ := h
  match k, hk with
  | 0, _ => rfl
  | 1, _ => rfl
  | k + 2, hk =>
    rw [List.take_succ_cons, List.take_succ_cons]
    have hd : ((A ++ (B ++ ((o.ins.length : Int) :: o.ins))).take k).drop 16 = ((o.ins.length : Int) :: o.ins).take (k - 16) := by
      rw [List.drop_take, drop16 l1 l2]
    simp only [dec1, hd]
    cases hc : k - 16 with
    | zero => rfl
    | succ m =>
      rw [List.take_succ_cons]
      simp only
      rw [if_neg (by omega), if_pos (by rw [List.length_take, Int.toNat_natCast]; omega)]
theorem decN_pre : ∀ {L : List Op}, (∀ o ∈ L, okO o) → ∀ {k : Nat}, k < (L.flatMap encO).length → (decN L.length ((L.flatMap encO).take k)).2.1 = 7
  | [], _, k, hk => by simp at hk
  | o :: L, h, k, hk => by
    rw [List.flatMap_cons, List.length_append] at hk
    rw [List.flatMap_cons, List.length_cons]
    have ho := h o (by simp)
    by_cases hl : k < (encO o).length
    · rw [List.take_append_of_le_length (by omega), decN, if_neg (by rw [dec1_pre ho hl]; decide)]
      exact dec1_pre ho hl
    · have e : (encO o ++ L.flatMap encO).take k = encO o ++ (L.flatMap encO).take (k - (encO o).length) := by
        rw [List.take_append, List.take_of_length_le (by omega)]
      have ih := decN_pre (L := L) (fun p hp => h p (by simp [hp])) (k := k - (encO o).length) (by omega)
      rw [e, decN, dec1_enc ho]
      simp only [if_true]
      rw [if_neg (by rw [ih]; decide)]
      exact ih
theorem ap3 {r : List Int} : r = r.take 8 ++ ((r.drop 8).take 8 ++ r.drop 16) := by
  conv => lhs; rw [← List.take_append_drop 8 r, ← List.take_append_drop 8 (r.drop 8), List.drop_drop]
theorem num8 {l : List Int} (hl : l.length = 8) (hB : isB l) : be 8 (IntKind.u64.wrap (IntKind.i64.wrap (numR l))) = l := by
  have h := numR_lt hl hB
  rw [u64_i64 ⟨h.1, by have := h.2; simpa using this⟩, be_numR hl hB]
theorem i64_rng (z : Int) : -9223372036854775808 ≤ IntKind.i64.wrap z ∧ IntKind.i64.wrap z ≤ 9223372036854775807 := by
  simp [IntKind.wrap, IntKind.bits, IntKind.signed]
  omega
theorem dec1_inv {b : List Int} (hB : isB b) {o : Op} {r : List Int} (h : dec1 b = (o, 0, r)) : b = encO o ++ r ∧ okO o ∧ isB r := by
  match b, hB, h with
  | [], _, h => simp [dec1] at h
  | [_], _, h => simp [dec1] at h
  | t :: w :: r0, hB, h =>
    have ht := hB t (by simp)
    have hw := hB w (by simp)
    have hBr : isB r0 := fun x hx => hB x (by simp [hx])
    simp only [dec1] at h
    cases hd : r0.drop 16 with
    | nil => rw [hd] at h; simp at h
    | cons n q =>
      rw [hd] at h
      simp only at h
      have hl : 16 < r0.length := by have := congrArg List.length hd; simp at this; omega
      have hBd : isB (n :: q) := hd ▸ isB_drop hBr
      have hn := hBd n (by simp)
      have hBq : isB q := fun x hx => hBd x (by simp [hx])
      split at h
      · simp at h
      · split at h
        · simp at h
        · rename_i h8 hq
          simp only [Prod.mk.injEq, true_and] at h
          obtain ⟨rfl, rfl⟩ := h
          have hok : okO ⟨t, w, q.take n.toNat, IntKind.i64.wrap (numR (r0.take 8)), IntKind.i64.wrap (numR ((r0.drop 8).take 8))⟩ := ⟨ht, hw, i64_rng _, i64_rng _, by simp only [List.length_take]; omega, fun x hx => hBq x (List.mem_of_mem_take hx)⟩
          refine ⟨?_, hok, isB_drop hBq⟩
          rw [encO_eq hok]
          simp only
          rw [num8 (by rw [List.length_take]; omega) (isB_take hBr), num8 (by rw [List.length_take, List.length_drop]; omega) (isB_take (isB_drop hBr))]
          have e : ((q.take n.toNat).length : Int) = n := by rw [List.length_take]; omega
          rw [e]
          conv => lhs; rw [@ap3 r0, hd]
          simp
theorem decN_inv : ∀ {n : Nat} {b : List Int} {L : List Op} {r : List Int}, isB b → decN n b = (L, 0, r) → b = L.flatMap encO ++ r ∧ L.length = n ∧ ∀ o ∈ L, okO o
  | 0, b, L, r, _, h => by
    simp only [decN, Prod.mk.injEq, true_and] at h
    obtain ⟨rfl, rfl⟩ := h
    exact ⟨rfl, rfl, fun o ho => nomatch ho⟩
  | n + 1, b, L, r, hB, h => by
    rw [decN] at h
    split at h
    · rename_i h1
      split at h
      · rename_i h2
        simp only [Prod.mk.injEq, true_and] at h
        obtain ⟨rfl, rfl⟩ := h
        obtain ⟨e1, e2, e3⟩ := dec1_inv hB (o := (dec1 b).1) (r := (dec1 b).2.2) (by rw [← h1])
        obtain ⟨i1, i2, i3⟩ := decN_inv e3 (L := (decN n (dec1 b).2.2).1) (r := (decN n (dec1 b).2.2).2.2) (by rw [← h2])
        refine ⟨?_, by rw [List.length_cons, i2], fun o ho => ?_⟩
        · rw [List.flatMap_cons, List.append_assoc, ← i1]
          exact e1
        · rcases List.mem_cons.1 ho with rfl | h
          · exact e2
          · exact i3 o h
      · rename_i h2
        simp only [Prod.mk.injEq] at h
        exact absurd h.2.1 h2
    · rename_i h1
      simp only [Prod.mk.injEq] at h
      exact absurd h.2.1 h1
/-- An operator of a graph that may be, whose numbers are numbers of 64 bits. -/
theorem rise_len : ∀ {l : List Int} {last lim : Int}, last < lim → rise last lim l = true → (l.length : Int) ≤ lim - last - 1
  | [], _, _, h, _ => by simp; omega
  | x :: r, last, lim, h, hr => by
    rw [rise, Bool.and_eq_true, decide_eq_true_eq] at hr
    have := rise_len hr.1.2 hr.2
    simp only [List.length_cons]
    omega
theorem chk_okO {L : List Op} (hok : (chkR L).2 = 0) (hab : ∀ o ∈ L, (-9223372036854775808 ≤ o.a ∧ o.a ≤ 9223372036854775807) ∧ (-9223372036854775808 ≤ o.b ∧ o.b ≤ 9223372036854775807)) : ∀ o ∈ L, okO o := by
  intro o ho
  obtain ⟨h0, h8, hf, _⟩ := chk_ok hok
  obtain ⟨j, hj, hx⟩ := List.mem_iff_getElem.1 ho
  have hjo : L[j]? = some o := by rw [List.getElem?_eq_getElem hj, hx]
  have ha := (fault_parts hjo (hf j hj)).1
  obtain ⟨p1, p2, p3, p4⟩ := alone_parts ha
  have hr : rise (-1) (j : Int) o.ins = true := by
    unfold aloneR at ha
    simp only [Bool.and_eq_true] at ha
    exact ha.1.2
  have hl := rise_len (by omega) hr
  have ht : 1 ≤ o.tag ∧ o.tag ≤ 7 := by
    unfold tagOk at p4
    have := of_decide_eq_true p4
    omega
  exact ⟨by omega, by omega, (hab o ho).1, (hab o ho).2, by omega, fun x hx => by have := p3 x hx; omega⟩
theorem encG_eq {L : List Op} (h8 : L.length ≤ 8) : encG L = (L.length : Int) :: L.flatMap encO := by
  unfold encG
  rw [show (L.length : Int) % 256 = (L.length : Int) by omega]
theorem dec_back {L : List Op} (hok : (chkR L).2 = 0) (ho : ∀ o ∈ L, okO o) : decR (encG L) = (L, 0) := by
  obtain ⟨h0, h8, _, _⟩ := chk_ok hok
  have h := decN_enc ho []
  rw [List.append_nil] at h
  rw [encG_eq h8]
  show (if 8 < (L.length : Int) then _ else _) = _
  rw [if_neg (by omega), Int.toNat_natCast, h, if_pos rfl, if_pos ⟨hok, rfl⟩]
theorem dec_more {L : List Op} (hok : (chkR L).2 = 0) (ho : ∀ o ∈ L, okO o) : decR (encG L ++ [0]) = ([], 160) := by
  obtain ⟨h0, h8, _, _⟩ := chk_ok hok
  have h := decN_enc ho [0]
  rw [encG_eq h8, List.cons_append]
  show (if 8 < (L.length : Int) then _ else _) = _
  rw [if_neg (by omega), Int.toNat_natCast, h, if_pos rfl, if_neg (by simp)]
theorem dec_less {L : List Op} (hok : (chkR L).2 = 0) (ho : ∀ o ∈ L, okO o) {k : Nat} (hk : k < (encG L).length) : decR ((encG L).take k) = ([], 7) := by
  obtain ⟨h0, h8, _, _⟩ := chk_ok hok
  rw [encG_eq h8] at hk ⊢
  rw [List.length_cons] at hk
  cases k with
  | zero => rfl
  | succ k =>
    have h := decN_pre ho (k := k) (by omega)
    rw [List.take_succ_cons]
    show (if 8 < (L.length : Int) then _ else _) = _
    rw [if_neg (by omega), Int.toNat_natCast, if_neg (by rw [h]; decide), h]
theorem dec1_err {b : List Int} (h : (dec1 b).2.1 ≠ 0) : (dec1 b).2.1 = 7 ∨ (dec1 b).2.1 = 160 := by
  match b, h with
  | [], _ => exact .inl rfl
  | [_], _ => exact .inl rfl
  | t :: w :: r, h =>
    simp only [dec1] at h ⊢
    split
    · exact .inl rfl
    · split
      · exact .inr rfl
      · split
        · exact .inl rfl
        · rename_i hd h8 hq
          rw [hd] at h
          simp only at h
          rw [if_neg h8, if_neg hq] at h
          exact absurd rfl h
theorem decN_err : ∀ (n : Nat) (b : List Int), (decN n b).2.1 ≠ 0 → (decN n b).2.1 = 7 ∨ (decN n b).2.1 = 160
  | 0, _, h => absurd rfl h
  | n + 1, b, h => by
    rw [decN] at h ⊢
    split
    · rename_i h1
      rw [if_pos h1] at h
      split
      · rename_i h2; rw [if_pos h2] at h; exact absurd rfl h
      · rename_i h2; exact decN_err n _ h2
    · rename_i h1; exact dec1_err h1
/-- What Decode tells of whatever bytes. -/
theorem dec_any {b : List Int} (hB : isB b) : ((decR b).2 = 0 ∧ encR (decR b).1 = (b, 0) ∧ (decR b).1.length ≤ 8 ∧ ∀ o ∈ (decR b).1, okO o) ∨ ((decR b).1 = [] ∧ ((decR b).2 = 7 ∨ (decR b).2 = 160)) := by
  match b, hB with
  | [], _ => exact .inr ⟨rfl, .inl rfl⟩
  | n :: r, hB =>
    have hn := hB n (by simp)
    have hBr : isB r := fun x hx => hB x (by simp [hx])
    have hd : decR (n :: r) = if 8 < n then ([], 160) else if (decN n.toNat r).2.1 = 0 then (if (chkR (decN n.toNat r).1).2 = 0 ∧ (decN n.toNat r).2.2 = [] then ((decN n.toNat r).1, 0) else ([], 160)) else ([], (decN n.toNat r).2.1) := rfl
    rw [hd]
    by_cases h8 : 8 < n
    · rw [if_pos h8]; exact .inr ⟨rfl, .inr rfl⟩
    · rw [if_neg h8]
      by_cases h1 : (decN n.toNat r).2.1 = 0
      · rw [if_pos h1]
        by_cases h2 : (chkR (decN n.toNat r).1).2 = 0 ∧ (decN n.toNat r).2.2 = []
        · rw [if_pos h2]
          obtain ⟨e1, e2, e3⟩ := decN_inv hBr (L := (decN n.toNat r).1) (r := (decN n.toNat r).2.2) (by rw [← h1])
          rw [h2.2, List.append_nil] at e1
          refine .inl ⟨rfl, ?_, by simp only; omega, e3⟩
          unfold encR
          simp only
          rw [if_pos h2.1, encG_eq (by omega), e2, ← e1, Int.toNat_of_nonneg hn.1]
        · rw [if_neg h2]; exact .inr ⟨rfl, .inr rfl⟩
      · rw [if_neg h1]
        refine .inr ⟨rfl, ?_⟩
        exact decN_err _ _ h1
theorem isB_app {l : List Int} (h : isB l) : isB (l ++ [0]) := fun x hx => by
  rcases List.mem_append.1 hx with h1 | h1
  · exact h x h1
  · rw [List.mem_singleton.1 h1]; decide
theorem encO_isB {o : Op} (h : okO o) : isB (encO o) := by
  rw [encO_eq h]
  intro x hx
  obtain ⟨h1, h2, _, _, h5, h6⟩ := h
  simp only [List.mem_cons, List.mem_append] at hx
  rcases hx with rfl | rfl | hx | hx | rfl | hx
  · exact h1
  · exact h2
  · exact be_isB x hx
  · exact be_isB x hx
  · omega
  · exact h6 x hx
theorem enc_isB {L : List Op} (hok : (chkR L).2 = 0) (ho : ∀ o ∈ L, okO o) : isB (encG L) := by
  obtain ⟨h0, h8, _, _⟩ := chk_ok hok
  rw [encG_eq h8]
  intro x hx
  rcases List.mem_cons.1 hx with rfl | hx
  · omega
  · obtain ⟨o, hm, hx⟩ := List.mem_flatMap.1 hx
    exact encO_isB (ho o hm) x hx
end Go.Proofs.Ytjjdfiapcpbapaa
namespace Go.Proofs.Ytjjdfiapcpbapaa
open Go Go.RowKit Wx
set_option linter.unusedVariables false
set_option linter.unusedSimpArgs false
set_option maxHeartbeats 4000000
theorem encodeO_con (ops : List Op) (hins : ∀ o ∈ ops, o.ins.length ≤ 1000) (hol : ops.length ≤ 1000) (hok : (chkR ops).2 = 0) : Con Try.prog 24 [.agg [.ro false 5 (ops.map eO)]] (fun rx rK rt => rx = .tup [.one (.osl 0 0 (encG ops).length none), .one (.v (.int .i64 0))] ∧ rK = [(0, some ⟨(encG ops).map cB, 1, 5, false⟩)] ∧ rt = 1) := by
  refine Z.con_ofZ tabOk 72 Try.f24 _ Try.func24 (by kernel_rfl) rfl rfl rfl rfl ?_
  have cc := check_con ops hins hol
  have e1 : encR ops = (encG ops, 0) := by unfold encR; rw [if_pos hok]
  rw [hok] at cc
  have hen := encs_len hins (((List.map eO ops).length : Int) % 256)
  repeat' ((conv => whnf); first
    | ((with_reducible apply spB_cong); (focus (simp only [beq_self_eq_true, bne_self_eq_false, Bool.true_bne, Bool.false_bne, Bool.bne_true, Bool.bne_false, Bool.true_beq, Bool.false_beq, Bool.not_true, Bool.not_false, Bool.not_not, Int.reduceBEq, Int.reduceBNe, Int.reduceLE, Int.reduceLT, Int.reduceEq, decide_true, decide_false]; rfl)))
    | with_reducible first | refine spB_no (by decide) ?_
    | with_reducible first | refine wr_mod8 ?_
    | ((first | (with_reducible refine Z.callZ_mk ?_ (cc) ?_)); (focus ((repeat' (first | exact trivial | exact rfl | apply And.intro)); done))))
  all_goals (try (conv => whnf))
  all_goals try (show Nat.ble _ _ = true; rfl)
  all_goals try (exfalso; rename_i hz; cases hz; done)
  all_goals try (exfalso; (try simp only [LN] at *) <;> omega)
  refine Z.loopK tabOk (fun zq : Nat => [(27, .val (.int .i64 (zq : Int))), (6, .c (.osl 1 0 ((((List.map eO ops).length : Int) % 256) :: (ops.take zq).flatMap encO).length none))]) (fun zq : Nat => ([(1, some (Z.Ob.b ⟨((((List.map eO ops).length : Int) % 256) :: (ops.take zq).flatMap encO).map cB, 1, 5, false⟩))] : Z.Kr)) (fun zq => zq ≤ ops.length) (fun zq => ops.length - zq) 0 2 [(25, _), (26, _)] ⟨rfl, rfl, trivial⟩ [(0, some _)] ⟨rfl, trivial⟩ ?_ ?_ rfl rfl (Nat.zero_le _) ?_
  · repeat' (first | exact trivial | apply And.intro | exact ⟨_, rfl, Z.Imp.refl _⟩ | exact ⟨_, rfl, Z.Imp.oslcn (by simp)⟩)
  · repeat' (first | exact trivial | exact (fun b hb => ⟨b, hb, Z.ImpO.refl b⟩) | apply And.intro)
  rintro k HINV
  (try dsimp only at HINV); (try dsimp only)
  have hek := hen k
  by_cases hi : k < ops.length
  · obtain ⟨x, hx⟩ := getElem?_some' (xs := ops) (i := k) hi
    have hxl := hins x (List.mem_of_getElem? hx)
    have hsn := encs_snoc hx
    generalize hE : ((((List.map eO ops).length : Int) % 256) :: (ops.take k).flatMap encO) = E at *
    have cp1 := putO64_con (E ++ [x.tag % 256, x.wid % 256]) (IntKind.u64.wrap x.a) (by simp; omega) (u64_rng _)
    have cp2 := putO64_con (E ++ [x.tag % 256, x.wid % 256] ++ be 8 (IntKind.u64.wrap x.a)) (IntKind.u64.wrap x.b) (by simp [be_len]; omega) (u64_rng _)
    have hb1 : (be 8 (IntKind.u64.wrap x.a)).length = 8 := be_len
    have hb2 : (be 8 (IntKind.u64.wrap x.b)).length = 8 := be_len
    repeat' ((conv => whnf); first
      | (with_reducible refine spB_dec ?_ ?_ <;> intro _ <;> (try (exfalso; first | contradiction | omega | (rename_i hz; refine hz ?_; simp; done) | (rename_i hz; simp at hz; done) | (simp only [LN] at *; omega))))
      | with_reducible first | refine Z.rowN_known hx ?_
      | ((with_reducible refine apdE_n ?_); (with_reducible refine apdN.mk ?_ ?_ ?_ ?_ ?_ ?_); (focus rfl); (focus (exact one_all (by rfl))); (focus (first | (show _ ≤ (List.map (List.map (Ce.ren _)) (List.map cB _)).length; simp only [List.length_map, List.length_append, be_len]; exact Nat.le_refl _) | ((try simp only [LN] at *) <;> omega))); (iterate 2 (focus ((try simp only [LN] at *) <;> omega))))
      | with_reducible first | refine wr_mod8 ?_
      | ((with_reducible apply ixN_litp); (focus (exact rfl)); (focus ((try simp only [LN] at *) <;> omega)))
      | with_reducible first | refine wr_mk _ rfl ?_
      | ((first | (with_reducible refine Z.callZ_mk ?_ (cp1) ?_)); (focus ((repeat' (first | exact trivial | ((apply low_by); (focus (exact rfl)); (focus (first | exact tk_app rfl rfl)); (focus (first | (simp [be_len]; done)))) | exact rfl | apply And.intro)); done)))
      | ((first | (with_reducible refine Z.callZ_mk ?_ (cp2) ?_)); (focus ((repeat' (first | exact trivial | ((apply low_by); (focus (exact rfl)); (focus (first | exact ren_cB)); (focus (first | (simp [be_len]; done)))) | exact rfl | apply And.intro)); done))))
    all_goals (try (conv => whnf))
    all_goals try (show Nat.ble _ _ = true; rfl)
    all_goals try (exfalso; rename_i hz; cases hz; done)
    all_goals try (exfalso; (try simp only [LN] at *) <;> omega)
    have HI0 : ∀ r : Nat → Nat, List.take ((E ++ [x.tag % 256, x.wid % 256] ++ be 8 (IntKind.u64.wrap x.a)).length + 8) (List.map (List.map (Ce.ren r)) (List.map cB (E ++ [x.tag % 256, x.wid % 256] ++ be 8 (IntKind.u64.wrap x.a) ++ be 8 (IntKind.u64.wrap x.b)))) ++ [cB (((List.map eI x.ins).length : Int) % 256)] = List.map cB (E ++ [x.tag % 256, x.wid % 256] ++ be 8 (IntKind.u64.wrap x.a) ++ be 8 (IntKind.u64.wrap x.b) ++ [((List.map eI x.ins).length : Int) % 256] ++ (x.ins.take 0).map (· % 256)) := fun r => (tk_appr (T := [((List.map eI x.ins).length : Int) % 256]) (S := [cB (((List.map eI x.ins).length : Int) % 256)]) rfl (by simp [be_len])).trans (by simp)
    refine Z.loopK tabOk (fun zq : Nat => [(60, .val (.int .i64 (zq : Int))), (6, .c (.osl 8 0 (E ++ [x.tag % 256, x.wid % 256] ++ be 8 (IntKind.u64.wrap x.a) ++ be 8 (IntKind.u64.wrap x.b) ++ [((List.map eI x.ins).length : Int) % 256] ++ (x.ins.take zq).map (· % 256)).length none))]) (fun zq : Nat => ([(8, some (Z.Ob.b ⟨(E ++ [x.tag % 256, x.wid % 256] ++ be 8 (IntKind.u64.wrap x.a) ++ be 8 (IntKind.u64.wrap x.b) ++ [((List.map eI x.ins).length : Int) % 256] ++ (x.ins.take zq).map (· % 256)).map cB, 1, 5, false⟩))] : Z.Kr)) (fun zq => zq ≤ x.ins.length) (fun zq => x.ins.length - zq) 0 9 [(25, _), (26, _), (27, _), (58, _), (59, _)] ⟨rfl, rfl, rfl, rfl, rfl, trivial⟩ [(0, some _)] ⟨rfl, trivial⟩ ?_ ?_ rfl rfl (Nat.zero_le _) ?_
    · repeat' (first | exact trivial | apply And.intro | exact ⟨_, rfl, Z.Imp.refl _⟩ | exact ⟨_, rfl, Z.Imp.oslcn (by simp [be_len])⟩)
    · repeat' (first | exact trivial | (intro b hb; cases hb; refine ⟨_, rfl, ⟨rfl, rfl, rfl⟩, Z.imp_eq ?_⟩; first | rfl | exact HI0 _; done) | apply And.intro)
    rintro q HINV
    (try dsimp only at HINV); (try dsimp only)
    by_cases hq : q < x.ins.length
    · obtain ⟨y, hy⟩ := getElem?_some' (xs := x.ins) (i := q) hq
      have haq : (E ++ [x.tag % 256, x.wid % 256] ++ be 8 (IntKind.u64.wrap x.a) ++ be 8 (IntKind.u64.wrap x.b) ++ [((List.map eI x.ins).length : Int) % 256] ++ (x.ins.take (q + 1)).map (· % 256)) = (E ++ [x.tag % 256, x.wid % 256] ++ be 8 (IntKind.u64.wrap x.a) ++ be 8 (IntKind.u64.wrap x.b) ++ [((List.map eI x.ins).length : Int) % 256] ++ (x.ins.take q).map (· % 256)) ++ [y % 256] := by rw [take_snoc hy, List.map_append, ← List.append_assoc]; rfl
      have haql : (E ++ [x.tag % 256, x.wid % 256] ++ be 8 (IntKind.u64.wrap x.a) ++ be 8 (IntKind.u64.wrap x.b) ++ [((List.map eI x.ins).length : Int) % 256] ++ (x.ins.take q).map (· % 256)).length + 1 = (E ++ [x.tag % 256, x.wid % 256] ++ be 8 (IntKind.u64.wrap x.a) ++ be 8 (IntKind.u64.wrap x.b) ++ [((List.map eI x.ins).length : Int) % 256] ++ (x.ins.take (q + 1)).map (· % 256)).length := by rw [haq, List.length_append (bs := [y % 256])]; rfl
      have haqb : (E ++ [x.tag % 256, x.wid % 256] ++ be 8 (IntKind.u64.wrap x.a) ++ be 8 (IntKind.u64.wrap x.b) ++ [((List.map eI x.ins).length : Int) % 256] ++ (x.ins.take q).map (· % 256)).length ≤ 2000000 := by simp only [List.length_append, List.length_map, List.length_take, be_len, List.length_cons, List.length_nil]; omega
      generalize hAq : (E ++ [x.tag % 256, x.wid % 256] ++ be 8 (IntKind.u64.wrap x.a) ++ be 8 (IntKind.u64.wrap x.b) ++ [((List.map eI x.ins).length : Int) % 256] ++ (x.ins.take q).map (· % 256)) = Aq at *
      repeat' ((conv => whnf); first
        | (with_reducible refine spB_dec ?_ ?_ <;> intro _ <;> (try (exfalso; first | contradiction | omega | (rename_i hz; refine hz ?_; simp; done) | (rename_i hz; simp at hz; done) | (simp only [LN] at *; omega))))
        | with_reducible first | refine Z.rowN_known hy ?_
        | ((with_reducible refine apdE_n ?_); (with_reducible refine apdN.mk ?_ ?_ ?_ ?_ ?_ ?_); (focus rfl); (focus (exact one_all (by rfl))); (focus (first | ((try simp only [LN] at *) <;> omega))); (iterate 2 (focus ((try simp only [LN] at *) <;> omega))))
        | with_reducible first | refine wr_mod8 ?_
        | ((with_reducible apply ixN_litp); (focus (exact rfl)); (focus ((try simp only [LN] at *) <;> omega)))
        | with_reducible refine wr_i64 (by first | omega | (simp only [LN] at *; omega)) ?_)
      all_goals (try (conv => whnf))
      all_goals try (show Nat.ble _ _ = true; rfl)
      all_goals try (exfalso; rename_i hz; cases hz; done)
      all_goals try (exfalso; (try simp only [LN] at *) <;> omega)
      all_goals first
        | ((refine Z.rndK ((q + 1)) (fun s => [0, 1, 2, 3, 4, 5, 6, 7, s.idAt 6]) rfl rfl rfl rfl ?_ ?_ ?_ ?_); (focus (repeat' (first | exact trivial | exact congrArg (fun n => some (AV.c (Ce.osl _ 0 n none))) haql | exact rfl | apply And.intro))); (focus (repeat' (first | exact trivial | exact Z.blk_sub rfl ((tk_app (T := [y % 256]) rfl rfl).trans (congrArg (List.map cB) haq.symm)) (ren_map fun _ => rfl) | (intro b hb; cases hb; rfl) | apply And.intro))); (focus ((try dsimp only); omega)); ((try dsimp only); omega))
    have hql : q = x.ins.length := by omega
    subst hql
    rw [List.take_length]
    have hAe : E ++ [x.tag % 256, x.wid % 256] ++ be 8 (IntKind.u64.wrap x.a) ++ be 8 (IntKind.u64.wrap x.b) ++ [((List.map eI x.ins).length : Int) % 256] ++ x.ins.map (· % 256) = ((((List.map eO ops).length : Int) % 256) :: (ops.take (k + 1)).flatMap encO) := by rw [hsn, ← List.cons_append, hE, encO, List.length_map]; simp only [List.append_assoc]
    rw [hAe]
    repeat' ((conv => whnf); first
      | (with_reducible refine spB_dec ?_ ?_ <;> intro _ <;> (try (exfalso; first | contradiction | omega | (rename_i hz; refine hz ?_; simp; done) | (rename_i hz; simp at hz; done) | (simp only [LN] at *; omega))))
      | with_reducible refine wr_i64 (by first | omega | (simp only [LN] at *; omega)) ?_)
    all_goals (try (conv => whnf))
    all_goals try (show Nat.ble _ _ = true; rfl)
    all_goals try (exfalso; rename_i hz; cases hz; done)
    all_goals try (exfalso; (try simp only [LN] at *) <;> omega)
    all_goals first
      | ((refine Z.rndK ((k + 1)) (fun s => [0, s.idAt 6]) rfl rfl rfl rfl ?_ ?_ ?_ ?_); (focus (repeat' (first | exact trivial | exact rfl | apply And.intro))); (focus (repeat' (first | exact trivial | (intro b hb; cases hb; rfl) | exact Z.blk_sub rfl rfl (ren_map fun _ => rfl) | apply And.intro))); (focus ((try dsimp only); omega)); ((try dsimp only); omega))
  have hkl : k = ops.length := by omega
  subst hkl
  rw [List.take_length, List.length_map]
  rw [show (((ops.length : Int) % 256) :: ops.flatMap encO) = encG ops from rfl]
  repeat' ((conv => whnf); first
    | (with_reducible refine spB_dec ?_ ?_ <;> intro _ <;> (try (exfalso; first | contradiction | omega | (rename_i hz; refine hz ?_; simp; done) | (rename_i hz; simp at hz; done) | (simp only [LN] at *; omega)))))
  all_goals (try (conv => whnf))
  all_goals try (show Nat.ble _ _ = true; rfl)
  all_goals try (exfalso; rename_i hz; cases hz; done)
  all_goals try (exfalso; (try simp only [LN] at *) <;> omega)
  all_goals first
    | (refine ret1b 1 (.tup [.one (.osl 0 0 (encG ops).length none), .one (.v (.int .i64 0))]) ((encG ops).map cB) 1 5 false _ rfl rfl rfl rfl ren_cB rfl (own_map fun _ => rfl) ⟨rfl, rfl, rfl⟩)

end Go.Proofs.Ytjjdfiapcpbapaa
namespace Go.Proofs.Ytjjdfiapcpbapaa
open Go Go.RowKit Wx
set_option linter.unusedVariables false
set_option linter.unusedSimpArgs false
set_option maxHeartbeats 4000000
theorem bq_con (a : List Int) (hl : a.length ≤ 9223372036854775807) : Con Try.prog 25 [.one (.ro false 1 (a.map eB)), .one (.ro false 1 (a.map eB))] (fun rx rK rt => rx = .val (.bool true) ∧ rK = [] ∧ rt = 0) := by
  refine Z.con_ofF tabOk 10 Try.f25 _ Try.func25 (by kernel_rfl) rfl rfl rfl rfl ?_
  repeat' ((conv => whnf); first
    | ((with_reducible refine strN_src ?_ ?_ ?_); (focus (exact fun _ => rfl)); (focus ((try simp only [LN] at *) <;> omega))))
  all_goals (try (conv => whnf))
  all_goals try (show Nat.ble _ _ = true; rfl)
  all_goals first
    | ((first | (with_reducible apply Z.retF1)); (focus (exact rfl)); (repeat' (first | exact trivial | (with_reducible apply Z.frz_one) | (with_reducible apply Z.fq_bool) | apply And.intro)); (all_goals (try exact (fun _ => none))); all_goals (first | (simp; done)))

end Go.Proofs.Ytjjdfiapcpbapaa
namespace Go.Proofs.Ytjjdfiapcpbapaa
open Go Go.RowKit Wx
set_option linter.unusedVariables false
set_option linter.unusedSimpArgs false
set_option maxHeartbeats 4000000
theorem op_ext {x y : Op} (h1 : x.tag = y.tag) (h2 : x.wid = y.wid) (h3 : x.ins = y.ins) (h4 : x.a = y.a) (h5 : x.b = y.b) : x = y := by
  cases x; cases y; simp only at h1 h2 h3 h4 h5; subst h1 h2 h3 h4 h5; rfl
theorem equal_con (a b : List Int) (hla : a.length ≤ 9223372036854775807)  : Con Try.prog 30 [.one (.ro false 1 (a.map eI)), .one (.ro false 1 (b.map eI))] (fun rx rK rt => rx = .val (.bool (decide (a = b))) ∧ rK = [] ∧ rt = 0) := by
  refine Z.con_ofF tabOk 26 Try.f30 _ Try.func30 (by kernel_rfl) rfl rfl rfl rfl ?_
  repeat' ((conv => whnf); first
    | (with_reducible refine spB_bne ?_ ?_ <;> intro _ <;> (try (exfalso; first | contradiction | omega | (rename_i hz; with_reducible exact absurd rfl hz)))))
  all_goals (try (conv => whnf))
  all_goals try ((first | (with_reducible apply Z.retF1)); (focus (exact rfl)); (repeat' (first | exact trivial | (with_reducible apply Z.frz_one) | (with_reducible apply Z.fq_bool) | apply And.intro)); (all_goals (try exact (fun _ => none))); all_goals (exact bool_f (ne_len (by simp only [LN] at *; omega))))
  refine Z.loopK tabOk (fun zq : Nat => [(13, .val (.int .i64 (zq : Int)))]) (fun zq : Nat => ([] : Z.Kr)) (fun zq => zq ≤ a.length ∧ a.length = b.length ∧ a.take zq = b.take zq) (fun zq => a.length - zq) 0 0 [(0, _), (1, _), (12, _)] ⟨rfl, rfl, rfl, trivial⟩ [] trivial ?_ ?_ rfl rfl ⟨Nat.zero_le _, by simp only [LN] at *; omega, rfl⟩ ?_
  · repeat' (first | exact trivial | apply And.intro | exact ⟨_, rfl, Z.Imp.refl _⟩)
  · repeat' (first | exact trivial)
  rintro i HINV
  dsimp only at HINV ⊢
  obtain ⟨HI, HL, HT⟩ := HINV
  repeat' ((conv => whnf); first
    | (with_reducible refine spB_dec ?_ ?_ <;> intro _ <;> (try (exfalso; first | contradiction | omega | (rename_i hz; with_reducible exact absurd rfl hz))))
    | (with_reducible refine spB_bne ?_ ?_ <;> intro _ <;> (try (exfalso; first | contradiction | omega | (rename_i hz; with_reducible exact absurd rfl hz))))
    | ((with_reducible apply ixN_litp); (focus (exact rfl)); (focus ((try simp only [LN] at *) <;> omega)))
    | with_reducible refine wr_i64 (by first | omega | (simp only [LN] at *; omega)) ?_
    | ((with_reducible refine rowN_map ?_ ?_); (focus ((try simp only [LN] at *) <;> omega)); intro x hx)
    | with_reducible first | refine Z.drawZ_rule tabOk mixOk ?_ | refine Z.apZ_mk (by kernel_rfl) ?_)
  all_goals (try (conv => whnf))
  all_goals first
    | ((refine Z.rndK (i + 1) (fun s => []) rfl rfl rfl rfl ?_ ?_ ?_ ?_); (focus (repeat' (first | exact trivial | exact rfl | apply And.intro))); (focus (repeat' (first | exact trivial))); (focus (refine ⟨by simp only [LN] at *; omega, HL, eq_step HT (by assumption) (by assumption) ?_⟩; (first | assumption))); (try simp only [LN] at *); (try dsimp only); omega)
    | ((first | (with_reducible apply Z.retF1)); (focus (exact rfl)); (repeat' (first | exact trivial | (with_reducible apply Z.frz_one) | (with_reducible apply Z.fq_bool) | apply And.intro)); (all_goals (try exact (fun _ => none))); all_goals (first | exact bool_t (eq_end HL HT (by simp only [LN] at *; omega)) | (refine bool_f (ne_at (by assumption) (by assumption) ?_); intro e; subst e; first | contradiction | (simp_all; done))))

theorem samefn_con (x y : Op) (hx : x.ins.length ≤ 9223372036854775807) : Con Try.prog 36 [.agg [.v (.int .i64 x.tag), .v (.int .i64 x.wid), .ro false 1 (x.ins.map eI), .v (.int .i64 x.a), .v (.int .i64 x.b)], .agg [.v (.int .i64 y.tag), .v (.int .i64 y.wid), .ro false 1 (y.ins.map eI), .v (.int .i64 y.a), .v (.int .i64 y.b)]] (fun rx rK rt => rx = .val (.bool (decide (x = y))) ∧ rK = [] ∧ rt = 0) := by
  refine Z.con_ofF tabOk 38 Try.f36 _ Try.func36 (by kernel_rfl) rfl rfl rfl rfl ?_
  have ce := equal_con x.ins y.ins hx
  repeat' ((conv => whnf); first
    | with_reducible first | refine spB_t ?_
    | with_reducible first | refine spB_no (by decide) ?_
    | (with_reducible refine spB_beq ?_ ?_ <;> intro _ <;> (try (exfalso; first | contradiction | omega | (rename_i hz; refine hz ?_; simp; done) | (rename_i hz; simp at hz; done) | (simp only [LN] at *; omega))))
    | ((first | (with_reducible refine Z.callZ_mk ?_ (ce) ?_)); (focus ((repeat' (first | exact trivial | exact rfl | apply And.intro)); done))))
  all_goals (try (conv => whnf))
  all_goals try (show Nat.ble _ _ = true; rfl)
  all_goals try (exfalso; rename_i hz; cases hz; done)
  all_goals try (exfalso; (try simp only [LN] at *) <;> omega)
  all_goals first
    | ((first | (with_reducible apply Z.retF1)); (focus (exact rfl)); (repeat' (first | exact trivial | (with_reducible apply Z.frz_one) | (with_reducible apply Z.fq_bool) | (apply Z.fq_bool) | apply And.intro)); (all_goals (try exact (fun _ => none))); all_goals (first | exact decide_eq_decide.2 ⟨fun h => op_ext (by assumption) (by assumption) h (by assumption) (by assumption), fun h => by rw [h]⟩ | (refine (decide_eq_false fun h => ?_).symm; subst h; first | contradiction | (simp_all; done))))

theorem eqf_con (a b : List Op) (hla : a.length ≤ 9223372036854775807) (hins : ∀ o ∈ a, o.ins.length ≤ 9223372036854775807) : Con Try.prog 35 [.one (.ro false 5 (a.map eO)), .one (.ro false 5 (b.map eO)), .one (.fn 36 [])] (fun rx rK rt => rx = .val (.bool (decide (a = b))) ∧ rK = [] ∧ rt = 0) := by
  refine Z.con_ofF tabOk 32 Try.f35 _ Try.func35 (by kernel_rfl) rfl rfl rfl rfl ?_
  repeat' ((conv => whnf); first
    | (with_reducible refine spB_bne ?_ ?_ <;> intro _ <;> (try (exfalso; first | contradiction | omega | (rename_i hz; with_reducible exact absurd rfl hz)))))
  all_goals (try (conv => whnf))
  all_goals try ((first | (with_reducible apply Z.retF1)); (focus (exact rfl)); (repeat' (first | exact trivial | (with_reducible apply Z.frz_one) | (with_reducible apply Z.fq_bool) | apply And.intro)); (all_goals (try exact (fun _ => none))); all_goals (exact bool_f (ne_len (by simp only [LN] at *; omega))))
  refine Z.loopK tabOk (fun zq : Nat => [(17, .val (.int .i64 (zq : Int)))]) (fun zq : Nat => ([] : Z.Kr)) (fun zq => zq ≤ a.length ∧ a.length = b.length ∧ a.take zq = b.take zq) (fun zq => a.length - zq) 0 0 [(1, _), (2, _), (15, _), (16, _)] ⟨rfl, rfl, rfl, rfl, trivial⟩ [] trivial ?_ ?_ rfl rfl ⟨Nat.zero_le _, by simp only [LN] at *; omega, rfl⟩ ?_
  · repeat' (first | exact trivial | apply And.intro | exact ⟨_, rfl, Z.Imp.refl _⟩)
  · repeat' (first | exact trivial)
  rintro i HINV
  dsimp only at HINV ⊢
  obtain ⟨HI, HL, HT⟩ := HINV
  repeat' ((conv => whnf); first
    | with_reducible first | refine spB_not ?_
    | (with_reducible refine spB_dec ?_ ?_ <;> intro _ <;> (try (exfalso; first | contradiction | omega | (rename_i hz; with_reducible exact absurd rfl hz))))
    | ((with_reducible apply ixN_litp); (focus (exact rfl)); (focus ((try simp only [LN] at *) <;> omega)))
    | with_reducible refine wr_i64 (by first | omega | (simp only [LN] at *; omega)) ?_
    | ((with_reducible refine rowN_map ?_ ?_); (focus ((try simp only [LN] at *) <;> omega)); intro x hx; (try have hxl := hins _ (List.mem_of_getElem? hx)))
    | ((first | (with_reducible apply Z.callZ_mk ?_ (samefn_con _ _ ?_) ?_)); (rotate_left 2); (focus ((repeat' (first | exact trivial | exact rfl | apply And.intro)); done)); (iterate 1 (focus (first | assumption)))))
  all_goals (try (conv => whnf))
  all_goals first
    | ((refine Z.rndK (i + 1) (fun s => []) rfl rfl rfl rfl ?_ ?_ ?_ ?_); (focus (repeat' (first | exact trivial | exact rfl | apply And.intro))); (focus (repeat' (first | exact trivial))); (focus (refine ⟨by simp only [LN] at *; omega, HL, eq_step HT (by assumption) (by assumption) ?_⟩; (first | assumption))); (try simp only [LN] at *); (try dsimp only); omega)
    | ((first | (with_reducible apply Z.retF1)); (focus (exact rfl)); (repeat' (first | exact trivial | (with_reducible apply Z.frz_one) | (with_reducible apply Z.fq_bool) | apply And.intro)); (all_goals (try exact (fun _ => none))); all_goals (first | exact bool_t (eq_end HL HT (by simp only [LN] at *; omega)) | (refine bool_f (ne_at (by assumption) (by assumption) ?_); intro e; subst e; first | contradiction | (simp_all; done))))

end Go.Proofs.Ytjjdfiapcpbapaa
namespace Go.Proofs.Ytjjdfiapcpbapaa
open Go Go.RowKit Wx
set_option linter.unusedVariables false
set_option linter.unusedSimpArgs false
set_option maxHeartbeats 4000000
theorem gsame_con (ops b : List Op) (hl : ops.length ≤ 9223372036854775807) (hins : ∀ o ∈ ops, o.ins.length ≤ 9223372036854775807) : Con Try.prog 14 [.agg [.ro false 5 (ops.map eO)], .agg [.ro false 5 (b.map eO)]] (fun rx rK rt => rx = .val (.bool (decide (ops = b))) ∧ rK = [] ∧ rt = 0) := by
  refine Z.con_ofF tabOk 10 Try.f14 _ Try.func14 (by kernel_rfl) rfl rfl rfl rfl ?_
  have ce := eqf_con ops b hl hins
  repeat' ((conv => whnf); first
    | ((first | (with_reducible refine Z.callZ_mk ?_ (ce) ?_)); (focus ((repeat' (first | exact trivial | exact rfl | apply And.intro)); done))))
  all_goals (try (conv => whnf))
  all_goals try (show Nat.ble _ _ = true; rfl)
  all_goals try (exfalso; rename_i hz; cases hz; done)
  all_goals try (exfalso; (try simp only [LN] at *) <;> omega)
  all_goals first
    | ((first | (with_reducible apply Z.retF1)); (focus (exact rfl)); (repeat' (first | exact trivial | exact rfl | apply And.intro)); (all_goals (try exact (fun _ => none))); all_goals (rfl))

end Go.Proofs.Ytjjdfiapcpbapaa
namespace Go.Proofs.Ytjjdfiapcpbapaa
open Go Go.RowKit Wx
set_option linter.unusedVariables false
set_option linter.unusedSimpArgs false
set_option maxHeartbeats 4000000
theorem wakes_con : Con Try.prog 9 [] (fun x K t => x = .val (.bool true) ∧ K = [] ∧ t = 0) := Y.con_run ftabOk tabOk mixOk 40 12 (by kernel_rfl) (by kernel_rfl)
end Go.Proofs.Ytjjdfiapcpbapaa
namespace Go.Proofs.Ytjjdfiapcpbapaa
open Go Go.RowKit Wx
set_option linter.unusedVariables false
set_option linter.unusedSimpArgs false
set_option maxHeartbeats 4000000
theorem low_pre {K : Nat → Option Blk} {i n : Nat} {c : Option Nat} {L : List Int} {R : List (List Ce)} (h : K i = some ⟨R, 1, 5, false⟩) (hR : R = L.map cB) (hn : n ≤ L.length) : lowV K (.pl (.one (.osl i 0 n c))) (.one (.ro false 1 ((L.take n).map eB))) := by
  show lowC K (.osl i 0 n c) (.ro false 1 ((L.take n).map eB))
  subst hR
  simp only [lowC, h]
  exact ⟨_, rfl, by simp; omega, by rw [List.drop_zero, ← List.map_take, List.map_map, List.map_map]; exact List.map_congr_left fun x _ => rfl⟩
theorem graphback_con (ops : List Op) (b : List Int) (hol : ops.length ≤ 9223372036854775807) (hins : ∀ o ∈ ops, o.ins.length ≤ 9223372036854775807) (hab : ∀ o ∈ ops, (-9223372036854775808 ≤ o.a ∧ o.a ≤ 9223372036854775807) ∧ (-9223372036854775808 ≤ o.b ∧ o.b ≤ 9223372036854775807)) (hbl9 : b.length ≤ 9223372036854775807) (hB : isB b) : Con Try.prog 6 [.agg [.ro false 5 (ops.map eO)], .one (.ro false 1 (b.map eB))] (fun rx rK rt => rx = .val (.bool true) ∧ rK = [] ∧ rt = 0) := by
  refine Z.con_ofF tabOk 100 Try.f6 _ Try.func6 (by kernel_rfl) rfl rfl rfl rfl ?_
  have cs := short_con ops hol hins
  have hL9 := shR_len ops
  have hLi : ∀ p ∈ shR ops, p.ins.length ≤ 1000 := fun p hp => by have := shR_ins p hp; omega
  have hLa : ∀ o ∈ shR ops, (-9223372036854775808 ≤ o.a ∧ o.a ≤ 9223372036854775807) ∧ (-9223372036854775808 ≤ o.b ∧ o.b ≤ 9223372036854775807) := fun p hp => by
    obtain ⟨x, hx, rfl⟩ := List.mem_map.1 hp
    exact hab x (List.mem_of_mem_take hx)
  generalize shR ops = L at *
  obtain ⟨m, hm⟩ : ∃ m : Nat, m = min b.length 600 := ⟨_, rfl⟩
  have hBm : isB (b.take m) := isB_take hB
  have cd4 := decode_con (b.take m) (by rw [List.length_take]; omega) hBm
  have hany := dec_any hBm
  have hR : (b.take m).map eB = ((b.map eB).drop 0).take (m - 0) := by rw [List.drop_zero, Nat.sub_zero, List.map_take]
  have hbl : (b.take m).length ≤ 600 := by rw [List.length_take]; omega
  have cq := bq_con (b.take m) (by omega)
  generalize b.take m = B at *
  obtain ⟨X, er, hX⟩ : ∃ X er, decR B = (X, er) := ⟨_, _, rfl⟩
  rw [hX] at cd4 hany
  dsimp only at cd4 hany
  by_cases hok : (chkR L).2 = 0
  rotate_left
  · have ce := encode_con L hLi (by omega)
    rw [show encR L = ([], (chkR L).2) by unfold encR; rw [if_neg hok]] at ce
    dsimp only at ce
    generalize (chkR L).2 = e9 at *
    rcases hany with ⟨rfl, hE, hX8, hXo⟩ | ⟨rfl, rfl | rfl⟩
    · have ce2 := encode_con X (fun o ho => by have := (hXo o ho).2.2.2.2.1; omega) (by omega)
      rw [hE] at ce2
      dsimp only at ce2
      rw [hR] at cd4 ce2 cq
      repeat' ((conv => whnf); first
        | with_reducible first | refine spB_t ?_
        | ((with_reducible apply spB_cong); (focus (simp only [beq_self_eq_true, bne_self_eq_false, Bool.true_bne, Bool.false_bne, Bool.bne_true, Bool.bne_false, Bool.true_beq, Bool.false_beq, Bool.not_true, Bool.not_false, Bool.not_not, Int.reduceBEq, Int.reduceBNe, Int.reduceLE, Int.reduceLT, Int.reduceEq, decide_true, decide_false]; rfl)))
        | with_reducible first | refine spB_no (by decide) ?_
        | (with_reducible refine spB_beq ?_ ?_ <;> intro _ <;> (try (exfalso; first | contradiction | omega | (rename_i hz; refine hz ?_; simp; done) | (rename_i hz; simp at hz; done) | (simp only [LN] at *; omega) | (simp_all; done))))
        | ((with_reducible refine slN_hi m ?_ ?_ ?_); (focus (rw [List.length_map]; omega)); (focus (rw [List.length_map]; omega)))
        | ((first | (with_reducible refine Z.callZ_mk ?_ (wakes_con) ?_) | (with_reducible refine Z.callZ_mk ?_ (cs) ?_) | (with_reducible refine Z.callZ_mk ?_ (cq) ?_) | (with_reducible refine Z.callZ_mk ?_ (cd4) ?_)); (focus ((repeat' (first | exact trivial | exact rfl | apply And.intro)); done)))
        | ((first | (with_reducible refine Z.callZ_mk ?_ (ce) ?_)); (focus ((repeat' (first | exact trivial | exact rfl | apply And.intro)); done)))
        | ((first | (with_reducible refine Z.callZ_mk ?_ (ce2) ?_)); (focus ((repeat' (first | exact trivial | exact rfl | apply And.intro)); done))))
      all_goals (try (conv => whnf))
      all_goals try (show Nat.ble _ _ = true; rfl)
      all_goals try (exfalso; rename_i hz; cases hz; done)
      all_goals try (exfalso; (try simp only [LN] at *) <;> omega)
      all_goals first
        | ((first | (with_reducible apply Z.retF1)); (focus (exact rfl)); (repeat' (first | exact trivial | exact rfl | apply And.intro)); (all_goals (try exact (fun _ => none))); all_goals (first | (simp; done)))
    · rw [hR] at cd4
      repeat' ((conv => whnf); first
        | with_reducible first | refine spB_t ?_
        | ((with_reducible apply spB_cong); (focus (simp only [beq_self_eq_true, bne_self_eq_false, Bool.true_bne, Bool.false_bne, Bool.bne_true, Bool.bne_false, Bool.true_beq, Bool.false_beq, Bool.not_true, Bool.not_false, Bool.not_not, Int.reduceBEq, Int.reduceBNe, Int.reduceLE, Int.reduceLT, Int.reduceEq, decide_true, decide_false]; rfl)))
        | with_reducible first | refine spB_yes (by decide) ?_ | refine spB_no (by decide) ?_
        | (with_reducible refine spB_beq ?_ ?_ <;> intro _ <;> (try (exfalso; first | contradiction | omega | (rename_i hz; refine hz ?_; simp; done) | (rename_i hz; simp at hz; done) | (simp only [LN] at *; omega) | (simp_all; done))))
        | ((with_reducible refine slN_hi m ?_ ?_ ?_); (focus (rw [List.length_map]; omega)); (focus (rw [List.length_map]; omega)))
        | ((first | (with_reducible refine Z.callZ_mk ?_ (wakes_con) ?_) | (with_reducible refine Z.callZ_mk ?_ (cs) ?_) | (with_reducible refine Z.callZ_mk ?_ (ce) ?_) | (with_reducible refine Z.callZ_mk ?_ (cd4) ?_)); (focus ((repeat' (first | exact trivial | exact rfl | apply And.intro)); done))))
      all_goals (try (conv => whnf))
      all_goals try (show Nat.ble _ _ = true; rfl)
      all_goals try (exfalso; rename_i hz; cases hz; done)
      all_goals try (exfalso; (try simp only [LN] at *) <;> omega)
      all_goals first
        | ((first | (with_reducible apply Z.retF1)); (focus (exact rfl)); (repeat' (first | exact trivial | (with_reducible apply Z.frz_one) | (with_reducible apply Z.fq_bool) | exact rfl | apply And.intro)); (all_goals (try exact (fun _ => none))); all_goals (first | (simp; done)))
    · rw [hR] at cd4
      repeat' ((conv => whnf); first
        | with_reducible first | refine spB_t ?_
        | ((with_reducible apply spB_cong); (focus (simp only [beq_self_eq_true, bne_self_eq_false, Bool.true_bne, Bool.false_bne, Bool.bne_true, Bool.bne_false, Bool.true_beq, Bool.false_beq, Bool.not_true, Bool.not_false, Bool.not_not, Int.reduceBEq, Int.reduceBNe, Int.reduceLE, Int.reduceLT, Int.reduceEq, decide_true, decide_false]; rfl)))
        | with_reducible first | refine spB_yes (by decide) ?_ | refine spB_no (by decide) ?_
        | (with_reducible refine spB_beq ?_ ?_ <;> intro _ <;> (try (exfalso; first | contradiction | omega | (rename_i hz; refine hz ?_; simp; done) | (rename_i hz; simp at hz; done) | (simp only [LN] at *; omega) | (simp_all; done))))
        | ((with_reducible refine slN_hi m ?_ ?_ ?_); (focus (rw [List.length_map]; omega)); (focus (rw [List.length_map]; omega)))
        | ((first | (with_reducible refine Z.callZ_mk ?_ (wakes_con) ?_) | (with_reducible refine Z.callZ_mk ?_ (cs) ?_) | (with_reducible refine Z.callZ_mk ?_ (ce) ?_) | (with_reducible refine Z.callZ_mk ?_ (cd4) ?_)); (focus ((repeat' (first | exact trivial | exact rfl | apply And.intro)); done))))
      all_goals (try (conv => whnf))
      all_goals try (show Nat.ble _ _ = true; rfl)
      all_goals try (exfalso; rename_i hz; cases hz; done)
      all_goals try (exfalso; (try simp only [LN] at *) <;> omega)
      all_goals first
        | ((first | (with_reducible apply Z.retF1)); (focus (exact rfl)); (repeat' (first | exact trivial | (with_reducible apply Z.frz_one) | (with_reducible apply Z.fq_bool) | exact rfl | apply And.intro)); (all_goals (try exact (fun _ => none))); all_goals (first | (simp; done)))
  have hLo := chk_okO hok hLa
  obtain ⟨h0, h8, _, _⟩ := chk_ok hok
  have ce := encodeO_con L hLi (by omega) hok
  have cm := gsame_con L L (by omega) (fun o ho => by have := hLi o ho; omega)
  rw [decide_eq_true rfl] at cm
  have hel : (encG L).length ≤ 1000000 := by have := encs_len hLi ((L.length : Int) % 256) L.length; rw [List.take_length] at this; unfold encG; omega
  have hEB := enc_isB hok hLo
  have cd1 := decode_con (encG L) (by omega) hEB
  rw [dec_back hok hLo] at cd1
  dsimp only at cd1
  have hls : ∀ k, k < (encG L).length → decR ((encG L).take k) = ([], 7) := fun k hk => dec_less hok hLo hk
  have cd3 := decode_con (encG L ++ [0]) (by simp; omega) (isB_app hEB)
  rw [dec_more hok hLo] at cd3
  dsimp only at cd3
  generalize encG L = E at *
  rcases hany with ⟨rfl, hE, hX8, hXo⟩ | ⟨rfl, rfl | rfl⟩
  · have ce2 := encode_con X (fun o ho => by have := (hXo o ho).2.2.2.2.1; omega) (by omega)
    rw [hE] at ce2
    dsimp only at ce2
    rw [hR] at cd4 ce2 cq
    repeat' ((conv => whnf); first
      | with_reducible first | refine spB_t ?_
      | ((with_reducible apply spB_cong); (focus (simp only [beq_self_eq_true, bne_self_eq_false, Bool.true_bne, Bool.false_bne, Bool.bne_true, Bool.bne_false, Bool.true_beq, Bool.false_beq, Bool.not_true, Bool.not_false, Bool.not_not, Int.reduceBEq, Int.reduceBNe, Int.reduceLE, Int.reduceLT, Int.reduceEq, decide_true, decide_false]; rfl)))
      | with_reducible first | refine spB_no (by decide) ?_
      | ((first | (with_reducible refine Z.callZ_mk ?_ (wakes_con) ?_) | (with_reducible refine Z.callZ_mk ?_ (cs) ?_) | (with_reducible refine Z.callZ_mk ?_ (cm) ?_) | (with_reducible refine Z.callZ_mk ?_ (cd1) ?_)); (focus ((repeat' (first | exact trivial | ((apply low_by); (focus (exact rfl)); (focus (first | exact ren_cB)); (focus (first | rfl))) | exact rfl | apply And.intro)); done)))
      | ((first | (with_reducible refine Z.callZ_mk ?_ (ce) ?_)); (focus ((repeat' (first | exact trivial | exact rfl | apply And.intro)); done))))
    all_goals (try (conv => whnf))
    all_goals try (show Nat.ble _ _ = true; rfl)
    all_goals try (exfalso; rename_i hz; cases hz; done)
    all_goals try (exfalso; (try simp only [LN] at *) <;> omega)
    all_goals (
      apply loopQ3
      · intro Q0 hq9
        refine Z.loopK tabOk (fun zq : Nat => [(42, .val (.int .i64 (zq : Int))), (5, .c (.osl 1 0 E.length none))]) (fun zq : Nat => ([(1, some (Z.Ob.b ⟨E.map cB, 1, 5, false⟩))] : Z.Kr)) (fun zq => zq ≤ E.length) (fun zq => E.length - zq) 0 3 [(1, _), (41, _)] ⟨rfl, rfl, trivial⟩ [] trivial ?_ ?_ rfl rfl (Nat.zero_le _) ?_
        · repeat' (first | exact trivial | apply And.intro | exact ⟨_, rfl, Z.Imp.refl _⟩)
        · repeat' (first | exact trivial | (intro b hb; cases hb; refine ⟨_, rfl, ⟨rfl, rfl, rfl⟩, Z.imp_eq ren_cB⟩; done) | apply And.intro)
        rintro k HINV
        (try dsimp only at HINV); (try dsimp only)
        by_cases hk : k < E.length
        · have cd2 := decode_con (E.take k) (by rw [List.length_take]; omega) (isB_take hEB)
          rw [hls k hk] at cd2
          dsimp only at cd2
          repeat' ((conv => whnf); first
            | ((with_reducible apply spB_cong); (focus (simp only [beq_self_eq_true, bne_self_eq_false, Bool.true_bne, Bool.false_bne, Bool.bne_true, Bool.bne_false, Bool.true_beq, Bool.false_beq, Bool.not_true, Bool.not_false, Bool.not_not, Int.reduceBEq, Int.reduceBNe, Int.reduceLE, Int.reduceLT, Int.reduceEq, decide_true, decide_false]; rfl)))
            | with_reducible first | refine spB_no (by decide) ?_
            | (with_reducible refine spB_dec ?_ ?_ <;> intro _ <;> (try (exfalso; first | contradiction | omega | (rename_i hz; refine hz ?_; simp; done) | (rename_i hz; simp at hz; done) | (simp only [LN] at *; omega))))
            | ((with_reducible refine slN_hi k ?_ ?_ ?_); (focus rfl); (focus omega))
            | with_reducible refine wr_i64 (by first | omega | (simp only [LN] at *; omega)) ?_
            | ((first | (with_reducible refine Z.callZ_mk ?_ (cd2) ?_)); (focus ((repeat' (first | exact trivial | ((apply low_pre); (focus (exact rfl)); (focus (first | rfl)); (focus omega)) | apply And.intro)); done))))
          all_goals (try (conv => whnf))
          all_goals try (show Nat.ble _ _ = true; rfl)
          all_goals try (exfalso; rename_i hz; cases hz; done)
          all_goals try (exfalso; (try simp only [LN] at *) <;> omega)
          all_goals first
            | ((refine Z.rndK ((k + 1)) (fun s => [0, 1, 2]) rfl rfl rfl rfl ?_ ?_ ?_ ?_); (focus (repeat' (first | exact trivial | exact rfl | apply And.intro))); (focus (repeat' (first | exact trivial | exact Z.blk_sub rfl rfl (ren_map fun _ => rfl) | apply And.intro))); (focus ((try dsimp only); omega)); ((try dsimp only); omega))
        have hkl : k = E.length := by omega
        repeat' ((conv => whnf); first
          | (with_reducible refine spB_dec ?_ ?_ <;> intro _ <;> (try (exfalso; first | contradiction | omega | (rename_i hz; refine hz ?_; simp; done) | (rename_i hz; simp at hz; done) | (simp only [LN] at *; omega)))))
        all_goals (try (conv => whnf))
        subst hkl
        exact hq9
      repeat' ((conv => whnf); first
        | with_reducible first | refine spB_t ?_
        | ((with_reducible apply spB_cong); (focus (simp only [beq_self_eq_true, bne_self_eq_false, Bool.true_bne, Bool.false_bne, Bool.bne_true, Bool.bne_false, Bool.true_beq, Bool.false_beq, Bool.not_true, Bool.not_false, Bool.not_not, Int.reduceBEq, Int.reduceBNe, Int.reduceLE, Int.reduceLT, Int.reduceEq, decide_true, decide_false]; rfl)))
        | with_reducible first | refine spB_no (by decide) ?_
        | ((with_reducible refine apdE_n ?_); (with_reducible refine apdN.mk ?_ ?_ ?_ ?_ ?_ ?_); (focus rfl); (focus (exact one_all (by rfl))); (focus (first | ((try simp only [LN] at *) <;> omega))); (iterate 2 (focus ((try simp only [LN] at *) <;> omega))))
        | ((with_reducible refine slN_hi m ?_ ?_ ?_); (focus (rw [List.length_map]; omega)); (focus (rw [List.length_map]; omega)))
        | ((first | (with_reducible refine Z.callZ_mk ?_ (cq) ?_)); (focus ((repeat' (first | exact trivial | exact rfl | apply And.intro)); done)))
        | ((first | (with_reducible refine Z.callZ_mk ?_ (ce2) ?_)); (focus ((repeat' (first | exact trivial | exact rfl | apply And.intro)); done)))
        | ((first | (with_reducible refine Z.callZ_mk ?_ (cd3) ?_)); (focus ((repeat' (first | exact trivial | ((apply low_by); (focus (exact rfl)); (focus (first | exact tk_app rfl rfl)); (focus (first | (simp; done)))) | apply And.intro)); done)))
        | ((first | (with_reducible refine Z.callZ_mk ?_ (cd4) ?_)); (focus ((repeat' (first | exact trivial | exact rfl | apply And.intro)); done))))
      all_goals (try (conv => whnf))
      all_goals try (show Nat.ble _ _ = true; rfl)
      all_goals try (exfalso; rename_i hz; cases hz; done)
      all_goals try (exfalso; (try simp only [LN] at *) <;> omega))
    all_goals first
      | ((first | (with_reducible apply Z.retF1)); (focus (exact rfl)); (repeat' (first | exact trivial | exact rfl | apply And.intro)); (all_goals (try exact (fun _ => none))); all_goals (first | (simp; done)))
  · rw [hR] at cd4
    repeat' ((conv => whnf); first
      | with_reducible first | refine spB_t ?_
      | ((with_reducible apply spB_cong); (focus (simp only [beq_self_eq_true, bne_self_eq_false, Bool.true_bne, Bool.false_bne, Bool.bne_true, Bool.bne_false, Bool.true_beq, Bool.false_beq, Bool.not_true, Bool.not_false, Bool.not_not, Int.reduceBEq, Int.reduceBNe, Int.reduceLE, Int.reduceLT, Int.reduceEq, decide_true, decide_false]; rfl)))
      | with_reducible first | refine spB_no (by decide) ?_
      | ((first | (with_reducible refine Z.callZ_mk ?_ (wakes_con) ?_) | (with_reducible refine Z.callZ_mk ?_ (cs) ?_) | (with_reducible refine Z.callZ_mk ?_ (cm) ?_) | (with_reducible refine Z.callZ_mk ?_ (ce) ?_) | (with_reducible refine Z.callZ_mk ?_ (cd1) ?_)); (focus ((repeat' (first | exact trivial | ((apply low_by); (focus (exact rfl)); (focus (first | exact ren_cB)); (focus (first | rfl))) | exact rfl | apply And.intro)); done))))
    all_goals (try (conv => whnf))
    all_goals try (show Nat.ble _ _ = true; rfl)
    all_goals try (exfalso; rename_i hz; cases hz; done)
    all_goals try (exfalso; (try simp only [LN] at *) <;> omega)
    all_goals (
      apply loopQ3
      · intro Q0 hq9
        refine Z.loopK tabOk (fun zq : Nat => [(42, .val (.int .i64 (zq : Int))), (5, .c (.osl 1 0 E.length none))]) (fun zq : Nat => ([(1, some (Z.Ob.b ⟨E.map cB, 1, 5, false⟩))] : Z.Kr)) (fun zq => zq ≤ E.length) (fun zq => E.length - zq) 0 3 [(1, _), (41, _)] ⟨rfl, rfl, trivial⟩ [] trivial ?_ ?_ rfl rfl (Nat.zero_le _) ?_
        · repeat' (first | exact trivial | apply And.intro | exact ⟨_, rfl, Z.Imp.refl _⟩)
        · repeat' (first | exact trivial | (intro b hb; cases hb; refine ⟨_, rfl, ⟨rfl, rfl, rfl⟩, Z.imp_eq ren_cB⟩; done) | apply And.intro)
        rintro k HINV
        (try dsimp only at HINV); (try dsimp only)
        by_cases hk : k < E.length
        · have cd2 := decode_con (E.take k) (by rw [List.length_take]; omega) (isB_take hEB)
          rw [hls k hk] at cd2
          dsimp only at cd2
          repeat' ((conv => whnf); first
            | ((with_reducible apply spB_cong); (focus (simp only [beq_self_eq_true, bne_self_eq_false, Bool.true_bne, Bool.false_bne, Bool.bne_true, Bool.bne_false, Bool.true_beq, Bool.false_beq, Bool.not_true, Bool.not_false, Bool.not_not, Int.reduceBEq, Int.reduceBNe, Int.reduceLE, Int.reduceLT, Int.reduceEq, decide_true, decide_false]; rfl)))
            | with_reducible first | refine spB_no (by decide) ?_
            | (with_reducible refine spB_dec ?_ ?_ <;> intro _ <;> (try (exfalso; first | contradiction | omega | (rename_i hz; refine hz ?_; simp; done) | (rename_i hz; simp at hz; done) | (simp only [LN] at *; omega))))
            | ((with_reducible refine slN_hi k ?_ ?_ ?_); (focus rfl); (focus omega))
            | with_reducible refine wr_i64 (by first | omega | (simp only [LN] at *; omega)) ?_
            | ((first | (with_reducible refine Z.callZ_mk ?_ (cd2) ?_)); (focus ((repeat' (first | exact trivial | ((apply low_pre); (focus (exact rfl)); (focus (first | rfl)); (focus omega)) | apply And.intro)); done))))
          all_goals (try (conv => whnf))
          all_goals try (show Nat.ble _ _ = true; rfl)
          all_goals try (exfalso; rename_i hz; cases hz; done)
          all_goals try (exfalso; (try simp only [LN] at *) <;> omega)
          all_goals first
            | ((refine Z.rndK ((k + 1)) (fun s => [0, 1, 2]) rfl rfl rfl rfl ?_ ?_ ?_ ?_); (focus (repeat' (first | exact trivial | exact rfl | apply And.intro))); (focus (repeat' (first | exact trivial | exact Z.blk_sub rfl rfl (ren_map fun _ => rfl) | apply And.intro))); (focus ((try dsimp only); omega)); ((try dsimp only); omega))
        have hkl : k = E.length := by omega
        repeat' ((conv => whnf); first
          | (with_reducible refine spB_dec ?_ ?_ <;> intro _ <;> (try (exfalso; first | contradiction | omega | (rename_i hz; refine hz ?_; simp; done) | (rename_i hz; simp at hz; done) | (simp only [LN] at *; omega)))))
        all_goals (try (conv => whnf))
        subst hkl
        exact hq9
      repeat' ((conv => whnf); first
        | with_reducible first | refine spB_t ?_
        | ((with_reducible apply spB_cong); (focus (simp only [beq_self_eq_true, bne_self_eq_false, Bool.true_bne, Bool.false_bne, Bool.bne_true, Bool.bne_false, Bool.true_beq, Bool.false_beq, Bool.not_true, Bool.not_false, Bool.not_not, Int.reduceBEq, Int.reduceBNe, Int.reduceLE, Int.reduceLT, Int.reduceEq, decide_true, decide_false]; rfl)))
        | with_reducible first | refine spB_yes (by decide) ?_ | refine spB_no (by decide) ?_
        | ((with_reducible refine apdE_n ?_); (with_reducible refine apdN.mk ?_ ?_ ?_ ?_ ?_ ?_); (focus rfl); (focus (exact one_all (by rfl))); (focus (first | ((try simp only [LN] at *) <;> omega))); (iterate 2 (focus ((try simp only [LN] at *) <;> omega))))
        | ((with_reducible refine slN_hi m ?_ ?_ ?_); (focus (rw [List.length_map]; omega)); (focus (rw [List.length_map]; omega)))
        | ((first | (with_reducible refine Z.callZ_mk ?_ (cd3) ?_)); (focus ((repeat' (first | exact trivial | ((apply low_by); (focus (exact rfl)); (focus (first | exact tk_app rfl rfl)); (focus (first | (simp; done)))) | apply And.intro)); done)))
        | ((first | (with_reducible refine Z.callZ_mk ?_ (cd4) ?_)); (focus ((repeat' (first | exact trivial | exact rfl | apply And.intro)); done))))
      all_goals (try (conv => whnf))
      all_goals try (show Nat.ble _ _ = true; rfl)
      all_goals try (exfalso; rename_i hz; cases hz; done)
      all_goals try (exfalso; (try simp only [LN] at *) <;> omega))
    all_goals first
      | ((first | (with_reducible apply Z.retF1)); (focus (exact rfl)); (repeat' (first | exact trivial | (with_reducible apply Z.frz_one) | (with_reducible apply Z.fq_bool) | exact rfl | apply And.intro)); (all_goals (try exact (fun _ => none))); all_goals (first | (simp; done)))
  · rw [hR] at cd4
    repeat' ((conv => whnf); first
      | with_reducible first | refine spB_t ?_
      | ((with_reducible apply spB_cong); (focus (simp only [beq_self_eq_true, bne_self_eq_false, Bool.true_bne, Bool.false_bne, Bool.bne_true, Bool.bne_false, Bool.true_beq, Bool.false_beq, Bool.not_true, Bool.not_false, Bool.not_not, Int.reduceBEq, Int.reduceBNe, Int.reduceLE, Int.reduceLT, Int.reduceEq, decide_true, decide_false]; rfl)))
      | with_reducible first | refine spB_no (by decide) ?_
      | ((first | (with_reducible refine Z.callZ_mk ?_ (wakes_con) ?_) | (with_reducible refine Z.callZ_mk ?_ (cs) ?_) | (with_reducible refine Z.callZ_mk ?_ (cm) ?_) | (with_reducible refine Z.callZ_mk ?_ (ce) ?_) | (with_reducible refine Z.callZ_mk ?_ (cd1) ?_)); (focus ((repeat' (first | exact trivial | ((apply low_by); (focus (exact rfl)); (focus (first | exact ren_cB)); (focus (first | rfl))) | exact rfl | apply And.intro)); done))))
    all_goals (try (conv => whnf))
    all_goals try (show Nat.ble _ _ = true; rfl)
    all_goals try (exfalso; rename_i hz; cases hz; done)
    all_goals try (exfalso; (try simp only [LN] at *) <;> omega)
    all_goals (
      apply loopQ3
      · intro Q0 hq9
        refine Z.loopK tabOk (fun zq : Nat => [(42, .val (.int .i64 (zq : Int))), (5, .c (.osl 1 0 E.length none))]) (fun zq : Nat => ([(1, some (Z.Ob.b ⟨E.map cB, 1, 5, false⟩))] : Z.Kr)) (fun zq => zq ≤ E.length) (fun zq => E.length - zq) 0 3 [(1, _), (41, _)] ⟨rfl, rfl, trivial⟩ [] trivial ?_ ?_ rfl rfl (Nat.zero_le _) ?_
        · repeat' (first | exact trivial | apply And.intro | exact ⟨_, rfl, Z.Imp.refl _⟩)
        · repeat' (first | exact trivial | (intro b hb; cases hb; refine ⟨_, rfl, ⟨rfl, rfl, rfl⟩, Z.imp_eq ren_cB⟩; done) | apply And.intro)
        rintro k HINV
        (try dsimp only at HINV); (try dsimp only)
        by_cases hk : k < E.length
        · have cd2 := decode_con (E.take k) (by rw [List.length_take]; omega) (isB_take hEB)
          rw [hls k hk] at cd2
          dsimp only at cd2
          repeat' ((conv => whnf); first
            | ((with_reducible apply spB_cong); (focus (simp only [beq_self_eq_true, bne_self_eq_false, Bool.true_bne, Bool.false_bne, Bool.bne_true, Bool.bne_false, Bool.true_beq, Bool.false_beq, Bool.not_true, Bool.not_false, Bool.not_not, Int.reduceBEq, Int.reduceBNe, Int.reduceLE, Int.reduceLT, Int.reduceEq, decide_true, decide_false]; rfl)))
            | with_reducible first | refine spB_no (by decide) ?_
            | (with_reducible refine spB_dec ?_ ?_ <;> intro _ <;> (try (exfalso; first | contradiction | omega | (rename_i hz; refine hz ?_; simp; done) | (rename_i hz; simp at hz; done) | (simp only [LN] at *; omega))))
            | ((with_reducible refine slN_hi k ?_ ?_ ?_); (focus rfl); (focus omega))
            | with_reducible refine wr_i64 (by first | omega | (simp only [LN] at *; omega)) ?_
            | ((first | (with_reducible refine Z.callZ_mk ?_ (cd2) ?_)); (focus ((repeat' (first | exact trivial | ((apply low_pre); (focus (exact rfl)); (focus (first | rfl)); (focus omega)) | apply And.intro)); done))))
          all_goals (try (conv => whnf))
          all_goals try (show Nat.ble _ _ = true; rfl)
          all_goals try (exfalso; rename_i hz; cases hz; done)
          all_goals try (exfalso; (try simp only [LN] at *) <;> omega)
          all_goals first
            | ((refine Z.rndK ((k + 1)) (fun s => [0, 1, 2]) rfl rfl rfl rfl ?_ ?_ ?_ ?_); (focus (repeat' (first | exact trivial | exact rfl | apply And.intro))); (focus (repeat' (first | exact trivial | exact Z.blk_sub rfl rfl (ren_map fun _ => rfl) | apply And.intro))); (focus ((try dsimp only); omega)); ((try dsimp only); omega))
        have hkl : k = E.length := by omega
        repeat' ((conv => whnf); first
          | (with_reducible refine spB_dec ?_ ?_ <;> intro _ <;> (try (exfalso; first | contradiction | omega | (rename_i hz; refine hz ?_; simp; done) | (rename_i hz; simp at hz; done) | (simp only [LN] at *; omega)))))
        all_goals (try (conv => whnf))
        subst hkl
        exact hq9
      repeat' ((conv => whnf); first
        | with_reducible first | refine spB_t ?_
        | ((with_reducible apply spB_cong); (focus (simp only [beq_self_eq_true, bne_self_eq_false, Bool.true_bne, Bool.false_bne, Bool.bne_true, Bool.bne_false, Bool.true_beq, Bool.false_beq, Bool.not_true, Bool.not_false, Bool.not_not, Int.reduceBEq, Int.reduceBNe, Int.reduceLE, Int.reduceLT, Int.reduceEq, decide_true, decide_false]; rfl)))
        | with_reducible first | refine spB_yes (by decide) ?_ | refine spB_no (by decide) ?_
        | ((with_reducible refine apdE_n ?_); (with_reducible refine apdN.mk ?_ ?_ ?_ ?_ ?_ ?_); (focus rfl); (focus (exact one_all (by rfl))); (focus (first | ((try simp only [LN] at *) <;> omega))); (iterate 2 (focus ((try simp only [LN] at *) <;> omega))))
        | ((with_reducible refine slN_hi m ?_ ?_ ?_); (focus (rw [List.length_map]; omega)); (focus (rw [List.length_map]; omega)))
        | ((first | (with_reducible refine Z.callZ_mk ?_ (cd3) ?_)); (focus ((repeat' (first | exact trivial | ((apply low_by); (focus (exact rfl)); (focus (first | exact tk_app rfl rfl)); (focus (first | (simp; done)))) | apply And.intro)); done)))
        | ((first | (with_reducible refine Z.callZ_mk ?_ (cd4) ?_)); (focus ((repeat' (first | exact trivial | exact rfl | apply And.intro)); done))))
      all_goals (try (conv => whnf))
      all_goals try (show Nat.ble _ _ = true; rfl)
      all_goals try (exfalso; rename_i hz; cases hz; done)
      all_goals try (exfalso; (try simp only [LN] at *) <;> omega))
    all_goals first
      | ((first | (with_reducible apply Z.retF1)); (focus (exact rfl)); (repeat' (first | exact trivial | (with_reducible apply Z.frz_one) | (with_reducible apply Z.fq_bool) | exact rfl | apply And.intro)); (all_goals (try exact (fun _ => none))); all_goals (first | (simp; done)))

end Go.Proofs.Ytjjdfiapcpbapaa
namespace Go.Proofs.Ytjjdfiapcpbapaa
open Go Go.RowKit Wx
set_option linter.unusedVariables false
set_option linter.unusedSimpArgs false
set_option maxHeartbeats 4000000
structure Gr where
  ops : List Op
abbrev eGr (x : Gr) : List RT := [RT.ro 5 (x.ops.map eO)]
theorem rowNi64 (row : List RT) (h : RowF (.int .i64) row) : ∃ z, row = eI z ∧ (Lit.int .i64 z).wf = true := by
  obtain ⟨z, rfl, w⟩ := h
  exact ⟨z, rfl, w⟩
def okOp (x : Op) : Prop := (Lit.int .i64 x.tag).wf = true ∧ (Lit.int .i64 x.wid).wf = true ∧ (x.ins.length ≤ maxLen ∧ ∀ z ∈ x.ins, (Lit.int .i64 z).wf = true) ∧ (Lit.int .i64 x.a).wf = true ∧ (Lit.int .i64 x.b).wf = true ∧ True
theorem rowOp (row : List RT) (h : RowF (.st (.cons 3 1 (.int .i64) (.cons 3 1 (.int .i64) (.cons 32 1 (.sl (.int .i64) 3 1) (.cons 2 1 (.int .i64) (.cons 2 1 (.int .i64) .nil)))))) row) : ∃ x, row = eO x ∧ okOp x := by
  obtain ⟨a0, r0, rfl, _, ⟨z0, rfl, w0⟩, a1, r1, rfl, _, ⟨z1, rfl, w1⟩, a2, r2, rfl, _, ⟨rows2, rfl, l2, h2⟩, a3, r3, rfl, _, ⟨z3, rfl, w3⟩, a4, r4, rfl, _, ⟨z4, rfl, w4⟩, rfl⟩ := h
  obtain ⟨z2, rfl, k2⟩ := rows_map eI (fun z => (Lit.int .i64 z).wf = true) rowNi64 rows2 h2
  exact ⟨⟨z0, z1, z2, z3, z4⟩, rfl, w0, w1, ⟨by simpa using l2, k2⟩, w3, w4, trivial⟩
def okGr (x : Gr) : Prop := (x.ops.length ≤ maxLen ∧ ∀ z ∈ x.ops, okOp z) ∧ True
theorem rowGr (row : List RT) (h : RowF (.st (.cons 24 1 (.sl (.st (.cons 3 1 (.int .i64) (.cons 3 1 (.int .i64) (.cons 32 1 (.sl (.int .i64) 3 1) (.cons 2 1 (.int .i64) (.cons 2 1 (.int .i64) .nil)))))) 34 5) .nil)) row) : ∃ x, row = eGr x ∧ okGr x := by
  obtain ⟨a0, r0, rfl, _, ⟨rows0, rfl, l0, h0⟩, rfl⟩ := h
  obtain ⟨z0, rfl, k0⟩ := rows_map eO (fun z => okOp z) rowOp rows0 h0
  exact ⟨⟨z0⟩, rfl, ⟨by simpa using l0, k0⟩, trivial⟩
namespace graphBack
theorem main (avs : List A0) (h : All2 FitA [(.st (.cons 24 1 (.sl (.st (.cons 3 1 (.int .i64) (.cons 3 1 (.int .i64) (.cons 32 1 (.sl (.int .i64) 3 1) (.cons 2 1 (.int .i64) (.cons 2 1 (.int .i64) .nil)))))) 34 5) .nil)), (.sl (.int .u8) 5 1)] avs) : Con Try.prog 6 avs (fun x K t => x = .val (.bool true) ∧ K = [] ∧ t = 0) := by
  obtain ⟨x0, x1, rfl, h0, h1⟩ : ∃ x0 x1, avs = [x0, x1] ∧ FitA (.st (.cons 24 1 (.sl (.st (.cons 3 1 (.int .i64) (.cons 3 1 (.int .i64) (.cons 32 1 (.sl (.int .i64) 3 1) (.cons 2 1 (.int .i64) (.cons 2 1 (.int .i64) .nil)))))) 34 5) .nil)) x0 ∧ FitA (.sl (.int .u8) 5 1) x1 := by
    cases avs with
    | nil => exact h.elim
    | cons x0 r => cases r with
      | nil => exact h.2.elim
      | cons x1 r => cases r with
        | nil => exact ⟨x0, x1, rfl, h.1, h.2.1⟩
        | cons => exact h.2.2.elim
  clear h
  obtain ⟨row0, hrow0, rfl⟩ := h0
  obtain ⟨x, rfl, kx⟩ := rowGr row0 hrow0
  obtain ⟨b, rfl, lb, wb⟩ := fit_ints h1
  exact graphback_con x.ops b (by have := kx.1.1; simpa [maxLen] using this) (fun o ho => by have := (kx.1.2 o ho).2.2.1.1; simpa [maxLen] using this) (fun o ho => ⟨wf_i64 (kx.1.2 o ho).2.2.2.1, wf_i64 (kx.1.2 o ho).2.2.2.2.1⟩) (by simpa [maxLen] using lb) (fun z hz => wf_u8 (wb z hz))
end graphBack
end Go.Proofs.Ytjjdfiapcpbapaa
