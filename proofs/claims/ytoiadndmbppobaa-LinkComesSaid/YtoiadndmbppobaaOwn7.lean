import Derived.Test.YtoiadndmbppobaaOwn6
import Derived.Test.YtoiadndmbppobaaRows
namespace Go.Proofs.Ytoiadndmbppobaa
open Go Go.RowKit Wx
set_option linter.unusedVariables false
set_option linter.unusedSimpArgs false
set_option maxHeartbeats 40000000
theorem c_arrd (rm : Int) (ls : List St) (hl : ls.length ≤ 9223372036854775807) (i B N T : Nat) (l : Int) (put : List El) (pe : Bool) (L : List Pk) (N9 : Nat) (HI : i ≤ ls.length) (HB : i ≤ 40) (H : LInv rm i B N T l put (wl (some (L, N9)))) (HW : wn (some (L, N9))) (HP : pe = true ↔ put = []) (hi : i < ls.length) (kd n : Int)  (e : El) (pk : Pk) (hx : ls[i]? = some ⟨kd, n, false, e, pk⟩) (hux : 0 ≤ e.num ∧ 0 ≤ pk.sq ∧ 0 ≤ pk.lim ∧ 0 ≤ pk.e.num) (hib : ¬ i = 40) (h4 : ((IntKind.u64.wrap kd).tmod 11 = 5 ∨ (IntKind.u64.wrap kd).tmod 11 = 6 ∨ (IntKind.u64.wrap kd).tmod 11 = 7)) (hL : 0 < L.length) {Q : Exit → Z.S → Prop} : Z.codeZ Try.prog tab 129 0 none (lbody Try.f8) ⟨gCH 28 (i, B, N, T, l, put, pe, (some (L, N9))) ++ gFk 5 26 27 ls, gCK rm (i, B, N, T, l, put, pe, (some (L, N9))) ++ [], 6⟩ (loopPost (gRnd rm 28 5 26 27 40 ls (i, B, N, T, l, put, pe, (some (L, N9)))) Q) := by
  dsimp only [gCH, gFk, gCK, gRnd]
  rcases h4 with h4 | h4 | h4
  all_goals (
    have hw9 : L.length ≤ N9 := HW
    have hpd : (padP N9 L).length = N9 := padP_len hw9
    have hwl9 : L.length ≤ 8 * i := H.hwl
    obtain ⟨k, hk1, hkl⟩ := u64_tm (n := n) hL
    obtain ⟨y, hy⟩ := getElem?_some' (xs := L) (i := k) hkl
    have hyok : okP put rm N T y := H.hw y (List.mem_of_getElem? hy)
    have hyn := hyok.num H.hP
    by_cases hk9 : y.kd = 2
    · have cba := acked_con 7 ((B : Int) + 1) (put.drop B) l (endsL put) y (by have h9 := H.hpl; simp only [List.length_take, List.length_drop]; omega) (fun e he => okEs_num H.hP e (List.mem_of_mem_drop he)) (by omega) H.hl0 hyn.1 hyn.2.1
      obtain ⟨B', l', hE, H2, _⟩ := H.back (.inl hyok) hk9 hyn.2.1
      rw [hE] at cba
      dsimp only at cba
      have H3 := (H2.sub (w' := L.eraseIdx k) erase_sub erase_le).more
      have hqm : (List.map eE (put.drop B')).length = put.length - B' := by rw [List.length_map, List.length_drop]
      have hbm : (List.map eE (bfL put N T)).length = N - T := by rw [List.length_map, bfL_len H3.hNP]
      have hq9 : (put.drop B').length = put.length - B' := List.length_drop
      have hb9 := bfL_len (T := T) H3.hNP
      have hn9 := H3.hNP
      have hbn9 := H3.hBN
      have htn9 := H3.hTN
      have hR9 := (okR_all H3.hR).1
      have hpl9 := H3.hpl
      have hS9 := (okS_all H3.hS).1
      cases pe
      · have hp0 : 0 < put.length := pe_false HP
        have hpne : put ≠ [] := fun h9 => by simp [h9] at hp0
        repeat' ((conv => whnf); first
          | with_reducible first | refine spB_t ?_
          | ((with_reducible apply spB_cong); (focus (simp only [beq_self_eq_true, bne_self_eq_false, Bool.true_bne, Bool.false_bne, Bool.bne_true, Bool.bne_false, Bool.true_beq, Bool.false_beq, Bool.not_true, Bool.not_false, Bool.not_not, Int.reduceBEq, Int.reduceBNe, Int.reduceLE, Int.reduceLT, Int.reduceEq, decide_true, decide_false]; rfl)))
          | with_reducible first | refine spB_no (by decide) ?_
          | (with_reducible refine spB_dec ?_ ?_ <;> intro _ <;> (try (exfalso; first | contradiction | omega | (rename_i hz; refine hz ?_; simp; done) | (rename_i hz; simp at hz; done) | (simp only [LN] at *; omega))))
          | (with_reducible refine spB_beq ?_ ?_ <;> intro _ <;> (try (exfalso; first | contradiction | omega | (rename_i hz; refine hz ?_; simp; done) | (rename_i hz; simp at hz; done) | (simp only [LN] at *; omega))))
          | with_reducible first | refine Z.rowN_known hx ?_
          | ((with_reducible refine Z.vN_K h4 ?_ ?_); (focus rfl))
          | ((with_reducible refine Z.callZ_cap ?_); intro capv hcapv)
          | ((with_reducible refine Z.vN_K hk1 ?_ ?_); (focus rfl))
          | ((with_reducible refine ixN_mk k ?_ ?_ ?_); (focus rfl); (focus omega))
          | ((with_reducible refine rowN_mk (cP y) ?_ ?_); (focus (exact padP_at hy)))
          | ((with_reducible refine slN_hi k ?_ ?_ ?_); (focus omega); (focus ((try simp only [LN] at *) <;> omega)))
          | ((with_reducible refine Z.slN_lo (k + 1) ?_ ?_ ?_); (focus omega); (focus ((try simp only [LN] at *) <;> omega)))
          | ((with_reducible refine Z.slN_lhc (L.length - 1) L.length ?_ ?_ ?_ ?_ ?_); (iterate 3 (focus ((try simp only [LN] at *) <;> omega))); (focus (exact ⟨_, rfl, by (try simp only [LN] at *) <;> omega⟩)))
          | ((with_reducible refine clrN_mk ?_ ?_ ?_); (focus (show _ ≤ (lay (List.map cP (padP N9 L)) _ _).length; rw [lay_length (by (try simp only [LN] at *) <;> omega)]; ((try simp only [LN] at *) <;> omega))); (focus rfl))
          | ((with_reducible apply ixN_litp); (focus (exact rfl)); (focus ((try simp only [LN] at *) <;> omega)))
          | ((with_reducible refine apdE_r ?_); (with_reducible refine aprN.mk ⟨_, rfl, ?_⟩ ?_ ?_ ?_ ?_); (focus ((try simp only [LN] at *) <;> omega)); (focus (first | rfl | ((try simp only [LN] at *) <;> omega))); (focus (first | exact one_all (by rfl) | exact one_drop (fun _ => rfl))); (focus ((try simp only [LN] at *) <;> omega)))
          | ((with_reducible refine slE_a ?_ ?_); (focus ((try simp only [LN] at *) <;> omega)))
          | ((with_reducible refine slE_split ?_ ?_ ?_); (focus ((try simp only [LN] at *) <;> omega)); (all_goals intro _))
          | ((with_reducible apply sl3N_mk); (focus (exact rfl)); (focus (exact rfl)); (focus (exact rfl)); (focus ((try simp only [LN] at *) <;> omega)); (focus ((try simp only [LN] at *) <;> omega)); (focus ((try simp only [LN] at *) <;> omega)); (focus ((try simp only [LN] at *) <;> omega)))
          | with_reducible refine wr_i64 (by first | omega | (simp only [LN] at *; omega)) ?_
          | with_reducible refine wr_u64 (by omega) ?_
          | with_reducible first | refine wr_mk _ rfl ?_
          | with_reducible refine nzN_mk (by omega) ?_
          | with_reducible first | refine Z.callZ_in tabOk 153 Try.f37 _ Try.func37 (by kernel_rfl) rfl rfl rfl ?_ | refine Z.callZ_in tabOk 42 Try.f39 _ Try.func39 (by kernel_rfl) rfl rfl rfl ?_ | refine Z.callZ_in tabOk 56 Try.f61 _ Try.func61 (by kernel_rfl) rfl rfl rfl ?_ | refine Z.callZ_in tabOk 33 Try.f66 _ Try.func66 (by kernel_rfl) rfl rfl rfl ?_
          | ((first | (with_reducible refine Z.conZ_mz ?_ (cba) ?_)); (focus ((repeat' (first | exact trivial | exact rfl | apply And.intro)); done)))
          | ((with_reducible apply ex_and); exact rfl)
          | with_reducible first | refine Z.drawZ_rule tabOk mixOk ?_ | refine Z.apZ_mk (by kernel_rfl) ?_)
        all_goals (try (conv => whnf))
        all_goals try (show Nat.ble _ _ = true; rfl)
        all_goals try (exfalso; rename_i hz; cases hz; done)
        all_goals try (exfalso; (try simp only [LN] at *) <;> omega)
        all_goals first
          | ((refine Z.rnd_rw 3 ((padP N9 (L.eraseIdx k)).map cP) rfl rfl ?_ ?_); (focus (exact pad_del2 (by omega) rfl hkl (by omega) (by first | exact pad_drop rfl | (rw [List.drop_eq_nil_of_le (by simp only [List.length_map]; omega)]; rfl)))); ((refine Z.rnd_bi 2 [[_, _, _, _, _, _, _, _, _, .osl 3 0 (L.eraseIdx k).length none, _, _]] rfl rfl ⟨⟨Z.Imp.refl _, Z.Imp.refl _, Z.Imp.refl _, Z.Imp.refl _, Z.Imp.refl _, Z.Imp.refl _, Z.Imp.refl _, Z.Imp.refl _, Z.Imp.refl _, Z.Imp.oslcn (by rw [List.length_eraseIdx, if_pos hkl]; (try simp only [LN] at *) <;> omega), Z.Imp.refl _, Z.Imp.refl _, trivial⟩, trivial⟩ ?_); ((refine Z.rndK ((i + 1, B', N, T, l', put, false, (some (L.eraseIdx k, N9)))) (fun s => [0, 1, 2, 3, 4, 5]) rfl rfl rfl rfl ?_ ?_ ?_ ?_); (focus (repeat' (first | exact trivial | exact rfl | apply And.intro))); (focus (repeat' (first | exact trivial | exact WBb_sub rfl | (intro b hb; cases hb; first | rfl | (cases w <;> rfl)) | exact Z.blk_sub rfl rfl (ren_map fun _ => rfl) | exact Z.gB_sub rfl rfl (ren_map fun _ => rfl) | apply And.intro))); (focus (exact ⟨by (try dsimp only); omega, by (try dsimp only); omega, H3, Nat.le_trans erase_le hw9, HP⟩)); ((try dsimp only); omega))))
      · obtain ⟨rfl, rfl, rfl, rfl⟩ := pe_true HP H
        obtain rfl : B' = 0 := by have h9 := H3.hBN; omega
        repeat' ((conv => whnf); first
          | with_reducible first | refine spB_t ?_
          | ((with_reducible apply spB_cong); (focus (simp only [beq_self_eq_true, bne_self_eq_false, Bool.true_bne, Bool.false_bne, Bool.bne_true, Bool.bne_false, Bool.true_beq, Bool.false_beq, Bool.not_true, Bool.not_false, Bool.not_not, Int.reduceBEq, Int.reduceBNe, Int.reduceLE, Int.reduceLT, Int.reduceEq, decide_true, decide_false]; rfl)))
          | with_reducible first | refine spB_no (by decide) ?_
          | (with_reducible refine spB_dec ?_ ?_ <;> intro _ <;> (try (exfalso; first | contradiction | omega | (rename_i hz; refine hz ?_; simp; done) | (rename_i hz; simp at hz; done) | (simp only [LN] at *; omega))))
          | (with_reducible refine spB_beq ?_ ?_ <;> intro _ <;> (try (exfalso; first | contradiction | omega | (rename_i hz; refine hz ?_; simp; done) | (rename_i hz; simp at hz; done) | (simp only [LN] at *; omega))))
          | with_reducible first | refine Z.rowN_known hx ?_
          | ((with_reducible refine Z.vN_K h4 ?_ ?_); (focus rfl))
          | ((with_reducible refine Z.callZ_cap ?_); intro capv hcapv)
          | ((with_reducible refine Z.vN_K hk1 ?_ ?_); (focus rfl))
          | ((with_reducible refine ixN_mk k ?_ ?_ ?_); (focus rfl); (focus omega))
          | ((with_reducible refine rowN_mk (cP y) ?_ ?_); (focus (exact padP_at hy)))
          | ((with_reducible refine slN_hi k ?_ ?_ ?_); (focus omega); (focus ((try simp only [LN] at *) <;> omega)))
          | ((with_reducible refine Z.slN_lo (k + 1) ?_ ?_ ?_); (focus omega); (focus ((try simp only [LN] at *) <;> omega)))
          | ((with_reducible refine Z.slN_lhc (L.length - 1) L.length ?_ ?_ ?_ ?_ ?_); (iterate 3 (focus ((try simp only [LN] at *) <;> omega))); (focus (exact ⟨_, rfl, by (try simp only [LN] at *) <;> omega⟩)))
          | ((with_reducible refine clrN_mk ?_ ?_ ?_); (focus (show _ ≤ (lay (List.map cP (padP N9 L)) _ _).length; rw [lay_length (by (try simp only [LN] at *) <;> omega)]; ((try simp only [LN] at *) <;> omega))); (focus rfl))
          | ((with_reducible apply ixN_litp); (focus (exact rfl)); (focus ((try simp only [LN] at *) <;> omega)))
          | ((with_reducible refine apdE_r ?_); (with_reducible refine aprN.mk ⟨_, rfl, ?_⟩ ?_ ?_ ?_ ?_); (focus ((try simp only [LN] at *) <;> omega)); (focus (first | rfl | ((try simp only [LN] at *) <;> omega))); (focus (first | exact one_all (by rfl) | exact one_drop (fun _ => rfl))); (focus ((try simp only [LN] at *) <;> omega)))
          | ((with_reducible refine slE_a ?_ ?_); (focus ((try simp only [LN] at *) <;> omega)))
          | ((with_reducible refine slE_split ?_ ?_ ?_); (focus ((try simp only [LN] at *) <;> omega)); (all_goals intro _))
          | ((with_reducible apply sl3N_mk); (focus (exact rfl)); (focus (exact rfl)); (focus (exact rfl)); (focus ((try simp only [LN] at *) <;> omega)); (focus ((try simp only [LN] at *) <;> omega)); (focus ((try simp only [LN] at *) <;> omega)); (focus ((try simp only [LN] at *) <;> omega)))
          | with_reducible refine wr_i64 (by first | omega | (simp only [LN] at *; omega)) ?_
          | with_reducible refine wr_u64 (by omega) ?_
          | with_reducible first | refine wr_mk _ rfl ?_
          | with_reducible refine nzN_mk (by omega) ?_
          | with_reducible first | refine Z.callZ_in tabOk 153 Try.f37 _ Try.func37 (by kernel_rfl) rfl rfl rfl ?_ | refine Z.callZ_in tabOk 42 Try.f39 _ Try.func39 (by kernel_rfl) rfl rfl rfl ?_ | refine Z.callZ_in tabOk 56 Try.f61 _ Try.func61 (by kernel_rfl) rfl rfl rfl ?_ | refine Z.callZ_in tabOk 33 Try.f66 _ Try.func66 (by kernel_rfl) rfl rfl rfl ?_
          | ((first | (with_reducible refine Z.conZ_mz ?_ (cba) ?_)); (focus ((repeat' (first | exact trivial | exact rfl | apply And.intro)); done)))
          | ((with_reducible apply ex_and); exact rfl)
          | with_reducible first | refine Z.drawZ_rule tabOk mixOk ?_ | refine Z.apZ_mk (by kernel_rfl) ?_)
        all_goals (try (conv => whnf))
        all_goals try (show Nat.ble _ _ = true; rfl)
        all_goals try (exfalso; rename_i hz; cases hz; done)
        all_goals try (exfalso; (try simp only [LN] at *) <;> omega)
        all_goals first
          | ((refine Z.rnd_rw 3 ((padP N9 (L.eraseIdx k)).map cP) rfl rfl ?_ ?_); (focus (exact pad_del2 (by omega) rfl hkl (by omega) (by first | exact pad_drop rfl | (rw [List.drop_eq_nil_of_le (by simp only [List.length_map]; omega)]; rfl)))); ((refine Z.rnd_bi 2 [[_, _, _, _, _, _, _, _, _, .osl 3 0 (L.eraseIdx k).length none, _, _]] rfl rfl ⟨⟨Z.Imp.refl _, Z.Imp.refl _, Z.Imp.refl _, Z.Imp.refl _, Z.Imp.refl _, Z.Imp.refl _, Z.Imp.refl _, Z.Imp.refl _, Z.Imp.refl _, Z.Imp.oslcn (by rw [List.length_eraseIdx, if_pos hkl]; (try simp only [LN] at *) <;> omega), Z.Imp.refl _, Z.Imp.refl _, trivial⟩, trivial⟩ ?_); ((refine Z.rndK ((i + 1, 0, 0, 0, l', [], true, (some (L.eraseIdx k, N9)))) (fun s => [0, 1, 2, 3, 4, 5]) rfl rfl rfl rfl ?_ ?_ ?_ ?_); (focus (repeat' (first | exact trivial | exact rfl | apply And.intro))); (focus (repeat' (first | exact trivial | exact WBb_sub rfl | (intro b hb; cases hb; first | rfl | (cases w <;> rfl)) | (intro b hb; cases hb; done) | apply And.intro))); (focus (exact ⟨by (try dsimp only); omega, by (try dsimp only); omega, H3, Nat.le_trans erase_le hw9, HP⟩)); ((try dsimp only); omega))))
    · have che := hear_con 7 ((N : Int) + 1) (bfL put N T) rm y (by have h9 := H.hpl; simp only [List.length_take, List.length_drop]; omega) (fun e he => okEs_num H.hP e (List.mem_of_mem_take (List.mem_of_mem_drop he))) (by omega) hyn.1 hyn.2.2
      obtain ⟨N', hN9, hE, H2, _⟩ := H.hear (.inl hyok) hk9
      rw [hE] at che
      dsimp only at che
      have H3 := (H2.sub (w' := L.eraseIdx k) erase_sub erase_le).more
      have hqm : (List.map eE (put.drop B)).length = put.length - B := by rw [List.length_map, List.length_drop]
      have hbm : (List.map eE (bfL put N' T)).length = N' - T := by rw [List.length_map, bfL_len H3.hNP]
      have hq9 : (put.drop B).length = put.length - B := List.length_drop
      have hb9 := bfL_len (T := T) H3.hNP
      have hn9 := H3.hNP
      have hbn9 := H3.hBN
      have htn9 := H3.hTN
      have hR9 := (okR_all H3.hR).1
      have hpl9 := H3.hpl
      have hS9 := (okS_all H3.hS).1
      cases pe
      · have hp0 : 0 < put.length := pe_false HP
        have hpne : put ≠ [] := fun h9 => by simp [h9] at hp0
        repeat' ((conv => whnf); first
          | with_reducible first | refine spB_t ?_
          | ((with_reducible apply spB_cong); (focus (simp only [beq_self_eq_true, bne_self_eq_false, Bool.true_bne, Bool.false_bne, Bool.bne_true, Bool.bne_false, Bool.true_beq, Bool.false_beq, Bool.not_true, Bool.not_false, Bool.not_not, Int.reduceBEq, Int.reduceBNe, Int.reduceLE, Int.reduceLT, Int.reduceEq, decide_true, decide_false]; rfl)))
          | with_reducible first | refine spB_no (by decide) ?_
          | (with_reducible refine spB_dec ?_ ?_ <;> intro _ <;> (try (exfalso; first | contradiction | omega | (rename_i hz; refine hz ?_; simp; done) | (rename_i hz; simp at hz; done) | (simp only [LN] at *; omega))))
          | (with_reducible refine spB_beq ?_ ?_ <;> intro _ <;> (try (exfalso; first | contradiction | omega | (rename_i hz; refine hz ?_; simp; done) | (rename_i hz; simp at hz; done) | (simp only [LN] at *; omega))))
          | with_reducible first | refine Z.rowN_known hx ?_
          | ((with_reducible refine Z.vN_K h4 ?_ ?_); (focus rfl))
          | ((with_reducible refine Z.callZ_cap ?_); intro capv hcapv)
          | ((with_reducible refine Z.vN_K hk1 ?_ ?_); (focus rfl))
          | ((with_reducible refine ixN_mk k ?_ ?_ ?_); (focus rfl); (focus omega))
          | ((with_reducible refine rowN_mk (cP y) ?_ ?_); (focus (exact padP_at hy)))
          | ((with_reducible refine slN_hi k ?_ ?_ ?_); (focus omega); (focus ((try simp only [LN] at *) <;> omega)))
          | ((with_reducible refine Z.slN_lo (k + 1) ?_ ?_ ?_); (focus omega); (focus ((try simp only [LN] at *) <;> omega)))
          | ((with_reducible refine Z.slN_lhc (L.length - 1) L.length ?_ ?_ ?_ ?_ ?_); (iterate 3 (focus ((try simp only [LN] at *) <;> omega))); (focus (exact ⟨_, rfl, by (try simp only [LN] at *) <;> omega⟩)))
          | ((with_reducible refine clrN_mk ?_ ?_ ?_); (focus (show _ ≤ (lay (List.map cP (padP N9 L)) _ _).length; rw [lay_length (by (try simp only [LN] at *) <;> omega)]; ((try simp only [LN] at *) <;> omega))); (focus rfl))
          | ((with_reducible apply ixN_litp); (focus (exact rfl)); (focus ((try simp only [LN] at *) <;> omega)))
          | ((with_reducible refine apdE_r ?_); (with_reducible refine aprN.mk ⟨_, rfl, ?_⟩ ?_ ?_ ?_ ?_); (focus ((try simp only [LN] at *) <;> omega)); (focus (first | rfl | ((try simp only [LN] at *) <;> omega))); (focus (first | exact one_all (by rfl) | exact one_drop (fun _ => rfl))); (focus ((try simp only [LN] at *) <;> omega)))
          | ((with_reducible refine slE_a ?_ ?_); (focus ((try simp only [LN] at *) <;> omega)))
          | ((with_reducible refine slE_split ?_ ?_ ?_); (focus ((try simp only [LN] at *) <;> omega)); (all_goals intro _))
          | ((with_reducible apply sl3N_mk); (focus (exact rfl)); (focus (exact rfl)); (focus (exact rfl)); (focus ((try simp only [LN] at *) <;> omega)); (focus ((try simp only [LN] at *) <;> omega)); (focus ((try simp only [LN] at *) <;> omega)); (focus ((try simp only [LN] at *) <;> omega)))
          | with_reducible refine wr_i64 (by first | omega | (simp only [LN] at *; omega)) ?_
          | with_reducible refine wr_u64 (by omega) ?_
          | with_reducible first | refine wr_mk _ rfl ?_
          | with_reducible refine nzN_mk (by omega) ?_
          | with_reducible first | refine Z.callZ_in tabOk 153 Try.f37 _ Try.func37 (by kernel_rfl) rfl rfl rfl ?_ | refine Z.callZ_in tabOk 42 Try.f39 _ Try.func39 (by kernel_rfl) rfl rfl rfl ?_ | refine Z.callZ_in tabOk 56 Try.f61 _ Try.func61 (by kernel_rfl) rfl rfl rfl ?_ | refine Z.callZ_in tabOk 33 Try.f66 _ Try.func66 (by kernel_rfl) rfl rfl rfl ?_
          | ((first | (with_reducible refine Z.conZ_mz ?_ (che) ?_)); (focus ((repeat' (first | exact trivial | exact rfl | apply And.intro)); done)))
          | ((with_reducible apply ex_and); exact rfl)
          | with_reducible first | refine Z.drawZ_rule tabOk mixOk ?_ | refine Z.apZ_mk (by kernel_rfl) ?_)
        all_goals (try (conv => whnf))
        all_goals try (show Nat.ble _ _ = true; rfl)
        all_goals try (exfalso; rename_i hz; cases hz; done)
        all_goals try (exfalso; (try simp only [LN] at *) <;> omega)
        all_goals first
          | ((refine Z.rnd_rw 3 ((padP N9 (L.eraseIdx k)).map cP) rfl rfl ?_ ?_); (focus (exact pad_del2 (by omega) rfl hkl (by omega) (by first | exact pad_drop rfl | (rw [List.drop_eq_nil_of_le (by simp only [List.length_map]; omega)]; rfl)))); ((refine Z.rnd_bi 2 [[_, _, _, _, _, _, _, _, _, .osl 3 0 (L.eraseIdx k).length none, _, _]] rfl rfl ⟨⟨Z.Imp.refl _, Z.Imp.refl _, Z.Imp.refl _, Z.Imp.refl _, Z.Imp.refl _, Z.Imp.refl _, Z.Imp.refl _, Z.Imp.refl _, Z.Imp.refl _, Z.Imp.oslcn (by rw [List.length_eraseIdx, if_pos hkl]; (try simp only [LN] at *) <;> omega), Z.Imp.refl _, Z.Imp.refl _, trivial⟩, trivial⟩ ?_); ((refine Z.rndK ((i + 1, B, N', T, l, put, false, (some (L.eraseIdx k, N9)))) (fun s => [0, 1, 2, 3, 4, 5]) rfl rfl rfl rfl ?_ ?_ ?_ ?_); (focus (repeat' (first | exact trivial | exact rfl | apply And.intro))); (focus (repeat' (first | exact trivial | exact WBb_sub rfl | (intro b hb; cases hb; first | rfl | (cases w <;> rfl)) | exact Z.blk_sub rfl rfl (ren_map fun _ => rfl) | exact Z.gB_sub rfl rfl (ren_map fun _ => rfl) | apply And.intro))); (focus (exact ⟨by (try dsimp only); omega, by (try dsimp only); omega, H3, Nat.le_trans erase_le hw9, HP⟩)); ((try dsimp only); omega))))
      · obtain ⟨rfl, rfl, rfl, rfl⟩ := pe_true HP H
        obtain rfl : N' = 0 := by have h9 := H3.hNP; simpa using h9
        repeat' ((conv => whnf); first
          | with_reducible first | refine spB_t ?_
          | ((with_reducible apply spB_cong); (focus (simp only [beq_self_eq_true, bne_self_eq_false, Bool.true_bne, Bool.false_bne, Bool.bne_true, Bool.bne_false, Bool.true_beq, Bool.false_beq, Bool.not_true, Bool.not_false, Bool.not_not, Int.reduceBEq, Int.reduceBNe, Int.reduceLE, Int.reduceLT, Int.reduceEq, decide_true, decide_false]; rfl)))
          | with_reducible first | refine spB_no (by decide) ?_
          | (with_reducible refine spB_dec ?_ ?_ <;> intro _ <;> (try (exfalso; first | contradiction | omega | (rename_i hz; refine hz ?_; simp; done) | (rename_i hz; simp at hz; done) | (simp only [LN] at *; omega))))
          | (with_reducible refine spB_beq ?_ ?_ <;> intro _ <;> (try (exfalso; first | contradiction | omega | (rename_i hz; refine hz ?_; simp; done) | (rename_i hz; simp at hz; done) | (simp only [LN] at *; omega))))
          | with_reducible first | refine Z.rowN_known hx ?_
          | ((with_reducible refine Z.vN_K h4 ?_ ?_); (focus rfl))
          | ((with_reducible refine Z.callZ_cap ?_); intro capv hcapv)
          | ((with_reducible refine Z.vN_K hk1 ?_ ?_); (focus rfl))
          | ((with_reducible refine ixN_mk k ?_ ?_ ?_); (focus rfl); (focus omega))
          | ((with_reducible refine rowN_mk (cP y) ?_ ?_); (focus (exact padP_at hy)))
          | ((with_reducible refine slN_hi k ?_ ?_ ?_); (focus omega); (focus ((try simp only [LN] at *) <;> omega)))
          | ((with_reducible refine Z.slN_lo (k + 1) ?_ ?_ ?_); (focus omega); (focus ((try simp only [LN] at *) <;> omega)))
          | ((with_reducible refine Z.slN_lhc (L.length - 1) L.length ?_ ?_ ?_ ?_ ?_); (iterate 3 (focus ((try simp only [LN] at *) <;> omega))); (focus (exact ⟨_, rfl, by (try simp only [LN] at *) <;> omega⟩)))
          | ((with_reducible refine clrN_mk ?_ ?_ ?_); (focus (show _ ≤ (lay (List.map cP (padP N9 L)) _ _).length; rw [lay_length (by (try simp only [LN] at *) <;> omega)]; ((try simp only [LN] at *) <;> omega))); (focus rfl))
          | ((with_reducible apply ixN_litp); (focus (exact rfl)); (focus ((try simp only [LN] at *) <;> omega)))
          | ((with_reducible refine apdE_r ?_); (with_reducible refine aprN.mk ⟨_, rfl, ?_⟩ ?_ ?_ ?_ ?_); (focus ((try simp only [LN] at *) <;> omega)); (focus (first | rfl | ((try simp only [LN] at *) <;> omega))); (focus (first | exact one_all (by rfl) | exact one_drop (fun _ => rfl))); (focus ((try simp only [LN] at *) <;> omega)))
          | ((with_reducible refine slE_a ?_ ?_); (focus ((try simp only [LN] at *) <;> omega)))
          | ((with_reducible refine slE_split ?_ ?_ ?_); (focus ((try simp only [LN] at *) <;> omega)); (all_goals intro _))
          | ((with_reducible apply sl3N_mk); (focus (exact rfl)); (focus (exact rfl)); (focus (exact rfl)); (focus ((try simp only [LN] at *) <;> omega)); (focus ((try simp only [LN] at *) <;> omega)); (focus ((try simp only [LN] at *) <;> omega)); (focus ((try simp only [LN] at *) <;> omega)))
          | with_reducible refine wr_i64 (by first | omega | (simp only [LN] at *; omega)) ?_
          | with_reducible refine wr_u64 (by omega) ?_
          | with_reducible first | refine wr_mk _ rfl ?_
          | with_reducible refine nzN_mk (by omega) ?_
          | with_reducible first | refine Z.callZ_in tabOk 153 Try.f37 _ Try.func37 (by kernel_rfl) rfl rfl rfl ?_ | refine Z.callZ_in tabOk 42 Try.f39 _ Try.func39 (by kernel_rfl) rfl rfl rfl ?_ | refine Z.callZ_in tabOk 56 Try.f61 _ Try.func61 (by kernel_rfl) rfl rfl rfl ?_ | refine Z.callZ_in tabOk 33 Try.f66 _ Try.func66 (by kernel_rfl) rfl rfl rfl ?_
          | ((first | (with_reducible refine Z.conZ_mz ?_ (che) ?_)); (focus ((repeat' (first | exact trivial | exact rfl | apply And.intro)); done)))
          | ((with_reducible apply ex_and); exact rfl)
          | with_reducible first | refine Z.drawZ_rule tabOk mixOk ?_ | refine Z.apZ_mk (by kernel_rfl) ?_)
        all_goals (try (conv => whnf))
        all_goals try (show Nat.ble _ _ = true; rfl)
        all_goals try (exfalso; rename_i hz; cases hz; done)
        all_goals try (exfalso; (try simp only [LN] at *) <;> omega)
        all_goals first
          | ((refine Z.rnd_rw 3 ((padP N9 (L.eraseIdx k)).map cP) rfl rfl ?_ ?_); (focus (exact pad_del2 (by omega) rfl hkl (by omega) (by first | exact pad_drop rfl | (rw [List.drop_eq_nil_of_le (by simp only [List.length_map]; omega)]; rfl)))); ((refine Z.rnd_bi 2 [[_, _, _, _, _, _, _, _, _, .osl 3 0 (L.eraseIdx k).length none, _, _]] rfl rfl ⟨⟨Z.Imp.refl _, Z.Imp.refl _, Z.Imp.refl _, Z.Imp.refl _, Z.Imp.refl _, Z.Imp.refl _, Z.Imp.refl _, Z.Imp.refl _, Z.Imp.refl _, Z.Imp.oslcn (by rw [List.length_eraseIdx, if_pos hkl]; (try simp only [LN] at *) <;> omega), Z.Imp.refl _, Z.Imp.refl _, trivial⟩, trivial⟩ ?_); ((refine Z.rndK ((i + 1, 0, 0, 0, l, [], true, (some (L.eraseIdx k, N9)))) (fun s => [0, 1, 2, 3, 4, 5]) rfl rfl rfl rfl ?_ ?_ ?_ ?_); (focus (repeat' (first | exact trivial | exact rfl | apply And.intro))); (focus (repeat' (first | exact trivial | exact WBb_sub rfl | (intro b hb; cases hb; first | rfl | (cases w <;> rfl)) | (intro b hb; cases hb; done) | apply And.intro))); (focus (exact ⟨by (try dsimp only); omega, by (try dsimp only); omega, H3, Nat.le_trans erase_le hw9, HP⟩)); ((try dsimp only); omega)))))
end Go.Proofs.Ytoiadndmbppobaa
namespace Go.Proofs.Ytoiadndmbppobaa
open Go Go.RowKit Wx
set_option linter.unusedVariables false
set_option linter.unusedSimpArgs false
set_option maxHeartbeats 40000000
theorem c_los0 (rm : Int) (ls : List St) (hl : ls.length ≤ 9223372036854775807) (i B N T : Nat) (l : Int) (put : List El) (pe : Bool) (w : Option (List Pk × Nat)) (HI : i ≤ ls.length) (HB : i ≤ 40) (H : LInv rm i B N T l put (wl w)) (HW : wn w) (HP : pe = true ↔ put = []) (hi : i < ls.length) (kd n : Int) (keeps : Bool) (e : El) (pk : Pk) (hx : ls[i]? = some ⟨kd, n, keeps, e, pk⟩) (hux : 0 ≤ e.num ∧ 0 ≤ pk.sq ∧ 0 ≤ pk.lim ∧ 0 ≤ pk.e.num) (hib : ¬ i = 40) (h4 : (IntKind.u64.wrap kd).tmod 11 = 8) (hw0 : (wl w).length = 0) {Q : Exit → Z.S → Prop} : Z.codeZ Try.prog tab 129 0 none (lbody Try.f8) ⟨gCH 28 (i, B, N, T, l, put, pe, w) ++ gFk 5 26 27 ls, gCK rm (i, B, N, T, l, put, pe, w) ++ [], 6⟩ (loopPost (gRnd rm 28 5 26 27 40 ls (i, B, N, T, l, put, pe, w)) Q) := by
  dsimp only [gCH, gFk, gCK, gRnd]
  rcases w with _ | ⟨L, N9⟩
  · have H2 := H.more
    have hqm : (List.map eE (put.drop B)).length = put.length - B := by rw [List.length_map, List.length_drop]
    have hbm : (List.map eE (bfL put N T)).length = N - T := by rw [List.length_map, bfL_len H2.hNP]
    have hq9 : (put.drop B).length = put.length - B := List.length_drop
    have hb9 := bfL_len (T := T) H2.hNP
    have hn9 := H2.hNP
    have hbn9 := H2.hBN
    have htn9 := H2.hTN
    have hR9 := (okR_all H2.hR).1
    have hpl9 := H2.hpl
    have hS9 := (okS_all H2.hS).1
    cases pe
    · have hp0 : 0 < put.length := pe_false HP
      have hpne : put ≠ [] := fun h9 => by simp [h9] at hp0
      repeat' ((conv => whnf); first
        | with_reducible first | refine spB_t ?_
        | ((with_reducible apply spB_cong); (focus (simp only [beq_self_eq_true, bne_self_eq_false, Bool.true_bne, Bool.false_bne, Bool.bne_true, Bool.bne_false, Bool.true_beq, Bool.false_beq, Bool.not_true, Bool.not_false, Bool.not_not, Int.reduceBEq, Int.reduceBNe, Int.reduceLE, Int.reduceLT, Int.reduceEq, decide_true, decide_false]; rfl)))
        | with_reducible first | refine spB_yes (by decide) ?_ | refine spB_no (by decide) ?_
        | (with_reducible refine spB_dec ?_ ?_ <;> intro _ <;> (try (exfalso; first | contradiction | omega | (rename_i hz; refine hz ?_; simp; done) | (rename_i hz; simp at hz; done) | (simp only [LN] at *; omega))))
        | (with_reducible refine spB_beq ?_ ?_ <;> intro _ <;> (try (exfalso; first | contradiction | omega | (rename_i hz; refine hz ?_; simp; done) | (rename_i hz; simp at hz; done) | (simp only [LN] at *; omega))))
        | with_reducible first | refine Z.rowN_known hx ?_
        | ((with_reducible refine Z.vN_K h4 ?_ ?_); (focus rfl))
        | ((with_reducible apply ixN_litp); (focus (exact rfl)); (focus ((try simp only [LN] at *) <;> omega)))
        | with_reducible refine wr_i64 (by first | omega | (simp only [LN] at *; omega)) ?_
        | with_reducible first | refine wr_mk _ rfl ?_
        | with_reducible refine nzN_mk (by omega) ?_
        | with_reducible first | refine Z.callZ_in tabOk 153 Try.f37 _ Try.func37 (by kernel_rfl) rfl rfl rfl ?_ | refine Z.callZ_in tabOk 56 Try.f61 _ Try.func61 (by kernel_rfl) rfl rfl rfl ?_
        | ((with_reducible apply ex_and); exact rfl))
      all_goals (try (conv => whnf))
      all_goals try (show Nat.ble _ _ = true; rfl)
      all_goals try (exfalso; rename_i hz; cases hz; done)
      all_goals try (exfalso; (try simp only [LN] at *) <;> omega)
      all_goals first
        | ((refine Z.rndK ((i + 1, B, N, T, l, put, false, none)) (fun s => [0, 1, 2, 3, 4, 5]) rfl rfl rfl rfl ?_ ?_ ?_ ?_); (focus (repeat' (first | exact trivial | exact rfl | apply And.intro))); (focus (repeat' (first | exact trivial | exact WBb_sub rfl | (intro b hb; cases hb; first | rfl | (cases w <;> rfl)) | exact Z.blk_sub rfl rfl (ren_map fun _ => rfl) | exact Z.gB_sub rfl rfl (ren_map fun _ => rfl) | apply And.intro))); (focus (exact ⟨by (try dsimp only); omega, by (try dsimp only); omega, H2, trivial, HP⟩)); ((try dsimp only); omega))
    · obtain ⟨rfl, rfl, rfl, rfl⟩ := pe_true HP H
      repeat' ((conv => whnf); first
        | with_reducible first | refine spB_t ?_
        | ((with_reducible apply spB_cong); (focus (simp only [beq_self_eq_true, bne_self_eq_false, Bool.true_bne, Bool.false_bne, Bool.bne_true, Bool.bne_false, Bool.true_beq, Bool.false_beq, Bool.not_true, Bool.not_false, Bool.not_not, Int.reduceBEq, Int.reduceBNe, Int.reduceLE, Int.reduceLT, Int.reduceEq, decide_true, decide_false]; rfl)))
        | with_reducible first | refine spB_yes (by decide) ?_ | refine spB_no (by decide) ?_
        | (with_reducible refine spB_dec ?_ ?_ <;> intro _ <;> (try (exfalso; first | contradiction | omega | (rename_i hz; refine hz ?_; simp; done) | (rename_i hz; simp at hz; done) | (simp only [LN] at *; omega))))
        | (with_reducible refine spB_beq ?_ ?_ <;> intro _ <;> (try (exfalso; first | contradiction | omega | (rename_i hz; refine hz ?_; simp; done) | (rename_i hz; simp at hz; done) | (simp only [LN] at *; omega))))
        | with_reducible first | refine Z.rowN_known hx ?_
        | ((with_reducible refine Z.vN_K h4 ?_ ?_); (focus rfl))
        | ((with_reducible apply ixN_litp); (focus (exact rfl)); (focus ((try simp only [LN] at *) <;> omega)))
        | with_reducible refine wr_i64 (by first | omega | (simp only [LN] at *; omega)) ?_
        | with_reducible first | refine wr_mk _ rfl ?_
        | with_reducible refine nzN_mk (by omega) ?_
        | with_reducible first | refine Z.callZ_in tabOk 153 Try.f37 _ Try.func37 (by kernel_rfl) rfl rfl rfl ?_ | refine Z.callZ_in tabOk 56 Try.f61 _ Try.func61 (by kernel_rfl) rfl rfl rfl ?_
        | ((with_reducible apply ex_and); exact rfl))
      all_goals (try (conv => whnf))
      all_goals try (show Nat.ble _ _ = true; rfl)
      all_goals try (exfalso; rename_i hz; cases hz; done)
      all_goals try (exfalso; (try simp only [LN] at *) <;> omega)
      all_goals first
        | ((refine Z.rndK ((i + 1, 0, 0, 0, l, [], true, none)) (fun s => [0, 1, 2, 3, 4, 5]) rfl rfl rfl rfl ?_ ?_ ?_ ?_); (focus (repeat' (first | exact trivial | exact rfl | apply And.intro))); (focus (repeat' (first | exact trivial | exact WBb_sub rfl | (intro b hb; cases hb; first | rfl | (cases w <;> rfl)) | (intro b hb; cases hb; done) | apply And.intro))); (focus (exact ⟨by (try dsimp only); omega, by (try dsimp only); omega, H2, trivial, HP⟩)); ((try dsimp only); omega))
  have hL : L.length = 0 := hw0
  have hw9 : L.length ≤ N9 := HW
  have hpd : (padP N9 L).length = N9 := padP_len hw9
  have H2 := H.more
  have hqm : (List.map eE (put.drop B)).length = put.length - B := by rw [List.length_map, List.length_drop]
  have hbm : (List.map eE (bfL put N T)).length = N - T := by rw [List.length_map, bfL_len H2.hNP]
  have hq9 : (put.drop B).length = put.length - B := List.length_drop
  have hb9 := bfL_len (T := T) H2.hNP
  have hn9 := H2.hNP
  have hbn9 := H2.hBN
  have htn9 := H2.hTN
  have hR9 := (okR_all H2.hR).1
  have hpl9 := H2.hpl
  have hS9 := (okS_all H2.hS).1
  cases pe
  · have hp0 : 0 < put.length := pe_false HP
    have hpne : put ≠ [] := fun h9 => by simp [h9] at hp0
    repeat' ((conv => whnf); first
      | with_reducible first | refine spB_t ?_
      | ((with_reducible apply spB_cong); (focus (simp only [beq_self_eq_true, bne_self_eq_false, Bool.true_bne, Bool.false_bne, Bool.bne_true, Bool.bne_false, Bool.true_beq, Bool.false_beq, Bool.not_true, Bool.not_false, Bool.not_not, Int.reduceBEq, Int.reduceBNe, Int.reduceLE, Int.reduceLT, Int.reduceEq, decide_true, decide_false]; rfl)))
      | with_reducible first | refine spB_no (by decide) ?_
      | (with_reducible refine spB_dec ?_ ?_ <;> intro _ <;> (try (exfalso; first | contradiction | omega | (rename_i hz; refine hz ?_; simp; done) | (rename_i hz; simp at hz; done) | (simp only [LN] at *; omega))))
      | (with_reducible refine spB_beq ?_ ?_ <;> intro _ <;> (try (exfalso; first | contradiction | omega | (rename_i hz; refine hz ?_; simp; done) | (rename_i hz; simp at hz; done) | (simp only [LN] at *; omega))))
      | with_reducible first | refine Z.rowN_known hx ?_
      | ((with_reducible refine Z.vN_K h4 ?_ ?_); (focus rfl))
      | ((with_reducible apply ixN_litp); (focus (exact rfl)); (focus ((try simp only [LN] at *) <;> omega)))
      | with_reducible refine wr_i64 (by first | omega | (simp only [LN] at *; omega)) ?_
      | with_reducible first | refine wr_mk _ rfl ?_
      | with_reducible refine nzN_mk (by omega) ?_
      | with_reducible first | refine Z.callZ_in tabOk 153 Try.f37 _ Try.func37 (by kernel_rfl) rfl rfl rfl ?_ | refine Z.callZ_in tabOk 56 Try.f61 _ Try.func61 (by kernel_rfl) rfl rfl rfl ?_
      | ((with_reducible apply ex_and); exact rfl))
    all_goals (try (conv => whnf))
    all_goals try (show Nat.ble _ _ = true; rfl)
    all_goals try (exfalso; rename_i hz; cases hz; done)
    all_goals try (exfalso; (try simp only [LN] at *) <;> omega)
    all_goals first
      | ((refine Z.rndK ((i + 1, B, N, T, l, put, false, (some (L, N9)))) (fun s => [0, 1, 2, 3, 4, 5]) rfl rfl rfl rfl ?_ ?_ ?_ ?_); (focus (repeat' (first | exact trivial | exact rfl | apply And.intro))); (focus (repeat' (first | exact trivial | exact WBb_sub rfl | (intro b hb; cases hb; first | rfl | (cases w <;> rfl)) | exact Z.blk_sub rfl rfl (ren_map fun _ => rfl) | exact Z.gB_sub rfl rfl (ren_map fun _ => rfl) | apply And.intro))); (focus (exact ⟨by (try dsimp only); omega, by (try dsimp only); omega, H2, HW, HP⟩)); ((try dsimp only); omega))
  · obtain ⟨rfl, rfl, rfl, rfl⟩ := pe_true HP H
    repeat' ((conv => whnf); first
      | with_reducible first | refine spB_t ?_
      | ((with_reducible apply spB_cong); (focus (simp only [beq_self_eq_true, bne_self_eq_false, Bool.true_bne, Bool.false_bne, Bool.bne_true, Bool.bne_false, Bool.true_beq, Bool.false_beq, Bool.not_true, Bool.not_false, Bool.not_not, Int.reduceBEq, Int.reduceBNe, Int.reduceLE, Int.reduceLT, Int.reduceEq, decide_true, decide_false]; rfl)))
      | with_reducible first | refine spB_no (by decide) ?_
      | (with_reducible refine spB_dec ?_ ?_ <;> intro _ <;> (try (exfalso; first | contradiction | omega | (rename_i hz; refine hz ?_; simp; done) | (rename_i hz; simp at hz; done) | (simp only [LN] at *; omega))))
      | (with_reducible refine spB_beq ?_ ?_ <;> intro _ <;> (try (exfalso; first | contradiction | omega | (rename_i hz; refine hz ?_; simp; done) | (rename_i hz; simp at hz; done) | (simp only [LN] at *; omega))))
      | with_reducible first | refine Z.rowN_known hx ?_
      | ((with_reducible refine Z.vN_K h4 ?_ ?_); (focus rfl))
      | ((with_reducible apply ixN_litp); (focus (exact rfl)); (focus ((try simp only [LN] at *) <;> omega)))
      | with_reducible refine wr_i64 (by first | omega | (simp only [LN] at *; omega)) ?_
      | with_reducible first | refine wr_mk _ rfl ?_
      | with_reducible refine nzN_mk (by omega) ?_
      | with_reducible first | refine Z.callZ_in tabOk 153 Try.f37 _ Try.func37 (by kernel_rfl) rfl rfl rfl ?_ | refine Z.callZ_in tabOk 56 Try.f61 _ Try.func61 (by kernel_rfl) rfl rfl rfl ?_
      | ((with_reducible apply ex_and); exact rfl))
    all_goals (try (conv => whnf))
    all_goals try (show Nat.ble _ _ = true; rfl)
    all_goals try (exfalso; rename_i hz; cases hz; done)
    all_goals try (exfalso; (try simp only [LN] at *) <;> omega)
    all_goals first
      | ((refine Z.rndK ((i + 1, 0, 0, 0, l, [], true, (some (L, N9)))) (fun s => [0, 1, 2, 3, 4, 5]) rfl rfl rfl rfl ?_ ?_ ?_ ?_); (focus (repeat' (first | exact trivial | exact rfl | apply And.intro))); (focus (repeat' (first | exact trivial | exact WBb_sub rfl | (intro b hb; cases hb; first | rfl | (cases w <;> rfl)) | (intro b hb; cases hb; done) | apply And.intro))); (focus (exact ⟨by (try dsimp only); omega, by (try dsimp only); omega, H2, HW, HP⟩)); ((try dsimp only); omega))
end Go.Proofs.Ytoiadndmbppobaa
namespace Go.Proofs.Ytoiadndmbppobaa
open Go Go.RowKit Wx
set_option linter.unusedVariables false
set_option linter.unusedSimpArgs false
set_option maxHeartbeats 40000000
theorem c_lost (rm : Int) (ls : List St) (hl : ls.length ≤ 9223372036854775807) (i B N T : Nat) (l : Int) (put : List El) (pe : Bool) (L : List Pk) (N9 : Nat) (HI : i ≤ ls.length) (HB : i ≤ 40) (H : LInv rm i B N T l put (wl (some (L, N9)))) (HW : wn (some (L, N9))) (HP : pe = true ↔ put = []) (hi : i < ls.length) (kd n : Int) (keeps : Bool) (e : El) (pk : Pk) (hx : ls[i]? = some ⟨kd, n, keeps, e, pk⟩) (hux : 0 ≤ e.num ∧ 0 ≤ pk.sq ∧ 0 ≤ pk.lim ∧ 0 ≤ pk.e.num) (hib : ¬ i = 40) (h4 : (IntKind.u64.wrap kd).tmod 11 = 8) (hL : 0 < L.length) {Q : Exit → Z.S → Prop} : Z.codeZ Try.prog tab 129 0 none (lbody Try.f8) ⟨gCH 28 (i, B, N, T, l, put, pe, (some (L, N9))) ++ gFk 5 26 27 ls, gCK rm (i, B, N, T, l, put, pe, (some (L, N9))) ++ [], 6⟩ (loopPost (gRnd rm 28 5 26 27 40 ls (i, B, N, T, l, put, pe, (some (L, N9)))) Q) := by
  dsimp only [gCH, gFk, gCK, gRnd]
  have hw9 : L.length ≤ N9 := HW
  have hpd : (padP N9 L).length = N9 := padP_len hw9
  have hwl9 : L.length ≤ 8 * i := H.hwl
  obtain ⟨k, hk1, hkl⟩ := u64_tm (n := n) hL
  obtain ⟨y, hy⟩ := getElem?_some' (xs := L) (i := k) hkl
  have hyok : okP put rm N T y := H.hw y (List.mem_of_getElem? hy)
  have hyn := hyok.num H.hP
  have H2 := (H.sub (w' := L.eraseIdx k) erase_sub erase_le).more
  have hqm : (List.map eE (put.drop B)).length = put.length - B := by rw [List.length_map, List.length_drop]
  have hbm : (List.map eE (bfL put N T)).length = N - T := by rw [List.length_map, bfL_len H2.hNP]
  have hq9 : (put.drop B).length = put.length - B := List.length_drop
  have hb9 := bfL_len (T := T) H2.hNP
  have hn9 := H2.hNP
  have hbn9 := H2.hBN
  have htn9 := H2.hTN
  have hR9 := (okR_all H2.hR).1
  have hpl9 := H2.hpl
  have hS9 := (okS_all H2.hS).1
  cases pe
  · have hp0 : 0 < put.length := pe_false HP
    have hpne : put ≠ [] := fun h9 => by simp [h9] at hp0
    repeat' ((conv => whnf); first
      | with_reducible first | refine spB_t ?_
      | ((with_reducible apply spB_cong); (focus (simp only [beq_self_eq_true, bne_self_eq_false, Bool.true_bne, Bool.false_bne, Bool.bne_true, Bool.bne_false, Bool.true_beq, Bool.false_beq, Bool.not_true, Bool.not_false, Bool.not_not, Int.reduceBEq, Int.reduceBNe, Int.reduceLE, Int.reduceLT, Int.reduceEq, decide_true, decide_false]; rfl)))
      | with_reducible first | refine spB_no (by decide) ?_
      | (with_reducible refine spB_dec ?_ ?_ <;> intro _ <;> (try (exfalso; first | contradiction | omega | (rename_i hz; refine hz ?_; simp; done) | (rename_i hz; simp at hz; done) | (simp only [LN] at *; omega))))
      | (with_reducible refine spB_beq ?_ ?_ <;> intro _ <;> (try (exfalso; first | contradiction | omega | (rename_i hz; refine hz ?_; simp; done) | (rename_i hz; simp at hz; done) | (simp only [LN] at *; omega))))
      | with_reducible first | refine Z.rowN_known hx ?_
      | ((with_reducible refine Z.vN_K h4 ?_ ?_); (focus rfl))
      | ((with_reducible refine Z.callZ_cap ?_); intro capv hcapv)
      | ((with_reducible refine Z.vN_K hk1 ?_ ?_); (focus rfl))
      | ((with_reducible refine ixN_mk k ?_ ?_ ?_); (focus rfl); (focus omega))
      | ((with_reducible refine rowN_mk (cP y) ?_ ?_); (focus (exact padP_at hy)))
      | ((with_reducible refine slN_hi k ?_ ?_ ?_); (focus omega); (focus ((try simp only [LN] at *) <;> omega)))
      | ((with_reducible refine Z.slN_lo (k + 1) ?_ ?_ ?_); (focus omega); (focus ((try simp only [LN] at *) <;> omega)))
      | ((with_reducible refine Z.slN_lhc (L.length - 1) L.length ?_ ?_ ?_ ?_ ?_); (iterate 3 (focus ((try simp only [LN] at *) <;> omega))); (focus (exact ⟨_, rfl, by (try simp only [LN] at *) <;> omega⟩)))
      | ((with_reducible refine clrN_mk ?_ ?_ ?_); (focus (show _ ≤ (lay (List.map cP (padP N9 L)) _ _).length; rw [lay_length (by (try simp only [LN] at *) <;> omega)]; ((try simp only [LN] at *) <;> omega))); (focus rfl))
      | ((with_reducible apply ixN_litp); (focus (exact rfl)); (focus ((try simp only [LN] at *) <;> omega)))
      | ((with_reducible refine apdE_r ?_); (with_reducible refine aprN.mk ⟨_, rfl, ?_⟩ ?_ ?_ ?_ ?_); (focus ((try simp only [LN] at *) <;> omega)); (focus (first | rfl | ((try simp only [LN] at *) <;> omega))); (focus (first | exact one_all (by rfl) | exact one_drop (fun _ => rfl))); (focus ((try simp only [LN] at *) <;> omega)))
      | ((with_reducible refine slE_a ?_ ?_); (focus ((try simp only [LN] at *) <;> omega)))
      | ((with_reducible refine slE_split ?_ ?_ ?_); (focus ((try simp only [LN] at *) <;> omega)); (all_goals intro _))
      | ((with_reducible apply sl3N_mk); (focus (exact rfl)); (focus (exact rfl)); (focus (exact rfl)); (focus ((try simp only [LN] at *) <;> omega)); (focus ((try simp only [LN] at *) <;> omega)); (focus ((try simp only [LN] at *) <;> omega)); (focus ((try simp only [LN] at *) <;> omega)))
      | with_reducible refine wr_i64 (by first | omega | (simp only [LN] at *; omega)) ?_
      | with_reducible refine wr_u64 (by omega) ?_
      | with_reducible first | refine wr_mk _ rfl ?_
      | with_reducible refine nzN_mk (by omega) ?_
      | with_reducible first | refine Z.callZ_in tabOk 153 Try.f37 _ Try.func37 (by kernel_rfl) rfl rfl rfl ?_ | refine Z.callZ_in tabOk 56 Try.f61 _ Try.func61 (by kernel_rfl) rfl rfl rfl ?_ | refine Z.callZ_in tabOk 33 Try.f66 _ Try.func66 (by kernel_rfl) rfl rfl rfl ?_
      | ((with_reducible apply ex_and); exact rfl)
      | with_reducible first | refine Z.drawZ_rule tabOk mixOk ?_ | refine Z.apZ_mk (by kernel_rfl) ?_)
    all_goals (try (conv => whnf))
    all_goals try (show Nat.ble _ _ = true; rfl)
    all_goals try (exfalso; rename_i hz; cases hz; done)
    all_goals try (exfalso; (try simp only [LN] at *) <;> omega)
    all_goals first
      | ((refine Z.rnd_rw 3 ((padP N9 (L.eraseIdx k)).map cP) rfl rfl ?_ ?_); (focus (exact pad_del2 (by omega) rfl hkl (by omega) (by first | exact pad_drop rfl | (rw [List.drop_eq_nil_of_le (by simp only [List.length_map]; omega)]; rfl)))); ((refine Z.rnd_bi 2 [[_, _, _, _, _, _, _, _, _, .osl 3 0 (L.eraseIdx k).length none, _, _]] rfl rfl ⟨⟨Z.Imp.refl _, Z.Imp.refl _, Z.Imp.refl _, Z.Imp.refl _, Z.Imp.refl _, Z.Imp.refl _, Z.Imp.refl _, Z.Imp.refl _, Z.Imp.refl _, Z.Imp.oslcn (by rw [List.length_eraseIdx, if_pos hkl]; (try simp only [LN] at *) <;> omega), Z.Imp.refl _, Z.Imp.refl _, trivial⟩, trivial⟩ ?_); ((refine Z.rndK ((i + 1, B, N, T, l, put, false, (some (L.eraseIdx k, N9)))) (fun s => [0, 1, 2, 3, 4, 5]) rfl rfl rfl rfl ?_ ?_ ?_ ?_); (focus (repeat' (first | exact trivial | exact rfl | apply And.intro))); (focus (repeat' (first | exact trivial | exact WBb_sub rfl | (intro b hb; cases hb; first | rfl | (cases w <;> rfl)) | exact Z.blk_sub rfl rfl (ren_map fun _ => rfl) | exact Z.gB_sub rfl rfl (ren_map fun _ => rfl) | apply And.intro))); (focus (exact ⟨by (try dsimp only); omega, by (try dsimp only); omega, H2, Nat.le_trans erase_le hw9, HP⟩)); ((try dsimp only); omega))))
  · obtain ⟨rfl, rfl, rfl, rfl⟩ := pe_true HP H
    repeat' ((conv => whnf); first
      | with_reducible first | refine spB_t ?_
      | ((with_reducible apply spB_cong); (focus (simp only [beq_self_eq_true, bne_self_eq_false, Bool.true_bne, Bool.false_bne, Bool.bne_true, Bool.bne_false, Bool.true_beq, Bool.false_beq, Bool.not_true, Bool.not_false, Bool.not_not, Int.reduceBEq, Int.reduceBNe, Int.reduceLE, Int.reduceLT, Int.reduceEq, decide_true, decide_false]; rfl)))
      | with_reducible first | refine spB_no (by decide) ?_
      | (with_reducible refine spB_dec ?_ ?_ <;> intro _ <;> (try (exfalso; first | contradiction | omega | (rename_i hz; refine hz ?_; simp; done) | (rename_i hz; simp at hz; done) | (simp only [LN] at *; omega))))
      | (with_reducible refine spB_beq ?_ ?_ <;> intro _ <;> (try (exfalso; first | contradiction | omega | (rename_i hz; refine hz ?_; simp; done) | (rename_i hz; simp at hz; done) | (simp only [LN] at *; omega))))
      | with_reducible first | refine Z.rowN_known hx ?_
      | ((with_reducible refine Z.vN_K h4 ?_ ?_); (focus rfl))
      | ((with_reducible refine Z.callZ_cap ?_); intro capv hcapv)
      | ((with_reducible refine Z.vN_K hk1 ?_ ?_); (focus rfl))
      | ((with_reducible refine ixN_mk k ?_ ?_ ?_); (focus rfl); (focus omega))
      | ((with_reducible refine rowN_mk (cP y) ?_ ?_); (focus (exact padP_at hy)))
      | ((with_reducible refine slN_hi k ?_ ?_ ?_); (focus omega); (focus ((try simp only [LN] at *) <;> omega)))
      | ((with_reducible refine Z.slN_lo (k + 1) ?_ ?_ ?_); (focus omega); (focus ((try simp only [LN] at *) <;> omega)))
      | ((with_reducible refine Z.slN_lhc (L.length - 1) L.length ?_ ?_ ?_ ?_ ?_); (iterate 3 (focus ((try simp only [LN] at *) <;> omega))); (focus (exact ⟨_, rfl, by (try simp only [LN] at *) <;> omega⟩)))
      | ((with_reducible refine clrN_mk ?_ ?_ ?_); (focus (show _ ≤ (lay (List.map cP (padP N9 L)) _ _).length; rw [lay_length (by (try simp only [LN] at *) <;> omega)]; ((try simp only [LN] at *) <;> omega))); (focus rfl))
      | ((with_reducible apply ixN_litp); (focus (exact rfl)); (focus ((try simp only [LN] at *) <;> omega)))
      | ((with_reducible refine apdE_r ?_); (with_reducible refine aprN.mk ⟨_, rfl, ?_⟩ ?_ ?_ ?_ ?_); (focus ((try simp only [LN] at *) <;> omega)); (focus (first | rfl | ((try simp only [LN] at *) <;> omega))); (focus (first | exact one_all (by rfl) | exact one_drop (fun _ => rfl))); (focus ((try simp only [LN] at *) <;> omega)))
      | ((with_reducible refine slE_a ?_ ?_); (focus ((try simp only [LN] at *) <;> omega)))
      | ((with_reducible refine slE_split ?_ ?_ ?_); (focus ((try simp only [LN] at *) <;> omega)); (all_goals intro _))
      | ((with_reducible apply sl3N_mk); (focus (exact rfl)); (focus (exact rfl)); (focus (exact rfl)); (focus ((try simp only [LN] at *) <;> omega)); (focus ((try simp only [LN] at *) <;> omega)); (focus ((try simp only [LN] at *) <;> omega)); (focus ((try simp only [LN] at *) <;> omega)))
      | with_reducible refine wr_i64 (by first | omega | (simp only [LN] at *; omega)) ?_
      | with_reducible refine wr_u64 (by omega) ?_
      | with_reducible first | refine wr_mk _ rfl ?_
      | with_reducible refine nzN_mk (by omega) ?_
      | with_reducible first | refine Z.callZ_in tabOk 153 Try.f37 _ Try.func37 (by kernel_rfl) rfl rfl rfl ?_ | refine Z.callZ_in tabOk 56 Try.f61 _ Try.func61 (by kernel_rfl) rfl rfl rfl ?_ | refine Z.callZ_in tabOk 33 Try.f66 _ Try.func66 (by kernel_rfl) rfl rfl rfl ?_
      | ((with_reducible apply ex_and); exact rfl)
      | with_reducible first | refine Z.drawZ_rule tabOk mixOk ?_ | refine Z.apZ_mk (by kernel_rfl) ?_)
    all_goals (try (conv => whnf))
    all_goals try (show Nat.ble _ _ = true; rfl)
    all_goals try (exfalso; rename_i hz; cases hz; done)
    all_goals try (exfalso; (try simp only [LN] at *) <;> omega)
    all_goals first
      | ((refine Z.rnd_rw 3 ((padP N9 (L.eraseIdx k)).map cP) rfl rfl ?_ ?_); (focus (exact pad_del2 (by omega) rfl hkl (by omega) (by first | exact pad_drop rfl | (rw [List.drop_eq_nil_of_le (by simp only [List.length_map]; omega)]; rfl)))); ((refine Z.rnd_bi 2 [[_, _, _, _, _, _, _, _, _, .osl 3 0 (L.eraseIdx k).length none, _, _]] rfl rfl ⟨⟨Z.Imp.refl _, Z.Imp.refl _, Z.Imp.refl _, Z.Imp.refl _, Z.Imp.refl _, Z.Imp.refl _, Z.Imp.refl _, Z.Imp.refl _, Z.Imp.refl _, Z.Imp.oslcn (by rw [List.length_eraseIdx, if_pos hkl]; (try simp only [LN] at *) <;> omega), Z.Imp.refl _, Z.Imp.refl _, trivial⟩, trivial⟩ ?_); ((refine Z.rndK ((i + 1, 0, 0, 0, l, [], true, (some (L.eraseIdx k, N9)))) (fun s => [0, 1, 2, 3, 4, 5]) rfl rfl rfl rfl ?_ ?_ ?_ ?_); (focus (repeat' (first | exact trivial | exact rfl | apply And.intro))); (focus (repeat' (first | exact trivial | exact WBb_sub rfl | (intro b hb; cases hb; first | rfl | (cases w <;> rfl)) | (intro b hb; cases hb; done) | apply And.intro))); (focus (exact ⟨by (try dsimp only); omega, by (try dsimp only); omega, H2, Nat.le_trans erase_le hw9, HP⟩)); ((try dsimp only); omega))))
end Go.Proofs.Ytoiadndmbppobaa
namespace Go.Proofs.Ytoiadndmbppobaa
open Go Go.RowKit Wx
set_option linter.unusedVariables false
set_option linter.unusedSimpArgs false
set_option maxHeartbeats 40000000
theorem c_take (rm : Int) (ls : List St) (hl : ls.length ≤ 9223372036854775807) (i B N T : Nat) (l : Int) (put : List El) (pe : Bool) (w : Option (List Pk × Nat)) (HI : i ≤ ls.length) (HB : i ≤ 40) (H : LInv rm i B N T l put (wl w)) (HW : wn w) (HP : pe = true ↔ put = []) (hi : i < ls.length) (kd n : Int) (keeps : Bool) (e : El) (pk : Pk) (hx : ls[i]? = some ⟨kd, n, keeps, e, pk⟩) (hux : 0 ≤ e.num ∧ 0 ≤ pk.sq ∧ 0 ≤ pk.lim ∧ 0 ≤ pk.e.num) (hib : ¬ i = 40) (h4 : (IntKind.u64.wrap kd).tmod 11 = 9)  {Q : Exit → Z.S → Prop} : Z.codeZ Try.prog tab 129 0 none (lbody Try.f8) ⟨gCH 28 (i, B, N, T, l, put, pe, w) ++ gFk 5 26 27 ls, gCK rm (i, B, N, T, l, put, pe, w) ++ [], 6⟩ (loopPost (gRnd rm 28 5 26 27 40 ls (i, B, N, T, l, put, pe, w)) Q) := by
  dsimp only [gCH, gFk, gCK, gRnd]
  have cta := take_con 7 ((N : Int) + 1) (bfL put N T) rm (by have h9 := H.hpl; simp only [List.length_take, List.length_drop]; omega) (fun e he => okEs_num H.hP e (List.mem_of_mem_take (List.mem_of_mem_drop he))) (by omega)
  by_cases hTN9 : T < N
  · obtain ⟨y, hy⟩ := getElem?_some' (xs := put) (i := T) (by have := H.hNP; omega)
    obtain ⟨hE, H2⟩ := H.take hTN9 hy
    rw [hE] at cta
    dsimp only at cta
    replace H2 := H2.more
    have hne9 : put.take (T + 1) ≠ [] := fun h9 => by have h8 := congrArg List.length h9; have h7 := H.hNP; rw [List.length_take] at h8; simp only [List.length_nil] at h8; omega
    have hqm : (List.map eE (put.drop B)).length = put.length - B := by rw [List.length_map, List.length_drop]
    have hbm : (List.map eE (bfL put N (T + 1))).length = N - (T + 1) := by rw [List.length_map, bfL_len H2.hNP]
    have hq9 : (put.drop B).length = put.length - B := List.length_drop
    have hb9 := bfL_len (T := (T + 1)) H2.hNP
    have hn9 := H2.hNP
    have hbn9 := H2.hBN
    have htn9 := H2.hTN
    have hR9 := (okR_all H2.hR).1
    have hpl9 := H2.hpl
    have hS9 := (okS_all H2.hS).1
    cases pe
    · have hp0 : 0 < put.length := pe_false HP
      have hpne : put ≠ [] := fun h9 => by simp [h9] at hp0
      repeat' ((conv => whnf); first
        | with_reducible first | refine spB_t ?_
        | ((with_reducible apply spB_cong); (focus (simp only [beq_self_eq_true, bne_self_eq_false, Bool.true_bne, Bool.false_bne, Bool.bne_true, Bool.bne_false, Bool.true_beq, Bool.false_beq, Bool.not_true, Bool.not_false, Bool.not_not, Int.reduceBEq, Int.reduceBNe, Int.reduceLE, Int.reduceLT, Int.reduceEq, decide_true, decide_false]; rfl)))
        | with_reducible first | refine spB_no (by decide) ?_
        | (with_reducible refine spB_dec ?_ ?_ <;> intro _ <;> (try (exfalso; first | contradiction | omega | (rename_i hz; refine hz ?_; simp; done) | (rename_i hz; simp at hz; done) | (simp only [LN] at *; omega))))
        | (with_reducible refine spB_beq ?_ ?_ <;> intro _ <;> (try (exfalso; first | contradiction | omega | (rename_i hz; refine hz ?_; simp; done) | (rename_i hz; simp at hz; done) | (simp only [LN] at *; omega))))
        | with_reducible first | refine Z.rowN_known hx ?_
        | ((with_reducible refine Z.vN_K h4 ?_ ?_); (focus rfl))
        | ((with_reducible refine posE_pos ?_ ?_); (focus ((try simp only [LN] at *) <;> omega)))
        | ((with_reducible apply ixN_litp); (focus (exact rfl)); (focus ((try simp only [LN] at *) <;> omega)))
        | ((with_reducible refine apdN.mk ?_ ?_ ?_ ?_ ?_ ?_); (focus (first | rfl)); (focus (first | exact one_all (by rfl))); (focus ((try simp only [LN] at *) <;> omega)); (focus ((try simp only [LN] at *) <;> omega)); (focus ((try simp only [LN] at *) <;> omega)))
        | with_reducible refine wr_i64 (by first | omega | (simp only [LN] at *; omega)) ?_
        | with_reducible first | refine wr_mk _ rfl ?_
        | with_reducible refine nzN_mk (by omega) ?_
        | with_reducible first | refine Z.callZ_in tabOk 153 Try.f37 _ Try.func37 (by kernel_rfl) rfl rfl rfl ?_
        | ((first | (with_reducible refine Z.callZ_mk ?_ (cta) ?_)); (focus ((repeat' (first | exact trivial | exact rfl | apply And.intro)); done)))
        | ((with_reducible refine eqN_mk2 ?_ ?_); (focus (exact Z.kb_some rfl)))
        | ((with_reducible apply ex_and); exact rfl)
        | with_reducible first | refine Z.drawZ_rule tabOk mixOk ?_ | refine Z.apZ_mk (by kernel_rfl) ?_)
      all_goals (try (conv => whnf))
      all_goals try (show Nat.ble _ _ = true; rfl)
      all_goals try (exfalso; rename_i hz; cases hz; done)
      all_goals try (exfalso; (try simp only [LN] at *) <;> omega)
      all_goals first
        | ((refine Z.rnd_bi 2 [[_, _, _, _, _, _, _, _, _, _, _, .gsl _ ((put.take (T + 1)).map cE)]] rfl rfl ⟨⟨Z.Imp.refl _, Z.Imp.refl _, Z.Imp.refl _, Z.Imp.refl _, Z.Imp.refl _, Z.Imp.refl _, Z.Imp.refl _, Z.Imp.refl _, Z.Imp.refl _, Z.Imp.refl _, Z.Imp.refl _, Z.Imp.of_eq (congrArg (Ce.gsl _) (tk_snoc hy rfl)), trivial⟩, trivial⟩ ?_); ((refine Z.rndK ((i + 1, B, N, (T + 1), l, put, false, w)) (fun s => [0, 1, 2, 3, 4, s.idIn 2 11]) rfl rfl rfl rfl ?_ ?_ ?_ ?_); (focus (repeat' (first | exact trivial | exact rfl | apply And.intro))); (focus (repeat' (first | exact trivial | exact WBb_sub rfl | exact Z.gB_sub' rfl (tk_snoc hy rfl) (ren_map fun _ => rfl) | (intro b hb; cases hb; first | rfl | (cases w <;> rfl)) | exact Z.blk_sub rfl rfl (ren_map fun _ => rfl) | apply And.intro))); (focus (exact ⟨by (try dsimp only); omega, by (try dsimp only); omega, H2, HW, HP⟩)); ((try dsimp only); omega)))
    · have h8 := (pe_true HP H).2.1; omega
  · have hT9 : T = N := by have := H.hTN; omega
    rw [H.none hT9] at cta
    dsimp only at cta
    have H2 := H.more
    have hqm : (List.map eE (put.drop B)).length = put.length - B := by rw [List.length_map, List.length_drop]
    have hbm : (List.map eE (bfL put N T)).length = N - T := by rw [List.length_map, bfL_len H2.hNP]
    have hq9 : (put.drop B).length = put.length - B := List.length_drop
    have hb9 := bfL_len (T := T) H2.hNP
    have hn9 := H2.hNP
    have hbn9 := H2.hBN
    have htn9 := H2.hTN
    have hR9 := (okR_all H2.hR).1
    have hpl9 := H2.hpl
    have hS9 := (okS_all H2.hS).1
    cases pe
    · have hp0 : 0 < put.length := pe_false HP
      have hpne : put ≠ [] := fun h9 => by simp [h9] at hp0
      repeat' ((conv => whnf); first
        | with_reducible first | refine spB_t ?_
        | ((with_reducible apply spB_cong); (focus (simp only [beq_self_eq_true, bne_self_eq_false, Bool.true_bne, Bool.false_bne, Bool.bne_true, Bool.bne_false, Bool.true_beq, Bool.false_beq, Bool.not_true, Bool.not_false, Bool.not_not, Int.reduceBEq, Int.reduceBNe, Int.reduceLE, Int.reduceLT, Int.reduceEq, decide_true, decide_false]; rfl)))
        | with_reducible first | refine spB_no (by decide) ?_
        | (with_reducible refine spB_dec ?_ ?_ <;> intro _ <;> (try (exfalso; first | contradiction | omega | (rename_i hz; refine hz ?_; simp; done) | (rename_i hz; simp at hz; done) | (simp only [LN] at *; omega))))
        | (with_reducible refine spB_beq ?_ ?_ <;> intro _ <;> (try (exfalso; first | contradiction | omega | (rename_i hz; refine hz ?_; simp; done) | (rename_i hz; simp at hz; done) | (simp only [LN] at *; omega))))
        | with_reducible first | refine Z.rowN_known hx ?_
        | ((with_reducible refine Z.vN_K h4 ?_ ?_); (focus rfl))
        | ((with_reducible apply ixN_litp); (focus (exact rfl)); (focus ((try simp only [LN] at *) <;> omega)))
        | with_reducible refine wr_i64 (by first | omega | (simp only [LN] at *; omega)) ?_
        | with_reducible first | refine wr_mk _ rfl ?_
        | with_reducible refine nzN_mk (by omega) ?_
        | with_reducible first | refine Z.callZ_in tabOk 153 Try.f37 _ Try.func37 (by kernel_rfl) rfl rfl rfl ?_
        | ((first | (with_reducible refine Z.callZ_mk ?_ (cta) ?_)); (focus ((repeat' (first | exact trivial | exact rfl | apply And.intro)); done)))
        | ((with_reducible apply ex_and); exact rfl))
      all_goals (try (conv => whnf))
      all_goals try (show Nat.ble _ _ = true; rfl)
      all_goals try (exfalso; rename_i hz; cases hz; done)
      all_goals try (exfalso; (try simp only [LN] at *) <;> omega)
      all_goals first
        | ((refine Z.rndK ((i + 1, B, N, T, l, put, false, w)) (fun s => [0, 1, 2, 3, 4, 5]) rfl rfl rfl rfl ?_ ?_ ?_ ?_); (focus (repeat' (first | exact trivial | exact rfl | apply And.intro))); (focus (repeat' (first | exact trivial | exact WBb_sub rfl | (intro b hb; cases hb; first | rfl | (cases w <;> rfl)) | exact Z.blk_sub rfl rfl (ren_map fun _ => rfl) | exact Z.gB_sub rfl rfl (ren_map fun _ => rfl) | apply And.intro))); (focus (exact ⟨by (try dsimp only); omega, by (try dsimp only); omega, H2, HW, HP⟩)); ((try dsimp only); omega))
    · obtain ⟨rfl, rfl, rfl, rfl⟩ := pe_true HP H
      repeat' ((conv => whnf); first
        | with_reducible first | refine spB_t ?_
        | ((with_reducible apply spB_cong); (focus (simp only [beq_self_eq_true, bne_self_eq_false, Bool.true_bne, Bool.false_bne, Bool.bne_true, Bool.bne_false, Bool.true_beq, Bool.false_beq, Bool.not_true, Bool.not_false, Bool.not_not, Int.reduceBEq, Int.reduceBNe, Int.reduceLE, Int.reduceLT, Int.reduceEq, decide_true, decide_false]; rfl)))
        | with_reducible first | refine spB_no (by decide) ?_
        | (with_reducible refine spB_dec ?_ ?_ <;> intro _ <;> (try (exfalso; first | contradiction | omega | (rename_i hz; refine hz ?_; simp; done) | (rename_i hz; simp at hz; done) | (simp only [LN] at *; omega))))
        | (with_reducible refine spB_beq ?_ ?_ <;> intro _ <;> (try (exfalso; first | contradiction | omega | (rename_i hz; refine hz ?_; simp; done) | (rename_i hz; simp at hz; done) | (simp only [LN] at *; omega))))
        | with_reducible first | refine Z.rowN_known hx ?_
        | ((with_reducible refine Z.vN_K h4 ?_ ?_); (focus rfl))
        | ((with_reducible apply ixN_litp); (focus (exact rfl)); (focus ((try simp only [LN] at *) <;> omega)))
        | with_reducible refine wr_i64 (by first | omega | (simp only [LN] at *; omega)) ?_
        | with_reducible first | refine wr_mk _ rfl ?_
        | with_reducible refine nzN_mk (by omega) ?_
        | with_reducible first | refine Z.callZ_in tabOk 153 Try.f37 _ Try.func37 (by kernel_rfl) rfl rfl rfl ?_
        | ((first | (with_reducible refine Z.callZ_mk ?_ (cta) ?_)); (focus ((repeat' (first | exact trivial | exact rfl | apply And.intro)); done)))
        | ((with_reducible apply ex_and); exact rfl))
      all_goals (try (conv => whnf))
      all_goals try (show Nat.ble _ _ = true; rfl)
      all_goals try (exfalso; rename_i hz; cases hz; done)
      all_goals try (exfalso; (try simp only [LN] at *) <;> omega)
      all_goals first
        | ((refine Z.rndK ((i + 1, 0, 0, 0, l, [], true, w)) (fun s => [0, 1, 2, 3, 4, 5]) rfl rfl rfl rfl ?_ ?_ ?_ ?_); (focus (repeat' (first | exact trivial | exact rfl | apply And.intro))); (focus (repeat' (first | exact trivial | exact WBb_sub rfl | (intro b hb; cases hb; first | rfl | (cases w <;> rfl)) | (intro b hb; cases hb; done) | apply And.intro))); (focus (exact ⟨by (try dsimp only); omega, by (try dsimp only); omega, H2, HW, HP⟩)); ((try dsimp only); omega))
end Go.Proofs.Ytoiadndmbppobaa
namespace Go.Proofs.Ytoiadndmbppobaa
open Go Go.RowKit Wx
set_option linter.unusedVariables false
set_option linter.unusedSimpArgs false
set_option maxHeartbeats 40000000
theorem c_out (rm : Int) (ls : List St) (hl : ls.length ≤ 9223372036854775807) (i B N T : Nat) (l : Int) (put : List El) (pe : Bool) (w : Option (List Pk × Nat)) (HI : i ≤ ls.length) (HB : i ≤ 40) (H : LInv rm i B N T l put (wl w)) (HW : wn w) (HP : pe = true ↔ put = []) (hi : i < ls.length) (kd n : Int) (keeps : Bool) (e : El) (pk : Pk) (hx : ls[i]? = some ⟨kd, n, keeps, e, pk⟩) (hux : 0 ≤ e.num ∧ 0 ≤ pk.sq ∧ 0 ≤ pk.lim ∧ 0 ≤ pk.e.num) (hib : ¬ i = 40) (h4 : (IntKind.u64.wrap kd).tmod 11 = 10)  {Q : Exit → Z.S → Prop} : Z.codeZ Try.prog tab 129 0 none (lbody Try.f8) ⟨gCH 28 (i, B, N, T, l, put, pe, w) ++ gFk 5 26 27 ls, gCK rm (i, B, N, T, l, put, pe, w) ++ [], 6⟩ (loopPost (gRnd rm 28 5 26 27 40 ls (i, B, N, T, l, put, pe, w)) Q) := by
  dsimp only [gCH, gFk, gCK, gRnd]
  by_cases hse : pk.se = 7
  · have hp7 : (⟨pk.kd, 8, pk.sq, pk.lim, pk.e⟩ : Pk).se ≠ 7 := by show (8 : Int) ≠ 7; decide
    by_cases hk9 : pk.kd = 2
    · have cba := acked_con 7 ((B : Int) + 1) (put.drop B) l (endsL put) ⟨pk.kd, 8, pk.sq, pk.lim, pk.e⟩ (by have h9 := H.hpl; simp only [List.length_take, List.length_drop]; omega) (fun e he => okEs_num H.hP e (List.mem_of_mem_drop he)) (by omega) H.hl0 hux.2.1 hux.2.2.1
      obtain ⟨B', l', hE, H2, _⟩ := H.back (p := ⟨pk.kd, 8, pk.sq, pk.lim, pk.e⟩) (.inr hp7) hk9 hux.2.2.1
      rw [hE] at cba
      dsimp only at cba
      have H3 := H2.more
      have hqm : (List.map eE (put.drop B')).length = put.length - B' := by rw [List.length_map, List.length_drop]
      have hbm : (List.map eE (bfL put N T)).length = N - T := by rw [List.length_map, bfL_len H3.hNP]
      have hq9 : (put.drop B').length = put.length - B' := List.length_drop
      have hb9 := bfL_len (T := T) H3.hNP
      have hn9 := H3.hNP
      have hbn9 := H3.hBN
      have htn9 := H3.hTN
      have hR9 := (okR_all H3.hR).1
      have hpl9 := H3.hpl
      have hS9 := (okS_all H3.hS).1
      cases pe
      · have hp0 : 0 < put.length := pe_false HP
        have hpne : put ≠ [] := fun h9 => by simp [h9] at hp0
        repeat' ((conv => whnf); first
          | ((with_reducible apply spB_cong); (focus (simp only [beq_self_eq_true, bne_self_eq_false, Bool.true_bne, Bool.false_bne, Bool.bne_true, Bool.bne_false, Bool.true_beq, Bool.false_beq, Bool.not_true, Bool.not_false, Bool.not_not, Int.reduceBEq, Int.reduceBNe, Int.reduceLE, Int.reduceLT, Int.reduceEq, decide_true, decide_false]; rfl)))
          | with_reducible first | refine spB_no (by decide) ?_
          | (with_reducible refine spB_dec ?_ ?_ <;> intro _ <;> (try (exfalso; first | contradiction | omega | (rename_i hz; refine hz ?_; simp; done) | (rename_i hz; simp at hz; done) | (simp only [LN] at *; omega))))
          | (with_reducible refine spB_beq ?_ ?_ <;> intro _ <;> (try (exfalso; first | contradiction | omega | (rename_i hz; refine hz ?_; simp; done) | (rename_i hz; simp at hz; done) | (simp only [LN] at *; omega))))
          | with_reducible first | refine Z.rowN_known hx ?_
          | ((with_reducible refine Z.vN_K h4 ?_ ?_); (focus rfl))
          | ((with_reducible apply ixN_litp); (focus (exact rfl)); (focus ((try simp only [LN] at *) <;> omega)))
          | with_reducible refine wr_i64 (by first | omega | (simp only [LN] at *; omega)) ?_
          | with_reducible first | refine wr_mk _ rfl ?_
          | with_reducible refine nzN_mk (by omega) ?_
          | with_reducible first | refine Z.callZ_in tabOk 153 Try.f37 _ Try.func37 (by kernel_rfl) rfl rfl rfl ?_ | refine Z.callZ_in tabOk 42 Try.f39 _ Try.func39 (by kernel_rfl) rfl rfl rfl ?_
          | ((first | (with_reducible refine Z.conZ_mz ?_ (cba) ?_)); (focus ((repeat' (first | exact trivial | exact rfl | apply And.intro)); done)))
          | ((with_reducible apply ex_and); exact rfl)
          | with_reducible first | refine Z.drawZ_rule tabOk mixOk ?_ | refine Z.apZ_mk (by kernel_rfl) ?_)
        all_goals (try (conv => whnf))
        all_goals try (show Nat.ble _ _ = true; rfl)
        all_goals try (exfalso; rename_i hz; cases hz; done)
        all_goals try (exfalso; (try simp only [LN] at *) <;> omega)
        all_goals first
          | ((refine Z.rndK ((i + 1, B', N, T, l', put, false, w)) (fun s => [0, 1, 2, 3, 4, 5]) rfl rfl rfl rfl ?_ ?_ ?_ ?_); (focus (repeat' (first | exact trivial | exact rfl | apply And.intro))); (focus (repeat' (first | exact trivial | exact WBb_sub rfl | (intro b hb; cases hb; first | rfl | (cases w <;> rfl)) | exact Z.blk_sub rfl rfl (ren_map fun _ => rfl) | exact Z.gB_sub rfl rfl (ren_map fun _ => rfl) | apply And.intro))); (focus (exact ⟨by (try dsimp only); omega, by (try dsimp only); omega, H3, HW, HP⟩)); ((try dsimp only); omega))
      · obtain ⟨rfl, rfl, rfl, rfl⟩ := pe_true HP H
        obtain rfl : B' = 0 := by have h9 := H3.hBN; omega
        repeat' ((conv => whnf); first
          | ((with_reducible apply spB_cong); (focus (simp only [beq_self_eq_true, bne_self_eq_false, Bool.true_bne, Bool.false_bne, Bool.bne_true, Bool.bne_false, Bool.true_beq, Bool.false_beq, Bool.not_true, Bool.not_false, Bool.not_not, Int.reduceBEq, Int.reduceBNe, Int.reduceLE, Int.reduceLT, Int.reduceEq, decide_true, decide_false]; rfl)))
          | with_reducible first | refine spB_no (by decide) ?_
          | (with_reducible refine spB_dec ?_ ?_ <;> intro _ <;> (try (exfalso; first | contradiction | omega | (rename_i hz; refine hz ?_; simp; done) | (rename_i hz; simp at hz; done) | (simp only [LN] at *; omega))))
          | (with_reducible refine spB_beq ?_ ?_ <;> intro _ <;> (try (exfalso; first | contradiction | omega | (rename_i hz; refine hz ?_; simp; done) | (rename_i hz; simp at hz; done) | (simp only [LN] at *; omega))))
          | with_reducible first | refine Z.rowN_known hx ?_
          | ((with_reducible refine Z.vN_K h4 ?_ ?_); (focus rfl))
          | ((with_reducible apply ixN_litp); (focus (exact rfl)); (focus ((try simp only [LN] at *) <;> omega)))
          | with_reducible refine wr_i64 (by first | omega | (simp only [LN] at *; omega)) ?_
          | with_reducible first | refine wr_mk _ rfl ?_
          | with_reducible refine nzN_mk (by omega) ?_
          | with_reducible first | refine Z.callZ_in tabOk 153 Try.f37 _ Try.func37 (by kernel_rfl) rfl rfl rfl ?_ | refine Z.callZ_in tabOk 42 Try.f39 _ Try.func39 (by kernel_rfl) rfl rfl rfl ?_
          | ((first | (with_reducible refine Z.conZ_mz ?_ (cba) ?_)); (focus ((repeat' (first | exact trivial | exact rfl | apply And.intro)); done)))
          | ((with_reducible apply ex_and); exact rfl)
          | with_reducible first | refine Z.drawZ_rule tabOk mixOk ?_ | refine Z.apZ_mk (by kernel_rfl) ?_)
        all_goals (try (conv => whnf))
        all_goals try (show Nat.ble _ _ = true; rfl)
        all_goals try (exfalso; rename_i hz; cases hz; done)
        all_goals try (exfalso; (try simp only [LN] at *) <;> omega)
        all_goals first
          | ((refine Z.rndK ((i + 1, 0, 0, 0, l', [], true, w)) (fun s => [0, 1, 2, 3, 4, 5]) rfl rfl rfl rfl ?_ ?_ ?_ ?_); (focus (repeat' (first | exact trivial | exact rfl | apply And.intro))); (focus (repeat' (first | exact trivial | exact WBb_sub rfl | (intro b hb; cases hb; first | rfl | (cases w <;> rfl)) | (intro b hb; cases hb; done) | apply And.intro))); (focus (exact ⟨by (try dsimp only); omega, by (try dsimp only); omega, H3, HW, HP⟩)); ((try dsimp only); omega))
    · have che := hear_con 7 ((N : Int) + 1) (bfL put N T) rm ⟨pk.kd, 8, pk.sq, pk.lim, pk.e⟩ (by have h9 := H.hpl; simp only [List.length_take, List.length_drop]; omega) (fun e he => okEs_num H.hP e (List.mem_of_mem_take (List.mem_of_mem_drop he))) (by omega) hux.2.1 hux.2.2.2
      obtain ⟨N', hN9, hE, H2, _⟩ := H.hear (p := ⟨pk.kd, 8, pk.sq, pk.lim, pk.e⟩) (.inr hp7) hk9
      rw [hE] at che
      dsimp only at che
      have H3 := H2.more
      have hqm : (List.map eE (put.drop B)).length = put.length - B := by rw [List.length_map, List.length_drop]
      have hbm : (List.map eE (bfL put N' T)).length = N' - T := by rw [List.length_map, bfL_len H3.hNP]
      have hq9 : (put.drop B).length = put.length - B := List.length_drop
      have hb9 := bfL_len (T := T) H3.hNP
      have hn9 := H3.hNP
      have hbn9 := H3.hBN
      have htn9 := H3.hTN
      have hR9 := (okR_all H3.hR).1
      have hpl9 := H3.hpl
      have hS9 := (okS_all H3.hS).1
      cases pe
      · have hp0 : 0 < put.length := pe_false HP
        have hpne : put ≠ [] := fun h9 => by simp [h9] at hp0
        repeat' ((conv => whnf); first
          | ((with_reducible apply spB_cong); (focus (simp only [beq_self_eq_true, bne_self_eq_false, Bool.true_bne, Bool.false_bne, Bool.bne_true, Bool.bne_false, Bool.true_beq, Bool.false_beq, Bool.not_true, Bool.not_false, Bool.not_not, Int.reduceBEq, Int.reduceBNe, Int.reduceLE, Int.reduceLT, Int.reduceEq, decide_true, decide_false]; rfl)))
          | with_reducible first | refine spB_no (by decide) ?_
          | (with_reducible refine spB_dec ?_ ?_ <;> intro _ <;> (try (exfalso; first | contradiction | omega | (rename_i hz; refine hz ?_; simp; done) | (rename_i hz; simp at hz; done) | (simp only [LN] at *; omega))))
          | (with_reducible refine spB_beq ?_ ?_ <;> intro _ <;> (try (exfalso; first | contradiction | omega | (rename_i hz; refine hz ?_; simp; done) | (rename_i hz; simp at hz; done) | (simp only [LN] at *; omega))))
          | with_reducible first | refine Z.rowN_known hx ?_
          | ((with_reducible refine Z.vN_K h4 ?_ ?_); (focus rfl))
          | ((with_reducible apply ixN_litp); (focus (exact rfl)); (focus ((try simp only [LN] at *) <;> omega)))
          | with_reducible refine wr_i64 (by first | omega | (simp only [LN] at *; omega)) ?_
          | with_reducible first | refine wr_mk _ rfl ?_
          | with_reducible refine nzN_mk (by omega) ?_
          | with_reducible first | refine Z.callZ_in tabOk 153 Try.f37 _ Try.func37 (by kernel_rfl) rfl rfl rfl ?_ | refine Z.callZ_in tabOk 42 Try.f39 _ Try.func39 (by kernel_rfl) rfl rfl rfl ?_
          | ((first | (with_reducible refine Z.conZ_mz ?_ (che) ?_)); (focus ((repeat' (first | exact trivial | exact rfl | apply And.intro)); done)))
          | ((with_reducible apply ex_and); exact rfl)
          | with_reducible first | refine Z.drawZ_rule tabOk mixOk ?_ | refine Z.apZ_mk (by kernel_rfl) ?_)
        all_goals (try (conv => whnf))
        all_goals try (show Nat.ble _ _ = true; rfl)
        all_goals try (exfalso; rename_i hz; cases hz; done)
        all_goals try (exfalso; (try simp only [LN] at *) <;> omega)
        all_goals first
          | ((refine Z.rndK ((i + 1, B, N', T, l, put, false, w)) (fun s => [0, 1, 2, 3, 4, 5]) rfl rfl rfl rfl ?_ ?_ ?_ ?_); (focus (repeat' (first | exact trivial | exact rfl | apply And.intro))); (focus (repeat' (first | exact trivial | exact WBb_sub rfl | (intro b hb; cases hb; first | rfl | (cases w <;> rfl)) | exact Z.blk_sub rfl rfl (ren_map fun _ => rfl) | exact Z.gB_sub rfl rfl (ren_map fun _ => rfl) | apply And.intro))); (focus (exact ⟨by (try dsimp only); omega, by (try dsimp only); omega, H3, HW, HP⟩)); ((try dsimp only); omega))
      · obtain ⟨rfl, rfl, rfl, rfl⟩ := pe_true HP H
        obtain rfl : N' = 0 := by have h9 := H3.hNP; simpa using h9
        repeat' ((conv => whnf); first
          | ((with_reducible apply spB_cong); (focus (simp only [beq_self_eq_true, bne_self_eq_false, Bool.true_bne, Bool.false_bne, Bool.bne_true, Bool.bne_false, Bool.true_beq, Bool.false_beq, Bool.not_true, Bool.not_false, Bool.not_not, Int.reduceBEq, Int.reduceBNe, Int.reduceLE, Int.reduceLT, Int.reduceEq, decide_true, decide_false]; rfl)))
          | with_reducible first | refine spB_no (by decide) ?_
          | (with_reducible refine spB_dec ?_ ?_ <;> intro _ <;> (try (exfalso; first | contradiction | omega | (rename_i hz; refine hz ?_; simp; done) | (rename_i hz; simp at hz; done) | (simp only [LN] at *; omega))))
          | (with_reducible refine spB_beq ?_ ?_ <;> intro _ <;> (try (exfalso; first | contradiction | omega | (rename_i hz; refine hz ?_; simp; done) | (rename_i hz; simp at hz; done) | (simp only [LN] at *; omega))))
          | with_reducible first | refine Z.rowN_known hx ?_
          | ((with_reducible refine Z.vN_K h4 ?_ ?_); (focus rfl))
          | ((with_reducible apply ixN_litp); (focus (exact rfl)); (focus ((try simp only [LN] at *) <;> omega)))
          | with_reducible refine wr_i64 (by first | omega | (simp only [LN] at *; omega)) ?_
          | with_reducible first | refine wr_mk _ rfl ?_
          | with_reducible refine nzN_mk (by omega) ?_
          | with_reducible first | refine Z.callZ_in tabOk 153 Try.f37 _ Try.func37 (by kernel_rfl) rfl rfl rfl ?_ | refine Z.callZ_in tabOk 42 Try.f39 _ Try.func39 (by kernel_rfl) rfl rfl rfl ?_
          | ((first | (with_reducible refine Z.conZ_mz ?_ (che) ?_)); (focus ((repeat' (first | exact trivial | exact rfl | apply And.intro)); done)))
          | ((with_reducible apply ex_and); exact rfl)
          | with_reducible first | refine Z.drawZ_rule tabOk mixOk ?_ | refine Z.apZ_mk (by kernel_rfl) ?_)
        all_goals (try (conv => whnf))
        all_goals try (show Nat.ble _ _ = true; rfl)
        all_goals try (exfalso; rename_i hz; cases hz; done)
        all_goals try (exfalso; (try simp only [LN] at *) <;> omega)
        all_goals first
          | ((refine Z.rndK ((i + 1, 0, 0, 0, l, [], true, w)) (fun s => [0, 1, 2, 3, 4, 5]) rfl rfl rfl rfl ?_ ?_ ?_ ?_); (focus (repeat' (first | exact trivial | exact rfl | apply And.intro))); (focus (repeat' (first | exact trivial | exact WBb_sub rfl | (intro b hb; cases hb; first | rfl | (cases w <;> rfl)) | (intro b hb; cases hb; done) | apply And.intro))); (focus (exact ⟨by (try dsimp only); omega, by (try dsimp only); omega, H3, HW, HP⟩)); ((try dsimp only); omega))
  · have hp7 : (pk : Pk).se ≠ 7 := hse
    by_cases hk9 : pk.kd = 2
    · have cba := acked_con 7 ((B : Int) + 1) (put.drop B) l (endsL put) pk (by have h9 := H.hpl; simp only [List.length_take, List.length_drop]; omega) (fun e he => okEs_num H.hP e (List.mem_of_mem_drop he)) (by omega) H.hl0 hux.2.1 hux.2.2.1
      obtain ⟨B', l', hE, H2, _⟩ := H.back (p := pk) (.inr hp7) hk9 hux.2.2.1
      rw [hE] at cba
      dsimp only at cba
      have H3 := H2.more
      have hqm : (List.map eE (put.drop B')).length = put.length - B' := by rw [List.length_map, List.length_drop]
      have hbm : (List.map eE (bfL put N T)).length = N - T := by rw [List.length_map, bfL_len H3.hNP]
      have hq9 : (put.drop B').length = put.length - B' := List.length_drop
      have hb9 := bfL_len (T := T) H3.hNP
      have hn9 := H3.hNP
      have hbn9 := H3.hBN
      have htn9 := H3.hTN
      have hR9 := (okR_all H3.hR).1
      have hpl9 := H3.hpl
      have hS9 := (okS_all H3.hS).1
      cases pe
      · have hp0 : 0 < put.length := pe_false HP
        have hpne : put ≠ [] := fun h9 => by simp [h9] at hp0
        repeat' ((conv => whnf); first
          | ((with_reducible apply spB_cong); (focus (simp only [beq_self_eq_true, bne_self_eq_false, Bool.true_bne, Bool.false_bne, Bool.bne_true, Bool.bne_false, Bool.true_beq, Bool.false_beq, Bool.not_true, Bool.not_false, Bool.not_not, Int.reduceBEq, Int.reduceBNe, Int.reduceLE, Int.reduceLT, Int.reduceEq, decide_true, decide_false]; rfl)))
          | with_reducible first | refine spB_no (by decide) ?_
          | (with_reducible refine spB_dec ?_ ?_ <;> intro _ <;> (try (exfalso; first | contradiction | omega | (rename_i hz; refine hz ?_; simp; done) | (rename_i hz; simp at hz; done) | (simp only [LN] at *; omega))))
          | (with_reducible refine spB_beq ?_ ?_ <;> intro _ <;> (try (exfalso; first | contradiction | omega | (rename_i hz; refine hz ?_; simp; done) | (rename_i hz; simp at hz; done) | (simp only [LN] at *; omega))))
          | with_reducible first | refine Z.rowN_known hx ?_
          | ((with_reducible refine Z.vN_K h4 ?_ ?_); (focus rfl))
          | ((with_reducible apply ixN_litp); (focus (exact rfl)); (focus ((try simp only [LN] at *) <;> omega)))
          | with_reducible refine wr_i64 (by first | omega | (simp only [LN] at *; omega)) ?_
          | with_reducible first | refine wr_mk _ rfl ?_
          | with_reducible refine nzN_mk (by omega) ?_
          | with_reducible first | refine Z.callZ_in tabOk 153 Try.f37 _ Try.func37 (by kernel_rfl) rfl rfl rfl ?_ | refine Z.callZ_in tabOk 42 Try.f39 _ Try.func39 (by kernel_rfl) rfl rfl rfl ?_
          | ((first | (with_reducible refine Z.conZ_mz ?_ (cba) ?_)); (focus ((repeat' (first | exact trivial | exact rfl | apply And.intro)); done)))
          | ((with_reducible apply ex_and); exact rfl)
          | with_reducible first | refine Z.drawZ_rule tabOk mixOk ?_ | refine Z.apZ_mk (by kernel_rfl) ?_)
        all_goals (try (conv => whnf))
        all_goals try (show Nat.ble _ _ = true; rfl)
        all_goals try (exfalso; rename_i hz; cases hz; done)
        all_goals try (exfalso; (try simp only [LN] at *) <;> omega)
        all_goals first
          | ((refine Z.rndK ((i + 1, B', N, T, l', put, false, w)) (fun s => [0, 1, 2, 3, 4, 5]) rfl rfl rfl rfl ?_ ?_ ?_ ?_); (focus (repeat' (first | exact trivial | exact rfl | apply And.intro))); (focus (repeat' (first | exact trivial | exact WBb_sub rfl | (intro b hb; cases hb; first | rfl | (cases w <;> rfl)) | exact Z.blk_sub rfl rfl (ren_map fun _ => rfl) | exact Z.gB_sub rfl rfl (ren_map fun _ => rfl) | apply And.intro))); (focus (exact ⟨by (try dsimp only); omega, by (try dsimp only); omega, H3, HW, HP⟩)); ((try dsimp only); omega))
      · obtain ⟨rfl, rfl, rfl, rfl⟩ := pe_true HP H
        obtain rfl : B' = 0 := by have h9 := H3.hBN; omega
        repeat' ((conv => whnf); first
          | ((with_reducible apply spB_cong); (focus (simp only [beq_self_eq_true, bne_self_eq_false, Bool.true_bne, Bool.false_bne, Bool.bne_true, Bool.bne_false, Bool.true_beq, Bool.false_beq, Bool.not_true, Bool.not_false, Bool.not_not, Int.reduceBEq, Int.reduceBNe, Int.reduceLE, Int.reduceLT, Int.reduceEq, decide_true, decide_false]; rfl)))
          | with_reducible first | refine spB_no (by decide) ?_
          | (with_reducible refine spB_dec ?_ ?_ <;> intro _ <;> (try (exfalso; first | contradiction | omega | (rename_i hz; refine hz ?_; simp; done) | (rename_i hz; simp at hz; done) | (simp only [LN] at *; omega))))
          | (with_reducible refine spB_beq ?_ ?_ <;> intro _ <;> (try (exfalso; first | contradiction | omega | (rename_i hz; refine hz ?_; simp; done) | (rename_i hz; simp at hz; done) | (simp only [LN] at *; omega))))
          | with_reducible first | refine Z.rowN_known hx ?_
          | ((with_reducible refine Z.vN_K h4 ?_ ?_); (focus rfl))
          | ((with_reducible apply ixN_litp); (focus (exact rfl)); (focus ((try simp only [LN] at *) <;> omega)))
          | with_reducible refine wr_i64 (by first | omega | (simp only [LN] at *; omega)) ?_
          | with_reducible first | refine wr_mk _ rfl ?_
          | with_reducible refine nzN_mk (by omega) ?_
          | with_reducible first | refine Z.callZ_in tabOk 153 Try.f37 _ Try.func37 (by kernel_rfl) rfl rfl rfl ?_ | refine Z.callZ_in tabOk 42 Try.f39 _ Try.func39 (by kernel_rfl) rfl rfl rfl ?_
          | ((first | (with_reducible refine Z.conZ_mz ?_ (cba) ?_)); (focus ((repeat' (first | exact trivial | exact rfl | apply And.intro)); done)))
          | ((with_reducible apply ex_and); exact rfl)
          | with_reducible first | refine Z.drawZ_rule tabOk mixOk ?_ | refine Z.apZ_mk (by kernel_rfl) ?_)
        all_goals (try (conv => whnf))
        all_goals try (show Nat.ble _ _ = true; rfl)
        all_goals try (exfalso; rename_i hz; cases hz; done)
        all_goals try (exfalso; (try simp only [LN] at *) <;> omega)
        all_goals first
          | ((refine Z.rndK ((i + 1, 0, 0, 0, l', [], true, w)) (fun s => [0, 1, 2, 3, 4, 5]) rfl rfl rfl rfl ?_ ?_ ?_ ?_); (focus (repeat' (first | exact trivial | exact rfl | apply And.intro))); (focus (repeat' (first | exact trivial | exact WBb_sub rfl | (intro b hb; cases hb; first | rfl | (cases w <;> rfl)) | (intro b hb; cases hb; done) | apply And.intro))); (focus (exact ⟨by (try dsimp only); omega, by (try dsimp only); omega, H3, HW, HP⟩)); ((try dsimp only); omega))
    · have che := hear_con 7 ((N : Int) + 1) (bfL put N T) rm pk (by have h9 := H.hpl; simp only [List.length_take, List.length_drop]; omega) (fun e he => okEs_num H.hP e (List.mem_of_mem_take (List.mem_of_mem_drop he))) (by omega) hux.2.1 hux.2.2.2
      obtain ⟨N', hN9, hE, H2, _⟩ := H.hear (p := pk) (.inr hp7) hk9
      rw [hE] at che
      dsimp only at che
      have H3 := H2.more
      have hqm : (List.map eE (put.drop B)).length = put.length - B := by rw [List.length_map, List.length_drop]
      have hbm : (List.map eE (bfL put N' T)).length = N' - T := by rw [List.length_map, bfL_len H3.hNP]
      have hq9 : (put.drop B).length = put.length - B := List.length_drop
      have hb9 := bfL_len (T := T) H3.hNP
      have hn9 := H3.hNP
      have hbn9 := H3.hBN
      have htn9 := H3.hTN
      have hR9 := (okR_all H3.hR).1
      have hpl9 := H3.hpl
      have hS9 := (okS_all H3.hS).1
      cases pe
      · have hp0 : 0 < put.length := pe_false HP
        have hpne : put ≠ [] := fun h9 => by simp [h9] at hp0
        repeat' ((conv => whnf); first
          | ((with_reducible apply spB_cong); (focus (simp only [beq_self_eq_true, bne_self_eq_false, Bool.true_bne, Bool.false_bne, Bool.bne_true, Bool.bne_false, Bool.true_beq, Bool.false_beq, Bool.not_true, Bool.not_false, Bool.not_not, Int.reduceBEq, Int.reduceBNe, Int.reduceLE, Int.reduceLT, Int.reduceEq, decide_true, decide_false]; rfl)))
          | with_reducible first | refine spB_no (by decide) ?_
          | (with_reducible refine spB_dec ?_ ?_ <;> intro _ <;> (try (exfalso; first | contradiction | omega | (rename_i hz; refine hz ?_; simp; done) | (rename_i hz; simp at hz; done) | (simp only [LN] at *; omega))))
          | (with_reducible refine spB_beq ?_ ?_ <;> intro _ <;> (try (exfalso; first | contradiction | omega | (rename_i hz; refine hz ?_; simp; done) | (rename_i hz; simp at hz; done) | (simp only [LN] at *; omega))))
          | with_reducible first | refine Z.rowN_known hx ?_
          | ((with_reducible refine Z.vN_K h4 ?_ ?_); (focus rfl))
          | ((with_reducible apply ixN_litp); (focus (exact rfl)); (focus ((try simp only [LN] at *) <;> omega)))
          | with_reducible refine wr_i64 (by first | omega | (simp only [LN] at *; omega)) ?_
          | with_reducible first | refine wr_mk _ rfl ?_
          | with_reducible refine nzN_mk (by omega) ?_
          | with_reducible first | refine Z.callZ_in tabOk 153 Try.f37 _ Try.func37 (by kernel_rfl) rfl rfl rfl ?_ | refine Z.callZ_in tabOk 42 Try.f39 _ Try.func39 (by kernel_rfl) rfl rfl rfl ?_
          | ((first | (with_reducible refine Z.conZ_mz ?_ (che) ?_)); (focus ((repeat' (first | exact trivial | exact rfl | apply And.intro)); done)))
          | ((with_reducible apply ex_and); exact rfl)
          | with_reducible first | refine Z.drawZ_rule tabOk mixOk ?_ | refine Z.apZ_mk (by kernel_rfl) ?_)
        all_goals (try (conv => whnf))
        all_goals try (show Nat.ble _ _ = true; rfl)
        all_goals try (exfalso; rename_i hz; cases hz; done)
        all_goals try (exfalso; (try simp only [LN] at *) <;> omega)
        all_goals first
          | ((refine Z.rndK ((i + 1, B, N', T, l, put, false, w)) (fun s => [0, 1, 2, 3, 4, 5]) rfl rfl rfl rfl ?_ ?_ ?_ ?_); (focus (repeat' (first | exact trivial | exact rfl | apply And.intro))); (focus (repeat' (first | exact trivial | exact WBb_sub rfl | (intro b hb; cases hb; first | rfl | (cases w <;> rfl)) | exact Z.blk_sub rfl rfl (ren_map fun _ => rfl) | exact Z.gB_sub rfl rfl (ren_map fun _ => rfl) | apply And.intro))); (focus (exact ⟨by (try dsimp only); omega, by (try dsimp only); omega, H3, HW, HP⟩)); ((try dsimp only); omega))
      · obtain ⟨rfl, rfl, rfl, rfl⟩ := pe_true HP H
        obtain rfl : N' = 0 := by have h9 := H3.hNP; simpa using h9
        repeat' ((conv => whnf); first
          | ((with_reducible apply spB_cong); (focus (simp only [beq_self_eq_true, bne_self_eq_false, Bool.true_bne, Bool.false_bne, Bool.bne_true, Bool.bne_false, Bool.true_beq, Bool.false_beq, Bool.not_true, Bool.not_false, Bool.not_not, Int.reduceBEq, Int.reduceBNe, Int.reduceLE, Int.reduceLT, Int.reduceEq, decide_true, decide_false]; rfl)))
          | with_reducible first | refine spB_no (by decide) ?_
          | (with_reducible refine spB_dec ?_ ?_ <;> intro _ <;> (try (exfalso; first | contradiction | omega | (rename_i hz; refine hz ?_; simp; done) | (rename_i hz; simp at hz; done) | (simp only [LN] at *; omega))))
          | (with_reducible refine spB_beq ?_ ?_ <;> intro _ <;> (try (exfalso; first | contradiction | omega | (rename_i hz; refine hz ?_; simp; done) | (rename_i hz; simp at hz; done) | (simp only [LN] at *; omega))))
          | with_reducible first | refine Z.rowN_known hx ?_
          | ((with_reducible refine Z.vN_K h4 ?_ ?_); (focus rfl))
          | ((with_reducible apply ixN_litp); (focus (exact rfl)); (focus ((try simp only [LN] at *) <;> omega)))
          | with_reducible refine wr_i64 (by first | omega | (simp only [LN] at *; omega)) ?_
          | with_reducible first | refine wr_mk _ rfl ?_
          | with_reducible refine nzN_mk (by omega) ?_
          | with_reducible first | refine Z.callZ_in tabOk 153 Try.f37 _ Try.func37 (by kernel_rfl) rfl rfl rfl ?_ | refine Z.callZ_in tabOk 42 Try.f39 _ Try.func39 (by kernel_rfl) rfl rfl rfl ?_
          | ((first | (with_reducible refine Z.conZ_mz ?_ (che) ?_)); (focus ((repeat' (first | exact trivial | exact rfl | apply And.intro)); done)))
          | ((with_reducible apply ex_and); exact rfl)
          | with_reducible first | refine Z.drawZ_rule tabOk mixOk ?_ | refine Z.apZ_mk (by kernel_rfl) ?_)
        all_goals (try (conv => whnf))
        all_goals try (show Nat.ble _ _ = true; rfl)
        all_goals try (exfalso; rename_i hz; cases hz; done)
        all_goals try (exfalso; (try simp only [LN] at *) <;> omega)
        all_goals first
          | ((refine Z.rndK ((i + 1, 0, 0, 0, l, [], true, w)) (fun s => [0, 1, 2, 3, 4, 5]) rfl rfl rfl rfl ?_ ?_ ?_ ?_); (focus (repeat' (first | exact trivial | exact rfl | apply And.intro))); (focus (repeat' (first | exact trivial | exact WBb_sub rfl | (intro b hb; cases hb; first | rfl | (cases w <;> rfl)) | (intro b hb; cases hb; done) | apply And.intro))); (focus (exact ⟨by (try dsimp only); omega, by (try dsimp only); omega, H3, HW, HP⟩)); ((try dsimp only); omega))
end Go.Proofs.Ytoiadndmbppobaa
namespace Go.Proofs.Ytoiadndmbppobaa
open Go Go.RowKit Wx
set_option linter.unusedVariables false
set_option linter.unusedSimpArgs false
set_option maxHeartbeats 4000000
theorem comes_con (room : Int) (ls : List St) (hl : ls.length ≤ 9223372036854775807) (hu : ∀ x ∈ ls, 0 ≤ x.e.num ∧ 0 ≤ x.p.sq ∧ 0 ≤ x.p.lim ∧ 0 ≤ x.p.e.num) : Con Try.prog 8 [.one (.v (.int .i64 room)), .one (.ro false 17 (ls.map eT))] (fun rx rK rt => rx = .val (.bool true) ∧ rK = [] ∧ rt = 0) := by
  refine Z.con_ofF tabOk 129 Try.f8 _ Try.func8 (by kernel_rfl) rfl rfl rfl rfl ?_
  have hr8 := tm8 room
  have cl := listen_con (1 + (IntKind.u64.wrap room).tmod 8) (by omega) (by omega)
  repeat' ((conv => whnf); first
    | with_reducible first | refine spB_t ?_
    | ((with_reducible apply spB_cong); (focus (simp only [beq_self_eq_true, bne_self_eq_false, Bool.true_bne, Bool.false_bne, Bool.bne_true, Bool.bne_false, Bool.true_beq, Bool.false_beq, Bool.not_true, Bool.not_false, Bool.not_not, Int.reduceBEq, Int.reduceBNe, Int.reduceLE, Int.reduceLT, Int.reduceEq, decide_true, decide_false]; rfl)))
    | with_reducible first | refine spB_no (by decide) ?_
    | ((with_reducible refine vN_mk ?_))
    | with_reducible refine wr_i64 (by first | omega | (simp only [LN] at *; omega)) ?_
    | with_reducible first | refine wr_mk _ rfl ?_
    | with_reducible refine nzN_mk (by omega) ?_
    | with_reducible first | refine Z.callZ_in tabOk 31 Try.f36 _ Try.func36 (by kernel_rfl) rfl rfl rfl ?_
    | ((first | (with_reducible refine Z.callZ_mk ?_ (wakes_con) ?_) | (with_reducible refine Z.callZ_mk ?_ (open_con) ?_) | (with_reducible refine Z.callZ_mk ?_ (cl) ?_)); (focus ((repeat' (first | exact trivial | exact rfl | apply And.intro)); done)))
    | ((with_reducible apply ex_and); exact rfl))
  all_goals (try (conv => whnf))
  all_goals try (show Nat.ble _ _ = true; rfl)
  all_goals try (exfalso; rename_i hz; cases hz; done)
  all_goals try (exfalso; (try simp only [LN] at *) <;> omega)
  refine Z.loopK tabOk (gCH 28) (gCK (1 + (IntKind.u64.wrap room).tmod 8)) (gInv (1 + (IntKind.u64.wrap room).tmod 8) ls.length 40) (fun zq => ls.length - zq.1) (0, 0, 0, 0, 0, [], true, none) 6 (gFk 5 26 27 ls) ⟨rfl, rfl, rfl, trivial⟩ [] trivial ?_ ?_ rfl rfl ⟨Nat.zero_le _, Nat.zero_le _, LInv.begin (by omega) (by omega), trivial, by simp⟩ ?_
  · repeat' (first | exact trivial | apply And.intro | exact ⟨_, rfl, Z.Imp.refl _⟩)
  · repeat' (first | exact trivial | (intro b hb; cases hb; done) | (intro b hb; cases hb; refine ⟨_, rfl, ⟨rfl, rfl, rfl⟩, ?_⟩; (repeat' (first | exact trivial | apply And.intro | exact Z.Imp.refl _ | exact Z.Imp.nilg _ | exact Z.Imp.nilr _ _)); done) | apply And.intro)
  rintro ⟨i, B, N, T, l, put, pe, w⟩ HINV
  obtain ⟨HI, HB, H, HW, HP⟩ := HINV
  dsimp only at HI HB H HW HP
  clear cl
  generalize 1 + (IntKind.u64.wrap room).tmod 8 = rm at *
  clear hr8
  by_cases hi : i < ls.length
  rotate_left
  · dsimp only [gCH, gFk, gCK]
    have hT0 := H.hTN
    have hN0 := H.hNP
    have hpl0 := H.hpl
    cases pe
    rotate_left
    · obtain ⟨rfl, rfl, rfl, rfl⟩ := pe_true HP H
      have ce1 := equal_con [] [] (by simp)
      simp only [decide_true] at ce1
      repeat' ((conv => whnf); first
        | with_reducible first | refine spB_no (by decide) ?_
        | (with_reducible refine spB_dec ?_ ?_ <;> intro _ <;> (try (exfalso; first | contradiction | omega | (rename_i hz; refine hz ?_; simp; done) | (rename_i hz; simp at hz; done) | (simp only [LN] at *; omega))))
        | with_reducible first | refine Z.loopZ_unroll tabOk 1 ?_
        | with_reducible refine wr_i64 (by first | omega | (simp only [LN] at *; omega)) ?_
        | ((first | (with_reducible refine Z.conZ_mz ?_ (ce1) ?_)); (focus ((repeat' (first | exact trivial | exact Z.low_gslm (ty := 33) (by first | rfl | exact Z.kb_some rfl) (fun _ => rfl) | exact Z.low_nil2 | apply And.intro)); done)))
        | with_reducible first | refine Z.drawZ_rule tabOk mixOk ?_ | refine Z.apZ_mk (by kernel_rfl) ?_)
      all_goals (try (conv => whnf))
      all_goals try (show Nat.ble _ _ = true; rfl)
      all_goals try (exfalso; rename_i hz; cases hz; done)
      all_goals try (exfalso; (try simp only [LN] at *) <;> omega)
      all_goals first
        | ((first | (with_reducible apply Z.retF1)); (focus (exact rfl)); (repeat' (first | exact trivial | exact rfl | apply And.intro)); (all_goals (try exact (fun _ => none))); all_goals (first | (simp; done)))
    have hp0 : 0 < put.length := pe_false HP
    have hpne : put ≠ [] := fun h9 => by simp [h9] at hp0
    have hleft : (List.map cE (List.take T put)).length = T := by rw [List.length_map, List.length_take]; omega
    repeat' ((conv => whnf); first
      | (with_reducible refine spB_dec ?_ ?_ <;> intro _ <;> (try (exfalso; first | contradiction | omega | (rename_i hz; refine hz ?_; simp; done) | (rename_i hz; simp at hz; done) | (simp only [LN] at *; omega))))
      | with_reducible refine wr_i64 (by first | omega | (simp only [LN] at *; omega)) ?_
      | with_reducible first | refine Z.drawZ_rule tabOk mixOk ?_ | refine Z.apZ_mk (by kernel_rfl) ?_)
    all_goals (try (conv => whnf))
    all_goals try (show Nat.ble _ _ = true; rfl)
    all_goals try (exfalso; rename_i hz; cases hz; done)
    all_goals try (exfalso; (try simp only [LN] at *) <;> omega)
    refine Z.loopK tabOk (fun zq : Nat × Nat × Nat × Nat × Int => [(52, .val (.int .i64 (zq.1 : Int)))]) (fun zq : Nat × Nat × Nat × Nat × Int => ([(2, some (Z.Ob.b ⟨[[.v (.int .u32 7), .v (.int .u64 ((zq.2.1 : Int) + 1)), .ro true 5 ((put.drop zq.2.1).map eE), .v (.int .u64 zq.2.2.2.2), .v (.bool (endsL put)), .v (.int .u32 7), .v (.int .u64 ((zq.2.2.1 : Int) + 1)), .ro true 5 ((bfL put zq.2.2.1 zq.2.2.2.1).map eE), .v (.int .i64 rm), WCb 3 w, PCb 4 (put.map cE) false, .gsl 5 ((put.take zq.2.2.2.1).map cE)]], 12, 85, true⟩)), (5, (gB 5 33 ((put.take zq.2.2.2.1).map cE)).map Z.Ob.b)] : Z.Kr)) (fun zq => zq.1 + T ≤ put.length ∧ zq.2.2.2.1 = T + zq.1 ∧ LInv rm i zq.2.1 zq.2.2.1 zq.2.2.2.1 zq.2.2.2.2 put (wl w)) (fun zq => put.length - T - zq.1) (0, B, N, T, l) 6 [(5, _), (51, _)] ⟨rfl, rfl, trivial⟩ [(3, _), (4, _)] ⟨rfl, rfl, trivial⟩ ?_ ?_ rfl rfl ⟨by omega, rfl, H⟩ ?_
    · repeat' (first | exact trivial | apply And.intro | exact ⟨_, rfl, Z.Imp.refl _⟩)
    · repeat' (first | exact trivial | exact (fun b hb => ⟨b, hb, Z.ImpO.refl b⟩) | apply And.intro)
    rintro ⟨c, B2, N2, T2, l2⟩ HINV
    dsimp only at HINV ⊢
    obtain ⟨HC1, HC2, HC⟩ := HINV
    clear H hT0 hN0
    have hR8 := (okR_all HC.hR).1
    have ht8 := HC.hTN
    have hn8 := HC.hNP
    by_cases hc : c < put.length - T
    rotate_left
    · have hTe : put.take T2 = put := List.take_of_length_le (by omega)
      have ce1 := equal_con put put (by omega)
      simp only [decide_true] at ce1
      rw [hTe]
      repeat' ((conv => whnf); first
        | (with_reducible refine spB_dec ?_ ?_ <;> intro _ <;> (try (exfalso; first | contradiction | omega | (rename_i hz; refine hz ?_; simp; done) | (rename_i hz; simp at hz; done) | (simp only [LN] at *; omega))))
        | ((first | (with_reducible refine Z.conZ_mz ?_ (ce1) ?_)); (focus ((repeat' (first | exact trivial | exact Z.low_gslm (ty := 33) (by first | rfl | exact Z.kb_some rfl) (fun _ => rfl) | (apply low_gslv (l := put); (focus (exact rfl)); (focus (exact rfl)); (focus (exact hpne))) | apply And.intro)); done)))
        | with_reducible first | refine Z.drawZ_rule tabOk mixOk ?_ | refine Z.apZ_mk (by kernel_rfl) ?_)
      all_goals (try (conv => whnf))
      all_goals try (show Nat.ble _ _ = true; rfl)
      all_goals try (exfalso; rename_i hz; cases hz; done)
      all_goals try (exfalso; (try simp only [LN] at *) <;> omega)
      all_goals first
        | ((first | (with_reducible apply Z.retF1)); (focus (exact rfl)); (repeat' (first | exact trivial | exact rfl | apply And.intro)); (all_goals (try exact (fun _ => none))); all_goals (first | (simp; done)))
    have cak := ack_con 7 ((N2 : Int) + 1) (bfL put N2 T2) rm (by have h9 := HC.hpl; simp only [List.length_take, List.length_drop]; omega) (fun e he => okEs_num HC.hP e (List.mem_of_mem_take (List.mem_of_mem_drop he))) (by omega)
    rw [HC.acked rfl] at cak
    dsimp only at cak
    have cba := acked_con 7 ((B2 : Int) + 1) (put.drop B2) l2 (endsL put) ⟨2, 7, (N2 : Int) + 1, min ((T2 : Int) + rm) 4611686018427387904, zE⟩ (by have h9 := HC.hpl; simp only [List.length_take, List.length_drop]; omega) (fun e he => okEs_num HC.hP e (List.mem_of_mem_drop he)) (by omega) HC.hl0 (by show 0 ≤ (N2 : Int) + 1; omega) (by show 0 ≤ min _ _; omega)
    obtain ⟨B3, l3, hE, HD, hgot⟩ := HC.back (p := ⟨2, 7, (N2 : Int) + 1, min ((T2 : Int) + rm) 4611686018427387904, zE⟩) (.inl HC.ack_ok) rfl (by show 0 ≤ min _ _; omega)
    rw [hE] at cba
    dsimp only at cba
    have hg2 := hgot rfl (by omega)
    have cse := send_con 7 ((B3 : Int) + 1) (put.drop B3) l3 (endsL put) (by have h9 := HD.hpl; simp only [List.length_take, List.length_drop]; omega) (fun e he => okEs_num HD.hP e (List.mem_of_mem_drop he)) (by omega) HD.hl0
    rw [HD.sent] at cse
    dsimp only at cse
    have hQ9 := fun (p : Pk) hp => HD.pks_ok (p := p) hp
    have hQa := fun (j : Nat) (p : Pk) (h : (pks 7 l3 ((B3 : Int) + 1) (put.drop B3))[j]? = some p) => pks_at h
    have hQp := fun (h0 : B3 < put.length) h => pks_pos (n := 7) (l := l3) (s := (B3 : Int) + 1) (q := put.drop B3) (by rw [List.length_drop]; omega) h
    have hql9 := @pks_len 7 l3 ((B3 : Int) + 1) (put.drop B3)
    have hq8 := (okS_all HD.hS).1
    generalize pks 7 l3 ((B3 : Int) + 1) (put.drop B3) = Q9 at *
    repeat' ((conv => whnf); first
      | with_reducible first | refine spB_t ?_
      | ((with_reducible apply spB_cong); (focus (simp only [beq_self_eq_true, bne_self_eq_false, Bool.true_bne, Bool.false_bne, Bool.bne_true, Bool.bne_false, Bool.true_beq, Bool.false_beq, Bool.not_true, Bool.not_false, Bool.not_not, Int.reduceBEq, Int.reduceBNe, Int.reduceLE, Int.reduceLT, Int.reduceEq, decide_true, decide_false]; rfl)))
      | with_reducible first | refine spB_no (by decide) ?_
      | (with_reducible refine spB_dec ?_ ?_ <;> intro _ <;> (try (exfalso; first | contradiction | omega | (rename_i hz; refine hz ?_; simp; done) | (rename_i hz; simp at hz; done) | (simp only [LN] at *; omega))))
      | with_reducible first | refine Z.callZ_in tabOk 42 Try.f39 _ Try.func39 (by kernel_rfl) rfl rfl rfl ?_
      | ((first | (with_reducible refine Z.callZ_mk ?_ (cse) ?_) | (with_reducible refine Z.callZ_mk ?_ (cak) ?_) | (with_reducible refine Z.conZ_mz ?_ (cba) ?_)); (focus ((repeat' (first | exact trivial | exact rfl | apply And.intro)); done)))
      | ((with_reducible apply ex_and); exact rfl)
      | with_reducible first | refine Z.drawZ_rule tabOk mixOk ?_ | refine Z.apZ_mk (by kernel_rfl) ?_)
    all_goals (try (conv => whnf))
    all_goals try (show Nat.ble _ _ = true; rfl)
    all_goals try (exfalso; rename_i hz; cases hz; done)
    all_goals try (exfalso; (try simp only [LN] at *) <;> omega)
    refine Z.loopK tabOk (fun zq : Nat × Nat => [(82, .val (.int .i64 (zq.1 : Int)))]) (fun zq : Nat × Nat => ([(2, some (Z.Ob.b ⟨[[.v (.int .u32 7), .v (.int .u64 ((B3 : Int) + 1)), .ro true 5 ((put.drop B3).map eE), .v (.int .u64 l3), .v (.bool (endsL put)), .v (.int .u32 7), .v (.int .u64 ((zq.2 : Int) + 1)), .ro true 5 ((bfL put zq.2 T2).map eE), .v (.int .i64 rm), WCb 3 w, PCb 4 (put.map cE) false, .gsl 5 ((put.take T2).map cE)]], 12, 85, true⟩))] : Z.Kr)) (fun zq => zq.1 ≤ Q9.length ∧ LInv rm i B3 zq.2 T2 l3 put (wl w) ∧ N2 ≤ zq.2 ∧ (zq.1 = 0 → zq.2 = N2) ∧ (0 < zq.1 → T2 < zq.2)) (fun zq => Q9.length - zq.1) (0, N2) 9 [(5, _), (51, _), (52, _), (80, _), (81, _)] ⟨rfl, rfl, rfl, rfl, rfl, trivial⟩ [(3, _), (4, _), (5, _)] ⟨rfl, rfl, rfl, trivial⟩ ?_ ?_ rfl rfl ⟨Nat.zero_le _, HD, Nat.le_refl _, fun _ => rfl, fun h9 => absurd h9 (Nat.lt_irrefl _)⟩ ?_
    · repeat' (first | exact trivial | apply And.intro | exact ⟨_, rfl, Z.Imp.refl _⟩)
    · repeat' (first | exact trivial | exact (fun b hb => ⟨b, hb, Z.ImpO.refl b⟩) | apply And.intro)
    rintro ⟨j, M⟩ HINV
    dsimp only at HINV ⊢
    obtain ⟨HJ, HM, HM1, HM2, HM3⟩ := HINV
    have hR7 := (okR_all HM.hR).1
    have hl7 := HM.hl
    have hn7 := HM.hNP
    by_cases hj : j < Q9.length
    · obtain ⟨y9, hy9⟩ := getElem?_some' (xs := Q9) (i := j) hj
      obtain ⟨k9, hk9a, hk9b, hk9c, hk9d⟩ := hQ9 y9 (List.mem_of_getElem? hy9)
      obtain ⟨_, hat, hat2⟩ := hQa j y9 hy9
      have hsq8 : y9.sq = (B3 : Int) + 1 + (j : Int) := by rw [hat]
      have hyok9 : okP put rm M T2 y9 := by rw [hk9c]; exact ⟨rfl, .inl ⟨rfl, rfl, k9, rfl, hk9b⟩⟩
      have hyse9 : y9.se = 7 := by rw [hk9c]
      have hykd9 : ¬ y9.kd = 2 := by rw [hk9c]; show ¬ (1 : Int) = 2; decide
      have hyn9 := hyok9.num HM.hP
      have che := hear_con 7 ((M : Int) + 1) (bfL put M T2) rm y9 (by have h9 := HM.hpl; simp only [List.length_take, List.length_drop]; omega) (fun e he => okEs_num HM.hP e (List.mem_of_mem_take (List.mem_of_mem_drop he))) (by omega) hyn9.1 hyn9.2.2
      obtain ⟨M', hM9, hE9, HN, hgot2⟩ := HM.hear (.inl hyok9) hykd9
      rw [hE9] at che
      dsimp only at che
      have hM8 : T2 < M' := by
        rcases Nat.eq_zero_or_pos j with h9 | h9
        · have h8 := HM2 h9
          have h7 := hgot2 hyse9 (by omega) (by omega)
          omega
        · have := HM3 h9; omega
      repeat' ((conv => whnf); first
        | ((with_reducible apply spB_cong); (focus (simp only [beq_self_eq_true, bne_self_eq_false, Bool.true_bne, Bool.false_bne, Bool.bne_true, Bool.bne_false, Bool.true_beq, Bool.false_beq, Bool.not_true, Bool.not_false, Bool.not_not, Int.reduceBEq, Int.reduceBNe, Int.reduceLE, Int.reduceLT, Int.reduceEq, decide_true, decide_false]; rfl)))
        | with_reducible first | refine spB_no (by decide) ?_
        | (with_reducible refine spB_dec ?_ ?_ <;> intro _ <;> (try (exfalso; first | contradiction | omega | (rename_i hz; refine hz ?_; simp; done) | (rename_i hz; simp at hz; done) | (simp only [LN] at *; omega))))
        | (with_reducible refine spB_beq ?_ ?_ <;> intro _ <;> (try (exfalso; first | contradiction | omega | (rename_i hz; refine hz ?_; simp; done) | (rename_i hz; simp at hz; done) | (simp only [LN] at *; omega))))
        | with_reducible first | refine Z.rowN_known hy9 ?_
        | ((with_reducible apply ixN_litp); (focus (exact rfl)); (focus ((try simp only [LN] at *) <;> omega)))
        | with_reducible refine wr_i64 (by first | omega | (simp only [LN] at *; omega)) ?_
        | with_reducible first | refine Z.callZ_in tabOk 42 Try.f39 _ Try.func39 (by kernel_rfl) rfl rfl rfl ?_
        | ((first | (with_reducible refine Z.conZ_mz ?_ (che) ?_)); (focus ((repeat' (first | exact trivial | exact rfl | apply And.intro)); done)))
        | ((with_reducible apply ex_and); exact rfl)
        | with_reducible first | refine Z.drawZ_rule tabOk mixOk ?_ | refine Z.apZ_mk (by kernel_rfl) ?_)
      all_goals (try (conv => whnf))
      all_goals try (show Nat.ble _ _ = true; rfl)
      all_goals try (exfalso; rename_i hz; cases hz; done)
      all_goals try (exfalso; (try simp only [LN] at *) <;> omega)
      all_goals first
        | ((refine Z.rndK ((j + 1, M')) (fun s => [0, 1, 2, 3, 4, 5, 6, 7, 8]) rfl rfl rfl rfl ?_ ?_ ?_ ?_); (focus (repeat' (first | exact trivial | exact rfl | apply And.intro))); (focus (repeat' (first | exact trivial | exact WBb_sub rfl | (intro b hb; cases hb; first | rfl | (cases w <;> rfl)) | exact Z.blk_sub rfl rfl (ren_map fun _ => rfl) | exact Z.gB_sub rfl rfl (ren_map fun _ => rfl) | apply And.intro))); (focus (exact ⟨by (try dsimp only); omega, HN, by (try dsimp only); omega, fun h9 => by (try dsimp only at h9); omega, fun _ => hM8⟩)); ((try dsimp only); omega))
    have hTM : T2 < M := by
      rcases Nat.eq_zero_or_pos j with h9 | h9
      · rcases Nat.lt_or_ge T2 N2 with h8 | h8
        · omega
        · have := hQp (by omega) (by omega); omega
      · exact HM3 h9
    obtain ⟨y, hy⟩ := getElem?_some' (xs := put) (i := T2) (by omega)
    have cta := take_con 7 ((M : Int) + 1) (bfL put M T2) rm (by have h9 := HM.hpl; simp only [List.length_take, List.length_drop]; omega) (fun e he => okEs_num HM.hP e (List.mem_of_mem_take (List.mem_of_mem_drop he))) (by omega)
    obtain ⟨hE5, HT⟩ := HM.take hTM hy
    rw [hE5] at cta
    dsimp only at cta
    have hne9 : put.take (T2 + 1) ≠ [] := fun h9 => by have h8 := congrArg List.length h9; rw [List.length_take] at h8; simp only [List.length_nil] at h8; omega
    have cs1 := checkS_con 7 ((B3 : Int) + 1) (put.drop B3) l3 (endsL put) (by have h9 := HT.hpl; simp only [List.length_take, List.length_drop]; omega) (fun e he => okEs_num HT.hP e (List.mem_of_mem_drop he)) (by omega) HT.hl0
    rw [HT.hS] at cs1
    have cr1 := checkR_con 7 ((M : Int) + 1) (bfL put M (T2 + 1)) rm (by have h9 := HT.hpl; simp only [List.length_take, List.length_drop]; omega) (fun e he => okEs_num HT.hP e (List.mem_of_mem_take (List.mem_of_mem_drop he))) (by omega)
    rw [HT.hR] at cr1
    have cc1 := concat_con (put.take (T2 + 1)) (bfL put M (T2 + 1)) (by have h9 := HT.hpl; simp only [List.length_take, List.length_drop]; omega) (by have h9 := HT.hpl; simp only [List.length_take, List.length_drop]; omega)
    rw [bfL_app HT.hTN] at cc1
    have ce1 := equal_con (put.take M) (put.take M) (by have h9 := HT.hpl; simp only [List.length_take, List.length_drop]; omega)
    simp only [cond_true, decide_true] at cs1 cr1 ce1
    have hqm : (List.map eE (put.drop B3)).length = put.length - B3 := by rw [List.length_map, List.length_drop]
    have hbm : (List.map eE (bfL put M (T2 + 1))).length = M - (T2 + 1) := by rw [List.length_map, bfL_len HT.hNP]
    have hq9 : (put.drop B3).length = put.length - B3 := List.length_drop
    have hb9 := bfL_len (T := (T2 + 1)) HT.hNP
    have hn9 := HT.hNP
    have hbn9 := HT.hBN
    have htn9 := HT.hTN
    have hR9 := (okR_all HT.hR).1
    have hpl9 := HT.hpl
    have hS9 := (okS_all HT.hS).1
    repeat' ((conv => whnf); first
      | with_reducible first | refine spB_t ?_
      | ((with_reducible apply spB_cong); (focus (simp only [beq_self_eq_true, bne_self_eq_false, Bool.true_bne, Bool.false_bne, Bool.bne_true, Bool.bne_false, Bool.true_beq, Bool.false_beq, Bool.not_true, Bool.not_false, Bool.not_not, Int.reduceBEq, Int.reduceBNe, Int.reduceLE, Int.reduceLT, Int.reduceEq, decide_true, decide_false]; rfl)))
      | with_reducible first | refine spB_no (by decide) ?_ | refine spB_not ?_
      | (with_reducible refine spB_dec ?_ ?_ <;> intro _ <;> (try (exfalso; first | contradiction | omega | (rename_i hz; refine hz ?_; simp; done) | (rename_i hz; simp at hz; done) | (simp only [LN] at *; omega))))
      | ((with_reducible refine Z.ConZ.red ?_); (apply Z.conZ_rows cc1); (focus (exact rfl)); (focus (exact rfl)); (focus (exact rfl)); (focus (refine ⟨⟨.inr ⟨_, _, rfl, ?_⟩, trivial⟩, ⟨.inl rfl, trivial⟩, trivial⟩; first | exact Z.low_gslm (ty := 33) (by first | rfl | exact Z.kb_some rfl) (fun _ => rfl) | (apply low_gslc (l := put.take (T2 + 1)); (focus (exact rfl)); (focus (exact tk_snoc hy rfl)); (focus (exact hne9))))))
      | ((with_reducible refine slN_hi (M) ?_ ?_ ?_); (focus (first | (simp only [LN] at *; omega))); (focus (first | (simp only [LN] at *; omega))))
      | ((with_reducible refine posE_pos ?_ ?_); (focus ((try simp only [LN] at *) <;> omega)))
      | ((with_reducible refine posN_mk2 ?_ ?_); (focus (first | ((try simp only [LN] at *) <;> omega))))
      | ((with_reducible refine apdN.mk ?_ ?_ ?_ ?_ ?_ ?_); (focus (first | rfl)); (focus (first | exact one_all (by rfl))); (focus ((try simp only [LN] at *) <;> omega)); (focus ((try simp only [LN] at *) <;> omega)); (focus ((try simp only [LN] at *) <;> omega)))
      | with_reducible refine wr_i64 (by first | omega | (simp only [LN] at *; omega)) ?_
      | with_reducible refine wr_u64 (by omega) ?_
      | with_reducible first | refine Z.callZ_in tabOk 97 Try.f38 _ Try.func38 (by kernel_rfl) rfl rfl rfl ?_
      | ((first | (with_reducible refine Z.callZ_mk ?_ (cta) ?_) | (with_reducible refine Z.callZ_mk ?_ (ce1) ?_) | (with_reducible refine Z.callZ_mk ?_ (cs1) ?_) | (with_reducible refine Z.callZ_mk ?_ (cr1) ?_)); (focus ((repeat' (first | exact trivial | (apply low_pre (l := put); (focus (exact rfl)); (focus (exact rfl)); (focus (simp only [LN] at *; omega))) | exact rfl | apply And.intro)); done)))
      | ((with_reducible refine eqN_mk2 ?_ ?_); (focus (exact Z.kb_some rfl)))
      | ((with_reducible apply ex_and); exact rfl)
      | with_reducible first | refine Z.drawZ_rule tabOk mixOk ?_ | refine Z.apZ_mk (by kernel_rfl) ?_)
    all_goals (try (conv => whnf))
    all_goals try (show Nat.ble _ _ = true; rfl)
    all_goals try (exfalso; rename_i hz; cases hz; done)
    all_goals try (exfalso; (try simp only [LN] at *) <;> omega)
    all_goals first
      | ((refine Z.rnd_bi 2 [[_, _, _, _, _, _, _, _, _, _, _, .gsl _ ((put.take (T2 + 1)).map cE)]] rfl rfl ⟨⟨Z.Imp.refl _, Z.Imp.refl _, Z.Imp.refl _, Z.Imp.refl _, Z.Imp.refl _, Z.Imp.refl _, Z.Imp.refl _, Z.Imp.refl _, Z.Imp.refl _, Z.Imp.refl _, Z.Imp.refl _, Z.Imp.of_eq (congrArg (Ce.gsl _) (tk_snoc hy rfl)), trivial⟩, trivial⟩ ?_); ((refine Z.rndK ((c + 1, B3, M, T2 + 1, l3)) (fun s => [0, 1, 2, 3, 4, s.idIn 2 11]) rfl rfl rfl rfl ?_ ?_ ?_ ?_); (focus (repeat' (first | exact trivial | exact rfl | apply And.intro))); (focus (repeat' (first | exact trivial | exact WBb_sub rfl | exact Z.gB_sub' rfl (tk_snoc hy rfl) (ren_map fun _ => rfl) | (intro b hb; cases hb; first | rfl | (cases w <;> rfl)) | exact Z.blk_sub rfl rfl (ren_map fun _ => rfl) | apply And.intro))); (focus (exact ⟨by (try dsimp only); omega, by (try dsimp only); omega, HT⟩)); ((try dsimp only); omega)))
  obtain ⟨x, hx⟩ := getElem?_some' (xs := ls) (i := i) hi
  have hux := hu x (List.mem_of_getElem? hx)
  obtain ⟨kd, n, keeps, e, pk⟩ := x
  dsimp only at hux
  by_cases hib : i = 40
  · dsimp only [gCH, gFk, gCK]
    have hT0 := H.hTN
    have hN0 := H.hNP
    have hpl0 := H.hpl
    cases pe
    rotate_left
    · obtain ⟨rfl, rfl, rfl, rfl⟩ := pe_true HP H
      have ce1 := equal_con [] [] (by simp)
      simp only [decide_true] at ce1
      repeat' ((conv => whnf); first
        | with_reducible first | refine spB_no (by decide) ?_
        | (with_reducible refine spB_dec ?_ ?_ <;> intro _ <;> (try (exfalso; first | contradiction | omega | (rename_i hz; refine hz ?_; simp; done) | (rename_i hz; simp at hz; done) | (simp only [LN] at *; omega))))
        | (with_reducible refine spB_beq ?_ ?_ <;> intro _ <;> (try (exfalso; first | contradiction | omega | (rename_i hz; refine hz ?_; simp; done) | (rename_i hz; simp at hz; done) | (simp only [LN] at *; omega))))
        | with_reducible first | refine Z.rowN_known hx ?_ | refine Z.loopZ_unroll tabOk 1 ?_
        | ((with_reducible apply ixN_litp); (focus (exact rfl)); (focus ((try simp only [LN] at *) <;> omega)))
        | with_reducible refine wr_i64 (by first | omega | (simp only [LN] at *; omega)) ?_
        | ((first | (with_reducible refine Z.conZ_mz ?_ (ce1) ?_)); (focus ((repeat' (first | exact trivial | exact Z.low_gslm (ty := 33) (by first | rfl | exact Z.kb_some rfl) (fun _ => rfl) | exact Z.low_nil2 | apply And.intro)); done)))
        | with_reducible first | refine Z.drawZ_rule tabOk mixOk ?_ | refine Z.apZ_mk (by kernel_rfl) ?_)
      all_goals (try (conv => whnf))
      all_goals try (show Nat.ble _ _ = true; rfl)
      all_goals try (exfalso; rename_i hz; cases hz; done)
      all_goals try (exfalso; (try simp only [LN] at *) <;> omega)
      all_goals first
        | ((first | (with_reducible apply Z.retF1)); (focus (exact rfl)); (repeat' (first | exact trivial | exact rfl | apply And.intro)); (all_goals (try exact (fun _ => none))); all_goals (first | (simp; done)))
    have hp0 : 0 < put.length := pe_false HP
    have hpne : put ≠ [] := fun h9 => by simp [h9] at hp0
    have hleft : (List.map cE (List.take T put)).length = T := by rw [List.length_map, List.length_take]; omega
    repeat' ((conv => whnf); first
      | (with_reducible refine spB_dec ?_ ?_ <;> intro _ <;> (try (exfalso; first | contradiction | omega | (rename_i hz; refine hz ?_; simp; done) | (rename_i hz; simp at hz; done) | (simp only [LN] at *; omega))))
      | (with_reducible refine spB_beq ?_ ?_ <;> intro _ <;> (try (exfalso; first | contradiction | omega | (rename_i hz; refine hz ?_; simp; done) | (rename_i hz; simp at hz; done) | (simp only [LN] at *; omega))))
      | with_reducible first | refine Z.rowN_known hx ?_
      | ((with_reducible apply ixN_litp); (focus (exact rfl)); (focus ((try simp only [LN] at *) <;> omega)))
      | with_reducible refine wr_i64 (by first | omega | (simp only [LN] at *; omega)) ?_
      | with_reducible first | refine Z.drawZ_rule tabOk mixOk ?_ | refine Z.apZ_mk (by kernel_rfl) ?_)
    all_goals (try (conv => whnf))
    all_goals try (show Nat.ble _ _ = true; rfl)
    all_goals try (exfalso; rename_i hz; cases hz; done)
    all_goals try (exfalso; (try simp only [LN] at *) <;> omega)
    refine Z.loopK tabOk (fun zq : Nat × Nat × Nat × Nat × Int => [(52, .val (.int .i64 (zq.1 : Int)))]) (fun zq : Nat × Nat × Nat × Nat × Int => ([(2, some (Z.Ob.b ⟨[[.v (.int .u32 7), .v (.int .u64 ((zq.2.1 : Int) + 1)), .ro true 5 ((put.drop zq.2.1).map eE), .v (.int .u64 zq.2.2.2.2), .v (.bool (endsL put)), .v (.int .u32 7), .v (.int .u64 ((zq.2.2.1 : Int) + 1)), .ro true 5 ((bfL put zq.2.2.1 zq.2.2.2.1).map eE), .v (.int .i64 rm), WCb 3 w, PCb 4 (put.map cE) false, .gsl 5 ((put.take zq.2.2.2.1).map cE)]], 12, 85, true⟩)), (5, (gB 5 33 ((put.take zq.2.2.2.1).map cE)).map Z.Ob.b)] : Z.Kr)) (fun zq => zq.1 + T ≤ put.length ∧ zq.2.2.2.1 = T + zq.1 ∧ LInv rm i zq.2.1 zq.2.2.1 zq.2.2.2.1 zq.2.2.2.2 put (wl w)) (fun zq => put.length - T - zq.1) (0, B, N, T, l) 7 [(5, _), (51, _)] ⟨rfl, rfl, trivial⟩ [(3, _), (4, _)] ⟨rfl, rfl, trivial⟩ ?_ ?_ rfl rfl ⟨by omega, rfl, H⟩ ?_
    · repeat' (first | exact trivial | apply And.intro | exact ⟨_, rfl, Z.Imp.refl _⟩)
    · repeat' (first | exact trivial | exact (fun b hb => ⟨b, hb, Z.ImpO.refl b⟩) | apply And.intro)
    rintro ⟨c, B2, N2, T2, l2⟩ HINV
    dsimp only at HINV ⊢
    obtain ⟨HC1, HC2, HC⟩ := HINV
    clear H hT0 hN0
    have hR8 := (okR_all HC.hR).1
    have ht8 := HC.hTN
    have hn8 := HC.hNP
    by_cases hc : c < put.length - T
    rotate_left
    · have hTe : put.take T2 = put := List.take_of_length_le (by omega)
      have ce1 := equal_con put put (by omega)
      simp only [decide_true] at ce1
      rw [hTe]
      repeat' ((conv => whnf); first
        | (with_reducible refine spB_dec ?_ ?_ <;> intro _ <;> (try (exfalso; first | contradiction | omega | (rename_i hz; refine hz ?_; simp; done) | (rename_i hz; simp at hz; done) | (simp only [LN] at *; omega))))
        | ((first | (with_reducible refine Z.conZ_mz ?_ (ce1) ?_)); (focus ((repeat' (first | exact trivial | exact Z.low_gslm (ty := 33) (by first | rfl | exact Z.kb_some rfl) (fun _ => rfl) | (apply low_gslv (l := put); (focus (exact rfl)); (focus (exact rfl)); (focus (exact hpne))) | apply And.intro)); done)))
        | with_reducible first | refine Z.drawZ_rule tabOk mixOk ?_ | refine Z.apZ_mk (by kernel_rfl) ?_)
      all_goals (try (conv => whnf))
      all_goals try (show Nat.ble _ _ = true; rfl)
      all_goals try (exfalso; rename_i hz; cases hz; done)
      all_goals try (exfalso; (try simp only [LN] at *) <;> omega)
      all_goals first
        | ((first | (with_reducible apply Z.retF1)); (focus (exact rfl)); (repeat' (first | exact trivial | exact rfl | apply And.intro)); (all_goals (try exact (fun _ => none))); all_goals (first | (simp; done)))
    have cak := ack_con 7 ((N2 : Int) + 1) (bfL put N2 T2) rm (by have h9 := HC.hpl; simp only [List.length_take, List.length_drop]; omega) (fun e he => okEs_num HC.hP e (List.mem_of_mem_take (List.mem_of_mem_drop he))) (by omega)
    rw [HC.acked rfl] at cak
    dsimp only at cak
    have cba := acked_con 7 ((B2 : Int) + 1) (put.drop B2) l2 (endsL put) ⟨2, 7, (N2 : Int) + 1, min ((T2 : Int) + rm) 4611686018427387904, zE⟩ (by have h9 := HC.hpl; simp only [List.length_take, List.length_drop]; omega) (fun e he => okEs_num HC.hP e (List.mem_of_mem_drop he)) (by omega) HC.hl0 (by show 0 ≤ (N2 : Int) + 1; omega) (by show 0 ≤ min _ _; omega)
    obtain ⟨B3, l3, hE, HD, hgot⟩ := HC.back (p := ⟨2, 7, (N2 : Int) + 1, min ((T2 : Int) + rm) 4611686018427387904, zE⟩) (.inl HC.ack_ok) rfl (by show 0 ≤ min _ _; omega)
    rw [hE] at cba
    dsimp only at cba
    have hg2 := hgot rfl (by omega)
    have cse := send_con 7 ((B3 : Int) + 1) (put.drop B3) l3 (endsL put) (by have h9 := HD.hpl; simp only [List.length_take, List.length_drop]; omega) (fun e he => okEs_num HD.hP e (List.mem_of_mem_drop he)) (by omega) HD.hl0
    rw [HD.sent] at cse
    dsimp only at cse
    have hQ9 := fun (p : Pk) hp => HD.pks_ok (p := p) hp
    have hQa := fun (j : Nat) (p : Pk) (h : (pks 7 l3 ((B3 : Int) + 1) (put.drop B3))[j]? = some p) => pks_at h
    have hQp := fun (h0 : B3 < put.length) h => pks_pos (n := 7) (l := l3) (s := (B3 : Int) + 1) (q := put.drop B3) (by rw [List.length_drop]; omega) h
    have hql9 := @pks_len 7 l3 ((B3 : Int) + 1) (put.drop B3)
    have hq8 := (okS_all HD.hS).1
    generalize pks 7 l3 ((B3 : Int) + 1) (put.drop B3) = Q9 at *
    repeat' ((conv => whnf); first
      | with_reducible first | refine spB_t ?_
      | ((with_reducible apply spB_cong); (focus (simp only [beq_self_eq_true, bne_self_eq_false, Bool.true_bne, Bool.false_bne, Bool.bne_true, Bool.bne_false, Bool.true_beq, Bool.false_beq, Bool.not_true, Bool.not_false, Bool.not_not, Int.reduceBEq, Int.reduceBNe, Int.reduceLE, Int.reduceLT, Int.reduceEq, decide_true, decide_false]; rfl)))
      | with_reducible first | refine spB_no (by decide) ?_
      | (with_reducible refine spB_dec ?_ ?_ <;> intro _ <;> (try (exfalso; first | contradiction | omega | (rename_i hz; refine hz ?_; simp; done) | (rename_i hz; simp at hz; done) | (simp only [LN] at *; omega))))
      | with_reducible first | refine Z.callZ_in tabOk 42 Try.f39 _ Try.func39 (by kernel_rfl) rfl rfl rfl ?_
      | ((first | (with_reducible refine Z.callZ_mk ?_ (cse) ?_) | (with_reducible refine Z.callZ_mk ?_ (cak) ?_) | (with_reducible refine Z.conZ_mz ?_ (cba) ?_)); (focus ((repeat' (first | exact trivial | exact rfl | apply And.intro)); done)))
      | ((with_reducible apply ex_and); exact rfl)
      | with_reducible first | refine Z.drawZ_rule tabOk mixOk ?_ | refine Z.apZ_mk (by kernel_rfl) ?_)
    all_goals (try (conv => whnf))
    all_goals try (show Nat.ble _ _ = true; rfl)
    all_goals try (exfalso; rename_i hz; cases hz; done)
    all_goals try (exfalso; (try simp only [LN] at *) <;> omega)
    refine Z.loopK tabOk (fun zq : Nat × Nat => [(82, .val (.int .i64 (zq.1 : Int)))]) (fun zq : Nat × Nat => ([(2, some (Z.Ob.b ⟨[[.v (.int .u32 7), .v (.int .u64 ((B3 : Int) + 1)), .ro true 5 ((put.drop B3).map eE), .v (.int .u64 l3), .v (.bool (endsL put)), .v (.int .u32 7), .v (.int .u64 ((zq.2 : Int) + 1)), .ro true 5 ((bfL put zq.2 T2).map eE), .v (.int .i64 rm), WCb 3 w, PCb 4 (put.map cE) false, .gsl 5 ((put.take T2).map cE)]], 12, 85, true⟩))] : Z.Kr)) (fun zq => zq.1 ≤ Q9.length ∧ LInv rm i B3 zq.2 T2 l3 put (wl w) ∧ N2 ≤ zq.2 ∧ (zq.1 = 0 → zq.2 = N2) ∧ (0 < zq.1 → T2 < zq.2)) (fun zq => Q9.length - zq.1) (0, N2) 10 [(5, _), (51, _), (52, _), (80, _), (81, _)] ⟨rfl, rfl, rfl, rfl, rfl, trivial⟩ [(3, _), (4, _), (5, _)] ⟨rfl, rfl, rfl, trivial⟩ ?_ ?_ rfl rfl ⟨Nat.zero_le _, HD, Nat.le_refl _, fun _ => rfl, fun h9 => absurd h9 (Nat.lt_irrefl _)⟩ ?_
    · repeat' (first | exact trivial | apply And.intro | exact ⟨_, rfl, Z.Imp.refl _⟩)
    · repeat' (first | exact trivial | exact (fun b hb => ⟨b, hb, Z.ImpO.refl b⟩) | apply And.intro)
    rintro ⟨j, M⟩ HINV
    dsimp only at HINV ⊢
    obtain ⟨HJ, HM, HM1, HM2, HM3⟩ := HINV
    have hR7 := (okR_all HM.hR).1
    have hl7 := HM.hl
    have hn7 := HM.hNP
    by_cases hj : j < Q9.length
    · obtain ⟨y9, hy9⟩ := getElem?_some' (xs := Q9) (i := j) hj
      obtain ⟨k9, hk9a, hk9b, hk9c, hk9d⟩ := hQ9 y9 (List.mem_of_getElem? hy9)
      obtain ⟨_, hat, hat2⟩ := hQa j y9 hy9
      have hsq8 : y9.sq = (B3 : Int) + 1 + (j : Int) := by rw [hat]
      have hyok9 : okP put rm M T2 y9 := by rw [hk9c]; exact ⟨rfl, .inl ⟨rfl, rfl, k9, rfl, hk9b⟩⟩
      have hyse9 : y9.se = 7 := by rw [hk9c]
      have hykd9 : ¬ y9.kd = 2 := by rw [hk9c]; show ¬ (1 : Int) = 2; decide
      have hyn9 := hyok9.num HM.hP
      have che := hear_con 7 ((M : Int) + 1) (bfL put M T2) rm y9 (by have h9 := HM.hpl; simp only [List.length_take, List.length_drop]; omega) (fun e he => okEs_num HM.hP e (List.mem_of_mem_take (List.mem_of_mem_drop he))) (by omega) hyn9.1 hyn9.2.2
      obtain ⟨M', hM9, hE9, HN, hgot2⟩ := HM.hear (.inl hyok9) hykd9
      rw [hE9] at che
      dsimp only at che
      have hM8 : T2 < M' := by
        rcases Nat.eq_zero_or_pos j with h9 | h9
        · have h8 := HM2 h9
          have h7 := hgot2 hyse9 (by omega) (by omega)
          omega
        · have := HM3 h9; omega
      repeat' ((conv => whnf); first
        | ((with_reducible apply spB_cong); (focus (simp only [beq_self_eq_true, bne_self_eq_false, Bool.true_bne, Bool.false_bne, Bool.bne_true, Bool.bne_false, Bool.true_beq, Bool.false_beq, Bool.not_true, Bool.not_false, Bool.not_not, Int.reduceBEq, Int.reduceBNe, Int.reduceLE, Int.reduceLT, Int.reduceEq, decide_true, decide_false]; rfl)))
        | with_reducible first | refine spB_no (by decide) ?_
        | (with_reducible refine spB_dec ?_ ?_ <;> intro _ <;> (try (exfalso; first | contradiction | omega | (rename_i hz; refine hz ?_; simp; done) | (rename_i hz; simp at hz; done) | (simp only [LN] at *; omega))))
        | (with_reducible refine spB_beq ?_ ?_ <;> intro _ <;> (try (exfalso; first | contradiction | omega | (rename_i hz; refine hz ?_; simp; done) | (rename_i hz; simp at hz; done) | (simp only [LN] at *; omega))))
        | with_reducible first | refine Z.rowN_known hy9 ?_
        | ((with_reducible apply ixN_litp); (focus (exact rfl)); (focus ((try simp only [LN] at *) <;> omega)))
        | with_reducible refine wr_i64 (by first | omega | (simp only [LN] at *; omega)) ?_
        | with_reducible first | refine Z.callZ_in tabOk 42 Try.f39 _ Try.func39 (by kernel_rfl) rfl rfl rfl ?_
        | ((first | (with_reducible refine Z.conZ_mz ?_ (che) ?_)); (focus ((repeat' (first | exact trivial | exact rfl | apply And.intro)); done)))
        | ((with_reducible apply ex_and); exact rfl)
        | with_reducible first | refine Z.drawZ_rule tabOk mixOk ?_ | refine Z.apZ_mk (by kernel_rfl) ?_)
      all_goals (try (conv => whnf))
      all_goals try (show Nat.ble _ _ = true; rfl)
      all_goals try (exfalso; rename_i hz; cases hz; done)
      all_goals try (exfalso; (try simp only [LN] at *) <;> omega)
      all_goals first
        | ((refine Z.rndK ((j + 1, M')) (fun s => [0, 1, 2, 3, 4, 5, 6, 7, 8, 9]) rfl rfl rfl rfl ?_ ?_ ?_ ?_); (focus (repeat' (first | exact trivial | exact rfl | apply And.intro))); (focus (repeat' (first | exact trivial | exact WBb_sub rfl | (intro b hb; cases hb; first | rfl | (cases w <;> rfl)) | exact Z.blk_sub rfl rfl (ren_map fun _ => rfl) | exact Z.gB_sub rfl rfl (ren_map fun _ => rfl) | apply And.intro))); (focus (exact ⟨by (try dsimp only); omega, HN, by (try dsimp only); omega, fun h9 => by (try dsimp only at h9); omega, fun _ => hM8⟩)); ((try dsimp only); omega))
    have hTM : T2 < M := by
      rcases Nat.eq_zero_or_pos j with h9 | h9
      · rcases Nat.lt_or_ge T2 N2 with h8 | h8
        · omega
        · have := hQp (by omega) (by omega); omega
      · exact HM3 h9
    obtain ⟨y, hy⟩ := getElem?_some' (xs := put) (i := T2) (by omega)
    have cta := take_con 7 ((M : Int) + 1) (bfL put M T2) rm (by have h9 := HM.hpl; simp only [List.length_take, List.length_drop]; omega) (fun e he => okEs_num HM.hP e (List.mem_of_mem_take (List.mem_of_mem_drop he))) (by omega)
    obtain ⟨hE5, HT⟩ := HM.take hTM hy
    rw [hE5] at cta
    dsimp only at cta
    have hne9 : put.take (T2 + 1) ≠ [] := fun h9 => by have h8 := congrArg List.length h9; rw [List.length_take] at h8; simp only [List.length_nil] at h8; omega
    have cs1 := checkS_con 7 ((B3 : Int) + 1) (put.drop B3) l3 (endsL put) (by have h9 := HT.hpl; simp only [List.length_take, List.length_drop]; omega) (fun e he => okEs_num HT.hP e (List.mem_of_mem_drop he)) (by omega) HT.hl0
    rw [HT.hS] at cs1
    have cr1 := checkR_con 7 ((M : Int) + 1) (bfL put M (T2 + 1)) rm (by have h9 := HT.hpl; simp only [List.length_take, List.length_drop]; omega) (fun e he => okEs_num HT.hP e (List.mem_of_mem_take (List.mem_of_mem_drop he))) (by omega)
    rw [HT.hR] at cr1
    have cc1 := concat_con (put.take (T2 + 1)) (bfL put M (T2 + 1)) (by have h9 := HT.hpl; simp only [List.length_take, List.length_drop]; omega) (by have h9 := HT.hpl; simp only [List.length_take, List.length_drop]; omega)
    rw [bfL_app HT.hTN] at cc1
    have ce1 := equal_con (put.take M) (put.take M) (by have h9 := HT.hpl; simp only [List.length_take, List.length_drop]; omega)
    simp only [cond_true, decide_true] at cs1 cr1 ce1
    have hqm : (List.map eE (put.drop B3)).length = put.length - B3 := by rw [List.length_map, List.length_drop]
    have hbm : (List.map eE (bfL put M (T2 + 1))).length = M - (T2 + 1) := by rw [List.length_map, bfL_len HT.hNP]
    have hq9 : (put.drop B3).length = put.length - B3 := List.length_drop
    have hb9 := bfL_len (T := (T2 + 1)) HT.hNP
    have hn9 := HT.hNP
    have hbn9 := HT.hBN
    have htn9 := HT.hTN
    have hR9 := (okR_all HT.hR).1
    have hpl9 := HT.hpl
    have hS9 := (okS_all HT.hS).1
    repeat' ((conv => whnf); first
      | with_reducible first | refine spB_t ?_
      | ((with_reducible apply spB_cong); (focus (simp only [beq_self_eq_true, bne_self_eq_false, Bool.true_bne, Bool.false_bne, Bool.bne_true, Bool.bne_false, Bool.true_beq, Bool.false_beq, Bool.not_true, Bool.not_false, Bool.not_not, Int.reduceBEq, Int.reduceBNe, Int.reduceLE, Int.reduceLT, Int.reduceEq, decide_true, decide_false]; rfl)))
      | with_reducible first | refine spB_no (by decide) ?_ | refine spB_not ?_
      | (with_reducible refine spB_dec ?_ ?_ <;> intro _ <;> (try (exfalso; first | contradiction | omega | (rename_i hz; refine hz ?_; simp; done) | (rename_i hz; simp at hz; done) | (simp only [LN] at *; omega))))
      | ((with_reducible refine Z.ConZ.red ?_); (apply Z.conZ_rows cc1); (focus (exact rfl)); (focus (exact rfl)); (focus (exact rfl)); (focus (refine ⟨⟨.inr ⟨_, _, rfl, ?_⟩, trivial⟩, ⟨.inl rfl, trivial⟩, trivial⟩; first | exact Z.low_gslm (ty := 33) (by first | rfl | exact Z.kb_some rfl) (fun _ => rfl) | (apply low_gslc (l := put.take (T2 + 1)); (focus (exact rfl)); (focus (exact tk_snoc hy rfl)); (focus (exact hne9))))))
      | ((with_reducible refine slN_hi (M) ?_ ?_ ?_); (focus (first | (simp only [LN] at *; omega))); (focus (first | (simp only [LN] at *; omega))))
      | ((with_reducible refine posE_pos ?_ ?_); (focus ((try simp only [LN] at *) <;> omega)))
      | ((with_reducible refine posN_mk2 ?_ ?_); (focus (first | ((try simp only [LN] at *) <;> omega))))
      | ((with_reducible refine apdN.mk ?_ ?_ ?_ ?_ ?_ ?_); (focus (first | rfl)); (focus (first | exact one_all (by rfl))); (focus ((try simp only [LN] at *) <;> omega)); (focus ((try simp only [LN] at *) <;> omega)); (focus ((try simp only [LN] at *) <;> omega)))
      | with_reducible refine wr_i64 (by first | omega | (simp only [LN] at *; omega)) ?_
      | with_reducible refine wr_u64 (by omega) ?_
      | with_reducible first | refine Z.callZ_in tabOk 97 Try.f38 _ Try.func38 (by kernel_rfl) rfl rfl rfl ?_
      | ((first | (with_reducible refine Z.callZ_mk ?_ (cta) ?_) | (with_reducible refine Z.callZ_mk ?_ (ce1) ?_) | (with_reducible refine Z.callZ_mk ?_ (cs1) ?_) | (with_reducible refine Z.callZ_mk ?_ (cr1) ?_)); (focus ((repeat' (first | exact trivial | (apply low_pre (l := put); (focus (exact rfl)); (focus (exact rfl)); (focus (simp only [LN] at *; omega))) | exact rfl | apply And.intro)); done)))
      | ((with_reducible refine eqN_mk2 ?_ ?_); (focus (exact Z.kb_some rfl)))
      | ((with_reducible apply ex_and); exact rfl)
      | with_reducible first | refine Z.drawZ_rule tabOk mixOk ?_ | refine Z.apZ_mk (by kernel_rfl) ?_)
    all_goals (try (conv => whnf))
    all_goals try (show Nat.ble _ _ = true; rfl)
    all_goals try (exfalso; rename_i hz; cases hz; done)
    all_goals try (exfalso; (try simp only [LN] at *) <;> omega)
    all_goals first
      | ((refine Z.rnd_bi 2 [[_, _, _, _, _, _, _, _, _, _, _, .gsl _ ((put.take (T2 + 1)).map cE)]] rfl rfl ⟨⟨Z.Imp.refl _, Z.Imp.refl _, Z.Imp.refl _, Z.Imp.refl _, Z.Imp.refl _, Z.Imp.refl _, Z.Imp.refl _, Z.Imp.refl _, Z.Imp.refl _, Z.Imp.refl _, Z.Imp.refl _, Z.Imp.of_eq (congrArg (Ce.gsl _) (tk_snoc hy rfl)), trivial⟩, trivial⟩ ?_); ((refine Z.rndK ((c + 1, B3, M, T2 + 1, l3)) (fun s => [0, 1, 2, 3, 4, s.idIn 2 11, 6]) rfl rfl rfl rfl ?_ ?_ ?_ ?_); (focus (repeat' (first | exact trivial | exact rfl | apply And.intro))); (focus (repeat' (first | exact trivial | exact WBb_sub rfl | exact Z.gB_sub' rfl (tk_snoc hy rfl) (ren_map fun _ => rfl) | (intro b hb; cases hb; first | rfl | (cases w <;> rfl)) | exact Z.blk_sub rfl rfl (ren_map fun _ => rfl) | apply And.intro))); (focus (exact ⟨by (try dsimp only); omega, by (try dsimp only); omega, HT⟩)); ((try dsimp only); omega)))
  rcases kind_g kd with h4 | h4 | h4 | h4 | h4 | h4 | h4
  · exact c_put rm ls hl i B N T l put pe w HI HB H HW HP hi kd n keeps e pk hx hux hib h4
  · exact c_send rm ls hl i B N T l put pe w HI HB H HW HP hi kd n keeps e pk hx hux hib h4
  · exact c_ack rm ls hl i B N T l put pe w HI HB H HW HP hi kd n keeps e pk hx hux hib h4
  · rcases Nat.eq_zero_or_pos (wl w).length with hw0 | hL
    · exact c_arr0 rm ls hl i B N T l put pe w HI HB H HW HP hi kd n keeps e pk hx hux hib h4 hw0
    · rcases w with _ | ⟨L, N9⟩
      · exact absurd hL (by simp)
      · cases keeps
        · exact c_arrd rm ls hl i B N T l put pe L N9 HI HB H HW HP hi kd n e pk hx hux hib h4 hL
        · exact c_arrk rm ls hl i B N T l put pe L N9 HI HB H HW HP hi kd n e pk hx hux hib h4 hL
  · rcases Nat.eq_zero_or_pos (wl w).length with hw0 | hL
    · exact c_los0 rm ls hl i B N T l put pe w HI HB H HW HP hi kd n keeps e pk hx hux hib h4 hw0
    · rcases w with _ | ⟨L, N9⟩
      · exact absurd hL (by simp)
      · exact c_lost rm ls hl i B N T l put pe L N9 HI HB H HW HP hi kd n keeps e pk hx hux hib h4 hL
  · exact c_take rm ls hl i B N T l put pe w HI HB H HW HP hi kd n keeps e pk hx hux hib h4
  · exact c_out rm ls hl i B N T l put pe w HI HB H HW HP hi kd n keeps e pk hx hux hib h4

end Go.Proofs.Ytoiadndmbppobaa
namespace Go.Proofs.Ytoiadndmbppobaa
open Go Go.RowKit Wx
set_option linter.unusedVariables false
set_option linter.unusedSimpArgs false
set_option maxHeartbeats 4000000
theorem wf_u {z : Int} (h : (Lit.int .u64 z).wf = true) : 0 ≤ z := by
  simp [Lit.wf, IntKind.min, IntKind.max, IntKind.signed, IntKind.bits] at h; omega
def okSt (x : St) : Prop := (Lit.int .u64 x.e.num).wf = true ∧ (Lit.int .u64 x.p.sq).wf = true ∧ (Lit.int .u64 x.p.lim).wf = true ∧ (Lit.int .u64 x.p.e.num).wf = true
theorem rowSt (row : List RT) (h : RowF (.st (.cons 3 1 (.int .i64) (.cons 3 1 (.int .i64) (.cons 4 1 .bool (.cons 33 5 (.st (.cons 3 1 (.int .i64) (.cons 31 3 (.st (.cons 3 1 (.int .i64) (.cons 3 1 (.int .i64) (.cons 2 1 (.int .i64) .nil)))) (.cons 23 1 (.int .u64) .nil)))) (.cons 35 9 (.st (.cons 3 1 (.int .i64) (.cons 22 1 (.int .u32) (.cons 23 1 (.int .u64) (.cons 23 1 (.int .u64) (.cons 33 5 (.st (.cons 3 1 (.int .i64) (.cons 31 3 (.st (.cons 3 1 (.int .i64) (.cons 3 1 (.int .i64) (.cons 2 1 (.int .i64) .nil)))) (.cons 23 1 (.int .u64) .nil)))) .nil)))))) .nil)))))) row) : ∃ x, row = eT x ∧ okSt x := by
  obtain ⟨a0, r0, rfl, _, ⟨z0, rfl, _⟩, a1, r1, rfl, _, ⟨z1, rfl, _⟩, a2, r2, rfl, _, ⟨z2, rfl⟩, a3, r3, rfl, _, ⟨c0, s0, rfl, _, ⟨y0, rfl, _⟩, c1, s1, rfl, _, ⟨d0, t0, rfl, _, ⟨x0, rfl, _⟩, d1, t1, rfl, _, ⟨x1, rfl, _⟩, d2, t2, rfl, _, ⟨x2, rfl, _⟩, rfl⟩, c2, s2, rfl, _, ⟨y2, rfl, w2⟩, rfl⟩, a4, r4, rfl, _, ⟨p0, q0, rfl, _, ⟨u0, rfl, _⟩, p1, q1, rfl, _, ⟨u1, rfl, _⟩, p2, q2, rfl, _, ⟨u2, rfl, w3⟩, p3, q3, rfl, _, ⟨u3, rfl, w4⟩, p4, q4, rfl, _, ⟨e0, g0, rfl, _, ⟨v0, rfl, _⟩, e1, g1, rfl, _, ⟨f0, h0, rfl, _, ⟨m0, rfl, _⟩, f1, h1, rfl, _, ⟨m1, rfl, _⟩, f2, h2, rfl, _, ⟨m2, rfl, _⟩, rfl⟩, e2, g2, rfl, _, ⟨v2, rfl, w5⟩, rfl⟩, rfl⟩, rfl⟩ := h
  exact ⟨⟨z0, z1, z2, ⟨y0, x0, x1, x2, y2⟩, ⟨u0, u1, u2, u3, ⟨v0, m0, m1, m2, v2⟩⟩⟩, rfl, w2, w3, w4, w5⟩
namespace linkComes
theorem main (avs : List A0) (h : All2 FitA [(.int .i64), (.sl (.st (.cons 3 1 (.int .i64) (.cons 3 1 (.int .i64) (.cons 4 1 .bool (.cons 33 5 (.st (.cons 3 1 (.int .i64) (.cons 31 3 (.st (.cons 3 1 (.int .i64) (.cons 3 1 (.int .i64) (.cons 2 1 (.int .i64) .nil)))) (.cons 23 1 (.int .u64) .nil)))) (.cons 35 9 (.st (.cons 3 1 (.int .i64) (.cons 22 1 (.int .u32) (.cons 23 1 (.int .u64) (.cons 23 1 (.int .u64) (.cons 33 5 (.st (.cons 3 1 (.int .i64) (.cons 31 3 (.st (.cons 3 1 (.int .i64) (.cons 3 1 (.int .i64) (.cons 2 1 (.int .i64) .nil)))) (.cons 23 1 (.int .u64) .nil)))) .nil)))))) .nil)))))) 81 17)] avs) : Con Try.prog 8 avs (fun x K t => x = .val (.bool true) ∧ K = [] ∧ t = 0) := by
  obtain ⟨x0, x1, rfl, h0, h1⟩ : ∃ x0 x1, avs = [x0, x1] ∧ FitA (.int .i64) x0 ∧ FitA (.sl (.st (.cons 3 1 (.int .i64) (.cons 3 1 (.int .i64) (.cons 4 1 .bool (.cons 33 5 (.st (.cons 3 1 (.int .i64) (.cons 31 3 (.st (.cons 3 1 (.int .i64) (.cons 3 1 (.int .i64) (.cons 2 1 (.int .i64) .nil)))) (.cons 23 1 (.int .u64) .nil)))) (.cons 35 9 (.st (.cons 3 1 (.int .i64) (.cons 22 1 (.int .u32) (.cons 23 1 (.int .u64) (.cons 23 1 (.int .u64) (.cons 33 5 (.st (.cons 3 1 (.int .i64) (.cons 31 3 (.st (.cons 3 1 (.int .i64) (.cons 3 1 (.int .i64) (.cons 2 1 (.int .i64) .nil)))) (.cons 23 1 (.int .u64) .nil)))) .nil)))))) .nil)))))) 81 17) x1 := by
    cases avs with
    | nil => exact h.elim
    | cons x0 r => cases r with
      | nil => exact h.2.elim
      | cons x1 r => cases r with
        | nil => exact ⟨x0, x1, rfl, h.1, h.2.1⟩
        | cons => exact h.2.2.elim
  clear h
  obtain ⟨room, rfl, wroom⟩ := fit_int h0
  obtain ⟨r1, ⟨rows1, hr1, lls, hrows1⟩, rfl⟩ := h1
  simp only [List.cons.injEq, and_true] at hr1
  subst hr1
  obtain ⟨ls, rfl, kls⟩ := rows_map eT (okSt) rowSt rows1 hrows1
  rw [List.length_map] at lls
  exact comes_con room ls (by simpa [maxLen] using lls) (fun x hx => ⟨wf_u (kls x hx).1, wf_u (kls x hx).2.1, wf_u (kls x hx).2.2.1, wf_u (kls x hx).2.2.2⟩)
end linkComes
end Go.Proofs.Ytoiadndmbppobaa
