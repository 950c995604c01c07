import Derived.Test.YtgdkhdooekmfgaaHo2
namespace Go.Proofs.Ytgdkhdooekmfgaa
open Go Go.RowKit Wx
set_option linter.unusedVariables false
set_option linter.unusedSimpArgs false
set_option maxHeartbeats 4000000
theorem fz_snocP {K : Nat → Option Blk} {acc : List Pu} {y : Pu} {i : Nat} {R : List (List Ce)} (h : K i = some ⟨acc.map cP ++ R, 3, 37, false⟩) (hR : R = [cP y]) : Z.frzC K (.gsl i (acc.map cP ++ R)) (.ro true 3 ((acc ++ [y]).map eP)) := by
  subst hR
  have e : acc.map cP ++ [cP y] = (acc ++ [y]).map cP := by simp
  rw [e] at h ⊢
  refine ⟨3, 37, _, rfl, ?_, by rw [List.map_map, List.map_map]; exact List.map_congr_left fun x _ => rfl⟩
  rw [h, gB_ne (by simp)]
theorem rhear_arg (now span w : Int) (l : List Pu) (hl : l.length ≤ 4) (hw : ¬ (1 ≤ w ∧ w ≤ 4)) : Con Try.prog 33 [.agg [.v (.int .i64 now), .v (.int .i64 span), .ro false 3 ((l).map eP)], .one (.v (.int .i64 w))] (fun rx rK rt => rx = .tup [.agg [.v (.int .i64 0), .v (.int .i64 0), .ro true 3 ((([] : List Pu)).map eP)], .one (.v (.bool false)), .one (.v (.int .i64 2))] ∧ rK = [] ∧ rt = 0) := by
  refine Z.con_ofF tabOk 64 Try.f33 _ Try.func33 (by kernel_rfl) rfl rfl rfl rfl ?_
  repeat' ((conv => whnf); first
    | with_reducible first | refine spB_t ?_
    | with_reducible first | refine spB_yes (by decide) ?_ | refine spB_no (by decide) ?_ | refine spB_f ?_ | refine spB_not ?_ | refine spB_yes (by assumption) ?_ | refine spB_no (by assumption) ?_
    | (with_reducible refine spB_dec ?_ ?_ <;> intro _ <;> (try (exfalso; first | contradiction | omega | (rename_i hz; exact hz (by simp; done)) | (simp only [LN] at *; omega)))))
  all_goals (try (conv => whnf))
  all_goals first
    | ((first | (with_reducible apply Z.retF1) | (with_reducible apply Z.retF2) | (with_reducible apply Z.retF0)); (focus (exact rfl)); (repeat' (first | exact trivial | (with_reducible apply Z.frz_one) | (with_reducible apply Z.frz_agg) | (with_reducible apply Z.fq_int) | (with_reducible apply Z.fq_bool) | (exact Z.frz_nil) | (exact Z.frz_osl0 rfl rfl rfl) | (with_reducible apply Z.fq_nil) | (with_reducible apply Z.fq_ro) | ((with_reducible apply Z.fq_gsl); (focus (first | rfl | exact Z.isB_map _ | exact Z.gB_snoc.symm)); (focus (exact fun _ => rfl))) | ((with_reducible apply Z.fq_osl); (focus (exact rfl)); (focus (first | exact rfl | (simp only [List.length_map, Nat.zero_add]; done) | ((try simp only [LN] at *) <;> omega))); (focus (exact fun _ => rfl))) | ((with_reducible apply Z.fq_src); (focus (exact rfl)); (focus (first | exact rfl | (simp only [List.length_map, Nat.zero_add]; done) | ((try simp only [LN] at *) <;> omega))); (focus (exact fun _ => rfl))) | exact rfl | ((apply Z.fq_osl); (focus (exact rfl)); (focus (first | exact rfl | (simp only [List.length_map, Nat.zero_add]; done) | ((try simp only [LN] at *) <;> omega))); (focus (exact fun _ => rfl))) | ((apply Z.fq_src); (focus (exact rfl)); (focus (first | exact rfl | (simp only [List.length_map, Nat.zero_add]; done) | ((try simp only [LN] at *) <;> omega))); (focus (exact fun _ => rfl))) | (apply Z.fq_ro) | (apply Z.fq_int) | (apply Z.fq_bool) | apply And.intro)); (all_goals (try exact (fun _ => none))); all_goals (rfl))
    | (exfalso; simp_all; done)
    | (fail)

theorem rhear_t (now span w : Int) (l : List Pu) (s : Nat) (x : Pu) (hk : okH now span l = true) (hw : 1 ≤ w ∧ w ≤ 4) (hs : srch w l = s) (hx : l[s]? = some x) (hn : x.wk = w) : Con Try.prog 33 [.agg [.v (.int .i64 now), .v (.int .i64 span), .ro false 3 ((l).map eP)], .one (.v (.int .i64 w))] (fun rx rK rt => rx = .tup [.agg [.v (.int .i64 now), .v (.int .i64 span), .ro true 3 ((l.take s ++ (⟨w, now, false⟩ : Pu) :: l.drop (s + 1)).map eP)], .one (.v (.bool x.down)), .one (.v (.int .i64 0))] ∧ rK = [] ∧ rt = 0) := by
  refine Z.con_ofF tabOk 64 Try.f33 _ Try.func33 (by kernel_rfl) rfl rfl rfl rfl ?_
  obtain ⟨hok1, hok2, hok3⟩ := okH_all hk
  have hl := okH_len2 hk
  have hlo : ∀ (k : Nat) (z : Pu), k < s → l[k]? = some z → z.wk < w := fun k z h => srch_before k z (by omega)
  have hsl := (List.getElem?_eq_some_iff.1 hx).1
  have hxw : w ≤ x.wk := srch_at (by rw [hs]; exact hx)
  repeat' ((conv => whnf); first
    | with_reducible first | refine spB_yes (by decide) ?_ | refine spB_no (by decide) ?_ | refine spB_f ?_ | refine spB_not ?_ | refine spB_yes (by assumption) ?_ | refine spB_no (by assumption) ?_
    | (with_reducible refine spB_dec ?_ ?_ <;> intro _ <;> (try (exfalso; first | contradiction | omega | (rename_i hz; exact hz (by simp; done)) | (simp only [LN] at *; omega)))))
  all_goals (try (conv => whnf))
  refine Z.loopK tabOk (fun zq : Nat × Bool × Bool × List Pu => [(27, .val (.int .i64 (zq.1 : Int))), (10, .val (.bool zq.2.1)), (9, .val (.bool zq.2.2.1)), (8, .c (.gsl 3 (zq.2.2.2.map cP)))]) (fun zq : Nat × Bool × Bool × List Pu => ([(3, (gB 3 37 (zq.2.2.2.map cP)).map Z.Ob.b)] : Z.Kr)) (fun zq => zq.1 ≤ l.length ∧ ((zq.2.1 = false ∧ zq.1 ≤ s ∧ zq.2.2.1 = true ∧ zq.2.2.2 = l.take zq.1) ∨ (zq.2.1 = true ∧ s < zq.1 ∧ zq.2.2.1 = x.down ∧ zq.2.2.2 = l.take s ++ (⟨w, now, false⟩ : Pu) :: (l.take zq.1).drop (s + 1)))) (fun zq => l.length - zq.1) (0, false, true, []) 4 [(1, _), (2, _), (4, _), (7, _), (25, _), (26, _)] ⟨rfl, rfl, rfl, rfl, rfl, rfl, trivial⟩ [(0, some _), (1, some _), (2, some _)] ⟨rfl, rfl, rfl, trivial⟩ ?_ ?_ rfl rfl ⟨Nat.zero_le _, .inl ⟨rfl, Nat.zero_le _, rfl, rfl⟩⟩ ?_
  · repeat' (first | exact trivial | apply And.intro | exact ⟨_, rfl, rfl⟩ | exact ⟨_, rfl, Z.Imp.refl _⟩ | exact ⟨_, rfl, Z.Imp.nilg _⟩ | exact ⟨_, rfl, Z.Imp.nilr _ _⟩)
  · repeat' (first | exact trivial | (intro b hb; cases hb; done) | exact (fun b hb => ⟨b, hb, Z.ImpO.refl b⟩) | (intro b hb; cases hb; refine ⟨_, rfl, ⟨rfl, rfl, rfl⟩, ?_⟩; (repeat' (first | exact trivial | apply And.intro | exact Z.Imp.refl _ | exact Z.Imp.nilg _ | exact Z.Imp.nilr _ _)); done) | apply And.intro)
  rintro ⟨i, d, c, acc⟩ HINV
  dsimp only at HINV ⊢
  obtain ⟨HI, HD⟩ := HINV
  have hal : acc.length ≤ 10 := by
    rcases HD with ⟨_, _, _, h⟩ | ⟨_, _, _, h⟩ <;> rw [h] <;> simp <;> omega
  by_cases hil : i < l.length
  · obtain ⟨z, hz⟩ := getElem?_some' (xs := l) (i := i) hil
    rcases HD with ⟨hd, hi, hc, ha⟩ | ⟨hd, hi, hc, ha⟩ <;> subst hd hc
    · by_cases his : i < s
      · have hzw := hlo i z his hz
        repeat' ((conv => whnf); first
          | with_reducible first | refine spB_t ?_
          | ((with_reducible apply spB_cong); (focus (simp only [beq_self_eq_true, bne_self_eq_false, Bool.true_bne, Bool.false_bne, Bool.bne_true, Bool.bne_false, Bool.true_beq, Bool.false_beq, Bool.not_true, Bool.not_false, Bool.not_not, Int.reduceBEq, Int.reduceBNe, Int.reduceLE, Int.reduceLT, Int.reduceEq, decide_true, decide_false]; rfl)))
          | (with_reducible refine spB_dec ?_ ?_ <;> intro _ <;> (try (exfalso; first | contradiction | omega | (rename_i hz; exact hz (by simp; done)) | (simp only [LN] at *; omega))))
          | (with_reducible refine spB_beq ?_ ?_ <;> intro _ <;> (try (exfalso; first | contradiction | omega | (rename_i hz; exact hz (by simp; done)) | (simp only [LN] at *; omega))))
          | with_reducible first | refine Z.rowN_known hz ?_
          | ((with_reducible refine posE_pos ?_ ?_); (focus ((try simp only [LN] at *) <;> omega)))
          | ((with_reducible apply ixN_litp); (focus (exact rfl)); (focus ((try simp only [LN] at *) <;> omega)))
          | ((with_reducible refine apdN.mk ?_ ?_ ?_ ?_ ?_ ?_); (focus (first | rfl | (simp; done))); (focus (first | exact one_all (by rfl) | exact one_map (fun _ => rfl) | exact one_map2 (fun _ => rfl))); (focus ((try simp only [LN] at *) <;> omega)); (focus ((try simp only [LN] at *) <;> omega)); (focus ((try simp only [LN] at *) <;> omega)))
          | with_reducible refine wr_i64 (by first | omega | (simp only [LN] at *; omega)) ?_
          | ((with_reducible refine eqN_mk2 ?_ ?_); (focus (exact Z.kb_some rfl))))
        all_goals (try (conv => whnf))
        all_goals first
          | ((refine Z.rndK ((i + 1, false, true, acc ++ [z])) (fun s => [0, 1, 2, s.idAt 8]) rfl rfl rfl rfl ?_ ?_ ?_ ?_); (focus (repeat' (first | exact trivial | exact rfl | (rw [List.map_append (f := cP)]; exact rfl) | (rw [List.map_append (f := cP), List.map_append (f := cP)]; exact rfl) | (rw [List.map_append]; exact rfl) | apply And.intro))); (focus (repeat' (first | exact trivial | ((refine Z.gB_sub' rfl ?_ (ren_map fun _ => rfl)); (rw [List.map_append (f := cP), List.map_append (f := cP)]; exact rfl)) | (intro b hb; cases hb; rfl) | (intro b hb; cases hb; subst hlb; rfl) | (intro b hb; cases hb; rw [List.map_append (f := cP)]; rfl) | (intro b hb; cases hb; rw [List.map_append]; rfl) | (intro b hb; cases hb; done) | exact Z.blk_sub rfl rfl (ren_map fun _ => rfl) | exact Z.blk_sub rfl rfl (Z.ren_app (ren_map fun _ => rfl) (ren_map fun _ => rfl)) | exact Z.blk_sub rfl (by first | (rw [List.map_append]; rfl) | (rw [List.map_set]; rfl) | simp only [List.map_append, List.map_cons, List.map_nil, List.map_set]) (ren_map fun _ => rfl) | exact Z.gB_sub rfl rfl (ren_map fun _ => rfl) | exact Z.gB_sub' rfl (by first | rfl | (rw [List.map_append]; rfl) | simp only [List.map_append, List.map_cons, List.map_nil]) (ren_map fun _ => rfl) | apply And.intro))); (focus (refine ⟨by (try simp only [LN] at *) <;> omega, .inl ⟨rfl, by dsimp only; omega, rfl, ?_⟩⟩; dsimp only; rw [ha, take_snoc hz])); (dsimp only; omega))
          | (exfalso; (try simp only [LN] at *) <;> omega)
          | (exfalso; simp_all; done)
          | (fail)
      · have hie : i = s := by omega
        subst hie
        rw [hx] at hz; cases hz
        repeat' ((conv => whnf); first
          | with_reducible first | refine spB_t ?_
          | ((with_reducible apply spB_cong); (focus (simp only [beq_self_eq_true, bne_self_eq_false, Bool.true_bne, Bool.false_bne, Bool.bne_true, Bool.bne_false, Bool.true_beq, Bool.false_beq, Bool.not_true, Bool.not_false, Bool.not_not, Int.reduceBEq, Int.reduceBNe, Int.reduceLE, Int.reduceLT, Int.reduceEq, decide_true, decide_false]; rfl)))
          | (with_reducible refine spB_dec ?_ ?_ <;> intro _ <;> (try (exfalso; first | contradiction | omega | (rename_i hz; exact hz (by simp; done)) | (simp only [LN] at *; omega))))
          | (with_reducible refine spB_beq ?_ ?_ <;> intro _ <;> (try (exfalso; first | contradiction | omega | (rename_i hz; exact hz (by simp; done)) | (simp only [LN] at *; omega))))
          | with_reducible first | refine Z.rowN_known hx ?_
          | ((with_reducible refine posE_pos ?_ ?_); (focus ((try simp only [LN] at *) <;> omega)))
          | ((with_reducible apply ixN_litp); (focus (exact rfl)); (focus ((try simp only [LN] at *) <;> omega)))
          | ((with_reducible refine apdN.mk ?_ ?_ ?_ ?_ ?_ ?_); (focus (first | rfl | (simp; done))); (focus (first | exact one_all (by rfl) | exact one_map (fun _ => rfl) | exact one_map2 (fun _ => rfl))); (focus ((try simp only [LN] at *) <;> omega)); (focus ((try simp only [LN] at *) <;> omega)); (focus ((try simp only [LN] at *) <;> omega)))
          | with_reducible refine wr_i64 (by first | omega | (simp only [LN] at *; omega)) ?_
          | ((with_reducible refine eqN_mk2 ?_ ?_); (focus (exact Z.kb_some rfl))))
        all_goals (try (conv => whnf))
        all_goals first
          | ((refine Z.rndK ((i + 1, true, x.down, acc ++ [⟨w, now, false⟩])) (fun s => [0, 1, 2, s.idAt 8]) rfl rfl rfl rfl ?_ ?_ ?_ ?_); (focus (repeat' (first | exact trivial | exact rfl | (rw [List.map_append (f := cP)]; exact rfl) | (rw [List.map_append (f := cP), List.map_append (f := cP)]; exact rfl) | (rw [List.map_append]; exact rfl) | apply And.intro))); (focus (repeat' (first | exact trivial | ((refine Z.gB_sub' rfl ?_ (ren_map fun _ => rfl)); (rw [List.map_append (f := cP), List.map_append (f := cP)]; exact rfl)) | (intro b hb; cases hb; rfl) | (intro b hb; cases hb; subst hlb; rfl) | (intro b hb; cases hb; rw [List.map_append (f := cP)]; rfl) | (intro b hb; cases hb; rw [List.map_append]; rfl) | (intro b hb; cases hb; done) | exact Z.blk_sub rfl rfl (ren_map fun _ => rfl) | exact Z.blk_sub rfl rfl (Z.ren_app (ren_map fun _ => rfl) (ren_map fun _ => rfl)) | exact Z.blk_sub rfl (by first | (rw [List.map_append]; rfl) | (rw [List.map_set]; rfl) | simp only [List.map_append, List.map_cons, List.map_nil, List.map_set]) (ren_map fun _ => rfl) | exact Z.gB_sub rfl rfl (ren_map fun _ => rfl) | exact Z.gB_sub' rfl (by first | rfl | (rw [List.map_append]; rfl) | simp only [List.map_append, List.map_cons, List.map_nil]) (ren_map fun _ => rfl) | apply And.intro))); (focus (refine ⟨by (try simp only [LN] at *) <;> omega, .inr ⟨rfl, by dsimp only; omega, rfl, ?_⟩⟩; dsimp only; rw [ha, List.drop_eq_nil_of_le (by rw [List.length_take]; omega)])); (dsimp only; omega))
          | (exfalso; (try simp only [LN] at *) <;> omega)
          | (exfalso; simp_all; done)
          | (fail)
    · have hzw : x.wk < z.wk := hok2 s i x z hi hx hz
      repeat' ((conv => whnf); first
        | ((with_reducible apply spB_cong); (focus (simp only [beq_self_eq_true, bne_self_eq_false, Bool.true_bne, Bool.false_bne, Bool.bne_true, Bool.bne_false, Bool.true_beq, Bool.false_beq, Bool.not_true, Bool.not_false, Bool.not_not, Int.reduceBEq, Int.reduceBNe, Int.reduceLE, Int.reduceLT, Int.reduceEq, decide_true, decide_false]; rfl)))
        | with_reducible first | refine spB_yes (by decide) ?_ | refine spB_no (by decide) ?_ | refine spB_f ?_ | refine spB_not ?_ | refine spB_yes (by assumption) ?_ | refine spB_no (by assumption) ?_
        | (with_reducible refine spB_dec ?_ ?_ <;> intro _ <;> (try (exfalso; first | contradiction | omega | (rename_i hz; exact hz (by simp; done)) | (simp only [LN] at *; omega))))
        | (with_reducible refine spB_beq ?_ ?_ <;> intro _ <;> (try (exfalso; first | contradiction | omega | (rename_i hz; exact hz (by simp; done)) | (simp only [LN] at *; omega))))
        | with_reducible first | refine Z.rowN_known hz ?_
        | ((with_reducible refine posE_pos ?_ ?_); (focus ((try simp only [LN] at *) <;> omega)))
        | ((with_reducible apply ixN_litp); (focus (exact rfl)); (focus ((try simp only [LN] at *) <;> omega)))
        | ((with_reducible refine apdN.mk ?_ ?_ ?_ ?_ ?_ ?_); (focus (first | rfl | (simp; done))); (focus (first | exact one_all (by rfl) | exact one_map (fun _ => rfl) | exact one_map2 (fun _ => rfl))); (focus ((try simp only [LN] at *) <;> omega)); (focus ((try simp only [LN] at *) <;> omega)); (focus ((try simp only [LN] at *) <;> omega)))
        | with_reducible refine wr_i64 (by first | omega | (simp only [LN] at *; omega)) ?_
        | ((with_reducible refine eqN_mk2 ?_ ?_); (focus (exact Z.kb_some rfl))))
      all_goals (try (conv => whnf))
      all_goals first
        | ((refine Z.rndK ((i + 1, true, x.down, acc ++ [z])) (fun s => [0, 1, 2, s.idAt 8]) rfl rfl rfl rfl ?_ ?_ ?_ ?_); (focus (repeat' (first | exact trivial | exact rfl | (rw [List.map_append (f := cP)]; exact rfl) | (rw [List.map_append (f := cP), List.map_append (f := cP)]; exact rfl) | (rw [List.map_append]; exact rfl) | apply And.intro))); (focus (repeat' (first | exact trivial | ((refine Z.gB_sub' rfl ?_ (ren_map fun _ => rfl)); (rw [List.map_append (f := cP), List.map_append (f := cP)]; exact rfl)) | (intro b hb; cases hb; rfl) | (intro b hb; cases hb; subst hlb; rfl) | (intro b hb; cases hb; rw [List.map_append (f := cP)]; rfl) | (intro b hb; cases hb; rw [List.map_append]; rfl) | (intro b hb; cases hb; done) | exact Z.blk_sub rfl rfl (ren_map fun _ => rfl) | exact Z.blk_sub rfl rfl (Z.ren_app (ren_map fun _ => rfl) (ren_map fun _ => rfl)) | exact Z.blk_sub rfl (by first | (rw [List.map_append]; rfl) | (rw [List.map_set]; rfl) | simp only [List.map_append, List.map_cons, List.map_nil, List.map_set]) (ren_map fun _ => rfl) | exact Z.gB_sub rfl rfl (ren_map fun _ => rfl) | exact Z.gB_sub' rfl (by first | rfl | (rw [List.map_append]; rfl) | simp only [List.map_append, List.map_cons, List.map_nil]) (ren_map fun _ => rfl) | apply And.intro))); (focus (refine ⟨by (try simp only [LN] at *) <;> omega, .inr ⟨rfl, by dsimp only; omega, rfl, ?_⟩⟩; dsimp only; rw [ha, drop_take_snoc hz (by omega)]; simp)); (dsimp only; omega))
        | (exfalso; (try simp only [LN] at *) <;> omega)
        | (exfalso; simp_all; done)
        | (fail)
  rcases HD with ⟨hd, hi, hc, ha⟩ | ⟨hd, hi, hc, ha⟩ <;> subst hd hc
  · exfalso; omega
  rw [take_end hil] at ha
  rw [← ha]
  repeat' ((conv => whnf); first
    | ((with_reducible apply spB_cong); (focus (simp only [beq_self_eq_true, bne_self_eq_false, Bool.true_bne, Bool.false_bne, Bool.bne_true, Bool.bne_false, Bool.true_beq, Bool.false_beq, Bool.not_true, Bool.not_false, Bool.not_not, Int.reduceBEq, Int.reduceBNe, Int.reduceLE, Int.reduceLT, Int.reduceEq, decide_true, decide_false]; rfl)))
    | with_reducible first | refine spB_yes (by decide) ?_ | refine spB_no (by decide) ?_ | refine spB_f ?_ | refine spB_not ?_ | refine spB_yes (by assumption) ?_ | refine spB_no (by assumption) ?_
    | (with_reducible refine spB_dec ?_ ?_ <;> intro _ <;> (try (exfalso; first | contradiction | omega | (rename_i hz; exact hz (by simp; done)) | (simp only [LN] at *; omega)))))
  all_goals (try (conv => whnf))
  all_goals first
    | ((first | (with_reducible apply Z.retF1) | (with_reducible apply Z.retF2) | (with_reducible apply Z.retF0)); (focus (exact rfl)); (repeat' (first | exact trivial | (with_reducible apply Z.frz_one) | (with_reducible apply Z.frz_agg) | (with_reducible apply Z.fq_int) | (with_reducible apply Z.fq_bool) | (exact Z.frz_nil) | (exact Z.frz_osl0 rfl rfl rfl) | (with_reducible apply Z.fq_nil) | (with_reducible apply Z.fq_ro) | ((with_reducible apply Z.fq_gsl); (focus (first | rfl | exact Z.isB_map _ | exact Z.gB_snoc.symm)); (focus (exact fun _ => rfl))) | ((with_reducible apply Z.fq_osl); (focus (exact rfl)); (focus (first | exact rfl | (simp only [List.length_map, Nat.zero_add]; done) | ((try simp only [LN] at *) <;> omega))); (focus (exact fun _ => rfl))) | ((with_reducible apply Z.fq_src); (focus (exact rfl)); (focus (first | exact rfl | (simp only [List.length_map, Nat.zero_add]; done) | ((try simp only [LN] at *) <;> omega))); (focus (exact fun _ => rfl))) | exact rfl | ((apply Z.fq_osl); (focus (exact rfl)); (focus (first | exact rfl | (simp only [List.length_map, Nat.zero_add]; done) | ((try simp only [LN] at *) <;> omega))); (focus (exact fun _ => rfl))) | ((apply Z.fq_src); (focus (exact rfl)); (focus (first | exact rfl | (simp only [List.length_map, Nat.zero_add]; done) | ((try simp only [LN] at *) <;> omega))); (focus (exact fun _ => rfl))) | (apply Z.fq_ro) | (apply Z.fq_int) | (apply Z.fq_bool) | apply And.intro)); (all_goals (try exact (fun _ => none))); all_goals (rfl))
    | (exfalso; (try simp only [LN] at *) <;> omega)
    | (exfalso; simp_all; done)
    | (fail)

theorem rhear_n (now span w : Int) (l : List Pu) (s : Nat) (x : Pu) (hk : okH now span l = true) (hw : 1 ≤ w ∧ w ≤ 4) (hs : srch w l = s) (hx : l[s]? = some x) (hn : x.wk ≠ w) : Con Try.prog 33 [.agg [.v (.int .i64 now), .v (.int .i64 span), .ro false 3 ((l).map eP)], .one (.v (.int .i64 w))] (fun rx rK rt => rx = .tup [.agg [.v (.int .i64 now), .v (.int .i64 span), .ro true 3 ((l.take s ++ (⟨w, now, false⟩ : Pu) :: l.drop s).map eP)], .one (.v (.bool true)), .one (.v (.int .i64 0))] ∧ rK = [] ∧ rt = 0) := by
  refine Z.con_ofF tabOk 64 Try.f33 _ Try.func33 (by kernel_rfl) rfl rfl rfl rfl ?_
  obtain ⟨hok1, hok2, hok3⟩ := okH_all hk
  have hl := okH_len2 hk
  have hlo : ∀ (k : Nat) (z : Pu), k < s → l[k]? = some z → z.wk < w := fun k z h => srch_before k z (by omega)
  have hsl := (List.getElem?_eq_some_iff.1 hx).1
  have hxw : w ≤ x.wk := srch_at (by rw [hs]; exact hx)
  repeat' ((conv => whnf); first
    | with_reducible first | refine spB_yes (by decide) ?_ | refine spB_no (by decide) ?_ | refine spB_f ?_ | refine spB_not ?_ | refine spB_yes (by assumption) ?_ | refine spB_no (by assumption) ?_
    | (with_reducible refine spB_dec ?_ ?_ <;> intro _ <;> (try (exfalso; first | contradiction | omega | (rename_i hz; exact hz (by simp; done)) | (simp only [LN] at *; omega)))))
  all_goals (try (conv => whnf))
  refine Z.loopK tabOk (fun zq : Nat × Bool × Bool × List Pu => [(27, .val (.int .i64 (zq.1 : Int))), (10, .val (.bool zq.2.1)), (9, .val (.bool zq.2.2.1)), (8, .c (.gsl 3 (zq.2.2.2.map cP)))]) (fun zq : Nat × Bool × Bool × List Pu => ([(3, (gB 3 37 (zq.2.2.2.map cP)).map Z.Ob.b)] : Z.Kr)) (fun zq => zq.1 ≤ l.length ∧ ((zq.2.1 = false ∧ zq.1 ≤ s ∧ zq.2.2.1 = true ∧ zq.2.2.2 = l.take zq.1) ∨ (zq.2.1 = true ∧ s < zq.1 ∧ zq.2.2.1 = true ∧ zq.2.2.2 = l.take s ++ (⟨w, now, false⟩ : Pu) :: (l.take zq.1).drop s))) (fun zq => l.length - zq.1) (0, false, true, []) 4 [(1, _), (2, _), (4, _), (7, _), (25, _), (26, _)] ⟨rfl, rfl, rfl, rfl, rfl, rfl, trivial⟩ [(0, some _), (1, some _), (2, some _)] ⟨rfl, rfl, rfl, trivial⟩ ?_ ?_ rfl rfl ⟨Nat.zero_le _, .inl ⟨rfl, Nat.zero_le _, rfl, rfl⟩⟩ ?_
  · repeat' (first | exact trivial | apply And.intro | exact ⟨_, rfl, rfl⟩ | exact ⟨_, rfl, Z.Imp.refl _⟩ | exact ⟨_, rfl, Z.Imp.nilg _⟩ | exact ⟨_, rfl, Z.Imp.nilr _ _⟩)
  · repeat' (first | exact trivial | (intro b hb; cases hb; done) | exact (fun b hb => ⟨b, hb, Z.ImpO.refl b⟩) | (intro b hb; cases hb; refine ⟨_, rfl, ⟨rfl, rfl, rfl⟩, ?_⟩; (repeat' (first | exact trivial | apply And.intro | exact Z.Imp.refl _ | exact Z.Imp.nilg _ | exact Z.Imp.nilr _ _)); done) | apply And.intro)
  rintro ⟨i, d, c, acc⟩ HINV
  dsimp only at HINV ⊢
  obtain ⟨HI, HD⟩ := HINV
  have hal : acc.length ≤ 10 := by
    rcases HD with ⟨_, _, _, h⟩ | ⟨_, _, _, h⟩ <;> rw [h] <;> simp <;> omega
  by_cases hil : i < l.length
  · obtain ⟨z, hz⟩ := getElem?_some' (xs := l) (i := i) hil
    rcases HD with ⟨hd, hi, hc, ha⟩ | ⟨hd, hi, hc, ha⟩ <;> subst hd hc
    · by_cases his : i < s
      · have hzw := hlo i z his hz
        repeat' ((conv => whnf); first
          | with_reducible first | refine spB_t ?_
          | ((with_reducible apply spB_cong); (focus (simp only [beq_self_eq_true, bne_self_eq_false, Bool.true_bne, Bool.false_bne, Bool.bne_true, Bool.bne_false, Bool.true_beq, Bool.false_beq, Bool.not_true, Bool.not_false, Bool.not_not, Int.reduceBEq, Int.reduceBNe, Int.reduceLE, Int.reduceLT, Int.reduceEq, decide_true, decide_false]; rfl)))
          | (with_reducible refine spB_dec ?_ ?_ <;> intro _ <;> (try (exfalso; first | contradiction | omega | (rename_i hz; exact hz (by simp; done)) | (simp only [LN] at *; omega))))
          | (with_reducible refine spB_beq ?_ ?_ <;> intro _ <;> (try (exfalso; first | contradiction | omega | (rename_i hz; exact hz (by simp; done)) | (simp only [LN] at *; omega))))
          | with_reducible first | refine Z.rowN_known hz ?_
          | ((with_reducible refine posE_pos ?_ ?_); (focus ((try simp only [LN] at *) <;> omega)))
          | ((with_reducible apply ixN_litp); (focus (exact rfl)); (focus ((try simp only [LN] at *) <;> omega)))
          | ((with_reducible refine apdN.mk ?_ ?_ ?_ ?_ ?_ ?_); (focus (first | rfl | (simp; done))); (focus (first | exact one_all (by rfl) | exact one_map (fun _ => rfl) | exact one_map2 (fun _ => rfl))); (focus ((try simp only [LN] at *) <;> omega)); (focus ((try simp only [LN] at *) <;> omega)); (focus ((try simp only [LN] at *) <;> omega)))
          | with_reducible refine wr_i64 (by first | omega | (simp only [LN] at *; omega)) ?_
          | ((with_reducible refine eqN_mk2 ?_ ?_); (focus (exact Z.kb_some rfl))))
        all_goals (try (conv => whnf))
        all_goals first
          | ((refine Z.rndK ((i + 1, false, true, acc ++ [z])) (fun s => [0, 1, 2, s.idAt 8]) rfl rfl rfl rfl ?_ ?_ ?_ ?_); (focus (repeat' (first | exact trivial | exact rfl | (rw [List.map_append (f := cP)]; exact rfl) | (rw [List.map_append (f := cP), List.map_append (f := cP)]; exact rfl) | (rw [List.map_append]; exact rfl) | apply And.intro))); (focus (repeat' (first | exact trivial | ((refine Z.gB_sub' rfl ?_ (ren_map fun _ => rfl)); (rw [List.map_append (f := cP), List.map_append (f := cP)]; exact rfl)) | (intro b hb; cases hb; rfl) | (intro b hb; cases hb; subst hlb; rfl) | (intro b hb; cases hb; rw [List.map_append (f := cP)]; rfl) | (intro b hb; cases hb; rw [List.map_append]; rfl) | (intro b hb; cases hb; done) | exact Z.blk_sub rfl rfl (ren_map fun _ => rfl) | exact Z.blk_sub rfl rfl (Z.ren_app (ren_map fun _ => rfl) (ren_map fun _ => rfl)) | exact Z.blk_sub rfl (by first | (rw [List.map_append]; rfl) | (rw [List.map_set]; rfl) | simp only [List.map_append, List.map_cons, List.map_nil, List.map_set]) (ren_map fun _ => rfl) | exact Z.gB_sub rfl rfl (ren_map fun _ => rfl) | exact Z.gB_sub' rfl (by first | rfl | (rw [List.map_append]; rfl) | simp only [List.map_append, List.map_cons, List.map_nil]) (ren_map fun _ => rfl) | apply And.intro))); (focus (refine ⟨by (try simp only [LN] at *) <;> omega, .inl ⟨rfl, by dsimp only; omega, rfl, ?_⟩⟩; dsimp only; rw [ha, take_snoc hz])); (dsimp only; omega))
          | (exfalso; (try simp only [LN] at *) <;> omega)
          | (exfalso; simp_all; done)
          | (fail)
      · have hie : i = s := by omega
        subst hie
        rw [hx] at hz; cases hz
        repeat' ((conv => whnf); first
          | with_reducible first | refine spB_t ?_
          | ((with_reducible apply spB_cong); (focus (simp only [beq_self_eq_true, bne_self_eq_false, Bool.true_bne, Bool.false_bne, Bool.bne_true, Bool.bne_false, Bool.true_beq, Bool.false_beq, Bool.not_true, Bool.not_false, Bool.not_not, Int.reduceBEq, Int.reduceBNe, Int.reduceLE, Int.reduceLT, Int.reduceEq, decide_true, decide_false]; rfl)))
          | (with_reducible refine spB_dec ?_ ?_ <;> intro _ <;> (try (exfalso; first | contradiction | omega | (rename_i hz; exact hz (by simp; done)) | (simp only [LN] at *; omega))))
          | (with_reducible refine spB_beq ?_ ?_ <;> intro _ <;> (try (exfalso; first | contradiction | omega | (rename_i hz; exact hz (by simp; done)) | (simp only [LN] at *; omega))))
          | with_reducible first | refine Z.rowN_known hx ?_
          | ((with_reducible refine eqN_mk2 ?_ ?_); (focus (refine Eq.trans ?_ (gB_ne ?_).symm; (focus (exact rfl)); (intro h; have h2 := congrArg List.length h; rw [List.length_append] at h2; exact Nat.succ_ne_zero _ h2))))
          | ((with_reducible refine posE_pos ?_ ?_); (focus ((try simp only [LN] at *) <;> omega)))
          | ((with_reducible apply ixN_litp); (focus (exact rfl)); (focus ((try simp only [LN] at *) <;> omega)))
          | ((with_reducible refine apdN.mk ?_ ?_ ?_ ?_ ?_ ?_); (focus (first | rfl | (simp; done))); (focus (first | exact one_all (by rfl) | exact one_map (fun _ => rfl) | exact one_map2 (fun _ => rfl))); (focus ((try simp only [LN] at *) <;> omega)); (focus ((try simp only [LN] at *) <;> omega)); (focus ((try simp only [LN] at *) <;> omega)))
          | with_reducible refine wr_i64 (by first | omega | (simp only [LN] at *; omega)) ?_
          | ((with_reducible refine eqN_mk2 ?_ ?_); (focus (exact Z.kb_some rfl))))
        all_goals (try (conv => whnf))
        all_goals first
          | ((refine Z.rndK ((i + 1, true, true, acc ++ [⟨w, now, false⟩] ++ [x])) (fun s => [0, 1, 2, s.idAt 8]) rfl rfl rfl rfl ?_ ?_ ?_ ?_); (focus (repeat' (first | exact trivial | exact rfl | (rw [List.map_append (f := cP)]; exact rfl) | (rw [List.map_append (f := cP), List.map_append (f := cP)]; exact rfl) | (rw [List.map_append]; exact rfl) | apply And.intro))); (focus (repeat' (first | exact trivial | ((refine Z.gB_sub' rfl ?_ (ren_map fun _ => rfl)); (rw [List.map_append (f := cP), List.map_append (f := cP)]; exact rfl)) | (intro b hb; cases hb; rfl) | (intro b hb; cases hb; subst hlb; rfl) | (intro b hb; cases hb; rw [List.map_append (f := cP)]; rfl) | (intro b hb; cases hb; rw [List.map_append]; rfl) | (intro b hb; cases hb; done) | exact Z.blk_sub rfl rfl (ren_map fun _ => rfl) | exact Z.blk_sub rfl rfl (Z.ren_app (ren_map fun _ => rfl) (ren_map fun _ => rfl)) | exact Z.blk_sub rfl (by first | (rw [List.map_append]; rfl) | (rw [List.map_set]; rfl) | simp only [List.map_append, List.map_cons, List.map_nil, List.map_set]) (ren_map fun _ => rfl) | exact Z.gB_sub rfl rfl (ren_map fun _ => rfl) | exact Z.gB_sub' rfl (by first | rfl | (rw [List.map_append]; rfl) | simp only [List.map_append, List.map_cons, List.map_nil]) (ren_map fun _ => rfl) | apply And.intro))); (focus (refine ⟨by (try simp only [LN] at *) <;> omega, .inr ⟨rfl, by dsimp only; omega, rfl, ?_⟩⟩; dsimp only; rw [ha, drop_take_snoc hx (Nat.le_refl _), List.drop_eq_nil_of_le (by rw [List.length_take]; omega)]; simp)); (dsimp only; omega))
          | (exfalso; (try simp only [LN] at *) <;> omega)
          | (exfalso; simp_all; done)
          | (fail)
    · have hzw : x.wk < z.wk := hok2 s i x z hi hx hz
      repeat' ((conv => whnf); first
        | ((with_reducible apply spB_cong); (focus (simp only [beq_self_eq_true, bne_self_eq_false, Bool.true_bne, Bool.false_bne, Bool.bne_true, Bool.bne_false, Bool.true_beq, Bool.false_beq, Bool.not_true, Bool.not_false, Bool.not_not, Int.reduceBEq, Int.reduceBNe, Int.reduceLE, Int.reduceLT, Int.reduceEq, decide_true, decide_false]; rfl)))
        | with_reducible first | refine spB_yes (by decide) ?_ | refine spB_no (by decide) ?_ | refine spB_f ?_ | refine spB_not ?_ | refine spB_yes (by assumption) ?_ | refine spB_no (by assumption) ?_
        | (with_reducible refine spB_dec ?_ ?_ <;> intro _ <;> (try (exfalso; first | contradiction | omega | (rename_i hz; exact hz (by simp; done)) | (simp only [LN] at *; omega))))
        | (with_reducible refine spB_beq ?_ ?_ <;> intro _ <;> (try (exfalso; first | contradiction | omega | (rename_i hz; exact hz (by simp; done)) | (simp only [LN] at *; omega))))
        | with_reducible first | refine Z.rowN_known hz ?_
        | ((with_reducible refine posE_pos ?_ ?_); (focus ((try simp only [LN] at *) <;> omega)))
        | ((with_reducible apply ixN_litp); (focus (exact rfl)); (focus ((try simp only [LN] at *) <;> omega)))
        | ((with_reducible refine apdN.mk ?_ ?_ ?_ ?_ ?_ ?_); (focus (first | rfl | (simp; done))); (focus (first | exact one_all (by rfl) | exact one_map (fun _ => rfl) | exact one_map2 (fun _ => rfl))); (focus ((try simp only [LN] at *) <;> omega)); (focus ((try simp only [LN] at *) <;> omega)); (focus ((try simp only [LN] at *) <;> omega)))
        | with_reducible refine wr_i64 (by first | omega | (simp only [LN] at *; omega)) ?_
        | ((with_reducible refine eqN_mk2 ?_ ?_); (focus (exact Z.kb_some rfl))))
      all_goals (try (conv => whnf))
      all_goals first
        | ((refine Z.rndK ((i + 1, true, true, acc ++ [z])) (fun s => [0, 1, 2, s.idAt 8]) rfl rfl rfl rfl ?_ ?_ ?_ ?_); (focus (repeat' (first | exact trivial | exact rfl | (rw [List.map_append (f := cP)]; exact rfl) | (rw [List.map_append (f := cP), List.map_append (f := cP)]; exact rfl) | (rw [List.map_append]; exact rfl) | apply And.intro))); (focus (repeat' (first | exact trivial | ((refine Z.gB_sub' rfl ?_ (ren_map fun _ => rfl)); (rw [List.map_append (f := cP), List.map_append (f := cP)]; exact rfl)) | (intro b hb; cases hb; rfl) | (intro b hb; cases hb; subst hlb; rfl) | (intro b hb; cases hb; rw [List.map_append (f := cP)]; rfl) | (intro b hb; cases hb; rw [List.map_append]; rfl) | (intro b hb; cases hb; done) | exact Z.blk_sub rfl rfl (ren_map fun _ => rfl) | exact Z.blk_sub rfl rfl (Z.ren_app (ren_map fun _ => rfl) (ren_map fun _ => rfl)) | exact Z.blk_sub rfl (by first | (rw [List.map_append]; rfl) | (rw [List.map_set]; rfl) | simp only [List.map_append, List.map_cons, List.map_nil, List.map_set]) (ren_map fun _ => rfl) | exact Z.gB_sub rfl rfl (ren_map fun _ => rfl) | exact Z.gB_sub' rfl (by first | rfl | (rw [List.map_append]; rfl) | simp only [List.map_append, List.map_cons, List.map_nil]) (ren_map fun _ => rfl) | apply And.intro))); (focus (refine ⟨by (try simp only [LN] at *) <;> omega, .inr ⟨rfl, by dsimp only; omega, rfl, ?_⟩⟩; dsimp only; rw [ha, drop_take_snoc hz (by omega)]; simp)); (dsimp only; omega))
        | (exfalso; (try simp only [LN] at *) <;> omega)
        | (exfalso; simp_all; done)
        | (fail)
  rcases HD with ⟨hd, hi, hc, ha⟩ | ⟨hd, hi, hc, ha⟩ <;> subst hd hc
  · exfalso; omega
  rw [take_end hil] at ha
  rw [← ha]
  repeat' ((conv => whnf); first
    | ((with_reducible apply spB_cong); (focus (simp only [beq_self_eq_true, bne_self_eq_false, Bool.true_bne, Bool.false_bne, Bool.bne_true, Bool.bne_false, Bool.true_beq, Bool.false_beq, Bool.not_true, Bool.not_false, Bool.not_not, Int.reduceBEq, Int.reduceBNe, Int.reduceLE, Int.reduceLT, Int.reduceEq, decide_true, decide_false]; rfl)))
    | with_reducible first | refine spB_yes (by decide) ?_ | refine spB_no (by decide) ?_ | refine spB_f ?_ | refine spB_not ?_ | refine spB_yes (by assumption) ?_ | refine spB_no (by assumption) ?_
    | (with_reducible refine spB_dec ?_ ?_ <;> intro _ <;> (try (exfalso; first | contradiction | omega | (rename_i hz; exact hz (by simp; done)) | (simp only [LN] at *; omega)))))
  all_goals (try (conv => whnf))
  all_goals first
    | ((first | (with_reducible apply Z.retF1) | (with_reducible apply Z.retF2) | (with_reducible apply Z.retF0)); (focus (exact rfl)); (repeat' (first | exact trivial | (with_reducible apply Z.frz_one) | (with_reducible apply Z.frz_agg) | (with_reducible apply Z.fq_int) | (with_reducible apply Z.fq_bool) | (exact Z.frz_nil) | (exact Z.frz_osl0 rfl rfl rfl) | (with_reducible apply Z.fq_nil) | (with_reducible apply Z.fq_ro) | ((with_reducible apply Z.fq_gsl); (focus (first | rfl | exact Z.isB_map _ | exact Z.gB_snoc.symm)); (focus (exact fun _ => rfl))) | ((with_reducible apply Z.fq_osl); (focus (exact rfl)); (focus (first | exact rfl | (simp only [List.length_map, Nat.zero_add]; done) | ((try simp only [LN] at *) <;> omega))); (focus (exact fun _ => rfl))) | ((with_reducible apply Z.fq_src); (focus (exact rfl)); (focus (first | exact rfl | (simp only [List.length_map, Nat.zero_add]; done) | ((try simp only [LN] at *) <;> omega))); (focus (exact fun _ => rfl))) | exact rfl | ((apply Z.fq_osl); (focus (exact rfl)); (focus (first | exact rfl | (simp only [List.length_map, Nat.zero_add]; done) | ((try simp only [LN] at *) <;> omega))); (focus (exact fun _ => rfl))) | ((apply Z.fq_src); (focus (exact rfl)); (focus (first | exact rfl | (simp only [List.length_map, Nat.zero_add]; done) | ((try simp only [LN] at *) <;> omega))); (focus (exact fun _ => rfl))) | (apply Z.fq_ro) | (apply Z.fq_int) | (apply Z.fq_bool) | apply And.intro)); (all_goals (try exact (fun _ => none))); all_goals (rfl))
    | (exfalso; (try simp only [LN] at *) <;> omega)
    | (exfalso; simp_all; done)
    | (fail)

theorem rhear_e (now span w : Int) (l : List Pu) (s : Nat) (hk : okH now span l = true) (hw : 1 ≤ w ∧ w ≤ 4) (hs : srch w l = s) (hn : s = l.length) : Con Try.prog 33 [.agg [.v (.int .i64 now), .v (.int .i64 span), .ro false 3 ((l).map eP)], .one (.v (.int .i64 w))] (fun rx rK rt => rx = .tup [.agg [.v (.int .i64 now), .v (.int .i64 span), .ro true 3 ((l ++ [(⟨w, now, false⟩ : Pu)]).map eP)], .one (.v (.bool true)), .one (.v (.int .i64 0))] ∧ rK = [] ∧ rt = 0) := by
  refine Z.con_ofF tabOk 64 Try.f33 _ Try.func33 (by kernel_rfl) rfl rfl rfl rfl ?_
  obtain ⟨hok1, hok2, hok3⟩ := okH_all hk
  have hl := okH_len2 hk
  have hlo : ∀ (k : Nat) (z : Pu), k < s → l[k]? = some z → z.wk < w := fun k z h => srch_before k z (by omega)
  repeat' ((conv => whnf); first
    | with_reducible first | refine spB_yes (by decide) ?_ | refine spB_no (by decide) ?_ | refine spB_f ?_ | refine spB_not ?_ | refine spB_yes (by assumption) ?_ | refine spB_no (by assumption) ?_
    | (with_reducible refine spB_dec ?_ ?_ <;> intro _ <;> (try (exfalso; first | contradiction | omega | (rename_i hz; exact hz (by simp; done)) | (simp only [LN] at *; omega)))))
  all_goals (try (conv => whnf))
  refine Z.loopK tabOk (fun zq : Nat × Bool × Bool × List Pu => [(27, .val (.int .i64 (zq.1 : Int))), (10, .val (.bool zq.2.1)), (9, .val (.bool zq.2.2.1)), (8, .c (.gsl 3 (zq.2.2.2.map cP)))]) (fun zq : Nat × Bool × Bool × List Pu => ([(3, (gB 3 37 (zq.2.2.2.map cP)).map Z.Ob.b)] : Z.Kr)) (fun zq => zq.1 ≤ l.length ∧ ((zq.2.1 = false ∧ zq.1 ≤ s ∧ zq.2.2.1 = true ∧ zq.2.2.2 = l.take zq.1) ∨ (zq.2.1 = true ∧ s < zq.1 ∧ zq.2.2.1 = true ∧ zq.2.2.2 = l.take s ++ (⟨w, now, false⟩ : Pu) :: (l.take zq.1).drop s))) (fun zq => l.length - zq.1) (0, false, true, []) 4 [(1, _), (2, _), (4, _), (7, _), (25, _), (26, _)] ⟨rfl, rfl, rfl, rfl, rfl, rfl, trivial⟩ [(0, some _), (1, some _), (2, some _)] ⟨rfl, rfl, rfl, trivial⟩ ?_ ?_ rfl rfl ⟨Nat.zero_le _, .inl ⟨rfl, Nat.zero_le _, rfl, rfl⟩⟩ ?_
  · repeat' (first | exact trivial | apply And.intro | exact ⟨_, rfl, rfl⟩ | exact ⟨_, rfl, Z.Imp.refl _⟩ | exact ⟨_, rfl, Z.Imp.nilg _⟩ | exact ⟨_, rfl, Z.Imp.nilr _ _⟩)
  · repeat' (first | exact trivial | (intro b hb; cases hb; done) | exact (fun b hb => ⟨b, hb, Z.ImpO.refl b⟩) | (intro b hb; cases hb; refine ⟨_, rfl, ⟨rfl, rfl, rfl⟩, ?_⟩; (repeat' (first | exact trivial | apply And.intro | exact Z.Imp.refl _ | exact Z.Imp.nilg _ | exact Z.Imp.nilr _ _)); done) | apply And.intro)
  rintro ⟨i, d, c, acc⟩ HINV
  dsimp only at HINV ⊢
  obtain ⟨HI, HD⟩ := HINV
  have hal : acc.length ≤ 10 := by
    rcases HD with ⟨_, _, _, h⟩ | ⟨_, _, _, h⟩ <;> rw [h] <;> simp <;> omega
  by_cases hil : i < l.length
  · obtain ⟨z, hz⟩ := getElem?_some' (xs := l) (i := i) hil
    rcases HD with ⟨hd, hi, hc, ha⟩ | ⟨hd, hi, hc, ha⟩ <;> subst hd hc
    · by_cases his : i < s
      · have hzw := hlo i z his hz
        repeat' ((conv => whnf); first
          | with_reducible first | refine spB_t ?_
          | ((with_reducible apply spB_cong); (focus (simp only [beq_self_eq_true, bne_self_eq_false, Bool.true_bne, Bool.false_bne, Bool.bne_true, Bool.bne_false, Bool.true_beq, Bool.false_beq, Bool.not_true, Bool.not_false, Bool.not_not, Int.reduceBEq, Int.reduceBNe, Int.reduceLE, Int.reduceLT, Int.reduceEq, decide_true, decide_false]; rfl)))
          | (with_reducible refine spB_dec ?_ ?_ <;> intro _ <;> (try (exfalso; first | contradiction | omega | (rename_i hz; exact hz (by simp; done)) | (simp only [LN] at *; omega))))
          | (with_reducible refine spB_beq ?_ ?_ <;> intro _ <;> (try (exfalso; first | contradiction | omega | (rename_i hz; exact hz (by simp; done)) | (simp only [LN] at *; omega))))
          | with_reducible first | refine Z.rowN_known hz ?_
          | ((with_reducible refine posE_pos ?_ ?_); (focus ((try simp only [LN] at *) <;> omega)))
          | ((with_reducible apply ixN_litp); (focus (exact rfl)); (focus ((try simp only [LN] at *) <;> omega)))
          | ((with_reducible refine apdN.mk ?_ ?_ ?_ ?_ ?_ ?_); (focus (first | rfl | (simp; done))); (focus (first | exact one_all (by rfl) | exact one_map (fun _ => rfl) | exact one_map2 (fun _ => rfl))); (focus ((try simp only [LN] at *) <;> omega)); (focus ((try simp only [LN] at *) <;> omega)); (focus ((try simp only [LN] at *) <;> omega)))
          | with_reducible refine wr_i64 (by first | omega | (simp only [LN] at *; omega)) ?_
          | ((with_reducible refine eqN_mk2 ?_ ?_); (focus (exact Z.kb_some rfl))))
        all_goals (try (conv => whnf))
        all_goals first
          | ((refine Z.rndK ((i + 1, false, true, acc ++ [z])) (fun s => [0, 1, 2, s.idAt 8]) rfl rfl rfl rfl ?_ ?_ ?_ ?_); (focus (repeat' (first | exact trivial | exact rfl | (rw [List.map_append (f := cP)]; exact rfl) | (rw [List.map_append (f := cP), List.map_append (f := cP)]; exact rfl) | (rw [List.map_append]; exact rfl) | apply And.intro))); (focus (repeat' (first | exact trivial | ((refine Z.gB_sub' rfl ?_ (ren_map fun _ => rfl)); (rw [List.map_append (f := cP), List.map_append (f := cP)]; exact rfl)) | (intro b hb; cases hb; rfl) | (intro b hb; cases hb; subst hlb; rfl) | (intro b hb; cases hb; rw [List.map_append (f := cP)]; rfl) | (intro b hb; cases hb; rw [List.map_append]; rfl) | (intro b hb; cases hb; done) | exact Z.blk_sub rfl rfl (ren_map fun _ => rfl) | exact Z.blk_sub rfl rfl (Z.ren_app (ren_map fun _ => rfl) (ren_map fun _ => rfl)) | exact Z.blk_sub rfl (by first | (rw [List.map_append]; rfl) | (rw [List.map_set]; rfl) | simp only [List.map_append, List.map_cons, List.map_nil, List.map_set]) (ren_map fun _ => rfl) | exact Z.gB_sub rfl rfl (ren_map fun _ => rfl) | exact Z.gB_sub' rfl (by first | rfl | (rw [List.map_append]; rfl) | simp only [List.map_append, List.map_cons, List.map_nil]) (ren_map fun _ => rfl) | apply And.intro))); (focus (refine ⟨by (try simp only [LN] at *) <;> omega, .inl ⟨rfl, by dsimp only; omega, rfl, ?_⟩⟩; dsimp only; rw [ha, take_snoc hz])); (dsimp only; omega))
          | (exfalso; (try simp only [LN] at *) <;> omega)
          | (exfalso; simp_all; done)
          | (fail)
      · exfalso; omega
    · exfalso; omega
  rcases HD with ⟨hd, hi, hc, ha⟩ | ⟨hd, hi, hc, ha⟩ <;> subst hd hc
  rotate_left
  · exfalso; omega
  have hae : acc = l := by rw [ha, take_end hil]
  subst hae
  repeat' ((conv => whnf); first
    | with_reducible first | refine spB_t ?_
    | ((with_reducible apply spB_cong); (focus (simp only [beq_self_eq_true, bne_self_eq_false, Bool.true_bne, Bool.false_bne, Bool.bne_true, Bool.bne_false, Bool.true_beq, Bool.false_beq, Bool.not_true, Bool.not_false, Bool.not_not, Int.reduceBEq, Int.reduceBNe, Int.reduceLE, Int.reduceLT, Int.reduceEq, decide_true, decide_false]; rfl)))
    | (with_reducible refine spB_dec ?_ ?_ <;> intro _ <;> (try (exfalso; first | contradiction | omega | (rename_i hz; exact hz (by simp; done)) | (simp only [LN] at *; omega))))
    | ((with_reducible refine posE_pos ?_ ?_); (focus ((try simp only [LN] at *) <;> omega)))
    | ((with_reducible refine apdN.mk ?_ ?_ ?_ ?_ ?_ ?_); (focus (first | rfl | (simp; done))); (focus (first | exact one_all (by rfl) | exact one_map (fun _ => rfl) | exact one_map2 (fun _ => rfl))); (focus ((try simp only [LN] at *) <;> omega)); (focus ((try simp only [LN] at *) <;> omega)); (focus ((try simp only [LN] at *) <;> omega)))
    | ((with_reducible refine eqN_mk2 ?_ ?_); (focus (exact Z.kb_some rfl))))
  all_goals (try (conv => whnf))
  all_goals first
    | ((first | (with_reducible apply Z.retF1) | (with_reducible apply Z.retF2) | (with_reducible apply Z.retF0)); (focus (exact rfl)); (repeat' (first | exact trivial | (with_reducible apply Z.frz_one) | (with_reducible apply Z.frz_agg) | (with_reducible apply Z.fq_int) | (with_reducible apply Z.fq_bool) | (exact Z.frz_nil) | (exact Z.frz_osl0 rfl rfl rfl) | (with_reducible apply Z.fq_nil) | (with_reducible apply Z.fq_ro) | ((with_reducible apply Z.fq_gsl); (focus (first | rfl | exact Z.isB_map _ | exact Z.gB_snoc.symm)); (focus (exact fun _ => rfl))) | ((with_reducible apply Z.fq_osl); (focus (exact rfl)); (focus (first | exact rfl | (simp only [List.length_map, Nat.zero_add]; done) | ((try simp only [LN] at *) <;> omega))); (focus (exact fun _ => rfl))) | ((with_reducible apply Z.fq_src); (focus (exact rfl)); (focus (first | exact rfl | (simp only [List.length_map, Nat.zero_add]; done) | ((try simp only [LN] at *) <;> omega))); (focus (exact fun _ => rfl))) | exact rfl | ((apply Z.fq_osl); (focus (exact rfl)); (focus (first | exact rfl | (simp only [List.length_map, Nat.zero_add]; done) | ((try simp only [LN] at *) <;> omega))); (focus (exact fun _ => rfl))) | ((apply Z.fq_src); (focus (exact rfl)); (focus (first | exact rfl | (simp only [List.length_map, Nat.zero_add]; done) | ((try simp only [LN] at *) <;> omega))); (focus (exact fun _ => rfl))) | (apply Z.fq_ro) | (apply Z.fq_int) | (apply Z.fq_bool) | apply And.intro)); (all_goals (try exact (fun _ => none))); all_goals (first | rfl | exact fz_snocP rfl rfl))
    | (exfalso; (try simp only [LN] at *) <;> omega)
    | (exfalso; simp_all; done)
    | (fail)

end Go.Proofs.Ytgdkhdooekmfgaa
