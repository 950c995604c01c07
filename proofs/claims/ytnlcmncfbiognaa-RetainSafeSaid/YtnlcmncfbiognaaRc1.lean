import Derived.Test.YtnlcmncfbiognaaRc0
namespace Go.Proofs.Ytnlcmncfbiognaa
open Go Go.RowKit Wx
set_option linter.unusedVariables false
set_option linter.unusedSimpArgs false
set_option maxHeartbeats 4000000
theorem set_t (keep number : Int) (l : List Kp) (i : Nat) (q : Kp) (hl : l.length ≤ 16) (hk : okS keep l = true) (hne : l ≠ []) (ha : anyN number l = true) (hi : idxN number l = i) (hq : l[i]? = some q) (hs : anyO l = true) (hn : nxtN l = number) : Con Try.prog 15 [.agg [.v (.int .i64 keep), .ro false 3 (l.map eK)], .one (.v (.int .u64 number))] (fun rx rK rt => rx = .tup [.agg [.v (.int .i64 keep), .ro true 3 ((keptF keep (l.set i ⟨q.num, q.save, false⟩)).map eK)], .one (.ro true 1 ((goneF keep (l.set i ⟨q.num, q.save, false⟩)).map eU)), .one (.v (.int .i64 0))] ∧ rK = [] ∧ rt = 0) := by
  refine Z.con_ofF tabOk 14 Try.f15 _ Try.func15 (by kernel_rfl) rfl rfl rfl rfl ?_
  have hil : i < l.length := (List.getElem?_eq_some_iff.1 hq).1
  have hne2 : l.set i ⟨q.num, q.save, false⟩ ≠ [] := fun e => by have h9 := congrArg List.length e; rw [List.length_set, List.length_nil] at h9; omega
  have cf := find_t keep number l (by omega) i hi ha
  have cx := nxt_con keep l (by omega)
  rw [hs, hn] at cx
  repeat' ((conv => whnf); first
    | ((with_reducible apply spB_cong); (focus (simp only [beq_self_eq_true, bne_self_eq_false, Bool.true_bne, Bool.false_bne, Bool.bne_true, Bool.bne_false, Bool.true_beq, Bool.false_beq, Bool.not_true, Bool.not_false, Bool.not_not, Int.reduceBEq, Int.reduceBNe, Int.reduceLE, Int.reduceLT, Int.reduceEq, decide_true, decide_false, hk, cond_true, hs]; rfl)))
    | with_reducible first | refine spB_yes (by decide) ?_ | refine spB_no (by decide) ?_ | refine spB_f ?_ | refine spB_not ?_ | refine spB_yes (by assumption) ?_ | refine spB_no (by assumption) ?_
    | ((with_reducible refine rowN_mk (cK q) ?_ ?_); (focus (exact ren_row hq)))
    | ((first | (with_reducible apply Z.conZ_mz ?_ (cloneL_con (l.set i ⟨q.num, q.save, false⟩) (by rw [List.length_set]; omega) hne2) ?_) | (with_reducible apply Z.callZ_mk ?_ (cloneL_con (l.set i ⟨q.num, q.save, false⟩) (by rw [List.length_set]; omega) hne2) ?_)); (focus (exact ⟨low_set (y := ⟨q.num, q.save, false⟩), trivial⟩)))
    | ((with_reducible apply ixN_litp); (focus (exact rfl)); (focus ((try simp only [LN] at *) <;> omega)))
    | with_reducible refine wr_i64 (by first | omega | (simp only [LN] at *; omega)) ?_
    | with_reducible first | refine apN_mk (by kernel_rfl) ?_ | refine Z.callZ_in tabOk 15 Try.f32 _ Try.func32 (by kernel_rfl) rfl rfl rfl ?_ | refine Z.callZ_in tabOk 22 Try.f33 _ Try.func33 (by kernel_rfl) rfl rfl rfl ?_ | refine Z.callZ_in tabOk 62 Try.f27 _ Try.func27 (by kernel_rfl) rfl rfl rfl ?_ | refine Z.callZ_in tabOk 25 Try.f44 _ Try.func44 (by kernel_rfl) rfl rfl rfl ?_ | refine Z.callZ_in tabOk 4 Try.f40 _ Try.func40 (by kernel_rfl) rfl rfl rfl ?_ | refine Z.callZ_in tabOk 33 Try.f41 _ Try.func41 (by kernel_rfl) rfl rfl rfl ?_ | refine Z.callZ_in tabOk 28 Try.f42 _ Try.func42 (by kernel_rfl) rfl rfl rfl ?_ | refine Z.callZ_in tabOk 26 Try.f48 _ Try.func48 (by kernel_rfl) rfl rfl rfl ?_ | refine Z.callZ_in tabOk 4 Try.f49 _ Try.func49 (by kernel_rfl) rfl rfl rfl ?_ | refine Z.callZ_in tabOk 19 Try.f52 _ Try.func52 (by kernel_rfl) rfl rfl rfl ?_
    | ((first | (with_reducible refine Z.conZ_mz ?_ (cx) ?_) | (with_reducible refine Z.callZ_mk ?_ (cx) ?_) | (with_reducible refine Z.conZ_mz ?_ (cf) ?_) | (with_reducible refine Z.callZ_mk ?_ (cf) ?_)); (focus ((repeat' (first | exact trivial | exact rfl | exact Z.low_nil | exact Z.low_nil2 | exact low_osl (fun _ => rfl) | (refine Z.low_osln ?_ (fun _ => rfl); (simp only [List.length_map]; done)) | exact low_oslr (fun _ => rfl) | exact Z.low_gslm (by first | rfl | exact Z.kb_some rfl) (fun _ => rfl) | exact .inl rfl | exact .inr ⟨_, rfl⟩ | apply And.intro)); done)))
    | ((first | (with_reducible apply Z.conZ_mz ?_ (cloneL_con _ ?_ ?_) ?_) | (with_reducible apply Z.callZ_mk ?_ (cloneL_con _ ?_ ?_) ?_)); (rotate_left 1); (focus ((repeat' (first | exact trivial | exact rfl | exact Z.low_nil | exact Z.low_nil2 | exact low_osl (fun _ => rfl) | (refine Z.low_osln ?_ (fun _ => rfl); (simp only [List.length_map]; done)) | exact low_oslr (fun _ => rfl) | exact Z.low_gslm (by first | rfl | exact Z.kb_some rfl) (fun _ => rfl) | exact .inl rfl | exact .inr ⟨_, rfl⟩ | apply And.intro)); done)); (iterate 2 (focus (first | assumption | omega | ((try simp only [LN] at *); omega)))))
    | ((first | (with_reducible apply Z.conZ_mz ?_ (check_con _ _ ?_) ?_) | (with_reducible apply Z.callZ_mk ?_ (check_con _ _ ?_) ?_)); (rotate_left 2); (focus ((repeat' (first | exact trivial | exact rfl | exact Z.low_nil | exact Z.low_nil2 | exact low_osl (fun _ => rfl) | (refine Z.low_osln ?_ (fun _ => rfl); (simp only [List.length_map]; done)) | exact low_oslr (fun _ => rfl) | exact Z.low_gslm (by first | rfl | exact Z.kb_some rfl) (fun _ => rfl) | exact .inl rfl | exact .inr ⟨_, rfl⟩ | apply And.intro)); done)); (iterate 1 (focus (first | assumption | omega | ((try simp only [LN] at *); omega)))))
    | ((with_reducible apply ex_and); exact rfl)
    | ((with_reducible refine Z.RangeZ.red ?_); (refine Z.range_rule [(2, _), (4, _), (8, _), (10, _), (11, _), (35, _)] rfl ⟨rfl, rfl, rfl, rfl, rfl, rfl, trivial⟩ rfl rfl ?_); intro lb hlb)
    | ((with_reducible refine Z.RangeZ.red ?_); (refine Z.range_rule [(2, _), (3, _), (10, _)] rfl ⟨rfl, rfl, rfl, trivial⟩ rfl rfl ?_); intro lb hlb)
    | with_reducible first | refine Z.drawZ_rule tabOk mixOk ?_ | refine Z.apZ_mk (by kernel_rfl) ?_
    | ((with_reducible refine Z.ConZ.red ?_); (try subst hlb); (apply Z.conZ_all); (focus (repeat (first | exact Z.FK.nil | (apply Z.FK.keep; exact rfl)))); (focus rfl); (focus rfl); (focus (repeat (first | exact trivial | (refine ⟨(fun o ho => (by first | (cases ho; rfl) | (cases ho; exact Z.inL_map fun _ => rfl) | (cases ho; exact Z.inL_mapr fun _ => rfl) | exact Z.inL_gB ho fun _ => rfl)), ?_⟩)))))
    | ((refine ⟨rfl, ?_, rfl⟩); (focus (repeat (first | exact Z.DK.nil | apply Z.DK.cons)))))
  all_goals (try (conv => whnf))
  all_goals try (show Nat.ble _ _ = true; rfl)
  refine Z.loopK tabOk (fun zq : Nat × Int × List Int × List Kp => [(3, .val (.int .i64 ((zq.1 : Int) - 1)))]) (fun zq : Nat × Int × List Int × List Kp => ([(9, some (Z.Ob.b ⟨(l.set i ⟨q.num, q.save, false⟩).map cK, 3, 44, false⟩)), (12, some (Z.Ob.b ⟨(padK (l.length) zq.2.2.2).map cK, 3, 44, false⟩)), (13, some (Z.Ob.b ⟨[[.osl 12 0 zq.2.2.2.length none]], 1, 22, true⟩)), (11, some (Z.Ob.b ⟨[[.gsl 20 (zq.2.2.1.map cU)]], 1, 28, true⟩)), (17, some (Z.Ob.b ⟨[[.v (.int .i64 zq.2.1)]], 1, 3, true⟩)), (20, (gB 1 25 (zq.2.2.1.map cU)).map Z.Ob.b)] : Z.Kr)) (fun zq => inv keep (l.set i ⟨q.num, q.save, false⟩) zq.1 zq.2.1 zq.2.2.1 zq.2.2.2) (fun zq => zq.1) (l.length, keep, [], l.set i ⟨q.num, q.save, false⟩) 21 [(0, _), (1, _)] ⟨rfl, rfl, trivial⟩ [(0, some _), (1, some _), (2, some _), (3, some _), (4, some _), (5, some _), (6, some _), (7, some _), (8, some _), (10, some _), (14, some _), (15, some _), (16, some _), (18, some _), (19, some _)] ⟨rfl, rfl, rfl, rfl, rfl, rfl, rfl, rfl, rfl, rfl, rfl, rfl, rfl, rfl, rfl, trivial⟩ ?_ ?_ rfl rfl (inv_len0 keep (by simp)) ?_
  · repeat' (first | exact trivial | apply And.intro | exact ⟨_, rfl, rfl⟩ | exact ⟨_, rfl, Z.Imp.refl _⟩ | exact ⟨_, rfl, Z.Imp.nilg _⟩ | exact ⟨_, rfl, Z.Imp.nilr _ _⟩)
  · repeat' (first | exact trivial | (intro b hb; cases hb; done) | exact (fun b hb => ⟨b, hb, Z.ImpO.refl b⟩) | (intro b hb; cases hb; refine ⟨_, rfl, ⟨rfl, rfl, rfl⟩, ?_⟩; (repeat' (first | exact trivial | apply And.intro | exact Z.Imp.refl _ | exact Z.Imp.nilg _ | exact Z.Imp.nilr _ _)); done) | (intro b hb; cases hb; refine ⟨_, rfl, ⟨rfl, rfl, rfl⟩, Z.imp_eq ?_⟩; first | exact set_cK (y := ⟨q.num, q.save, false⟩) | exact pad_cK (by simp) | (exact ren_cK.trans (pad_cK (by simp))); done) | apply And.intro)
  rintro ⟨m, kp, g, K⟩ HINV
  dsimp only at HINV ⊢
  have hkp := inv_kp HINV
  have hkk := okS_keep hk
  have hKl := inv_len HINV
  simp only [List.length_set] at hkp hKl
  rcases m with _ | m
  rotate_left
  · obtain ⟨x, hx⟩ := getElem?_some' (xs := l.set i ⟨q.num, q.save, false⟩) (i := m) (by have := HINV.1; omega)
    have hKx := inv_at HINV hx
    have hsl := hKx.2
    have hpl : (padK (l.length) K).length = l.length := padK_len (by omega)
    repeat' ((conv => whnf); first
      | with_reducible first | refine spB_t ?_
      | ((with_reducible apply spB_cong); (focus (simp only [beq_self_eq_true, bne_self_eq_false, Bool.true_bne, Bool.false_bne, Bool.bne_true, Bool.bne_false, Bool.true_beq, Bool.false_beq, Bool.not_true, Bool.not_false, Bool.not_not, Int.reduceBEq, Int.reduceBNe, Int.reduceLE, Int.reduceLT, Int.reduceEq, decide_true, decide_false]; rfl)))
      | with_reducible first | refine spB_yes (by decide) ?_ | refine spB_no (by decide) ?_ | refine spB_f ?_ | refine spB_not ?_ | refine spB_yes (by assumption) ?_ | refine spB_no (by assumption) ?_
      | (with_reducible refine spB_dec ?_ ?_ <;> intro _ <;> (try (exfalso; first | contradiction | omega | (simp only [LN] at *; omega))))
      | (with_reducible refine spB_beq ?_ ?_ <;> intro _ <;> (try (exfalso; first | contradiction | omega | (simp only [LN] at *; omega))))
      | (with_reducible refine spB_mk ?_ ?_ <;> intro _ <;> (try (exfalso; first | contradiction | omega | (simp only [LN] at *; omega))))
      | ((with_reducible refine Z.callZ_cap ?_); intro capv hcapv)
      | ((with_reducible refine ixN_mk m ?_ ?_ ?_); (focus omega); (focus ((try simp only [LN] at *) <;> omega)))
      | ((with_reducible refine rowN_mk (cK x) ?_ ?_); (focus (show (List.map cK (l.set i ⟨q.num, q.save, false⟩))[0 + m]? = some (cK x); rw [Nat.zero_add, List.getElem?_map, hx]; rfl)))
      | ((with_reducible refine wr_to ((m : Int) - 1) ?_ ?_ ?_); (focus omega); (focus omega))
      | ((with_reducible refine slN_hi (m) ?_ ?_ ?_); (focus omega); (focus ((try simp only [LN] at *) <;> omega)))
      | ((with_reducible refine Z.slN_lo (m + 1) ?_ ?_ ?_); (focus omega); (focus ((try simp only [LN] at *) <;> omega)))
      | ((with_reducible refine Z.slN_lhc (K.length - 1) K.length ?_ ?_ ?_ ?_ ?_); (iterate 3 (focus ((try simp only [LN] at *) <;> omega))); (focus (exact ⟨_, rfl, by (try simp only [LN] at *) <;> omega⟩)))
      | ((with_reducible refine clrN_mk ?_ ?_ ?_); (focus (show _ ≤ (lay (List.map cK (padK (l.length) K)) _ _).length; rw [lay_length (by (try simp only [LN] at *) <;> omega)]; ((try simp only [LN] at *) <;> omega))); (focus rfl))
      | ((with_reducible refine sl3N_mk m (m + 1) K.length ?_ ?_ ?_ ?_ ?_ ?_ ?_ ?_); (focus (show bnd (some _) _ _; simp only [bnd]; omega)); (focus omega); (focus rfl); (iterate 3 (focus ((try simp only [LN] at *) <;> omega))); (focus (right; ((try simp only [LN] at *) <;> omega))))
      | ((with_reducible refine posE_pos ?_ ?_); (focus ((try simp only [LN] at *) <;> omega)))
      | ((with_reducible refine apdE_r ?_); (with_reducible refine aprN.mk ⟨_, rfl, ?_⟩ ?_ ?_ ?_ ?_); (focus ((try simp only [LN] at *) <;> omega)); (focus (first | rfl | (simp; done) | ((try simp only [LN] at *) <;> omega))); (focus (first | exact one_all (by rfl) | exact one_map (fun _ => rfl) | exact one_map2 (fun _ => rfl) | exact one_drop (fun _ => rfl))); (focus ((try simp only [LN] at *) <;> omega)))
      | ((with_reducible refine slE_a ?_ ?_); (focus ((try simp only [LN] at *) <;> omega)))
      | ((with_reducible refine slE_split ?_ ?_ ?_); (focus ((try simp only [LN] at *) <;> omega)); (all_goals intro _))
      | ((with_reducible refine apdN.mk ?_ ?_ ?_ ?_ ?_ ?_); (focus (first | rfl | (simp; done))); (focus (first | exact one_all (by rfl) | exact one_map (fun _ => rfl) | exact one_map2 (fun _ => rfl))); (focus ((try simp only [LN] at *) <;> omega)); (focus ((try simp only [LN] at *) <;> omega)); (focus ((try simp only [LN] at *) <;> omega)))
      | with_reducible refine wr_i64 (by first | omega | (simp only [LN] at *; omega)) ?_
      | with_reducible first | refine apN_mk (by kernel_rfl) ?_ | refine Z.callZ_in tabOk 15 Try.f32 _ Try.func32 (by kernel_rfl) rfl rfl rfl ?_ | refine Z.callZ_in tabOk 22 Try.f33 _ Try.func33 (by kernel_rfl) rfl rfl rfl ?_ | refine Z.callZ_in tabOk 62 Try.f27 _ Try.func27 (by kernel_rfl) rfl rfl rfl ?_ | refine Z.callZ_in tabOk 25 Try.f44 _ Try.func44 (by kernel_rfl) rfl rfl rfl ?_ | refine Z.callZ_in tabOk 4 Try.f40 _ Try.func40 (by kernel_rfl) rfl rfl rfl ?_ | refine Z.callZ_in tabOk 33 Try.f41 _ Try.func41 (by kernel_rfl) rfl rfl rfl ?_ | refine Z.callZ_in tabOk 28 Try.f42 _ Try.func42 (by kernel_rfl) rfl rfl rfl ?_ | refine Z.callZ_in tabOk 26 Try.f48 _ Try.func48 (by kernel_rfl) rfl rfl rfl ?_ | refine Z.callZ_in tabOk 4 Try.f49 _ Try.func49 (by kernel_rfl) rfl rfl rfl ?_ | refine Z.callZ_in tabOk 19 Try.f52 _ Try.func52 (by kernel_rfl) rfl rfl rfl ?_
      | ((first | (with_reducible apply Z.conZ_mz ?_ (plain_con _) ?_) | (with_reducible apply Z.callZ_mk ?_ (plain_con _) ?_)); (rotate_left 1); (focus ((repeat' (first | exact trivial | exact rfl | exact Z.low_nil | exact Z.low_nil2 | exact low_osl (fun _ => rfl) | (refine Z.low_osln ?_ (fun _ => rfl); (simp only [List.length_map]; done)) | exact low_oslr (fun _ => rfl) | exact Z.low_gslm (by first | rfl | exact Z.kb_some rfl) (fun _ => rfl) | exact .inl rfl | exact .inr ⟨_, rfl⟩ | apply And.intro)); done)))
      | ((with_reducible refine eqN_mk2 ?_ ?_); (focus (exact Z.kb_some rfl)))
      | ((with_reducible apply ex_and); exact rfl)
      | ((with_reducible refine Z.CallZ.yl ?_); subst hlb; refine Z.yield_rule tabOk _ _ rfl rfl rfl rfl ?_)
      | with_reducible first | refine Z.drawZ_rule tabOk mixOk ?_ | refine Z.apZ_mk (by kernel_rfl) ?_)
    all_goals (try (conv => whnf))
    all_goals first
      | ((refine Z.rnd_rw 12 ((padK (l.length) (K.eraseIdx m)).map cK) rfl rfl ?_ ?_); (focus (exact pad_del2 (by omega) rfl hsl (by omega) (by first | exact pad_drop rfl | (rw [List.drop_eq_nil_of_le (by simp only [List.length_map]; omega)]; rfl)))); ((refine Z.rnd_bi 13 [[.osl 12 0 (K.eraseIdx m).length none]] rfl rfl ⟨⟨Z.Imp.oslcn (by rw [List.length_eraseIdx, if_pos hsl]; (try simp only [LN] at *) <;> omega), trivial⟩, trivial⟩ ?_); ((refine Z.rndK ((m, kp - 1, g ++ [x.num], K.eraseIdx m)) (fun s => [0, 1, 2, 3, 4, 5, 6, 7, 8, 9, 10, 11, 12, 13, 14, 15, 16, 17, 18, 19, s.idIn 11 0]) rfl rfl rfl rfl ?_ ?_ ?_ ?_); (focus (repeat' (first | exact trivial | exact rfl | (rw [List.map_append]; exact rfl) | apply And.intro))); (focus (repeat' (first | exact trivial | (intro b hb; cases hb; rfl) | (intro b hb; cases hb; subst hlb; rfl) | (intro b hb; cases hb; rw [List.map_append]; rfl) | (intro b hb; cases hb; done) | exact Z.blk_sub rfl rfl (ren_map fun _ => rfl) | exact Z.blk_sub rfl rfl (Z.ren_app (ren_map fun _ => rfl) (ren_map fun _ => rfl)) | exact Z.blk_sub rfl (by first | (rw [List.map_append]; rfl) | (rw [List.map_set]; rfl) | simp only [List.map_append, List.map_cons, List.map_nil, List.map_set]) (ren_map fun _ => rfl) | exact Z.gB_sub rfl rfl (ren_map fun _ => rfl) | exact Z.gB_sub' rfl (by first | rfl | (rw [List.map_append]; rfl) | simp only [List.map_append, List.map_cons, List.map_nil]) (ren_map fun _ => rfl) | apply And.intro))); (focus (exact inv_drop HINV hx (by assumption) (by omega))); (dsimp only; omega))))
      | ((refine Z.rndK ((m, kp - 1, g, K)) (fun s => [0, 1, 2, 3, 4, 5, 6, 7, 8, 9, 10, 11, 12, 13, 14, 15, 16, 17, 18, 19, s.idIn 11 0]) rfl rfl rfl rfl ?_ ?_ ?_ ?_); (focus (repeat' (first | exact trivial | exact rfl | (rw [List.map_append]; exact rfl) | apply And.intro))); (focus (repeat' (first | exact trivial | (intro b hb; cases hb; rfl) | (intro b hb; cases hb; subst hlb; rfl) | (intro b hb; cases hb; rw [List.map_append]; rfl) | (intro b hb; cases hb; done) | exact Z.blk_sub rfl rfl (ren_map fun _ => rfl) | exact Z.blk_sub rfl rfl (Z.ren_app (ren_map fun _ => rfl) (ren_map fun _ => rfl)) | exact Z.blk_sub rfl (by first | (rw [List.map_append]; rfl) | (rw [List.map_set]; rfl) | simp only [List.map_append, List.map_cons, List.map_nil, List.map_set]) (ren_map fun _ => rfl) | exact Z.gB_sub rfl rfl (ren_map fun _ => rfl) | exact Z.gB_sub' rfl (by first | rfl | (rw [List.map_append]; rfl) | simp only [List.map_append, List.map_cons, List.map_nil]) (ren_map fun _ => rfl) | apply And.intro))); (focus (exact inv_keep HINV hx (by assumption) (by omega))); (dsimp only; omega))
      | ((refine Z.rndK ((m, kp, g, K)) (fun s => [0, 1, 2, 3, 4, 5, 6, 7, 8, 9, 10, 11, 12, 13, 14, 15, 16, 17, 18, 19, s.idIn 11 0]) rfl rfl rfl rfl ?_ ?_ ?_ ?_); (focus (repeat' (first | exact trivial | exact rfl | (rw [List.map_append]; exact rfl) | apply And.intro))); (focus (repeat' (first | exact trivial | (intro b hb; cases hb; rfl) | (intro b hb; cases hb; subst hlb; rfl) | (intro b hb; cases hb; rw [List.map_append]; rfl) | (intro b hb; cases hb; done) | exact Z.blk_sub rfl rfl (ren_map fun _ => rfl) | exact Z.blk_sub rfl rfl (Z.ren_app (ren_map fun _ => rfl) (ren_map fun _ => rfl)) | exact Z.blk_sub rfl (by first | (rw [List.map_append]; rfl) | (rw [List.map_set]; rfl) | simp only [List.map_append, List.map_cons, List.map_nil, List.map_set]) (ren_map fun _ => rfl) | exact Z.gB_sub rfl rfl (ren_map fun _ => rfl) | exact Z.gB_sub' rfl (by first | rfl | (rw [List.map_append]; rfl) | simp only [List.map_append, List.map_cons, List.map_nil]) (ren_map fun _ => rfl) | apply And.intro))); (focus (exact inv_non HINV hx (by assumption))); (dsimp only; omega))
      | (fail)
  · obtain ⟨hg9, hK9⟩ := inv_end HINV
    cases g with
    | nil =>
      repeat' ((conv => whnf); first
        | with_reducible first | refine spB_yes (by decide) ?_ | refine spB_no (by decide) ?_ | refine spB_f ?_ | refine spB_not ?_ | refine spB_yes (by assumption) ?_ | refine spB_no (by assumption) ?_
        | (with_reducible refine spB_dec ?_ ?_ <;> intro _ <;> (try (exfalso; first | contradiction | omega | (simp only [LN] at *; omega))))
        | with_reducible first | refine Z.loopZ_unroll tabOk 1 ?_
        | with_reducible refine wr_i64 (by first | omega | (simp only [LN] at *; omega)) ?_
        | with_reducible first | refine apN_mk (by kernel_rfl) ?_ | refine Z.callZ_in tabOk 15 Try.f32 _ Try.func32 (by kernel_rfl) rfl rfl rfl ?_ | refine Z.callZ_in tabOk 22 Try.f33 _ Try.func33 (by kernel_rfl) rfl rfl rfl ?_ | refine Z.callZ_in tabOk 62 Try.f27 _ Try.func27 (by kernel_rfl) rfl rfl rfl ?_ | refine Z.callZ_in tabOk 25 Try.f44 _ Try.func44 (by kernel_rfl) rfl rfl rfl ?_ | refine Z.callZ_in tabOk 4 Try.f40 _ Try.func40 (by kernel_rfl) rfl rfl rfl ?_ | refine Z.callZ_in tabOk 33 Try.f41 _ Try.func41 (by kernel_rfl) rfl rfl rfl ?_ | refine Z.callZ_in tabOk 28 Try.f42 _ Try.func42 (by kernel_rfl) rfl rfl rfl ?_ | refine Z.callZ_in tabOk 26 Try.f48 _ Try.func48 (by kernel_rfl) rfl rfl rfl ?_ | refine Z.callZ_in tabOk 4 Try.f49 _ Try.func49 (by kernel_rfl) rfl rfl rfl ?_ | refine Z.callZ_in tabOk 19 Try.f52 _ Try.func52 (by kernel_rfl) rfl rfl rfl ?_
        | ((with_reducible apply ex_and); exact rfl)
        | ((with_reducible refine Z.rngN.mk ?_); (try subst hlb))
        | with_reducible first | refine Z.drawZ_rule tabOk mixOk ?_ | refine Z.apZ_mk (by kernel_rfl) ?_)
      all_goals (try (conv => whnf))
      all_goals first
        | (refine Z.retF2 [.agg [.v (.int .i64 keep), .osl 12 0 K.length none], .one (.gsl 20 (([] : List Int).map cU)), .one (.v (.int .i64 0))] (by kernel_rfl) ⟨⟨rfl, (by show Z.frzC _ _ (.ro true 3 ((keptF keep (l.set i ⟨q.num, q.save, false⟩)).map eK)); rw [← hK9]; exact Z.frz_oslw (l := K) (rows := (padK (l.length) K).map cK) (f := cK) (ty := 44) (bx := false) (by kernel_rfl) rfl (padK_take rfl) (fun _ => rfl)), trivial⟩, (by show Z.frzA _ _ (.one (.ro true 1 ((goneF keep (l.set i ⟨q.num, q.save, false⟩)).map eU))); rw [gone_nil hg9]; exact ⟨1, 25, [], rfl, rfl, rfl⟩), rfl, trivial⟩)
        | (fail)
    | cons g0 gs =>
      have hgl : (g0 :: gs).length ≤ 17 := by omega
      repeat' ((conv => whnf); first
        | with_reducible first | refine spB_yes (by decide) ?_ | refine spB_no (by decide) ?_ | refine spB_f ?_ | refine spB_not ?_ | refine spB_yes (by assumption) ?_ | refine spB_no (by assumption) ?_
        | (with_reducible refine spB_dec ?_ ?_ <;> intro _ <;> (try (exfalso; first | contradiction | omega | (simp only [LN] at *; omega))))
        | with_reducible refine wr_i64 (by first | omega | (simp only [LN] at *; omega)) ?_
        | with_reducible first | refine apN_mk (by kernel_rfl) ?_ | refine Z.callZ_in tabOk 15 Try.f32 _ Try.func32 (by kernel_rfl) rfl rfl rfl ?_ | refine Z.callZ_in tabOk 22 Try.f33 _ Try.func33 (by kernel_rfl) rfl rfl rfl ?_ | refine Z.callZ_in tabOk 62 Try.f27 _ Try.func27 (by kernel_rfl) rfl rfl rfl ?_ | refine Z.callZ_in tabOk 25 Try.f44 _ Try.func44 (by kernel_rfl) rfl rfl rfl ?_ | refine Z.callZ_in tabOk 4 Try.f40 _ Try.func40 (by kernel_rfl) rfl rfl rfl ?_ | refine Z.callZ_in tabOk 33 Try.f41 _ Try.func41 (by kernel_rfl) rfl rfl rfl ?_ | refine Z.callZ_in tabOk 28 Try.f42 _ Try.func42 (by kernel_rfl) rfl rfl rfl ?_ | refine Z.callZ_in tabOk 26 Try.f48 _ Try.func48 (by kernel_rfl) rfl rfl rfl ?_ | refine Z.callZ_in tabOk 4 Try.f49 _ Try.func49 (by kernel_rfl) rfl rfl rfl ?_ | refine Z.callZ_in tabOk 19 Try.f52 _ Try.func52 (by kernel_rfl) rfl rfl rfl ?_
        | ((with_reducible apply ex_and); exact rfl)
        | ((with_reducible refine Z.rngN.mk ?_); (try subst hlb)))
      all_goals (try (conv => whnf))
      refine Z.loopK tabOk (fun zq : Nat × List Int × Int => [(2, .val (.int .i64 (zq.1 : Int))), (3, .val (.int .i64 zq.2.2))]) (fun zq : Nat × List Int × Int => ([(20, some (Z.Ob.b ⟨zq.2.1.map cU, 1, 25, false⟩)), (11, some (Z.Ob.b ⟨[[.gsl 20 (zq.2.1.map cU)]], 1, 28, true⟩))] : Z.Kr)) (fun zq => revI (g0 :: gs) zq.1 zq.2.1 ∧ zq.2.2 = ((g0 :: gs).length : Int) - 1 - zq.1) (fun zq => (g0 :: gs).length - zq.1) (0, g0 :: gs, (((g0 :: gs).map cU).length : Int) - 1) 21 [(0, _)] ⟨rfl, trivial⟩ [(0, some _), (1, some _), (2, some _), (3, some _), (4, some _), (5, some _), (6, some _), (7, some _), (8, some _), (9, some _), (10, some _), (12, some _), (13, some _)] ⟨rfl, rfl, rfl, rfl, rfl, rfl, rfl, rfl, rfl, rfl, rfl, rfl, rfl, trivial⟩ ?_ ?_ rfl rfl ⟨revI_0 _, by simp⟩ ?_
      · repeat' (first | exact trivial | apply And.intro | exact ⟨_, rfl, rfl⟩ | exact ⟨_, rfl, Z.Imp.refl _⟩ | exact ⟨_, rfl, Z.Imp.nilg _⟩ | exact ⟨_, rfl, Z.Imp.nilr _ _⟩)
      · repeat' (first | exact trivial | (intro b hb; cases hb; done) | exact (fun b hb => ⟨b, hb, Z.ImpO.refl b⟩) | (intro b hb; cases hb; refine ⟨_, rfl, ⟨rfl, rfl, rfl⟩, ?_⟩; (repeat' (first | exact trivial | apply And.intro | exact Z.Imp.refl _ | exact Z.Imp.nilg _ | exact Z.Imp.nilr _ _)); done) | apply And.intro)
      rintro ⟨ii, cur, j⟩ HINV
      dsimp only at HINV ⊢
      obtain ⟨HR, HJ⟩ := HINV
      have hcl := HR.2.1
      by_cases hij : ii + ii + 1 < (g0 :: gs).length
      · obtain ⟨⟨a, ha, ha2⟩, c, hc, hc2⟩ := revI_at HR hij
        generalize hn : (g0 :: gs).length - 1 - ii = n9 at *
        repeat' ((conv => whnf); first
          | (with_reducible refine spB_dec ?_ ?_ <;> intro _ <;> (try (exfalso; first | contradiction | omega | (simp only [LN] at *; omega))))
          | ((with_reducible refine ixN_mk n9 ?_ ?_ ?_); (focus omega); (focus ((try simp only [LN] at *) <;> omega)))
          | ((with_reducible refine ixN_mk ii ?_ ?_ ?_); (focus rfl); (focus ((try simp only [LN] at *) <;> omega)))
          | ((with_reducible refine rowN_mk (cU a) ?_ ?_); (focus (show (List.map cU cur)[0 + ii]? = some (cU a); rw [Nat.zero_add, List.getElem?_map, ha]; rfl)))
          | ((with_reducible refine rowN_mk (cU c) ?_ ?_); (focus (show (List.map cU cur)[0 + n9]? = some (cU c); rw [Nat.zero_add, List.getElem?_map, hc]; rfl)))
          | ((with_reducible refine rowN_mk (cU c) ?_ ?_); (focus (show ((List.map cU cur).set (0 + ii) _)[0 + n9]? = some (cU c); rw [List.getElem?_set_ne (by omega), Nat.zero_add, List.getElem?_map, hc]; rfl)))
          | with_reducible refine wr_i64 (by first | omega | (simp only [LN] at *; omega)) ?_
          | with_reducible first | refine Z.drawZ_rule tabOk mixOk ?_ | refine Z.apZ_mk (by kernel_rfl) ?_)
        all_goals (try (conv => whnf))
        all_goals first
          | ((refine Z.rnd_rw 20 (((cur.set ii c).set n9 a).map cU) rfl rfl ?_ ?_); (focus (rw [Nat.zero_add, Nat.zero_add, List.map_set, List.map_set]; rfl)); ((refine Z.rnd_bi 11 [[.gsl 20 (((cur.set ii c).set n9 a).map cU)]] rfl rfl ⟨⟨Z.Imp.gsl (by simp), trivial⟩, trivial⟩ ?_); ((refine Z.rndK ((ii + 1, (cur.set ii c).set n9 a, j - 1)) (fun s => [0, 1, 2, 3, 4, 5, 6, 7, 8, 9, 10, 11, 12, 13, 14, 15, 16, 17, 18, 19, s.idIn 11 0]) rfl rfl rfl rfl ?_ ?_ ?_ ?_); (focus (repeat' (first | exact trivial | exact rfl | (rw [List.map_append]; exact rfl) | apply And.intro))); (focus (repeat' (first | exact trivial | (intro b hb; cases hb; rfl) | (intro b hb; cases hb; subst hlb; rfl) | (intro b hb; cases hb; rw [List.map_append]; rfl) | (intro b hb; cases hb; done) | exact Z.blk_sub rfl rfl (ren_map fun _ => rfl) | exact Z.blk_sub rfl rfl (Z.ren_app (ren_map fun _ => rfl) (ren_map fun _ => rfl)) | exact Z.blk_sub rfl (by first | (rw [List.map_append]; rfl) | (rw [List.map_set]; rfl) | simp only [List.map_append, List.map_cons, List.map_nil, List.map_set]) (ren_map fun _ => rfl) | exact Z.gB_sub rfl rfl (ren_map fun _ => rfl) | exact Z.gB_sub' rfl (by first | rfl | (rw [List.map_append]; rfl) | simp only [List.map_append, List.map_cons, List.map_nil]) (ren_map fun _ => rfl) | apply And.intro))); (focus (refine ⟨?_, by (try dsimp only); omega⟩; subst hn; exact revI_step HR hij ha2 hc2)); (dsimp only; omega))))
          | (fail)
      · have hcr := revI_end HR (by omega)
        have hgr : cur = goneF keep (l.set i ⟨q.num, q.save, false⟩) := by rw [hcr, hg9, List.reverse_reverse]
        repeat' ((conv => whnf); first
          | (with_reducible refine spB_dec ?_ ?_ <;> intro _ <;> (try (exfalso; first | contradiction | omega | (simp only [LN] at *; omega))))
          | ((with_reducible apply ex_and); exact rfl)
          | with_reducible first | refine Z.drawZ_rule tabOk mixOk ?_ | refine Z.apZ_mk (by kernel_rfl) ?_)
        all_goals (try (conv => whnf))
        all_goals first
          | (refine Z.retF2 [.agg [.v (.int .i64 keep), .osl 12 0 K.length none], .one (.gsl 20 (cur.map cU)), .one (.v (.int .i64 0))] (by kernel_rfl) ⟨⟨rfl, (by show Z.frzC _ _ (.ro true 3 ((keptF keep (l.set i ⟨q.num, q.save, false⟩)).map eK)); rw [← hK9]; exact Z.frz_oslw (l := K) (rows := (padK (l.length) K).map cK) (f := cK) (ty := 44) (bx := false) (by kernel_rfl) rfl (padK_take rfl) (fun _ => rfl)), trivial⟩, (by show Z.frzA _ _ (.one (.ro true 1 ((goneF keep (l.set i ⟨q.num, q.save, false⟩)).map eU))); rw [← hgr]; exact fz_cur rfl hcl), rfl, trivial⟩)
          | (fail)

end Go.Proofs.Ytnlcmncfbiognaa
