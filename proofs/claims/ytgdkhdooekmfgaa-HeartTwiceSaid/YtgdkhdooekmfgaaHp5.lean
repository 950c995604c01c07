import Derived.Test.YtgdkhdooekmfgaaHp2
namespace Go.Proofs.Ytgdkhdooekmfgaa
open Go Go.RowKit Wx
set_option linter.unusedVariables false
set_option linter.unusedSimpArgs false
set_option maxHeartbeats 4000000
theorem gone_yes {to span : Int} {l : List Pu} {i : Nat} {x : Pu} (h : l[i]? = some x) (hd : x.down = false ∧ x.heard + span ≤ to) : goneP to span (l.take (i + 1)) = goneP to span (l.take i) ++ [x.wk] := by
  rw [take_snoc h]; unfold goneP; rw [List.filter_append, List.map_append]; simp [hd]
theorem gone_no {to span : Int} {l : List Pu} {i : Nat} {x : Pu} (h : l[i]? = some x) (hd : ¬ (x.down = false ∧ x.heard + span ≤ to)) : goneP to span (l.take (i + 1)) = goneP to span (l.take i) := by
  rw [take_snoc h]; unfold goneP; rw [List.filter_append, List.map_append]; simp [hd]
theorem pass_snoc {to span : Int} {l : List Pu} {i : Nat} {x : Pu} (h : l[i]? = some x) : (l.take (i + 1)).map (passP to span) = (l.take i).map (passP to span) ++ [passP to span x] := by rw [take_snoc h, List.map_append]; rfl
theorem fz_pass {to span : Int} {l A : List Pu} {i n : Nat} (hA : A = (l.take i).map (passP to span)) (hi : ¬ i < l.length) (hn : n = l.length) : List.take n ((A ++ l.drop i).map cP) = (l.map (passP to span)).map cP := by
  subst hA hn
  rw [take_end hi, drop_end hi, List.append_nil, List.take_of_length_le (by simp)]
theorem pass_arg (now span to : Int) (l : List Pu) (hl : l.length ≤ 4) (hk : okH now span l = true) (ht : ¬ (now ≤ to ∧ to ≤ 1099511627776)) : Con Try.prog 26 [.agg [.v (.int .i64 now), .v (.int .i64 span), .ro false 3 ((l).map eP)], .one (.v (.int .i64 to))] (fun rx rK rt => rx = .tup [.agg [.v (.int .i64 0), .v (.int .i64 0), .ro true 3 ((([] : List Pu)).map eP)], .one (.ro true 1 ((([] : List Int)).map eI)), .one (.v (.int .i64 2))] ∧ rK = [] ∧ rt = 0) := by
  refine Z.con_ofF tabOk 19 Try.f26 _ Try.func26 (by kernel_rfl) rfl rfl rfl rfl ?_
  obtain ⟨hok1, hok2, hok3⟩ := okH_all hk
  repeat' ((conv => whnf); first
    | with_reducible first | refine spB_t ?_
    | ((with_reducible apply spB_cong); (focus (simp only [beq_self_eq_true, bne_self_eq_false, Bool.true_bne, Bool.false_bne, Bool.bne_true, Bool.bne_false, Bool.true_beq, Bool.false_beq, Bool.not_true, Bool.not_false, Bool.not_not, Int.reduceBEq, Int.reduceBNe, Int.reduceLE, Int.reduceLT, Int.reduceEq, decide_true, decide_false, hk]; rfl)))
    | with_reducible first | refine spB_yes (by decide) ?_ | refine spB_no (by decide) ?_ | refine spB_f ?_ | refine spB_not ?_ | refine spB_yes (by assumption) ?_ | refine spB_no (by assumption) ?_
    | (with_reducible refine spB_dec ?_ ?_ <;> intro _ <;> (try (exfalso; first | contradiction | omega | (rename_i hz; exact hz (by simp; done)) | (simp only [LN] at *; omega))))
    | ((with_reducible refine cpyN.mk ?_ ?_ ?_ ?_); (focus (first | rfl | (simp; done))); (focus (first | exact one_all (by rfl) | exact one_map (fun _ => rfl) | exact one_map2 (fun _ => rfl))); (focus ((try simp only [LN] at *) <;> omega)))
    | with_reducible first | refine apN_mk (by kernel_rfl) ?_ | refine Z.callZ_in tabOk 29 Try.f39 _ Try.func39 (by kernel_rfl) rfl rfl rfl ?_ | refine Z.callZ_in tabOk 41 Try.f43 _ Try.func43 (by kernel_rfl) rfl rfl rfl ?_ | refine Z.callZ_in tabOk 6 Try.f44 _ Try.func44 (by kernel_rfl) rfl rfl rfl ?_ | refine Z.callZ_in tabOk 31 Try.f58 _ Try.func58 (by kernel_rfl) rfl rfl rfl ?_ | refine Z.callZ_in tabOk 10 Try.f38 _ Try.func38 (by kernel_rfl) rfl rfl rfl ?_
    | ((first | (with_reducible apply Z.conZ_mz ?_ (mayBe_con _ _ _ ?_) ?_) | (with_reducible apply Z.callZ_mk ?_ (mayBe_con _ _ _ ?_) ?_)); (rotate_left 3); (focus ((repeat' (first | exact trivial | exact rfl | exact Z.low_nil | exact Z.low_nil2 | exact low_osl (fun _ => rfl) | (refine Z.low_osln ?_ (fun _ => rfl); (simp only [List.length_map]; done)) | exact low_oslr (fun _ => rfl) | exact Z.low_gslm (by first | rfl | exact Z.kb_some rfl) (fun _ => rfl) | exact .inl rfl | exact .inr ⟨_, rfl⟩ | apply And.intro)); done)); (iterate 1 (focus (first | assumption | omega | ((try simp only [LN] at *); omega)))))
    | ((with_reducible apply ex_and); exact rfl)
    | ((with_reducible refine Z.mkN_nat ?_ ?_ ?_ ?_); (focus ((try simp only [LN] at *) <;> omega)); (focus ((try simp only [LN] at *) <;> omega)); (focus ((try simp only [LN] at *) <;> omega)))
    | with_reducible first | refine Z.drawZ_rule tabOk mixOk ?_ | refine Z.apZ_mk (by kernel_rfl) ?_
    | (focus (exact (rfl : Nat.ble _ _ = true))))
  all_goals (try (conv => whnf))
  all_goals try (show Nat.ble _ _ = true; rfl)
  all_goals first
    | ((first | (with_reducible apply Z.retF1) | (with_reducible apply Z.retF2) | (with_reducible apply Z.retF0)); (focus (exact rfl)); (repeat' (first | exact trivial | (with_reducible apply Z.frz_one) | (with_reducible apply Z.frz_agg) | (with_reducible apply Z.fq_int) | (with_reducible apply Z.fq_bool) | (exact Z.frz_nil) | (exact Z.frz_osl0 rfl rfl rfl) | (with_reducible apply Z.fq_nil) | (with_reducible apply Z.fq_ro) | ((with_reducible apply Z.fq_gsl); (focus (first | rfl | exact Z.isB_map _ | exact Z.gB_snoc.symm)); (focus (exact fun _ => rfl))) | ((with_reducible apply Z.fq_osl); (focus (exact rfl)); (focus (first | exact rfl | (simp only [List.length_map, Nat.zero_add]; done) | ((try simp only [LN] at *) <;> omega))); (focus (exact fun _ => rfl))) | ((with_reducible apply Z.fq_src); (focus (exact rfl)); (focus (first | exact rfl | (simp only [List.length_map, Nat.zero_add]; done) | ((try simp only [LN] at *) <;> omega))); (focus (exact fun _ => rfl))) | exact rfl | ((apply Z.fq_osl); (focus (exact rfl)); (focus (first | exact rfl | (simp only [List.length_map, Nat.zero_add]; done) | ((try simp only [LN] at *) <;> omega))); (focus (exact fun _ => rfl))) | ((apply Z.fq_src); (focus (exact rfl)); (focus (first | exact rfl | (simp only [List.length_map, Nat.zero_add]; done) | ((try simp only [LN] at *) <;> omega))); (focus (exact fun _ => rfl))) | (apply Z.fq_ro) | (apply Z.fq_int) | (apply Z.fq_bool) | apply And.intro)); (all_goals (try exact (fun _ => none))); all_goals (rfl))
    | (exfalso; simp_all; done)
    | (fail)

theorem pass_t (now span to : Int) (l : List Pu) (hl : l.length ≤ 4) (hk : okH now span l = true) (ht : now ≤ to ∧ to ≤ 1099511627776) : Con Try.prog 26 [.agg [.v (.int .i64 now), .v (.int .i64 span), .ro false 3 ((l).map eP)], .one (.v (.int .i64 to))] (fun rx rK rt => rx = .tup [.agg [.v (.int .i64 to), .v (.int .i64 span), .ro true 3 ((l.map (passP to span)).map eP)], .one (.ro true 1 ((goneP to span l).map eI)), .one (.v (.int .i64 0))] ∧ rK = [] ∧ rt = 0) := by
  refine Z.con_ofF tabOk 19 Try.f26 _ Try.func26 (by kernel_rfl) rfl rfl rfl rfl ?_
  obtain ⟨hok1, hok2, hok3⟩ := okH_all hk
  repeat' ((conv => whnf); first
    | ((with_reducible apply spB_cong); (focus (simp only [beq_self_eq_true, bne_self_eq_false, Bool.true_bne, Bool.false_bne, Bool.bne_true, Bool.bne_false, Bool.true_beq, Bool.false_beq, Bool.not_true, Bool.not_false, Bool.not_not, Int.reduceBEq, Int.reduceBNe, Int.reduceLE, Int.reduceLT, Int.reduceEq, decide_true, decide_false, hk]; rfl)))
    | with_reducible first | refine spB_yes (by decide) ?_ | refine spB_no (by decide) ?_ | refine spB_f ?_ | refine spB_not ?_ | refine spB_yes (by assumption) ?_ | refine spB_no (by assumption) ?_
    | (with_reducible refine spB_dec ?_ ?_ <;> intro _ <;> (try (exfalso; first | contradiction | omega | (rename_i hz; exact hz (by simp; done)) | (simp only [LN] at *; omega))))
    | ((with_reducible refine cpyN.mk ?_ ?_ ?_ ?_); (focus (first | rfl | (simp; done))); (focus (first | exact one_all (by rfl) | exact one_map (fun _ => rfl) | exact one_map2 (fun _ => rfl))); (focus ((try simp only [LN] at *) <;> omega)))
    | with_reducible first | refine apN_mk (by kernel_rfl) ?_ | refine Z.callZ_in tabOk 29 Try.f39 _ Try.func39 (by kernel_rfl) rfl rfl rfl ?_ | refine Z.callZ_in tabOk 41 Try.f43 _ Try.func43 (by kernel_rfl) rfl rfl rfl ?_ | refine Z.callZ_in tabOk 6 Try.f44 _ Try.func44 (by kernel_rfl) rfl rfl rfl ?_ | refine Z.callZ_in tabOk 31 Try.f58 _ Try.func58 (by kernel_rfl) rfl rfl rfl ?_ | refine Z.callZ_in tabOk 10 Try.f38 _ Try.func38 (by kernel_rfl) rfl rfl rfl ?_
    | ((first | (with_reducible apply Z.conZ_mz ?_ (mayBe_con _ _ _ ?_) ?_) | (with_reducible apply Z.callZ_mk ?_ (mayBe_con _ _ _ ?_) ?_)); (rotate_left 3); (focus ((repeat' (first | exact trivial | exact rfl | exact Z.low_nil | exact Z.low_nil2 | exact low_osl (fun _ => rfl) | (refine Z.low_osln ?_ (fun _ => rfl); (simp only [List.length_map]; done)) | exact low_oslr (fun _ => rfl) | exact Z.low_gslm (by first | rfl | exact Z.kb_some rfl) (fun _ => rfl) | exact .inl rfl | exact .inr ⟨_, rfl⟩ | apply And.intro)); done)); (iterate 1 (focus (first | assumption | omega | ((try simp only [LN] at *); omega)))))
    | ((with_reducible apply ex_and); exact rfl)
    | ((with_reducible refine Z.mkN_nat ?_ ?_ ?_ ?_); (focus ((try simp only [LN] at *) <;> omega)); (focus ((try simp only [LN] at *) <;> omega)); (focus ((try simp only [LN] at *) <;> omega)))
    | ((with_reducible refine Z.RangeZ.red ?_); (refine Z.range_rule [(2, _), (3, _), (4, _), (23, _)] rfl ⟨rfl, rfl, rfl, rfl, trivial⟩ rfl rfl ?_); intro lb hlb)
    | with_reducible first | refine Z.drawZ_rule tabOk mixOk ?_ | refine Z.apZ_mk (by kernel_rfl) ?_
    | (focus (exact (rfl : Nat.ble _ _ = true))))
  all_goals (try (conv => whnf))
  all_goals try (show Nat.ble _ _ = true; rfl)
  refine Z.loopK tabOk (fun zq : Nat × List Pu × List Int => [(9, .val (.int .i64 (zq.1 : Int)))]) (fun zq : Nat × List Pu × List Int => ([(6, some (Z.Ob.b ⟨(zq.2.1 ++ l.drop zq.1).map cP, 3, 37, false⟩)), (3, some (Z.Ob.b ⟨[[.gsl 11 (zq.2.2.map cI)]], 1, 30, true⟩)), (11, (gB 1 3 (zq.2.2.map cI)).map Z.Ob.b)] : Z.Kr)) (fun zq => zq.1 ≤ l.length ∧ zq.2.1 = (l.take zq.1).map (passP to span) ∧ zq.2.2 = goneP to span (l.take zq.1)) (fun zq => l.length - zq.1) (0, [], []) 12 [(0, _), (1, _), (2, _), (7, _), (8, _)] ⟨rfl, rfl, rfl, rfl, rfl, trivial⟩ [(0, some _), (1, some _), (2, some _), (4, some _), (5, some _), (7, some _), (8, some _), (9, some _), (10, some _)] ⟨rfl, rfl, rfl, rfl, rfl, rfl, rfl, rfl, rfl, trivial⟩ ?_ ?_ rfl rfl ⟨Nat.zero_le _, rfl, rfl⟩ ?_
  · repeat' (first | exact trivial | apply And.intro | exact ⟨_, rfl, rfl⟩ | exact ⟨_, rfl, Z.Imp.refl _⟩ | exact ⟨_, rfl, Z.Imp.nilg _⟩ | exact ⟨_, rfl, Z.Imp.nilr _ _⟩)
  · repeat' (first | exact trivial | (intro b hb; cases hb; done) | exact (fun b hb => ⟨b, hb, Z.ImpO.refl b⟩) | (intro b hb; cases hb; refine ⟨_, rfl, ⟨rfl, rfl, rfl⟩, ?_⟩; (repeat' (first | exact trivial | apply And.intro | exact Z.Imp.refl _ | exact Z.Imp.nilg _ | exact Z.Imp.nilr _ _)); done) | (intro b hb; cases hb; refine ⟨_, rfl, ⟨rfl, rfl, rfl⟩, Z.imp_eq ?_⟩; show _ = l.map cP; exact Z.lay_copy (by simp) (Nat.le_min.2 ⟨by simp, by simp⟩) (fun _ => rfl); done) | apply And.intro)
  rintro ⟨i, A, g⟩ HINV
  dsimp only at HINV ⊢
  obtain ⟨HI, HA, HG⟩ := HINV
  have hgl : g.length ≤ 4 := by rw [HG]; unfold goneP; rw [List.length_map]; exact Nat.le_trans (List.length_filter_le _ _) (by rw [List.length_take]; omega)
  by_cases hil : i < l.length
  · obtain ⟨x, hx⟩ := getElem?_some' (xs := l) (i := i) hil
    have hx9 := hok3 x (List.mem_of_getElem? hx)
    have hAl : i = A.length := by rw [HA, List.length_map, List.length_take]; omega
    rw [drop_cons hx]
    repeat' ((conv => whnf); first
      | with_reducible first | refine spB_t ?_
      | ((with_reducible apply spB_cong); (focus (simp only [beq_self_eq_true, bne_self_eq_false, Bool.true_bne, Bool.false_bne, Bool.bne_true, Bool.bne_false, Bool.true_beq, Bool.false_beq, Bool.not_true, Bool.not_false, Bool.not_not, Int.reduceBEq, Int.reduceBNe, Int.reduceLE, Int.reduceLT, Int.reduceEq, decide_true, decide_false]; rfl)))
      | with_reducible first | refine spB_yes (by decide) ?_ | refine spB_no (by decide) ?_ | refine spB_f ?_ | refine spB_not ?_ | refine spB_yes (by assumption) ?_ | refine spB_no (by assumption) ?_
      | (with_reducible refine spB_dec ?_ ?_ <;> intro _ <;> (try (exfalso; first | contradiction | omega | (rename_i hz; exact hz (by simp; done)) | (simp only [LN] at *; omega))))
      | (with_reducible refine spB_mk ?_ ?_ <;> intro _ <;> (try (exfalso; first | contradiction | omega | (rename_i hz; exact hz (by simp; done)) | (simp only [LN] at *; omega))))
      | with_reducible first | refine Z.rowN_known hx ?_
      | ((with_reducible refine ixN_mk i ?_ ?_ ?_); (focus rfl); (focus ((try simp only [LN] at *) <;> omega)))
      | ((with_reducible refine rowN_mk (cP x) ?_ ?_); (focus (exact get_mid2 hAl)))
      | ((with_reducible refine posE_pos ?_ ?_); (focus ((try simp only [LN] at *) <;> omega)))
      | ((with_reducible refine apdN.mk ?_ ?_ ?_ ?_ ?_ ?_); (focus (first | rfl | (simp; done))); (focus (first | exact one_all (by rfl) | exact one_map (fun _ => rfl) | exact one_map2 (fun _ => rfl))); (focus ((try simp only [LN] at *) <;> omega)); (focus ((try simp only [LN] at *) <;> omega)); (focus ((try simp only [LN] at *) <;> omega)))
      | with_reducible refine wr_i64 (by first | omega | (simp only [LN] at *; omega)) ?_
      | with_reducible first | refine apN_mk (by kernel_rfl) ?_ | refine Z.callZ_in tabOk 29 Try.f39 _ Try.func39 (by kernel_rfl) rfl rfl rfl ?_ | refine Z.callZ_in tabOk 41 Try.f43 _ Try.func43 (by kernel_rfl) rfl rfl rfl ?_ | refine Z.callZ_in tabOk 6 Try.f44 _ Try.func44 (by kernel_rfl) rfl rfl rfl ?_ | refine Z.callZ_in tabOk 31 Try.f58 _ Try.func58 (by kernel_rfl) rfl rfl rfl ?_ | refine Z.callZ_in tabOk 10 Try.f38 _ Try.func38 (by kernel_rfl) rfl rfl rfl ?_
      | ((with_reducible refine eqN_mk2 ?_ ?_); (focus (exact Z.kb_some rfl)))
      | ((with_reducible apply ex_and); exact rfl)
      | ((with_reducible refine Z.CallZ.yl ?_); refine Z.yield_rule tabOk _ _ rfl rfl rfl rfl ?_)
      | with_reducible first | refine Z.drawZ_rule tabOk mixOk ?_ | refine Z.apZ_mk (by kernel_rfl) ?_
      | ((with_reducible refine Z.ConZ.red ?_); (try subst hlb); (apply Z.conZ_all); (focus (repeat (first | exact Z.FK.nil | (apply Z.FK.keep; exact rfl)))); (focus rfl); (focus rfl); (focus (repeat (first | exact trivial | (refine ⟨(fun o ho => (by first | (cases ho; rfl) | (cases ho; exact Z.inL_map fun _ => rfl) | (cases ho; exact Z.inL_mapr fun _ => rfl) | exact Z.inL_gB ho fun _ => rfl)), ?_⟩)))))
      | ((refine ⟨rfl, ?_, rfl⟩); (focus (repeat (first | exact Z.DK.nil | apply Z.DK.cons))))
      | (focus (exact (rfl : Nat.ble _ _ = true))))
    all_goals (try (conv => whnf))
    all_goals try (show Nat.ble _ _ = true; rfl)
    all_goals first
      | ((refine Z.rnd_rw 6 (((A ++ [passP to span x]) ++ l.drop (i + 1)).map cP) rfl rfl ?_ ?_); (focus (rw [show passP to span x = ⟨x.wk, x.heard, true⟩ from if_pos ⟨by assumption, by omega⟩]; refine (set_mid2 (y := ⟨x.wk, x.heard, true⟩) hAl).trans ?_; simp)); ((refine Z.rndK ((i + 1, A ++ [passP to span x], g ++ [x.wk])) (fun s => [0, 1, 2, 3, 4, 5, 6, 7, 8, 9, 10, s.idIn 3 0]) rfl rfl rfl rfl ?_ ?_ ?_ ?_); (focus (repeat' (first | exact trivial | exact rfl | (rw [List.map_append]; exact rfl) | apply And.intro))); (focus (repeat' (first | exact trivial | (intro b hb; cases hb; rfl) | (intro b hb; cases hb; subst hlb; rfl) | (intro b hb; cases hb; rw [List.map_append (f := cI)]; rfl) | (intro b hb; cases hb; rw [List.map_append]; rfl) | (intro b hb; cases hb; done) | exact Z.blk_sub rfl rfl (ren_map fun _ => rfl) | exact Z.blk_sub rfl rfl (Z.ren_app (ren_map fun _ => rfl) (ren_map fun _ => rfl)) | exact Z.blk_sub rfl (by first | (rw [List.map_append]; rfl) | (rw [List.map_set]; rfl) | simp only [List.map_append, List.map_cons, List.map_nil, List.map_set]) (ren_map fun _ => rfl) | exact Z.gB_sub rfl rfl (ren_map fun _ => rfl) | exact Z.gB_sub' rfl (by first | rfl | (rw [List.map_append]; rfl) | simp only [List.map_append, List.map_cons, List.map_nil]) (ren_map fun _ => rfl) | apply And.intro))); (focus (refine ⟨by (try simp only [LN] at *) <;> omega, by dsimp only; rw [HA, pass_snoc hx], by dsimp only; rw [HG, gone_yes hx (by first | exact ⟨by assumption, by omega⟩ | (rintro ⟨h1, h2⟩; first | omega | exact absurd (h1.symm.trans (by assumption)) Bool.false_ne_true))]⟩)); (dsimp only; omega)))
      | ((refine Z.rnd_rw 6 (((A ++ [passP to span x]) ++ l.drop (i + 1)).map cP) rfl rfl ?_ ?_); (focus (rw [show passP to span x = x from if_neg (by rintro ⟨h1, h2⟩; first | omega | exact absurd (h1.symm.trans (by assumption)) Bool.false_ne_true)]; simp)); ((refine Z.rndK ((i + 1, A ++ [passP to span x], g)) (fun s => [0, 1, 2, 3, 4, 5, 6, 7, 8, 9, 10, s.idIn 3 0]) rfl rfl rfl rfl ?_ ?_ ?_ ?_); (focus (repeat' (first | exact trivial | exact rfl | (rw [List.map_append]; exact rfl) | apply And.intro))); (focus (repeat' (first | exact trivial | (intro b hb; cases hb; rfl) | (intro b hb; cases hb; subst hlb; rfl) | (intro b hb; cases hb; rw [List.map_append]; rfl) | (intro b hb; cases hb; done) | exact Z.blk_sub rfl rfl (ren_map fun _ => rfl) | exact Z.blk_sub rfl rfl (Z.ren_app (ren_map fun _ => rfl) (ren_map fun _ => rfl)) | exact Z.blk_sub rfl (by first | (rw [List.map_append]; rfl) | (rw [List.map_set]; rfl) | simp only [List.map_append, List.map_cons, List.map_nil, List.map_set]) (ren_map fun _ => rfl) | exact Z.gB_sub rfl rfl (ren_map fun _ => rfl) | exact Z.gB_sub' rfl (by first | rfl | (rw [List.map_append]; rfl) | simp only [List.map_append, List.map_cons, List.map_nil]) (ren_map fun _ => rfl) | apply And.intro))); (focus (refine ⟨by (try simp only [LN] at *) <;> omega, by dsimp only; rw [HA, pass_snoc hx], by dsimp only; rw [HG, gone_no hx (by first | exact ⟨by assumption, by omega⟩ | (rintro ⟨h1, h2⟩; first | omega | exact absurd (h1.symm.trans (by assumption)) Bool.false_ne_true))]⟩)); (dsimp only; omega)))
      | (fail)
  · skip
    repeat' ((conv => whnf); first
      | ((with_reducible apply spB_cong); (focus (simp only [beq_self_eq_true, bne_self_eq_false, Bool.true_bne, Bool.false_bne, Bool.bne_true, Bool.bne_false, Bool.true_beq, Bool.false_beq, Bool.not_true, Bool.not_false, Bool.not_not, Int.reduceBEq, Int.reduceBNe, Int.reduceLE, Int.reduceLT, Int.reduceEq, decide_true, decide_false]; rfl)))
      | with_reducible first | refine spB_yes (by decide) ?_ | refine spB_no (by decide) ?_ | refine spB_f ?_ | refine spB_not ?_ | refine spB_yes (by assumption) ?_ | refine spB_no (by assumption) ?_
      | (with_reducible refine spB_dec ?_ ?_ <;> intro _ <;> (try (exfalso; first | contradiction | omega | (rename_i hz; exact hz (by simp; done)) | (simp only [LN] at *; omega))))
      | ((with_reducible apply ex_and); exact rfl)
      | ((with_reducible refine Z.rngN.mk ?_); (try subst hlb))
      | with_reducible first | refine Z.drawZ_rule tabOk mixOk ?_ | refine Z.apZ_mk (by kernel_rfl) ?_
      | (focus (exact (rfl : Nat.ble _ _ = true))))
    all_goals (try (conv => whnf))
    all_goals try (show Nat.ble _ _ = true; rfl)
    all_goals first
      | (refine Z.retF2 [.agg [.v (.int .i64 to), .v (.int .i64 span), .osl 6 0 (l.map eP).length (some (l.map eP).length)], .one (.gsl 11 (g.map cI)), .one (.v (.int .i64 0))] (by rfl) ⟨⟨rfl, rfl, (Z.frz_oslw (l := l.map (passP to span)) (f := cP) (ty := 37) (bx := false) (by rfl) (by simp) (fz_pass HA hil (by simp)) (fun _ => rfl)), trivial⟩, (by rw [take_end hil] at HG; rw [← HG]; exact ⟨1, 3, _, rfl, Z.isB_map _, by rw [List.map_map, List.map_map]; exact List.map_congr_left fun x _ => rfl⟩), rfl, trivial⟩)
      | (exfalso; (try simp only [LN] at *) <;> omega)
      | (fail)

end Go.Proofs.Ytgdkhdooekmfgaa
