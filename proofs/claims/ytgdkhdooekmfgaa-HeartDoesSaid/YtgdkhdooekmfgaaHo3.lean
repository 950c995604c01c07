import Derived.Test.YtgdkhdooekmfgaaHo2
import Derived.Test.YtgdkhdooekmfgaaHp5
namespace Go.Proofs.Ytgdkhdooekmfgaa
open Go Go.RowKit Wx
set_option linter.unusedVariables false
set_option linter.unusedSimpArgs false
set_option maxHeartbeats 4000000
theorem rdrop_con (now span w : Int) (l : List Pu) (hk : okH now span l = true) : Con Try.prog 35 [.agg [.v (.int .i64 now), .v (.int .i64 span), .ro false 3 ((l).map eP)], .one (.v (.int .i64 w))] (fun rx rK rt => rx = .tup [.agg [.v (.int .i64 (dropR now span w l).now), .v (.int .i64 (dropR now span w l).span), .ro true 3 (((dropR now span w l).rows).map eP)], .one (.v (.int .i64 (dropR now span w l).err))] ∧ rK = [] ∧ rt = 0) := by
  refine Z.con_ofF tabOk 35 Try.f35 _ Try.func35 (by kernel_rfl) rfl rfl rfl rfl ?_
  obtain ⟨hok1, hok2, hok3⟩ := okH_all hk
  have hl := okH_len2 hk
  repeat' ((conv => whnf); first
    | ((with_reducible apply ex_and); exact rfl))
  all_goals (try (conv => whnf))
  refine Z.loopK tabOk (fun zq : Nat × List Pu => [(12, .val (.int .i64 (zq.1 : Int))), (6, .c (.gsl 2 (zq.2.map cP)))]) (fun zq : Nat × List Pu => ([(2, (gB 3 37 (zq.2.map cP)).map Z.Ob.b)] : Z.Kr)) (fun zq => zq.1 ≤ l.length ∧ zq.2 = ((l.take zq.1).filter (fun p => decide (p.wk ≠ w)))) (fun zq => l.length - zq.1) (0, []) 3 [(1, _), (2, _), (4, _), (10, _), (11, _)] ⟨rfl, rfl, rfl, rfl, rfl, trivial⟩ [(0, some _), (1, some _)] ⟨rfl, rfl, trivial⟩ ?_ ?_ rfl rfl ⟨Nat.zero_le _, rfl⟩ ?_
  · repeat' (first | exact trivial | apply And.intro | exact ⟨_, rfl, rfl⟩ | exact ⟨_, rfl, Z.Imp.refl _⟩ | exact ⟨_, rfl, Z.Imp.nilg _⟩ | exact ⟨_, rfl, Z.Imp.nilr _ _⟩)
  · repeat' (first | exact trivial | (intro b hb; cases hb; done) | exact (fun b hb => ⟨b, hb, Z.ImpO.refl b⟩) | (intro b hb; cases hb; refine ⟨_, rfl, ⟨rfl, rfl, rfl⟩, ?_⟩; (repeat' (first | exact trivial | apply And.intro | exact Z.Imp.refl _ | exact Z.Imp.nilg _ | exact Z.Imp.nilr _ _)); done) | apply And.intro)
  rintro ⟨i, acc⟩ HINV
  dsimp only at HINV ⊢
  obtain ⟨HI, HA⟩ := HINV
  have hal : acc.length ≤ i := by rw [HA]; exact Nat.le_trans (List.length_filter_le _ _) (by rw [List.length_take]; omega)
  by_cases hil : i < l.length
  · obtain ⟨x, hx⟩ := getElem?_some' (xs := l) (i := i) hil
    repeat' ((conv => whnf); first
      | (with_reducible refine spB_dec ?_ ?_ <;> intro _ <;> (try (exfalso; first | contradiction | omega | (rename_i hz; exact hz (by simp; done)) | (simp only [LN] at *; omega))))
      | (with_reducible refine spB_bne ?_ ?_ <;> intro _ <;> (try (exfalso; first | contradiction | omega | (rename_i hz; exact hz (by simp; done)) | (simp only [LN] at *; omega))))
      | with_reducible first | refine Z.rowN_known hx ?_
      | ((with_reducible refine posE_pos ?_ ?_); (focus ((try simp only [LN] at *) <;> omega)))
      | ((with_reducible apply ixN_litp); (focus (exact rfl)); (focus ((try simp only [LN] at *) <;> omega)))
      | ((with_reducible refine apdN.mk ?_ ?_ ?_ ?_ ?_ ?_); (focus (first | rfl | (simp; done))); (focus (first | exact one_all (by rfl) | exact one_map (fun _ => rfl) | exact one_map2 (fun _ => rfl))); (focus ((try simp only [LN] at *) <;> omega)); (focus ((try simp only [LN] at *) <;> omega)); (focus ((try simp only [LN] at *) <;> omega)))
      | with_reducible refine wr_i64 (by first | omega | (simp only [LN] at *; omega)) ?_
      | ((with_reducible refine eqN_mk2 ?_ ?_); (focus (exact Z.kb_some rfl)))
      | ((with_reducible apply ex_and); exact rfl))
    all_goals (try (conv => whnf))
    all_goals first
      | ((refine Z.rndK ((i + 1, acc ++ [x])) (fun s => [0, 1, s.idAt 6]) rfl rfl rfl rfl ?_ ?_ ?_ ?_); (focus (repeat' (first | exact trivial | exact rfl | (rw [List.map_append (f := cP)]; exact rfl) | (rw [List.map_append]; exact rfl) | apply And.intro))); (focus (repeat' (first | exact trivial | (intro b hb; cases hb; rfl) | (intro b hb; cases hb; subst hlb; rfl) | (intro b hb; cases hb; rw [List.map_append (f := cP)]; rfl) | (intro b hb; cases hb; rw [List.map_append]; rfl) | (intro b hb; cases hb; done) | exact Z.blk_sub rfl rfl (ren_map fun _ => rfl) | exact Z.blk_sub rfl rfl (Z.ren_app (ren_map fun _ => rfl) (ren_map fun _ => rfl)) | exact Z.blk_sub rfl (by first | (rw [List.map_append]; rfl) | (rw [List.map_set]; rfl) | simp only [List.map_append, List.map_cons, List.map_nil, List.map_set]) (ren_map fun _ => rfl) | exact Z.gB_sub rfl rfl (ren_map fun _ => rfl) | exact Z.gB_sub' rfl (by first | rfl | (rw [List.map_append]; rfl) | simp only [List.map_append, List.map_cons, List.map_nil]) (ren_map fun _ => rfl) | apply And.intro))); (focus (refine ⟨by (try simp only [LN] at *) <;> omega, ?_⟩; dsimp only; rw [HA, take_snoc hx, List.filter_append]; simp_all)); (try simp only [LN] at *); (try dsimp only); omega)
      | ((refine Z.rndK ((i + 1, acc)) (fun s => [0, 1, s.idAt 6]) rfl rfl rfl rfl ?_ ?_ ?_ ?_); (focus (repeat' (first | exact trivial | exact rfl | (rw [List.map_append]; exact rfl) | apply And.intro))); (focus (repeat' (first | exact trivial | (intro b hb; cases hb; rfl) | (intro b hb; cases hb; subst hlb; rfl) | (intro b hb; cases hb; rw [List.map_append]; rfl) | (intro b hb; cases hb; done) | exact Z.blk_sub rfl rfl (ren_map fun _ => rfl) | exact Z.blk_sub rfl rfl (Z.ren_app (ren_map fun _ => rfl) (ren_map fun _ => rfl)) | exact Z.blk_sub rfl (by first | (rw [List.map_append]; rfl) | (rw [List.map_set]; rfl) | simp only [List.map_append, List.map_cons, List.map_nil, List.map_set]) (ren_map fun _ => rfl) | exact Z.gB_sub rfl rfl (ren_map fun _ => rfl) | exact Z.gB_sub' rfl (by first | rfl | (rw [List.map_append]; rfl) | simp only [List.map_append, List.map_cons, List.map_nil]) (ren_map fun _ => rfl) | apply And.intro))); (focus (refine ⟨by (try simp only [LN] at *) <;> omega, ?_⟩; dsimp only; rw [HA, take_snoc hx, List.filter_append]; simp_all)); (try simp only [LN] at *); (try dsimp only); omega)
      | (exfalso; (try simp only [LN] at *) <;> omega)
      | (fail)
  rw [take_end hil, drop_eq_filter hok2] at HA
  cases ht : thereW w l
  · rw [ht] at HA
    simp only [Bool.false_eq_true, if_false] at HA
    have hal2 : acc.length = l.length := by rw [HA]
    unfold dropR; rw [ht]
    repeat' ((conv => whnf); first
      | (with_reducible refine spB_dec ?_ ?_ <;> intro _ <;> (try (exfalso; first | contradiction | omega | (rename_i hz; exact hz (by simp; done)) | (simp only [LN] at *; omega))))
      | (with_reducible refine spB_beq ?_ ?_ <;> intro _ <;> (try (exfalso; first | contradiction | omega | (rename_i hz; exact hz (by simp; done)) | (simp only [LN] at *; omega))))
      | ((with_reducible apply ex_and); exact rfl))
    all_goals (try (conv => whnf))
    all_goals first
      | ((first | (with_reducible apply Z.retF1) | (with_reducible apply Z.retF2) | (with_reducible apply Z.retF0)); (focus (exact rfl)); (repeat' (first | exact trivial | (with_reducible apply Z.frz_one) | (with_reducible apply Z.frz_agg) | (with_reducible apply Z.fq_int) | (with_reducible apply Z.fq_bool) | (exact Z.frz_nil) | (exact Z.frz_osl0 rfl rfl rfl) | (with_reducible apply Z.fq_nil) | (with_reducible apply Z.fq_ro) | ((with_reducible apply Z.fq_gsl); (focus (first | rfl | exact Z.isB_map _ | exact Z.gB_snoc.symm)); (focus (exact fun _ => rfl))) | ((with_reducible apply Z.fq_osl); (focus (exact rfl)); (focus (first | exact rfl | (simp only [List.length_map, Nat.zero_add]; done) | ((try simp only [LN] at *) <;> omega))); (focus (exact fun _ => rfl))) | ((with_reducible apply Z.fq_src); (focus (exact rfl)); (focus (first | exact rfl | (simp only [List.length_map, Nat.zero_add]; done) | ((try simp only [LN] at *) <;> omega))); (focus (exact fun _ => rfl))) | exact rfl | ((apply Z.fq_osl); (focus (exact rfl)); (focus (first | exact rfl | (simp only [List.length_map, Nat.zero_add]; done) | ((try simp only [LN] at *) <;> omega))); (focus (exact fun _ => rfl))) | ((apply Z.fq_src); (focus (exact rfl)); (focus (first | exact rfl | (simp only [List.length_map, Nat.zero_add]; done) | ((try simp only [LN] at *) <;> omega))); (focus (exact fun _ => rfl))) | (apply Z.fq_ro) | (apply Z.fq_int) | (apply Z.fq_bool) | apply And.intro)); (all_goals (try exact (fun _ => none))); all_goals (rfl))
      | (exfalso; simp_all; done)
      | (exfalso; (try simp only [LN] at *) <;> omega)
      | (fail)
  · rw [ht] at HA
    simp only [if_true] at HA
    have hlt : srch w l < l.length := by
      unfold thereW at ht
      cases hx : l[srch w l]? with
      | none => rw [hx] at ht; cases ht
      | some x => exact (List.getElem?_eq_some_iff.1 hx).1
    have hal2 : acc.length + 1 = l.length := by rw [HA, List.length_eraseIdx, if_pos hlt]; omega
    unfold dropR; rw [ht]; dsimp only [cond_true]; rw [← HA]
    repeat' ((conv => whnf); first
      | (with_reducible refine spB_dec ?_ ?_ <;> intro _ <;> (try (exfalso; first | contradiction | omega | (rename_i hz; exact hz (by simp; done)) | (simp only [LN] at *; omega))))
      | (with_reducible refine spB_beq ?_ ?_ <;> intro _ <;> (try (exfalso; first | contradiction | omega | (rename_i hz; exact hz (by simp; done)) | (simp only [LN] at *; omega))))
      | ((with_reducible apply ex_and); exact rfl))
    all_goals (try (conv => whnf))
    all_goals first
      | ((first | (with_reducible apply Z.retF1) | (with_reducible apply Z.retF2) | (with_reducible apply Z.retF0)); (focus (exact rfl)); (repeat' (first | exact trivial | (with_reducible apply Z.frz_one) | (with_reducible apply Z.frz_agg) | (with_reducible apply Z.fq_int) | (with_reducible apply Z.fq_bool) | (exact Z.frz_nil) | (exact Z.frz_osl0 rfl rfl rfl) | (with_reducible apply Z.fq_nil) | (with_reducible apply Z.fq_ro) | ((with_reducible apply Z.fq_gsl); (focus (first | rfl | exact Z.isB_map _ | exact Z.gB_snoc.symm)); (focus (exact fun _ => rfl))) | ((with_reducible apply Z.fq_osl); (focus (exact rfl)); (focus (first | exact rfl | (simp only [List.length_map, Nat.zero_add]; done) | ((try simp only [LN] at *) <;> omega))); (focus (exact fun _ => rfl))) | ((with_reducible apply Z.fq_src); (focus (exact rfl)); (focus (first | exact rfl | (simp only [List.length_map, Nat.zero_add]; done) | ((try simp only [LN] at *) <;> omega))); (focus (exact fun _ => rfl))) | exact rfl | ((apply Z.fq_osl); (focus (exact rfl)); (focus (first | exact rfl | (simp only [List.length_map, Nat.zero_add]; done) | ((try simp only [LN] at *) <;> omega))); (focus (exact fun _ => rfl))) | ((apply Z.fq_src); (focus (exact rfl)); (focus (first | exact rfl | (simp only [List.length_map, Nat.zero_add]; done) | ((try simp only [LN] at *) <;> omega))); (focus (exact fun _ => rfl))) | (apply Z.fq_ro) | (apply Z.fq_int) | (apply Z.fq_bool) | apply And.intro)); (all_goals (try exact (fun _ => none))); all_goals (rfl))
      | (exfalso; simp_all; done)
      | (exfalso; (try simp only [LN] at *) <;> omega)
      | (fail)

theorem rpass_con (now span to : Int) (l : List Pu) (hk : okH now span l = true) : Con Try.prog 34 [.agg [.v (.int .i64 now), .v (.int .i64 span), .ro false 3 ((l).map eP)], .one (.v (.int .i64 to))] (fun rx rK rt => rx = .tup [.agg [.v (.int .i64 (passR now span to l).now), .v (.int .i64 (passR now span to l).span), .ro true 3 (((passR now span to l).rows).map eP)], .one (.ro true 1 (((passR now span to l).gone).map eI)), .one (.v (.int .i64 (passR now span to l).err))] ∧ rK = [] ∧ rt = 0) := by
  refine Z.con_ofF tabOk 56 Try.f34 _ Try.func34 (by kernel_rfl) rfl rfl rfl rfl ?_
  obtain ⟨hok1, hok2, hok3⟩ := okH_all hk
  have hl := okH_len2 hk
  by_cases ht : now ≤ to ∧ to ≤ 1099511627776
  rotate_left
  · unfold passR; rw [decide_eq_false ht]
    repeat' ((conv => whnf); first
      | with_reducible first | refine spB_t ?_
      | with_reducible first | refine spB_yes (by decide) ?_ | refine spB_no (by decide) ?_ | refine spB_f ?_ | refine spB_not ?_ | refine spB_yes (by assumption) ?_ | refine spB_no (by assumption) ?_
      | (with_reducible refine spB_dec ?_ ?_ <;> intro _ <;> (try (exfalso; first | contradiction | omega | (rename_i hz; exact hz (by simp; done)) | (simp only [LN] at *; omega))))
      | ((with_reducible apply ex_and); exact rfl))
    all_goals (try (conv => whnf))
    all_goals first
      | ((first | (with_reducible apply Z.retF1) | (with_reducible apply Z.retF2) | (with_reducible apply Z.retF0)); (focus (exact rfl)); (repeat' (first | exact trivial | (with_reducible apply Z.frz_one) | (with_reducible apply Z.frz_agg) | (with_reducible apply Z.fq_int) | (with_reducible apply Z.fq_bool) | (exact Z.frz_nil) | (exact Z.frz_osl0 rfl rfl rfl) | (with_reducible apply Z.fq_nil) | (with_reducible apply Z.fq_ro) | ((with_reducible apply Z.fq_gsl); (focus (first | rfl | exact Z.isB_map _ | exact Z.gB_snoc.symm)); (focus (exact fun _ => rfl))) | ((with_reducible apply Z.fq_osl); (focus (exact rfl)); (focus (first | exact rfl | (simp only [List.length_map, Nat.zero_add]; done) | ((try simp only [LN] at *) <;> omega))); (focus (exact fun _ => rfl))) | ((with_reducible apply Z.fq_src); (focus (exact rfl)); (focus (first | exact rfl | (simp only [List.length_map, Nat.zero_add]; done) | ((try simp only [LN] at *) <;> omega))); (focus (exact fun _ => rfl))) | exact rfl | ((apply Z.fq_osl); (focus (exact rfl)); (focus (first | exact rfl | (simp only [List.length_map, Nat.zero_add]; done) | ((try simp only [LN] at *) <;> omega))); (focus (exact fun _ => rfl))) | ((apply Z.fq_src); (focus (exact rfl)); (focus (first | exact rfl | (simp only [List.length_map, Nat.zero_add]; done) | ((try simp only [LN] at *) <;> omega))); (focus (exact fun _ => rfl))) | (apply Z.fq_ro) | (apply Z.fq_int) | (apply Z.fq_bool) | apply And.intro)); (all_goals (try exact (fun _ => none))); all_goals (rfl))
      | (exfalso; simp_all; done)
      | (fail)
  unfold passR; rw [decide_eq_true ht]; dsimp only [cond_true]
  repeat' ((conv => whnf); first
    | with_reducible first | refine spB_yes (by decide) ?_ | refine spB_no (by decide) ?_ | refine spB_f ?_ | refine spB_not ?_ | refine spB_yes (by assumption) ?_ | refine spB_no (by assumption) ?_
    | (with_reducible refine spB_dec ?_ ?_ <;> intro _ <;> (try (exfalso; first | contradiction | omega | (rename_i hz; exact hz (by simp; done)) | (simp only [LN] at *; omega))))
    | ((with_reducible refine apdE_n ?_); (with_reducible refine apdN.mk ?_ ?_ ?_ ?_ ?_ ?_); (focus (simp; done)); (focus (exact one_map2 fun _ => rfl)); (focus ((try simp only [LN] at *) <;> omega)); (focus ((try simp only [LN] at *) <;> omega)); (focus ((try simp only [LN] at *) <;> omega)))
    | with_reducible first | refine apN_mk (by kernel_rfl) ?_ | refine Z.callZ_in tabOk 9 Try.f15 _ Try.func15 (by kernel_rfl) rfl rfl rfl ?_
    | ((with_reducible apply ex_and); exact rfl))
  all_goals (try (conv => whnf))
  refine Z.loopK tabOk (fun zq : Nat × List Pu × List Int => [(26, .val (.int .i64 (zq.1 : Int))), (7, .c (.gsl 6 (zq.2.2.map cI)))]) (fun zq : Nat × List Pu × List Int => ([(5, some (Z.Ob.b ⟨(zq.2.1 ++ l.drop zq.1).map cP, 3, 37, false⟩)), (6, (gB 1 3 (zq.2.2.map cI)).map Z.Ob.b)] : Z.Kr)) (fun zq => zq.1 ≤ l.length ∧ zq.2.1 = (l.take zq.1).map (passP to span) ∧ zq.2.2 = goneP to span (l.take zq.1)) (fun zq => l.length - zq.1) (0, [], []) 7 [(1, _), (2, _), (4, _), (24, _), (25, _)] ⟨rfl, rfl, rfl, rfl, rfl, trivial⟩ [(0, some _), (1, some _), (2, some _), (3, some _)] ⟨rfl, rfl, rfl, rfl, trivial⟩ ?_ ?_ rfl rfl ⟨Nat.zero_le _, rfl, rfl⟩ ?_
  · repeat' (first | exact trivial | apply And.intro | exact ⟨_, rfl, rfl⟩ | exact ⟨_, rfl, Z.Imp.refl _⟩ | exact ⟨_, rfl, Z.Imp.nilg _⟩ | exact ⟨_, rfl, Z.Imp.nilr _ _⟩)
  · repeat' (first | exact trivial | (intro b hb; cases hb; done) | exact (fun b hb => ⟨b, hb, Z.ImpO.refl b⟩) | (intro b hb; cases hb; refine ⟨_, rfl, ⟨rfl, rfl, rfl⟩, ?_⟩; (repeat' (first | exact trivial | apply And.intro | exact Z.Imp.refl _ | exact Z.Imp.nilg _ | exact Z.Imp.nilr _ _)); done) | (intro b hb; cases hb; refine ⟨_, rfl, ⟨rfl, rfl, rfl⟩, Z.imp_eq ?_⟩; show _ = l.map cP; exact cop_rows; done) | apply And.intro)
  rintro ⟨i, A, g⟩ HINV
  dsimp only at HINV ⊢
  obtain ⟨HI, HA, HG⟩ := HINV
  have hgl : g.length ≤ 4 := by rw [HG]; unfold goneP; rw [List.length_map]; exact Nat.le_trans (List.length_filter_le _ _) (by rw [List.length_take]; omega)
  by_cases hil : i < l.length
  · obtain ⟨x, hx⟩ := getElem?_some' (xs := l) (i := i) hil
    have hx9 := hok3 x (List.mem_of_getElem? hx)
    have hAl : i = A.length := by rw [HA, List.length_map, List.length_take]; omega
    rw [drop_cons hx]
    repeat' ((conv => whnf); first
      | with_reducible first | refine spB_t ?_
      | with_reducible first | refine spB_yes (by decide) ?_ | refine spB_no (by decide) ?_ | refine spB_f ?_ | refine spB_not ?_ | refine spB_yes (by assumption) ?_ | refine spB_no (by assumption) ?_
      | (with_reducible refine spB_dec ?_ ?_ <;> intro _ <;> (try (exfalso; first | contradiction | omega | (rename_i hz; exact hz (by simp; done)) | (simp only [LN] at *; omega))))
      | (with_reducible refine spB_mk ?_ ?_ <;> intro _ <;> (try (exfalso; first | contradiction | omega | (rename_i hz; exact hz (by simp; done)) | (simp only [LN] at *; omega))))
      | ((with_reducible refine ixN_mk i ?_ ?_ ?_); (focus rfl); (focus ((try simp only [LN] at *) <;> omega)))
      | ((with_reducible refine rowN_mk (cP x) ?_ ?_); (focus (exact get_mid2 hAl)))
      | ((with_reducible refine posE_pos ?_ ?_); (focus ((try simp only [LN] at *) <;> omega)))
      | ((with_reducible refine apdN.mk ?_ ?_ ?_ ?_ ?_ ?_); (focus (first | rfl | (simp; done))); (focus (first | exact one_all (by rfl) | exact one_map (fun _ => rfl) | exact one_map2 (fun _ => rfl))); (focus ((try simp only [LN] at *) <;> omega)); (focus ((try simp only [LN] at *) <;> omega)); (focus ((try simp only [LN] at *) <;> omega)))
      | with_reducible refine wr_i64 (by first | omega | (simp only [LN] at *; omega)) ?_
      | ((with_reducible refine eqN_mk2 ?_ ?_); (focus (exact Z.kb_some rfl)))
      | ((with_reducible apply ex_and); exact rfl))
    all_goals (try (conv => whnf))
    all_goals try (show Nat.ble _ _ = true; rfl)
    all_goals first
      | ((refine Z.rnd_rw 5 (((A ++ [passP to span x]) ++ l.drop (i + 1)).map cP) rfl rfl ?_ ?_); (focus (rw [show passP to span x = ⟨x.wk, x.heard, true⟩ from if_pos ⟨by assumption, by omega⟩]; refine (set_mid2 (y := ⟨x.wk, x.heard, true⟩) hAl).trans ?_; simp)); ((refine Z.rndK ((i + 1, A ++ [passP to span x], g ++ [x.wk])) (fun s => [0, 1, 2, 3, 4, 5, s.idAt 7]) rfl rfl rfl rfl ?_ ?_ ?_ ?_); (focus (repeat' (first | exact trivial | exact rfl | (rw [List.map_append (f := cI)]; exact rfl) | (rw [List.map_append]; exact rfl) | apply And.intro))); (focus (repeat' (first | exact trivial | (intro b hb; cases hb; rfl) | (intro b hb; cases hb; subst hlb; rfl) | (intro b hb; cases hb; rw [List.map_append (f := cI)]; rfl) | (intro b hb; cases hb; rw [List.map_append]; rfl) | (intro b hb; cases hb; done) | exact Z.blk_sub rfl rfl (ren_map fun _ => rfl) | exact Z.blk_sub rfl rfl (Z.ren_app (ren_map fun _ => rfl) (ren_map fun _ => rfl)) | exact Z.blk_sub rfl (by first | (rw [List.map_append]; rfl) | (rw [List.map_set]; rfl) | simp only [List.map_append, List.map_cons, List.map_nil, List.map_set]) (ren_map fun _ => rfl) | exact Z.gB_sub rfl rfl (ren_map fun _ => rfl) | exact Z.gB_sub' rfl (by first | rfl | (rw [List.map_append]; rfl) | simp only [List.map_append, List.map_cons, List.map_nil]) (ren_map fun _ => rfl) | apply And.intro))); (focus (refine ⟨by (try simp only [LN] at *) <;> omega, by dsimp only; rw [HA, pass_snoc hx], by dsimp only; rw [HG, gone_yes hx (by first | exact ⟨by assumption, by omega⟩ | (rintro ⟨h1, h2⟩; first | omega | exact absurd (h1.symm.trans (by assumption)) Bool.false_ne_true))]⟩)); (dsimp only; omega)))
      | ((refine Z.rnd_rw 5 (((A ++ [passP to span x]) ++ l.drop (i + 1)).map cP) rfl rfl ?_ ?_); (focus (rw [show passP to span x = x from if_neg (by rintro ⟨h1, h2⟩; first | omega | exact absurd (h1.symm.trans (by assumption)) Bool.false_ne_true)]; simp)); ((refine Z.rndK ((i + 1, A ++ [passP to span x], g)) (fun s => [0, 1, 2, 3, 4, 5, s.idAt 7]) rfl rfl rfl rfl ?_ ?_ ?_ ?_); (focus (repeat' (first | exact trivial | exact rfl | (rw [List.map_append]; exact rfl) | apply And.intro))); (focus (repeat' (first | exact trivial | (intro b hb; cases hb; rfl) | (intro b hb; cases hb; subst hlb; rfl) | (intro b hb; cases hb; rw [List.map_append]; rfl) | (intro b hb; cases hb; done) | exact Z.blk_sub rfl rfl (ren_map fun _ => rfl) | exact Z.blk_sub rfl rfl (Z.ren_app (ren_map fun _ => rfl) (ren_map fun _ => rfl)) | exact Z.blk_sub rfl (by first | (rw [List.map_append]; rfl) | (rw [List.map_set]; rfl) | simp only [List.map_append, List.map_cons, List.map_nil, List.map_set]) (ren_map fun _ => rfl) | exact Z.gB_sub rfl rfl (ren_map fun _ => rfl) | exact Z.gB_sub' rfl (by first | rfl | (rw [List.map_append]; rfl) | simp only [List.map_append, List.map_cons, List.map_nil]) (ren_map fun _ => rfl) | apply And.intro))); (focus (refine ⟨by (try simp only [LN] at *) <;> omega, by dsimp only; rw [HA, pass_snoc hx], by dsimp only; rw [HG, gone_no hx (by first | exact ⟨by assumption, by omega⟩ | (rintro ⟨h1, h2⟩; first | omega | exact absurd (h1.symm.trans (by assumption)) Bool.false_ne_true))]⟩)); (dsimp only; omega)))
      | (fail)
  · skip
    repeat' ((conv => whnf); first
      | (with_reducible refine spB_dec ?_ ?_ <;> intro _ <;> (try (exfalso; first | contradiction | omega | (rename_i hz; exact hz (by simp; done)) | (simp only [LN] at *; omega))))
      | ((with_reducible apply ex_and); exact rfl))
    all_goals (try (conv => whnf))
    all_goals try (show Nat.ble _ _ = true; rfl)
    all_goals first
      | (refine Z.retF2 [.agg [.v (.int .i64 to), .v (.int .i64 span), .osl 5 0 (0 + (l.map eP).length) none], .one (.gsl 6 (g.map cI)), .one (.v (.int .i64 0))] (by rfl) ⟨⟨rfl, rfl, (Z.frz_oslw (l := l.map (passP to span)) (f := cP) (ty := 37) (bx := false) (by rfl) (by simp) (fz_pass HA hil (by simp)) (fun _ => rfl)), trivial⟩, (by rw [take_end hil] at HG; rw [← HG]; exact ⟨1, 3, _, rfl, Z.isB_map _, by rw [List.map_map, List.map_map]; exact List.map_congr_left fun x _ => rfl⟩), rfl, trivial⟩)
      | (exfalso; (try simp only [LN] at *) <;> omega)
      | (fail)

end Go.Proofs.Ytgdkhdooekmfgaa
