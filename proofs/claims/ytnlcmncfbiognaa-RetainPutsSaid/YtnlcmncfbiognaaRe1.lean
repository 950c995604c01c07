import Derived.Test.YtnlcmncfbiognaaRe0
namespace Go.Proofs.Ytnlcmncfbiognaa
open Go Go.RowKit Wx
set_option linter.unusedVariables false
set_option linter.unusedSimpArgs false
set_option maxHeartbeats 4000000
theorem fz_snoc {K : Nat → Option Blk} {acc : List Kp} {y : Kp} {i : Nat} {R : List (List Ce)} (h : K i = some ⟨acc.map cK ++ R, 3, 44, false⟩) (hR : R = [cK y]) : Z.frzC K (.gsl i (acc.map cK ++ R)) (.ro true 3 ((acc ++ [y]).map eK)) := by
  subst hR
  have e : acc.map cK ++ [cK y] = (acc ++ [y]).map cK := by simp
  rw [e] at h ⊢
  refine ⟨3, 44, _, rfl, ?_, by rw [List.map_map, List.map_map]; exact List.map_congr_left fun x _ => rfl⟩
  rw [h, gB_ne (by simp)]
theorem with_con (keep : Int) (l : List Kp) (p : Nat) (y : Kp) (hl : l.length ≤ 99) (hp : p ≤ l.length) : Con Try.prog 31 [.agg [.v (.int .i64 keep), .ro false 3 (l.map eK)], .one (.v (.int .i64 (p : Int))), .agg [.v (.int .u64 y.num), .v (.bool y.save), .v (.bool y.opn)]] (fun rx rK rt => rx = .pl (.agg [.v (.int .i64 keep), .ro true 3 ((wthF l p y).map eK)]) ∧ rK = [] ∧ rt = 0) := by
  refine Z.con_ofF tabOk 50 Try.f31 _ Try.func31 (by kernel_rfl) rfl rfl rfl rfl ?_
  repeat' ((conv => whnf); first
    | with_reducible first | refine spB_t ?_
    | ((with_reducible apply spB_cong); (focus (simp only [beq_self_eq_true, bne_self_eq_false, Bool.true_bne, Bool.false_bne, Bool.bne_true, Bool.bne_false, Bool.true_beq, Bool.false_beq, Bool.not_true, Bool.not_false, Bool.not_not, Int.reduceBEq, Int.reduceBNe, Int.reduceLE, Int.reduceLT, Int.reduceEq, decide_true, decide_false]; rfl)))
    | with_reducible first | refine spB_yes (by decide) ?_ | refine spB_no (by decide) ?_ | refine spB_f ?_ | refine spB_not ?_ | refine spB_yes (by assumption) ?_ | refine spB_no (by assumption) ?_
    | (with_reducible refine spB_dec ?_ ?_ <;> intro _ <;> (try (exfalso; first | contradiction | omega | (rename_i hz; with_reducible exact absurd rfl hz))))
    | (with_reducible refine spB_beq ?_ ?_ <;> intro _ <;> (try (exfalso; first | contradiction | omega | (rename_i hz; with_reducible exact absurd rfl hz))))
    | (with_reducible refine spB_bne ?_ ?_ <;> intro _ <;> (try (exfalso; first | contradiction | omega | (rename_i hz; with_reducible exact absurd rfl hz))))
    | (with_reducible refine spB_mk ?_ ?_ <;> intro _ <;> (try (exfalso; first | contradiction | omega | (rename_i hz; with_reducible exact absurd rfl hz))))
    | ((with_reducible refine posE_pos ?_ ?_); (focus ((try simp only [LN] at *) <;> omega)))
    | ((with_reducible refine posE_nil ?_ ?_); (focus rfl))
    | ((with_reducible apply rowN_mk); (focus rfl))
    | ((with_reducible apply ixN_lit); (focus (exact rfl)); (focus (exact rfl)))
    | ((with_reducible apply ixN_litp); (focus (exact rfl)); (focus ((try simp only [LN] at *) <;> omega)))
    | ((with_reducible refine eqN_mk2 ?_ ?_); (focus rfl))
    | ((with_reducible refine apdE_r ?_); (with_reducible refine aprN.mk ⟨_, rfl, ?_⟩ ?_ ?_ ?_ ?_); (focus ((try simp only [LN] at *) <;> omega)); (focus (first | rfl | (simp; done) | ((try simp only [LN] at *) <;> omega))); (focus (first | exact one_all (by rfl) | exact one_map (fun _ => rfl) | exact one_map2 (fun _ => rfl) | exact one_drop (fun _ => rfl))); (focus ((try simp only [LN] at *) <;> omega)))
    | with_reducible first | refine apdE_n ?_
    | ((with_reducible refine apdN.mk ?_ ?_ ?_ ?_ ?_ ?_); (focus (first | rfl | (simp; done))); (focus (first | exact one_all (by rfl) | exact one_map (fun _ => rfl) | exact one_map2 (fun _ => rfl))); (focus ((try simp only [LN] at *) <;> omega)); (focus ((try simp only [LN] at *) <;> omega)); (focus ((try simp only [LN] at *) <;> omega)))
    | with_reducible refine wr_i64 (by first | omega | (simp only [LN] at *; omega)) ?_
    | with_reducible refine wr_u64 (by omega) ?_
    | with_reducible refine wr_u8 (by omega) ?_
    | with_reducible refine wr_u32 (by omega) ?_
    | with_reducible first | refine wr_mk _ rfl ?_
    | ((with_reducible refine ixN_nat ?_ ?_); (focus ((try simp only [LN] at *) <;> omega)))
    | ((with_reducible refine rowN_map ?_ ?_); (focus ((try simp only [LN] at *) <;> omega)); intro x hx)
    | ((with_reducible refine posE_nil (by rfl) ?_))
    | ((with_reducible refine posE_pos (by decide) ?_))
    | with_reducible refine eqN_dec (by omega) ?_
    | with_reducible first | refine apN_mk (by kernel_rfl) ?_
    | ((with_reducible refine eqN_mk2 ?_ ?_); (focus (exact Z.kb_some rfl)))
    | ((with_reducible apply ex_and); exact rfl)
    | with_reducible first | refine Z.drawZ_rule tabOk mixOk ?_ | refine Z.apZ_mk (by kernel_rfl) ?_
    | ((with_reducible refine Z.ConZ.red ?_); (try subst hlb); (apply Z.conZ_all); (focus (repeat (first | exact Z.FK.nil | (apply Z.FK.keep; exact rfl)))); (focus rfl); (focus rfl); (focus (repeat (first | exact trivial | (refine ⟨(fun o ho => (by first | (cases ho; rfl) | (cases ho; exact Z.inL_map fun _ => rfl) | (cases ho; exact Z.inL_mapr fun _ => rfl) | exact Z.inL_gB ho fun _ => rfl)), ?_⟩)))))
    | ((refine ⟨rfl, ?_, rfl⟩); (focus (repeat (first | exact Z.DK.nil | apply Z.DK.cons))))
    | (focus (exact (rfl : Nat.ble _ _ = true))))
  all_goals (try (conv => whnf))
  refine Z.loopK tabOk (fun zq : Nat × List Kp => [(8, .val (.int .i64 (zq.1 : Int)))]) (fun zq : Nat × List Kp => ([(3, some (Z.Ob.b ⟨[[.v (.int .i64 keep), .gsl 4 (zq.2.map cK)]], 2, 24, true⟩)), (4, (gB 3 44 (zq.2.map cK)).map Z.Ob.b)] : Z.Kr)) (fun zq => zq.1 ≤ l.length ∧ zq.2 = (l.set p y).take zq.1) (fun zq => l.length - zq.1) (0, []) 5 [(1, _), (3, _), (5, _), (6, _), (7, _)] ⟨rfl, rfl, rfl, rfl, rfl, trivial⟩ [(0, some _), (1, some _), (2, some _)] ⟨rfl, rfl, rfl, trivial⟩ ?_ ?_ rfl rfl ⟨Nat.zero_le _, rfl⟩ ?_
  · repeat' (first | exact trivial | apply And.intro | exact ⟨_, rfl, rfl⟩ | exact ⟨_, rfl, Z.Imp.refl _⟩ | exact ⟨_, rfl, Z.Imp.nilg _⟩ | exact ⟨_, rfl, Z.Imp.nilr _ _⟩)
  · repeat' (first | exact trivial | (intro b hb; cases hb; done) | exact (fun b hb => ⟨b, hb, Z.ImpO.refl b⟩) | (intro b hb; cases hb; refine ⟨_, rfl, ⟨rfl, rfl, rfl⟩, ?_⟩; (repeat' (first | exact trivial | apply And.intro | exact Z.Imp.refl _ | exact Z.Imp.nilg _ | exact Z.Imp.nilr _ _)); done) | apply And.intro)
  rintro ⟨i, acc⟩ HINV
  dsimp only at HINV ⊢
  obtain ⟨HI, HA⟩ := HINV
  have hal : acc.length ≤ 100 := by rw [HA, List.length_take, List.length_set]; omega
  repeat' ((conv => whnf); first
    | with_reducible first | refine spB_t ?_
    | ((with_reducible apply spB_cong); (focus (simp only [beq_self_eq_true, bne_self_eq_false, Bool.true_bne, Bool.false_bne, Bool.bne_true, Bool.bne_false, Bool.true_beq, Bool.false_beq, Bool.not_true, Bool.not_false, Bool.not_not, Int.reduceBEq, Int.reduceBNe, Int.reduceLE, Int.reduceLT, Int.reduceEq, decide_true, decide_false]; rfl)))
    | with_reducible first | refine spB_yes (by decide) ?_ | refine spB_no (by decide) ?_ | refine spB_f ?_ | refine spB_not ?_ | refine spB_yes (by assumption) ?_ | refine spB_no (by assumption) ?_
    | (with_reducible refine spB_dec ?_ ?_ <;> intro _ <;> (try (exfalso; first | contradiction | omega | (simp only [LN] at *; omega))))
    | (with_reducible refine spB_beq ?_ ?_ <;> intro _ <;> (try (exfalso; first | contradiction | omega | (simp only [LN] at *; omega))))
    | (with_reducible refine spB_bne ?_ ?_ <;> intro _ <;> (try (exfalso; first | contradiction | omega | (simp only [LN] at *; omega))))
    | (with_reducible refine spB_mk ?_ ?_ <;> intro _ <;> (try (exfalso; first | contradiction | omega | (simp only [LN] at *; omega))))
    | ((with_reducible refine posE_pos ?_ ?_); (focus ((try simp only [LN] at *) <;> omega)))
    | ((with_reducible refine posE_nil ?_ ?_); (focus rfl))
    | ((with_reducible apply rowN_mk); (focus rfl))
    | ((with_reducible apply ixN_lit); (focus (exact rfl)); (focus (exact rfl)))
    | ((with_reducible apply ixN_litp); (focus (exact rfl)); (focus ((try simp only [LN] at *) <;> omega)))
    | ((with_reducible refine eqN_mk2 ?_ ?_); (focus rfl))
    | ((with_reducible refine apdE_r ?_); (with_reducible refine aprN.mk ⟨_, rfl, ?_⟩ ?_ ?_ ?_ ?_); (focus ((try simp only [LN] at *) <;> omega)); (focus (first | rfl | (simp; done) | ((try simp only [LN] at *) <;> omega))); (focus (first | exact one_all (by rfl) | exact one_map (fun _ => rfl) | exact one_map2 (fun _ => rfl) | exact one_drop (fun _ => rfl))); (focus ((try simp only [LN] at *) <;> omega)))
    | with_reducible first | refine apdE_n ?_
    | ((with_reducible refine apdN.mk ?_ ?_ ?_ ?_ ?_ ?_); (focus (first | rfl | (simp; done))); (focus (first | exact one_all (by rfl) | exact one_map (fun _ => rfl) | exact one_map2 (fun _ => rfl))); (focus ((try simp only [LN] at *) <;> omega)); (focus ((try simp only [LN] at *) <;> omega)); (focus ((try simp only [LN] at *) <;> omega)))
    | with_reducible refine wr_i64 (by first | omega | (simp only [LN] at *; omega)) ?_
    | with_reducible refine wr_u64 (by omega) ?_
    | with_reducible refine wr_u8 (by omega) ?_
    | with_reducible refine wr_u32 (by omega) ?_
    | with_reducible first | refine wr_mk _ rfl ?_
    | ((with_reducible refine ixN_nat ?_ ?_); (focus ((try simp only [LN] at *) <;> omega)))
    | ((with_reducible refine rowN_map ?_ ?_); (focus ((try simp only [LN] at *) <;> omega)); intro x hx)
    | ((with_reducible refine posE_nil (by rfl) ?_))
    | ((with_reducible refine posE_pos (by decide) ?_))
    | with_reducible refine eqN_dec (by omega) ?_
    | with_reducible first | refine apN_mk (by kernel_rfl) ?_
    | ((with_reducible refine eqN_mk2 ?_ ?_); (focus (exact Z.kb_some rfl)))
    | ((with_reducible apply ex_and); exact rfl)
    | with_reducible first | refine Z.drawZ_rule tabOk mixOk ?_ | refine Z.apZ_mk (by kernel_rfl) ?_
    | ((with_reducible refine Z.ConZ.red ?_); (try subst hlb); (apply Z.conZ_all); (focus (repeat (first | exact Z.FK.nil | (apply Z.FK.keep; exact rfl)))); (focus rfl); (focus rfl); (focus (repeat (first | exact trivial | (refine ⟨(fun o ho => (by first | (cases ho; rfl) | (cases ho; exact Z.inL_map fun _ => rfl) | (cases ho; exact Z.inL_mapr fun _ => rfl) | exact Z.inL_gB ho fun _ => rfl)), ?_⟩)))))
    | ((refine ⟨rfl, ?_, rfl⟩); (focus (repeat (first | exact Z.DK.nil | apply Z.DK.cons))))
    | (focus (exact (rfl : Nat.ble _ _ = true))))
  all_goals (try (conv => whnf))
  all_goals first
    | ((refine Z.rndK ((i + 1, acc ++ [y])) (fun s => [0, 1, 2, 3, s.idIn 3 1]) rfl rfl rfl rfl ?_ ?_ ?_ ?_); (focus (repeat' (first | exact trivial | exact rfl | (rw [List.map_append]; exact rfl) | apply And.intro))); (focus (repeat' (first | exact trivial | (intro b hb; cases hb; rfl) | (intro b hb; cases hb; subst hlb; rfl) | (intro b hb; cases hb; rw [List.map_append]; rfl) | (intro b hb; cases hb; done) | exact Z.blk_sub rfl rfl (ren_map fun _ => rfl) | exact Z.blk_sub rfl rfl (Z.ren_app (ren_map fun _ => rfl) (ren_map fun _ => rfl)) | exact Z.blk_sub rfl (by first | (rw [List.map_append]; rfl) | (rw [List.map_set]; rfl) | simp only [List.map_append, List.map_cons, List.map_nil, List.map_set]) (ren_map fun _ => rfl) | exact Z.gB_sub rfl rfl (ren_map fun _ => rfl) | exact Z.gB_sub' rfl (by first | rfl | (rw [List.map_append]; rfl) | simp only [List.map_append, List.map_cons, List.map_nil]) (ren_map fun _ => rfl) | apply And.intro))); (focus (exact ⟨by (try simp only [LN] at *) <;> omega, by dsimp only; rw [HA, set_take_eq (by (try simp only [LN] at *) <;> omega) (by omega)]⟩)); (try simp only [LN] at *); (try dsimp only); omega)
    | ((refine Z.rndK ((i + 1, acc ++ [x])) (fun s => [0, 1, 2, 3, s.idIn 3 1]) rfl rfl rfl rfl ?_ ?_ ?_ ?_); (focus (repeat' (first | exact trivial | exact rfl | (rw [List.map_append]; exact rfl) | apply And.intro))); (focus (repeat' (first | exact trivial | (intro b hb; cases hb; rfl) | (intro b hb; cases hb; subst hlb; rfl) | (intro b hb; cases hb; rw [List.map_append]; rfl) | (intro b hb; cases hb; done) | exact Z.blk_sub rfl rfl (ren_map fun _ => rfl) | exact Z.blk_sub rfl rfl (Z.ren_app (ren_map fun _ => rfl) (ren_map fun _ => rfl)) | exact Z.blk_sub rfl (by first | (rw [List.map_append]; rfl) | (rw [List.map_set]; rfl) | simp only [List.map_append, List.map_cons, List.map_nil, List.map_set]) (ren_map fun _ => rfl) | exact Z.gB_sub rfl rfl (ren_map fun _ => rfl) | exact Z.gB_sub' rfl (by first | rfl | (rw [List.map_append]; rfl) | simp only [List.map_append, List.map_cons, List.map_nil]) (ren_map fun _ => rfl) | apply And.intro))); (focus (exact ⟨by (try simp only [LN] at *) <;> omega, by dsimp only; rw [HA, set_take_ne hx (by omega)]⟩)); (try simp only [LN] at *); (try dsimp only); omega)
    | ((first | (with_reducible apply Z.retF1) | (with_reducible apply Z.retF2) | (with_reducible apply Z.retF0)); (focus (exact rfl)); (repeat' (first | exact trivial | (with_reducible apply Z.frz_one) | (with_reducible apply Z.frz_agg) | (with_reducible apply Z.fq_int) | (with_reducible apply Z.fq_bool) | (exact Z.frz_nil) | (exact Z.frz_osl0 rfl rfl rfl) | (with_reducible apply Z.fq_nil) | (with_reducible apply Z.fq_ro) | ((with_reducible apply Z.fq_gsl); (focus (first | rfl | exact Z.isB_map _ | exact Z.gB_snoc.symm)); (focus (exact fun _ => rfl))) | ((with_reducible apply Z.fq_osl); (focus (exact rfl)); (focus (first | exact rfl | (simp only [List.length_map, Nat.zero_add]; done) | ((try simp only [LN] at *) <;> omega))); (focus (exact fun _ => rfl))) | ((with_reducible apply Z.fq_src); (focus (exact rfl)); (focus (first | exact rfl | (simp only [List.length_map, Nat.zero_add]; done) | ((try simp only [LN] at *) <;> omega))); (focus (exact fun _ => rfl))) | exact rfl | ((apply Z.fq_osl); (focus (exact rfl)); (focus (first | exact rfl | (simp only [List.length_map, Nat.zero_add]; done) | ((try simp only [LN] at *) <;> omega))); (focus (exact fun _ => rfl))) | ((apply Z.fq_src); (focus (exact rfl)); (focus (first | exact rfl | (simp only [List.length_map, Nat.zero_add]; done) | ((try simp only [LN] at *) <;> omega))); (focus (exact fun _ => rfl))) | (apply Z.fq_ro) | (apply Z.fq_int) | (apply Z.fq_bool) | apply And.intro)); (all_goals (try exact (fun _ => none))); all_goals (first | rfl | (rw [HA, take_end (by rw [List.length_set]; (try simp only [LN] at *) <;> omega)]; unfold wthF; first | (rw [if_pos (by (try simp only [LN] at *) <;> omega), set_past (by (try simp only [LN] at *) <;> omega)]; done) | (rw [if_neg (by (try simp only [LN] at *) <;> omega)]; done))))
    | (rw [show wthF l p y = acc ++ [y] by unfold wthF; rw [if_pos (by (try simp only [LN] at *) <;> omega), HA, take_end (by rw [List.length_set]; (try simp only [LN] at *) <;> omega), set_past (by (try simp only [LN] at *) <;> omega)]]; ((first | (with_reducible apply Z.retF1) | (with_reducible apply Z.retF2) | (with_reducible apply Z.retF0)); (focus (exact rfl)); (repeat' (first | exact trivial | (with_reducible apply Z.frz_one) | (with_reducible apply Z.frz_agg) | (with_reducible apply Z.fq_int) | (with_reducible apply Z.fq_bool) | (exact Z.frz_nil) | (exact Z.frz_osl0 rfl rfl rfl) | (with_reducible apply Z.fq_nil) | (with_reducible apply Z.fq_ro) | ((with_reducible apply Z.fq_gsl); (focus (first | rfl | exact Z.isB_map _ | exact Z.gB_snoc.symm)); (focus (exact fun _ => rfl))) | ((with_reducible apply Z.fq_osl); (focus (exact rfl)); (focus (first | exact rfl | (simp only [List.length_map, Nat.zero_add]; done) | ((try simp only [LN] at *) <;> omega))); (focus (exact fun _ => rfl))) | ((with_reducible apply Z.fq_src); (focus (exact rfl)); (focus (first | exact rfl | (simp only [List.length_map, Nat.zero_add]; done) | ((try simp only [LN] at *) <;> omega))); (focus (exact fun _ => rfl))) | exact rfl | ((apply Z.fq_osl); (focus (exact rfl)); (focus (first | exact rfl | (simp only [List.length_map, Nat.zero_add]; done) | ((try simp only [LN] at *) <;> omega))); (focus (exact fun _ => rfl))) | ((apply Z.fq_src); (focus (exact rfl)); (focus (first | exact rfl | (simp only [List.length_map, Nat.zero_add]; done) | ((try simp only [LN] at *) <;> omega))); (focus (exact fun _ => rfl))) | (apply Z.fq_ro) | (apply Z.fq_int) | (apply Z.fq_bool) | apply And.intro)); (all_goals (try exact (fun _ => none))); all_goals (first | rfl | exact fz_snoc rfl rfl)))
    | (fail)

theorem cut_con (keep : Int) (l : List Kp) (hl : l.length ≤ 100) : Con Try.prog 30 [.agg [.v (.int .i64 keep), .ro false 3 (l.map eK)]] (fun rx rK rt => rx = .tup [.agg [.v (.int .i64 keep), .ro true 3 ((keptF keep l).map eK)], .one (.ro true 1 ((goneF keep l).map eU))] ∧ rK = [] ∧ rt = 0) := by
  refine Z.con_ofF tabOk 41 Try.f30 _ Try.func30 (by kernel_rfl) rfl rfl rfl rfl ?_
  repeat' ((conv => whnf); first
    | with_reducible first | refine spB_t ?_
    | ((with_reducible apply spB_cong); (focus (simp only [beq_self_eq_true, bne_self_eq_false, Bool.true_bne, Bool.false_bne, Bool.bne_true, Bool.bne_false, Bool.true_beq, Bool.false_beq, Bool.not_true, Bool.not_false, Bool.not_not, Int.reduceBEq, Int.reduceBNe, Int.reduceLE, Int.reduceLT, Int.reduceEq, decide_true, decide_false]; rfl)))
    | with_reducible first | refine spB_yes (by decide) ?_ | refine spB_no (by decide) ?_ | refine spB_f ?_ | refine spB_not ?_ | refine spB_yes (by assumption) ?_ | refine spB_no (by assumption) ?_
    | (with_reducible refine spB_dec ?_ ?_ <;> intro _ <;> (try (exfalso; first | contradiction | omega | (rename_i hz; with_reducible exact absurd rfl hz))))
    | (with_reducible refine spB_beq ?_ ?_ <;> intro _ <;> (try (exfalso; first | contradiction | omega | (rename_i hz; with_reducible exact absurd rfl hz))))
    | (with_reducible refine spB_bne ?_ ?_ <;> intro _ <;> (try (exfalso; first | contradiction | omega | (rename_i hz; with_reducible exact absurd rfl hz))))
    | (with_reducible refine spB_mk ?_ ?_ <;> intro _ <;> (try (exfalso; first | contradiction | omega | (rename_i hz; with_reducible exact absurd rfl hz))))
    | ((with_reducible refine posE_pos ?_ ?_); (focus ((try simp only [LN] at *) <;> omega)))
    | ((with_reducible refine posE_nil ?_ ?_); (focus rfl))
    | ((with_reducible apply rowN_mk); (focus rfl))
    | ((with_reducible apply ixN_lit); (focus (exact rfl)); (focus (exact rfl)))
    | ((with_reducible apply ixN_litp); (focus (exact rfl)); (focus ((try simp only [LN] at *) <;> omega)))
    | ((with_reducible refine eqN_mk2 ?_ ?_); (focus rfl))
    | ((with_reducible refine apdE_r ?_); (with_reducible refine aprN.mk ⟨_, rfl, ?_⟩ ?_ ?_ ?_ ?_); (focus ((try simp only [LN] at *) <;> omega)); (focus (first | rfl | (simp; done) | ((try simp only [LN] at *) <;> omega))); (focus (first | exact one_all (by rfl) | exact one_map (fun _ => rfl) | exact one_map2 (fun _ => rfl) | exact one_drop (fun _ => rfl))); (focus ((try simp only [LN] at *) <;> omega)))
    | with_reducible first | refine apdE_n ?_
    | ((with_reducible refine apdN.mk ?_ ?_ ?_ ?_ ?_ ?_); (focus (first | rfl | (simp; done))); (focus (first | exact one_all (by rfl) | exact one_map (fun _ => rfl) | exact one_map2 (fun _ => rfl))); (focus ((try simp only [LN] at *) <;> omega)); (focus ((try simp only [LN] at *) <;> omega)); (focus ((try simp only [LN] at *) <;> omega)))
    | with_reducible refine wr_i64 (by first | omega | (simp only [LN] at *; omega)) ?_
    | with_reducible refine wr_u64 (by omega) ?_
    | with_reducible refine wr_u8 (by omega) ?_
    | with_reducible refine wr_u32 (by omega) ?_
    | with_reducible first | refine wr_mk _ rfl ?_
    | ((with_reducible refine ixN_nat ?_ ?_); (focus ((try simp only [LN] at *) <;> omega)))
    | ((with_reducible refine rowN_map ?_ ?_); (focus ((try simp only [LN] at *) <;> omega)); intro x hx)
    | ((with_reducible refine posE_nil (by rfl) ?_))
    | ((with_reducible refine posE_pos (by decide) ?_))
    | with_reducible refine eqN_dec (by omega) ?_
    | with_reducible first | refine apN_mk (by kernel_rfl) ?_
    | ((first | (with_reducible refine Z.conZ_mz ?_ (ck) ?_) | (with_reducible refine Z.callZ_mk ?_ (ck) ?_)); (focus ((repeat' (first | exact trivial | exact rfl | exact Z.low_nil | exact Z.low_nil2 | exact low_osl (fun _ => rfl) | (refine Z.low_osln ?_ (fun _ => rfl); (simp only [List.length_map]; done)) | exact low_oslr (fun _ => rfl) | exact Z.low_gslm (by first | rfl | exact Z.kb_some rfl) (fun _ => rfl) | exact .inl rfl | exact .inr ⟨_, rfl⟩ | apply And.intro)); done)))
    | ((with_reducible refine eqN_mk2 ?_ ?_); (focus (exact Z.kb_some rfl)))
    | ((with_reducible apply ex_and); exact rfl)
    | with_reducible first | refine Z.drawZ_rule tabOk mixOk ?_ | refine Z.apZ_mk (by kernel_rfl) ?_
    | ((with_reducible refine Z.ConZ.red ?_); (try subst hlb); (apply Z.conZ_all); (focus (repeat (first | exact Z.FK.nil | (apply Z.FK.keep; exact rfl)))); (focus rfl); (focus rfl); (focus (repeat (first | exact trivial | (refine ⟨(fun o ho => (by first | (cases ho; rfl) | (cases ho; exact Z.inL_map fun _ => rfl) | (cases ho; exact Z.inL_mapr fun _ => rfl) | exact Z.inL_gB ho fun _ => rfl)), ?_⟩)))))
    | ((refine ⟨rfl, ?_, rfl⟩); (focus (repeat (first | exact Z.DK.nil | apply Z.DK.cons))))
    | (focus (exact (rfl : Nat.ble _ _ = true))))
  all_goals (try (conv => whnf))
  refine Z.loopK tabOk (fun zq : Nat × List Kp × List Int => [(6, .val (.int .i64 (zq.1 : Int))), (5, .c (.gsl 4 (zq.2.2.map cU)))]) (fun zq : Nat × List Kp × List Int => ([(2, some (Z.Ob.b ⟨[[.v (.int .i64 keep), .gsl 3 (zq.2.1.map cK)]], 2, 24, true⟩)), (3, (gB 3 44 (zq.2.1.map cK)).map Z.Ob.b), (4, (gB 1 25 (zq.2.2.map cU)).map Z.Ob.b)] : Z.Kr)) (fun zq => zq.1 ≤ l.length ∧ keptF keep l = zq.2.1 ++ keptF keep (l.drop zq.1) ∧ goneF keep l = zq.2.2 ++ goneF keep (l.drop zq.1)) (fun zq => l.length - zq.1) (0, [], []) 5 [(1, _), (2, _), (4, _)] ⟨rfl, rfl, rfl, trivial⟩ [(0, some _), (1, some _)] ⟨rfl, rfl, trivial⟩ ?_ ?_ rfl rfl ⟨Nat.zero_le _, rfl, rfl⟩ ?_
  · repeat' (first | exact trivial | apply And.intro | exact ⟨_, rfl, rfl⟩ | exact ⟨_, rfl, Z.Imp.refl _⟩ | exact ⟨_, rfl, Z.Imp.nilg _⟩ | exact ⟨_, rfl, Z.Imp.nilr _ _⟩)
  · repeat' (first | exact trivial | (intro b hb; cases hb; done) | exact (fun b hb => ⟨b, hb, Z.ImpO.refl b⟩) | (intro b hb; cases hb; refine ⟨_, rfl, ⟨rfl, rfl, rfl⟩, ?_⟩; (repeat' (first | exact trivial | apply And.intro | exact Z.Imp.refl _ | exact Z.Imp.nilg _ | exact Z.Imp.nilr _ _)); done) | apply And.intro)
  rintro ⟨i, acc, g⟩ HINV
  dsimp only at HINV ⊢
  obtain ⟨HI, HA, HG⟩ := HINV
  have hkl := keptF_len keep l
  have hal : acc.length ≤ 100 := by have := congrArg List.length HA; rw [List.length_append] at this; omega
  have hgl : g.length ≤ 100 := by have := congrArg List.length HG; rw [List.length_append] at this; omega
  by_cases hil : i < l.length
  rotate_left
  · rw [HA, HG, drop_end hil]
    simp only [keptF, goneF, List.append_nil]
    repeat' ((conv => whnf); first
      | with_reducible first | refine spB_t ?_
      | ((with_reducible apply spB_cong); (focus (simp only [beq_self_eq_true, bne_self_eq_false, Bool.true_bne, Bool.false_bne, Bool.bne_true, Bool.bne_false, Bool.true_beq, Bool.false_beq, Bool.not_true, Bool.not_false, Bool.not_not, Int.reduceBEq, Int.reduceBNe, Int.reduceLE, Int.reduceLT, Int.reduceEq, decide_true, decide_false]; rfl)))
      | with_reducible first | refine spB_yes (by decide) ?_ | refine spB_no (by decide) ?_ | refine spB_f ?_ | refine spB_not ?_ | refine spB_yes (by assumption) ?_ | refine spB_no (by assumption) ?_
      | (with_reducible refine spB_dec ?_ ?_ <;> intro _ <;> (try (exfalso; first | contradiction | omega | (simp only [LN] at *; omega))))
      | (with_reducible refine spB_beq ?_ ?_ <;> intro _ <;> (try (exfalso; first | contradiction | omega | (simp only [LN] at *; omega))))
      | (with_reducible refine spB_bne ?_ ?_ <;> intro _ <;> (try (exfalso; first | contradiction | omega | (simp only [LN] at *; omega))))
      | (with_reducible refine spB_mk ?_ ?_ <;> intro _ <;> (try (exfalso; first | contradiction | omega | (simp only [LN] at *; omega))))
      | ((with_reducible refine posE_pos ?_ ?_); (focus ((try simp only [LN] at *) <;> omega)))
      | ((with_reducible refine posE_nil ?_ ?_); (focus rfl))
      | ((with_reducible apply rowN_mk); (focus rfl))
      | ((with_reducible apply ixN_lit); (focus (exact rfl)); (focus (exact rfl)))
      | ((with_reducible apply ixN_litp); (focus (exact rfl)); (focus ((try simp only [LN] at *) <;> omega)))
      | ((with_reducible refine eqN_mk2 ?_ ?_); (focus rfl))
      | ((with_reducible refine apdE_r ?_); (with_reducible refine aprN.mk ⟨_, rfl, ?_⟩ ?_ ?_ ?_ ?_); (focus ((try simp only [LN] at *) <;> omega)); (focus (first | rfl | (simp; done) | ((try simp only [LN] at *) <;> omega))); (focus (first | exact one_all (by rfl) | exact one_map (fun _ => rfl) | exact one_map2 (fun _ => rfl) | exact one_drop (fun _ => rfl))); (focus ((try simp only [LN] at *) <;> omega)))
      | with_reducible first | refine apdE_n ?_
      | ((with_reducible refine apdN.mk ?_ ?_ ?_ ?_ ?_ ?_); (focus (first | rfl | (simp; done))); (focus (first | exact one_all (by rfl) | exact one_map (fun _ => rfl) | exact one_map2 (fun _ => rfl))); (focus ((try simp only [LN] at *) <;> omega)); (focus ((try simp only [LN] at *) <;> omega)); (focus ((try simp only [LN] at *) <;> omega)))
      | with_reducible refine wr_i64 (by first | omega | (simp only [LN] at *; omega)) ?_
      | with_reducible refine wr_u64 (by omega) ?_
      | with_reducible refine wr_u8 (by omega) ?_
      | with_reducible refine wr_u32 (by omega) ?_
      | with_reducible first | refine wr_mk _ rfl ?_
      | ((with_reducible refine ixN_nat ?_ ?_); (focus ((try simp only [LN] at *) <;> omega)))
      | ((with_reducible refine rowN_map ?_ ?_); (focus ((try simp only [LN] at *) <;> omega)); intro x hx)
      | ((with_reducible refine posE_nil (by rfl) ?_))
      | ((with_reducible refine posE_pos (by decide) ?_))
      | with_reducible refine eqN_dec (by omega) ?_
      | with_reducible first | refine apN_mk (by kernel_rfl) ?_
      | ((first | (with_reducible refine Z.conZ_mz ?_ (ck) ?_) | (with_reducible refine Z.callZ_mk ?_ (ck) ?_)); (focus ((repeat' (first | exact trivial | exact rfl | exact Z.low_nil | exact Z.low_nil2 | exact low_osl (fun _ => rfl) | (refine Z.low_osln ?_ (fun _ => rfl); (simp only [List.length_map]; done)) | exact low_oslr (fun _ => rfl) | exact Z.low_gslm (by first | rfl | exact Z.kb_some rfl) (fun _ => rfl) | exact .inl rfl | exact .inr ⟨_, rfl⟩ | apply And.intro)); done)))
      | ((with_reducible refine eqN_mk2 ?_ ?_); (focus (exact Z.kb_some rfl)))
      | ((with_reducible apply ex_and); exact rfl)
      | with_reducible first | refine Z.drawZ_rule tabOk mixOk ?_ | refine Z.apZ_mk (by kernel_rfl) ?_
      | ((with_reducible refine Z.ConZ.red ?_); (try subst hlb); (apply Z.conZ_all); (focus (repeat (first | exact Z.FK.nil | (apply Z.FK.keep; exact rfl)))); (focus rfl); (focus rfl); (focus (repeat (first | exact trivial | (refine ⟨(fun o ho => (by first | (cases ho; rfl) | (cases ho; exact Z.inL_map fun _ => rfl) | (cases ho; exact Z.inL_mapr fun _ => rfl) | exact Z.inL_gB ho fun _ => rfl)), ?_⟩)))))
      | ((refine ⟨rfl, ?_, rfl⟩); (focus (repeat (first | exact Z.DK.nil | apply Z.DK.cons))))
      | (focus (exact (rfl : Nat.ble _ _ = true))))
    all_goals (try (conv => whnf))
    all_goals first
      | ((first | (with_reducible apply Z.retF1) | (with_reducible apply Z.retF2) | (with_reducible apply Z.retF0)); (focus (exact rfl)); (repeat' (first | exact trivial | (with_reducible apply Z.frz_one) | (with_reducible apply Z.frz_agg) | (with_reducible apply Z.fq_int) | (with_reducible apply Z.fq_bool) | (exact Z.frz_nil) | (exact Z.frz_osl0 rfl rfl rfl) | (with_reducible apply Z.fq_nil) | (with_reducible apply Z.fq_ro) | ((with_reducible apply Z.fq_gsl); (focus (first | rfl | exact Z.isB_map _ | exact Z.gB_snoc.symm)); (focus (exact fun _ => rfl))) | ((with_reducible apply Z.fq_osl); (focus (exact rfl)); (focus (first | exact rfl | (simp only [List.length_map, Nat.zero_add]; done) | ((try simp only [LN] at *) <;> omega))); (focus (exact fun _ => rfl))) | ((with_reducible apply Z.fq_src); (focus (exact rfl)); (focus (first | exact rfl | (simp only [List.length_map, Nat.zero_add]; done) | ((try simp only [LN] at *) <;> omega))); (focus (exact fun _ => rfl))) | exact rfl | ((apply Z.fq_osl); (focus (exact rfl)); (focus (first | exact rfl | (simp only [List.length_map, Nat.zero_add]; done) | ((try simp only [LN] at *) <;> omega))); (focus (exact fun _ => rfl))) | ((apply Z.fq_src); (focus (exact rfl)); (focus (first | exact rfl | (simp only [List.length_map, Nat.zero_add]; done) | ((try simp only [LN] at *) <;> omega))); (focus (exact fun _ => rfl))) | (apply Z.fq_ro) | (apply Z.fq_int) | (apply Z.fq_bool) | apply And.intro)); (all_goals (try exact (fun _ => none))); all_goals (rfl))
      | (exfalso; (try simp only [LN] at *) <;> omega)
      | (fail)
  obtain ⟨x, hx⟩ := getElem?_some' (xs := l) (i := i) hil
  have ck := keeps_con keep l i x (by omega) hx
  cases hp : (plK x && decide (keep ≤ (npl (l.drop (i + 1)) : Int)))
  · rw [hp] at ck
    obtain ⟨hk1, hk2⟩ := kept_yes hx hp
    repeat' ((conv => whnf); first
      | with_reducible first | refine spB_t ?_
      | ((with_reducible apply spB_cong); (focus (simp only [beq_self_eq_true, bne_self_eq_false, Bool.true_bne, Bool.false_bne, Bool.bne_true, Bool.bne_false, Bool.true_beq, Bool.false_beq, Bool.not_true, Bool.not_false, Bool.not_not, Int.reduceBEq, Int.reduceBNe, Int.reduceLE, Int.reduceLT, Int.reduceEq, decide_true, decide_false]; rfl)))
      | with_reducible first | refine spB_yes (by decide) ?_ | refine spB_no (by decide) ?_ | refine spB_f ?_ | refine spB_not ?_ | refine spB_yes (by assumption) ?_ | refine spB_no (by assumption) ?_
      | (with_reducible refine spB_dec ?_ ?_ <;> intro _ <;> (try (exfalso; first | contradiction | omega | (simp only [LN] at *; omega))))
      | (with_reducible refine spB_beq ?_ ?_ <;> intro _ <;> (try (exfalso; first | contradiction | omega | (simp only [LN] at *; omega))))
      | (with_reducible refine spB_bne ?_ ?_ <;> intro _ <;> (try (exfalso; first | contradiction | omega | (simp only [LN] at *; omega))))
      | (with_reducible refine spB_mk ?_ ?_ <;> intro _ <;> (try (exfalso; first | contradiction | omega | (simp only [LN] at *; omega))))
      | with_reducible first | refine Z.rowN_known hx ?_
      | ((with_reducible refine posE_pos ?_ ?_); (focus ((try simp only [LN] at *) <;> omega)))
      | ((with_reducible refine posE_nil ?_ ?_); (focus rfl))
      | ((with_reducible apply rowN_mk); (focus rfl))
      | ((with_reducible apply ixN_lit); (focus (exact rfl)); (focus (exact rfl)))
      | ((with_reducible apply ixN_litp); (focus (exact rfl)); (focus ((try simp only [LN] at *) <;> omega)))
      | ((with_reducible refine eqN_mk2 ?_ ?_); (focus rfl))
      | ((with_reducible refine apdE_r ?_); (with_reducible refine aprN.mk ⟨_, rfl, ?_⟩ ?_ ?_ ?_ ?_); (focus ((try simp only [LN] at *) <;> omega)); (focus (first | rfl | (simp; done) | ((try simp only [LN] at *) <;> omega))); (focus (first | exact one_all (by rfl) | exact one_map (fun _ => rfl) | exact one_map2 (fun _ => rfl) | exact one_drop (fun _ => rfl))); (focus ((try simp only [LN] at *) <;> omega)))
      | with_reducible first | refine apdE_n ?_
      | ((with_reducible refine apdN.mk ?_ ?_ ?_ ?_ ?_ ?_); (focus (first | rfl | (simp; done))); (focus (first | exact one_all (by rfl) | exact one_map (fun _ => rfl) | exact one_map2 (fun _ => rfl))); (focus ((try simp only [LN] at *) <;> omega)); (focus ((try simp only [LN] at *) <;> omega)); (focus ((try simp only [LN] at *) <;> omega)))
      | with_reducible refine wr_i64 (by first | omega | (simp only [LN] at *; omega)) ?_
      | with_reducible refine wr_u64 (by omega) ?_
      | with_reducible refine wr_u8 (by omega) ?_
      | with_reducible refine wr_u32 (by omega) ?_
      | with_reducible first | refine wr_mk _ rfl ?_
      | ((with_reducible refine ixN_nat ?_ ?_); (focus ((try simp only [LN] at *) <;> omega)))
      | ((with_reducible refine rowN_map ?_ ?_); (focus ((try simp only [LN] at *) <;> omega)); intro x hx)
      | ((with_reducible refine posE_nil (by rfl) ?_))
      | ((with_reducible refine posE_pos (by decide) ?_))
      | with_reducible refine eqN_dec (by omega) ?_
      | with_reducible first | refine apN_mk (by kernel_rfl) ?_
      | ((first | (with_reducible refine Z.conZ_mz ?_ (ck) ?_) | (with_reducible refine Z.callZ_mk ?_ (ck) ?_)); (focus ((repeat' (first | exact trivial | exact rfl | exact Z.low_nil | exact Z.low_nil2 | exact low_osl (fun _ => rfl) | (refine Z.low_osln ?_ (fun _ => rfl); (simp only [List.length_map]; done)) | exact low_oslr (fun _ => rfl) | exact Z.low_gslm (by first | rfl | exact Z.kb_some rfl) (fun _ => rfl) | exact .inl rfl | exact .inr ⟨_, rfl⟩ | apply And.intro)); done)))
      | ((with_reducible refine eqN_mk2 ?_ ?_); (focus (exact Z.kb_some rfl)))
      | ((with_reducible apply ex_and); exact rfl)
      | with_reducible first | refine Z.drawZ_rule tabOk mixOk ?_ | refine Z.apZ_mk (by kernel_rfl) ?_
      | ((with_reducible refine Z.ConZ.red ?_); (try subst hlb); (apply Z.conZ_all); (focus (repeat (first | exact Z.FK.nil | (apply Z.FK.keep; exact rfl)))); (focus rfl); (focus rfl); (focus (repeat (first | exact trivial | (refine ⟨(fun o ho => (by first | (cases ho; rfl) | (cases ho; exact Z.inL_map fun _ => rfl) | (cases ho; exact Z.inL_mapr fun _ => rfl) | exact Z.inL_gB ho fun _ => rfl)), ?_⟩)))))
      | ((refine ⟨rfl, ?_, rfl⟩); (focus (repeat (first | exact Z.DK.nil | apply Z.DK.cons))))
      | (focus (exact (rfl : Nat.ble _ _ = true))))
    all_goals (try (conv => whnf))
    all_goals first
      | ((refine Z.rndK ((i + 1, acc ++ [x], g)) (fun s => [0, 1, 2, s.idIn 2 1, s.idAt 5]) rfl rfl rfl rfl ?_ ?_ ?_ ?_); (focus (repeat' (first | exact trivial | exact rfl | (rw [List.map_append]; exact rfl) | apply And.intro))); (focus (repeat' (first | exact trivial | (intro b hb; cases hb; rfl) | (intro b hb; cases hb; subst hlb; rfl) | (intro b hb; cases hb; rw [List.map_append]; rfl) | (intro b hb; cases hb; done) | exact Z.blk_sub rfl rfl (ren_map fun _ => rfl) | exact Z.blk_sub rfl rfl (Z.ren_app (ren_map fun _ => rfl) (ren_map fun _ => rfl)) | exact Z.blk_sub rfl (by first | (rw [List.map_append]; rfl) | (rw [List.map_set]; rfl) | simp only [List.map_append, List.map_cons, List.map_nil, List.map_set]) (ren_map fun _ => rfl) | exact Z.gB_sub rfl rfl (ren_map fun _ => rfl) | exact Z.gB_sub' rfl (by first | rfl | (rw [List.map_append]; rfl) | simp only [List.map_append, List.map_cons, List.map_nil]) (ren_map fun _ => rfl) | apply And.intro))); (focus (exact ⟨by (try simp only [LN] at *) <;> omega, by dsimp only; rw [HA, hk1]; try simp, by dsimp only; rw [HG, hk2]; try simp⟩)); (dsimp only; omega))
      | (exfalso; simp_all; done)
      | (exfalso; (try simp only [LN] at *) <;> omega)
      | (fail)
  · rw [hp] at ck
    obtain ⟨hk1, hk2⟩ := kept_no hx hp
    repeat' ((conv => whnf); first
      | with_reducible first | refine spB_t ?_
      | ((with_reducible apply spB_cong); (focus (simp only [beq_self_eq_true, bne_self_eq_false, Bool.true_bne, Bool.false_bne, Bool.bne_true, Bool.bne_false, Bool.true_beq, Bool.false_beq, Bool.not_true, Bool.not_false, Bool.not_not, Int.reduceBEq, Int.reduceBNe, Int.reduceLE, Int.reduceLT, Int.reduceEq, decide_true, decide_false]; rfl)))
      | with_reducible first | refine spB_yes (by decide) ?_ | refine spB_no (by decide) ?_ | refine spB_f ?_ | refine spB_not ?_ | refine spB_yes (by assumption) ?_ | refine spB_no (by assumption) ?_
      | (with_reducible refine spB_dec ?_ ?_ <;> intro _ <;> (try (exfalso; first | contradiction | omega | (simp only [LN] at *; omega))))
      | (with_reducible refine spB_beq ?_ ?_ <;> intro _ <;> (try (exfalso; first | contradiction | omega | (simp only [LN] at *; omega))))
      | (with_reducible refine spB_bne ?_ ?_ <;> intro _ <;> (try (exfalso; first | contradiction | omega | (simp only [LN] at *; omega))))
      | (with_reducible refine spB_mk ?_ ?_ <;> intro _ <;> (try (exfalso; first | contradiction | omega | (simp only [LN] at *; omega))))
      | with_reducible first | refine Z.rowN_known hx ?_
      | ((with_reducible refine posE_pos ?_ ?_); (focus ((try simp only [LN] at *) <;> omega)))
      | ((with_reducible refine posE_nil ?_ ?_); (focus rfl))
      | ((with_reducible apply rowN_mk); (focus rfl))
      | ((with_reducible apply ixN_lit); (focus (exact rfl)); (focus (exact rfl)))
      | ((with_reducible apply ixN_litp); (focus (exact rfl)); (focus ((try simp only [LN] at *) <;> omega)))
      | ((with_reducible refine eqN_mk2 ?_ ?_); (focus rfl))
      | ((with_reducible refine apdE_r ?_); (with_reducible refine aprN.mk ⟨_, rfl, ?_⟩ ?_ ?_ ?_ ?_); (focus ((try simp only [LN] at *) <;> omega)); (focus (first | rfl | (simp; done) | ((try simp only [LN] at *) <;> omega))); (focus (first | exact one_all (by rfl) | exact one_map (fun _ => rfl) | exact one_map2 (fun _ => rfl) | exact one_drop (fun _ => rfl))); (focus ((try simp only [LN] at *) <;> omega)))
      | with_reducible first | refine apdE_n ?_
      | ((with_reducible refine apdN.mk ?_ ?_ ?_ ?_ ?_ ?_); (focus (first | rfl | (simp; done))); (focus (first | exact one_all (by rfl) | exact one_map (fun _ => rfl) | exact one_map2 (fun _ => rfl))); (focus ((try simp only [LN] at *) <;> omega)); (focus ((try simp only [LN] at *) <;> omega)); (focus ((try simp only [LN] at *) <;> omega)))
      | with_reducible refine wr_i64 (by first | omega | (simp only [LN] at *; omega)) ?_
      | with_reducible refine wr_u64 (by omega) ?_
      | with_reducible refine wr_u8 (by omega) ?_
      | with_reducible refine wr_u32 (by omega) ?_
      | with_reducible first | refine wr_mk _ rfl ?_
      | ((with_reducible refine ixN_nat ?_ ?_); (focus ((try simp only [LN] at *) <;> omega)))
      | ((with_reducible refine rowN_map ?_ ?_); (focus ((try simp only [LN] at *) <;> omega)); intro x hx)
      | ((with_reducible refine posE_nil (by rfl) ?_))
      | ((with_reducible refine posE_pos (by decide) ?_))
      | with_reducible refine eqN_dec (by omega) ?_
      | with_reducible first | refine apN_mk (by kernel_rfl) ?_
      | ((first | (with_reducible refine Z.conZ_mz ?_ (ck) ?_) | (with_reducible refine Z.callZ_mk ?_ (ck) ?_)); (focus ((repeat' (first | exact trivial | exact rfl | exact Z.low_nil | exact Z.low_nil2 | exact low_osl (fun _ => rfl) | (refine Z.low_osln ?_ (fun _ => rfl); (simp only [List.length_map]; done)) | exact low_oslr (fun _ => rfl) | exact Z.low_gslm (by first | rfl | exact Z.kb_some rfl) (fun _ => rfl) | exact .inl rfl | exact .inr ⟨_, rfl⟩ | apply And.intro)); done)))
      | ((with_reducible refine eqN_mk2 ?_ ?_); (focus (exact Z.kb_some rfl)))
      | ((with_reducible apply ex_and); exact rfl)
      | with_reducible first | refine Z.drawZ_rule tabOk mixOk ?_ | refine Z.apZ_mk (by kernel_rfl) ?_
      | ((with_reducible refine Z.ConZ.red ?_); (try subst hlb); (apply Z.conZ_all); (focus (repeat (first | exact Z.FK.nil | (apply Z.FK.keep; exact rfl)))); (focus rfl); (focus rfl); (focus (repeat (first | exact trivial | (refine ⟨(fun o ho => (by first | (cases ho; rfl) | (cases ho; exact Z.inL_map fun _ => rfl) | (cases ho; exact Z.inL_mapr fun _ => rfl) | exact Z.inL_gB ho fun _ => rfl)), ?_⟩)))))
      | ((refine ⟨rfl, ?_, rfl⟩); (focus (repeat (first | exact Z.DK.nil | apply Z.DK.cons))))
      | (focus (exact (rfl : Nat.ble _ _ = true))))
    all_goals (try (conv => whnf))
    all_goals first
      | ((refine Z.rndK ((i + 1, acc, g ++ [x.num])) (fun s => [0, 1, 2, s.idIn 2 1, s.idAt 5]) rfl rfl rfl rfl ?_ ?_ ?_ ?_); (focus (repeat' (first | exact trivial | exact rfl | (rw [List.map_append]; exact rfl) | apply And.intro))); (focus (repeat' (first | exact trivial | (intro b hb; cases hb; rfl) | (intro b hb; cases hb; subst hlb; rfl) | (intro b hb; cases hb; rw [List.map_append]; rfl) | (intro b hb; cases hb; done) | exact Z.blk_sub rfl rfl (ren_map fun _ => rfl) | exact Z.blk_sub rfl rfl (Z.ren_app (ren_map fun _ => rfl) (ren_map fun _ => rfl)) | exact Z.blk_sub rfl (by first | (rw [List.map_append]; rfl) | (rw [List.map_set]; rfl) | simp only [List.map_append, List.map_cons, List.map_nil, List.map_set]) (ren_map fun _ => rfl) | exact Z.gB_sub rfl rfl (ren_map fun _ => rfl) | exact Z.gB_sub' rfl (by first | rfl | (rw [List.map_append]; rfl) | simp only [List.map_append, List.map_cons, List.map_nil]) (ren_map fun _ => rfl) | apply And.intro))); (focus (exact ⟨by (try simp only [LN] at *) <;> omega, by dsimp only; rw [HA, hk1]; try simp, by dsimp only; rw [HG, hk2]; try simp⟩)); (dsimp only; omega))
      | (exfalso; simp_all; done)
      | (exfalso; (try simp only [LN] at *) <;> omega)
      | (fail)

end Go.Proofs.Ytnlcmncfbiognaa
