import Derived.Test.YtakfkbciijahgaaGa2
namespace Go.Proofs.Ytakfkbciijahgaa
open Go Go.RowKit Wx
set_option linter.unusedVariables false
set_option linter.unusedSimpArgs false
set_option maxHeartbeats 4000000
theorem held_con (q : Qu)  : Con Try.prog 49 [.agg [.ro false 5 (q.es.map eE), .v (.int .u64 q.last), .v (.bool q.held), .v (.bool q.ended)]] (fun rx rK rt => rx = .val (.bool q.held) ∧ rK = [] ∧ rt = 0) := by
  refine Z.con_ofF tabOk 5 Try.f49 _ Try.func49 (by kernel_rfl) rfl rfl rfl rfl ?_
  repeat' ((conv => whnf); first
    | with_reducible first | refine spB_t ?_
    | ((with_reducible apply spB_cong); (focus (simp only [beq_self_eq_true, bne_self_eq_false, Bool.true_bne, Bool.false_bne, Bool.bne_true, Bool.bne_false, Bool.true_beq, Bool.false_beq, Bool.not_true, Bool.not_false, Bool.not_not, Int.reduceBEq, Int.reduceBNe, Int.reduceLE, Int.reduceLT, Int.reduceEq, decide_true, decide_false]; rfl)))
    | with_reducible first | refine spB_yes (by decide) ?_ | refine spB_no (by decide) ?_ | refine spB_f ?_ | refine spB_not ?_ | refine spB_yes (by assumption) ?_ | refine spB_no (by assumption) ?_
    | (with_reducible refine spB_dec ?_ ?_ <;> intro _ <;> (try (exfalso; first | contradiction | omega | (rename_i hz; with_reducible exact absurd rfl hz))))
    | (with_reducible refine spB_beq ?_ ?_ <;> intro _ <;> (try (exfalso; first | contradiction | omega | (rename_i hz; with_reducible exact absurd rfl hz))))
    | (with_reducible refine spB_bne ?_ ?_ <;> intro _ <;> (try (exfalso; first | contradiction | omega | (rename_i hz; with_reducible exact absurd rfl hz))))
    | (with_reducible refine spB_mk ?_ ?_ <;> intro _ <;> (try (exfalso; first | contradiction | omega | (rename_i hz; with_reducible exact absurd rfl hz))))
    | ((with_reducible apply rowN_mk); (focus rfl))
    | ((with_reducible apply ixN_lit); (focus (exact rfl)); (focus (exact rfl)))
    | ((with_reducible apply ixN_litp); (focus (exact rfl)); (focus ((try simp only [LN] at *) <;> omega)))
    | ((with_reducible refine eqN_mk2 ?_ ?_); (focus rfl))
    | with_reducible refine wr_i64 (by first | omega | (simp only [LN] at *; omega)) ?_
    | with_reducible refine wr_u64 (by omega) ?_
    | with_reducible first | refine wr_mk _ rfl ?_
    | ((with_reducible refine ixN_nat ?_ ?_); (focus ((try simp only [LN] at *) <;> omega)))
    | ((with_reducible refine rowN_map ?_ ?_); (focus ((try simp only [LN] at *) <;> omega)); intro x hx)
    | with_reducible refine eqN_dec (by omega) ?_
    | with_reducible first | refine apN_mk (by kernel_rfl) ?_
    | ((with_reducible refine eqN_mk2 ?_ ?_); (focus (exact Z.kb_some rfl)))
    | ((with_reducible apply ex_and); exact rfl))
  all_goals (try (conv => whnf))
  all_goals first
    | ((first | (with_reducible apply Z.retF1) | (with_reducible apply Z.retF2) | (with_reducible apply Z.retF0)); (focus (exact rfl)); (repeat' (first | exact trivial | (with_reducible apply Z.frz_one) | (with_reducible apply Z.frz_agg) | (with_reducible apply Z.fq_int) | (with_reducible apply Z.fq_bool) | (exact Z.frz_nil) | (exact Z.frz_osl0 rfl rfl rfl) | (with_reducible apply Z.fq_nil) | (with_reducible apply Z.fq_ro) | ((with_reducible apply Z.fq_gsl); (focus (first | rfl | exact Z.isB_map _ | exact Z.gB_snoc.symm)); (focus (exact fun _ => rfl))) | ((with_reducible apply Z.fq_osl); (focus (exact rfl)); (focus (first | exact rfl | (simp only [List.length_map, Nat.zero_add]; done) | ((try simp only [LN] at *) <;> omega))); (focus (exact fun _ => rfl))) | ((with_reducible apply Z.fq_src); (focus (exact rfl)); (focus (first | exact rfl | (simp only [List.length_map, Nat.zero_add]; done) | ((try simp only [LN] at *) <;> omega))); (focus (exact fun _ => rfl))) | exact rfl | ((apply Z.fq_osl); (focus (exact rfl)); (focus (first | exact rfl | (simp only [List.length_map, Nat.zero_add]; done) | ((try simp only [LN] at *) <;> omega))); (focus (exact fun _ => rfl))) | ((apply Z.fq_src); (focus (exact rfl)); (focus (first | exact rfl | (simp only [List.length_map, Nat.zero_add]; done) | ((try simp only [LN] at *) <;> omega))); (focus (exact fun _ => rfl))) | (apply Z.fq_ro) | (apply Z.fq_int) | (apply Z.fq_bool) | apply And.intro)); (all_goals (try exact (fun _ => none))); all_goals (rfl))
    | (fail)

theorem ended_con (q : Qu)  : Con Try.prog 45 [.agg [.ro false 5 (q.es.map eE), .v (.int .u64 q.last), .v (.bool q.held), .v (.bool q.ended)]] (fun rx rK rt => rx = .val (.bool q.ended) ∧ rK = [] ∧ rt = 0) := by
  refine Z.con_ofF tabOk 5 Try.f45 _ Try.func45 (by kernel_rfl) rfl rfl rfl rfl ?_
  repeat' ((conv => whnf); first
    | with_reducible first | refine spB_t ?_
    | ((with_reducible apply spB_cong); (focus (simp only [beq_self_eq_true, bne_self_eq_false, Bool.true_bne, Bool.false_bne, Bool.bne_true, Bool.bne_false, Bool.true_beq, Bool.false_beq, Bool.not_true, Bool.not_false, Bool.not_not, Int.reduceBEq, Int.reduceBNe, Int.reduceLE, Int.reduceLT, Int.reduceEq, decide_true, decide_false]; rfl)))
    | with_reducible first | refine spB_yes (by decide) ?_ | refine spB_no (by decide) ?_ | refine spB_f ?_ | refine spB_not ?_ | refine spB_yes (by assumption) ?_ | refine spB_no (by assumption) ?_
    | (with_reducible refine spB_dec ?_ ?_ <;> intro _ <;> (try (exfalso; first | contradiction | omega | (rename_i hz; with_reducible exact absurd rfl hz))))
    | (with_reducible refine spB_beq ?_ ?_ <;> intro _ <;> (try (exfalso; first | contradiction | omega | (rename_i hz; with_reducible exact absurd rfl hz))))
    | (with_reducible refine spB_bne ?_ ?_ <;> intro _ <;> (try (exfalso; first | contradiction | omega | (rename_i hz; with_reducible exact absurd rfl hz))))
    | (with_reducible refine spB_mk ?_ ?_ <;> intro _ <;> (try (exfalso; first | contradiction | omega | (rename_i hz; with_reducible exact absurd rfl hz))))
    | ((with_reducible apply rowN_mk); (focus rfl))
    | ((with_reducible apply ixN_lit); (focus (exact rfl)); (focus (exact rfl)))
    | ((with_reducible apply ixN_litp); (focus (exact rfl)); (focus ((try simp only [LN] at *) <;> omega)))
    | ((with_reducible refine eqN_mk2 ?_ ?_); (focus rfl))
    | with_reducible refine wr_i64 (by first | omega | (simp only [LN] at *; omega)) ?_
    | with_reducible refine wr_u64 (by omega) ?_
    | with_reducible first | refine wr_mk _ rfl ?_
    | ((with_reducible refine ixN_nat ?_ ?_); (focus ((try simp only [LN] at *) <;> omega)))
    | ((with_reducible refine rowN_map ?_ ?_); (focus ((try simp only [LN] at *) <;> omega)); intro x hx)
    | with_reducible refine eqN_dec (by omega) ?_
    | with_reducible first | refine apN_mk (by kernel_rfl) ?_
    | ((with_reducible refine eqN_mk2 ?_ ?_); (focus (exact Z.kb_some rfl)))
    | ((with_reducible apply ex_and); exact rfl))
  all_goals (try (conv => whnf))
  all_goals first
    | ((first | (with_reducible apply Z.retF1) | (with_reducible apply Z.retF2) | (with_reducible apply Z.retF0)); (focus (exact rfl)); (repeat' (first | exact trivial | (with_reducible apply Z.frz_one) | (with_reducible apply Z.frz_agg) | (with_reducible apply Z.fq_int) | (with_reducible apply Z.fq_bool) | (exact Z.frz_nil) | (exact Z.frz_osl0 rfl rfl rfl) | (with_reducible apply Z.fq_nil) | (with_reducible apply Z.fq_ro) | ((with_reducible apply Z.fq_gsl); (focus (first | rfl | exact Z.isB_map _ | exact Z.gB_snoc.symm)); (focus (exact fun _ => rfl))) | ((with_reducible apply Z.fq_osl); (focus (exact rfl)); (focus (first | exact rfl | (simp only [List.length_map, Nat.zero_add]; done) | ((try simp only [LN] at *) <;> omega))); (focus (exact fun _ => rfl))) | ((with_reducible apply Z.fq_src); (focus (exact rfl)); (focus (first | exact rfl | (simp only [List.length_map, Nat.zero_add]; done) | ((try simp only [LN] at *) <;> omega))); (focus (exact fun _ => rfl))) | exact rfl | ((apply Z.fq_osl); (focus (exact rfl)); (focus (first | exact rfl | (simp only [List.length_map, Nat.zero_add]; done) | ((try simp only [LN] at *) <;> omega))); (focus (exact fun _ => rfl))) | ((apply Z.fq_src); (focus (exact rfl)); (focus (first | exact rfl | (simp only [List.length_map, Nat.zero_add]; done) | ((try simp only [LN] at *) <;> omega))); (focus (exact fun _ => rfl))) | (apply Z.fq_ro) | (apply Z.fq_int) | (apply Z.fq_bool) | apply And.intro)); (all_goals (try exact (fun _ => none))); all_goals (rfl))
    | (fail)

theorem done_con (q : Qu)  : Con Try.prog 51 [.agg [.ro false 5 (q.es.map eE), .v (.int .u64 q.last), .v (.bool q.held), .v (.bool q.ended)]] (fun rx rK rt => rx = .val (.bool (q.held || q.ended)) ∧ rK = [] ∧ rt = 0) := by
  refine Z.con_ofF tabOk 9 Try.f51 _ Try.func51 (by kernel_rfl) rfl rfl rfl rfl ?_
  repeat' ((conv => whnf); first
    | with_reducible first | refine spB_t ?_
    | ((with_reducible apply spB_cong); (focus (simp only [beq_self_eq_true, bne_self_eq_false, Bool.true_bne, Bool.false_bne, Bool.bne_true, Bool.bne_false, Bool.true_beq, Bool.false_beq, Bool.not_true, Bool.not_false, Bool.not_not, Int.reduceBEq, Int.reduceBNe, Int.reduceLE, Int.reduceLT, Int.reduceEq, decide_true, decide_false]; rfl)))
    | with_reducible first | refine spB_yes (by decide) ?_ | refine spB_no (by decide) ?_ | refine spB_f ?_ | refine spB_not ?_ | refine spB_yes (by assumption) ?_ | refine spB_no (by assumption) ?_
    | (with_reducible refine spB_dec ?_ ?_ <;> intro _ <;> (try (exfalso; first | contradiction | omega | (rename_i hz; with_reducible exact absurd rfl hz))))
    | (with_reducible refine spB_beq ?_ ?_ <;> intro _ <;> (try (exfalso; first | contradiction | omega | (rename_i hz; with_reducible exact absurd rfl hz))))
    | (with_reducible refine spB_bne ?_ ?_ <;> intro _ <;> (try (exfalso; first | contradiction | omega | (rename_i hz; with_reducible exact absurd rfl hz))))
    | (with_reducible refine spB_mk ?_ ?_ <;> intro _ <;> (try (exfalso; first | contradiction | omega | (rename_i hz; with_reducible exact absurd rfl hz))))
    | ((with_reducible apply rowN_mk); (focus rfl))
    | ((with_reducible apply ixN_lit); (focus (exact rfl)); (focus (exact rfl)))
    | ((with_reducible apply ixN_litp); (focus (exact rfl)); (focus ((try simp only [LN] at *) <;> omega)))
    | ((with_reducible refine eqN_mk2 ?_ ?_); (focus rfl))
    | with_reducible refine wr_i64 (by first | omega | (simp only [LN] at *; omega)) ?_
    | with_reducible refine wr_u64 (by omega) ?_
    | with_reducible first | refine wr_mk _ rfl ?_
    | ((with_reducible refine ixN_nat ?_ ?_); (focus ((try simp only [LN] at *) <;> omega)))
    | ((with_reducible refine rowN_map ?_ ?_); (focus ((try simp only [LN] at *) <;> omega)); intro x hx)
    | with_reducible refine eqN_dec (by omega) ?_
    | with_reducible first | refine apN_mk (by kernel_rfl) ?_
    | ((with_reducible refine eqN_mk2 ?_ ?_); (focus (exact Z.kb_some rfl)))
    | ((with_reducible apply ex_and); exact rfl))
  all_goals (try (conv => whnf))
  all_goals first
    | ((first | (with_reducible apply Z.retF1) | (with_reducible apply Z.retF2) | (with_reducible apply Z.retF0)); (focus (exact rfl)); (repeat' (first | exact trivial | (with_reducible apply Z.frz_one) | (with_reducible apply Z.frz_agg) | (with_reducible apply Z.fq_int) | (with_reducible apply Z.fq_bool) | (exact Z.frz_nil) | (exact Z.frz_osl0 rfl rfl rfl) | (with_reducible apply Z.fq_nil) | (with_reducible apply Z.fq_ro) | ((with_reducible apply Z.fq_gsl); (focus (first | rfl | exact Z.isB_map _ | exact Z.gB_snoc.symm)); (focus (exact fun _ => rfl))) | ((with_reducible apply Z.fq_osl); (focus (exact rfl)); (focus (first | exact rfl | (simp only [List.length_map, Nat.zero_add]; done) | ((try simp only [LN] at *) <;> omega))); (focus (exact fun _ => rfl))) | ((with_reducible apply Z.fq_src); (focus (exact rfl)); (focus (first | exact rfl | (simp only [List.length_map, Nat.zero_add]; done) | ((try simp only [LN] at *) <;> omega))); (focus (exact fun _ => rfl))) | exact rfl | ((apply Z.fq_osl); (focus (exact rfl)); (focus (first | exact rfl | (simp only [List.length_map, Nat.zero_add]; done) | ((try simp only [LN] at *) <;> omega))); (focus (exact fun _ => rfl))) | ((apply Z.fq_src); (focus (exact rfl)); (focus (first | exact rfl | (simp only [List.length_map, Nat.zero_add]; done) | ((try simp only [LN] at *) <;> omega))); (focus (exact fun _ => rfl))) | (apply Z.fq_ro) | (apply Z.fq_int) | (apply Z.fq_bool) | apply And.intro)); (all_goals (try exact (fun _ => none))); all_goals (first | rfl | (simp_all; done)))
    | (fail)

theorem allM_con (qs : List Qu) (hq : qs.length ≤ 9223372036854775807) (hlq : ∀ q ∈ qs, q.es.length ≤ 9223372036854775807) (huq : ∀ q ∈ qs, ∀ e ∈ q.es, 0 ≤ e.num) : Con Try.prog 44 [.one (.fn 50 []), .one (.ro false 4 (qs.map eQ))] (fun rx rK rt => rx = .val (.bool (qs.all okQ)) ∧ rK = [] ∧ rt = 0) := by
  refine Z.con_ofF tabOk 18 Try.f44 _ Try.func44 (by kernel_rfl) rfl rfl rfl rfl ?_
  repeat' ((conv => whnf); first
    | with_reducible first | refine spB_t ?_
    | ((with_reducible apply spB_cong); (focus (simp only [beq_self_eq_true, bne_self_eq_false, Bool.true_bne, Bool.false_bne, Bool.bne_true, Bool.bne_false, Bool.true_beq, Bool.false_beq, Bool.not_true, Bool.not_false, Bool.not_not, Int.reduceBEq, Int.reduceBNe, Int.reduceLE, Int.reduceLT, Int.reduceEq, decide_true, decide_false]; rfl)))
    | with_reducible first | refine spB_yes (by decide) ?_ | refine spB_no (by decide) ?_ | refine spB_f ?_ | refine spB_not ?_ | refine spB_yes (by assumption) ?_ | refine spB_no (by assumption) ?_
    | (with_reducible refine spB_dec ?_ ?_ <;> intro _ <;> (try (exfalso; first | contradiction | omega | (rename_i hz; with_reducible exact absurd rfl hz))))
    | (with_reducible refine spB_beq ?_ ?_ <;> intro _ <;> (try (exfalso; first | contradiction | omega | (rename_i hz; with_reducible exact absurd rfl hz))))
    | (with_reducible refine spB_bne ?_ ?_ <;> intro _ <;> (try (exfalso; first | contradiction | omega | (rename_i hz; with_reducible exact absurd rfl hz))))
    | (with_reducible refine spB_mk ?_ ?_ <;> intro _ <;> (try (exfalso; first | contradiction | omega | (rename_i hz; with_reducible exact absurd rfl hz))))
    | ((with_reducible apply rowN_mk); (focus rfl))
    | ((with_reducible apply ixN_lit); (focus (exact rfl)); (focus (exact rfl)))
    | ((with_reducible apply ixN_litp); (focus (exact rfl)); (focus ((try simp only [LN] at *) <;> omega)))
    | ((with_reducible refine eqN_mk2 ?_ ?_); (focus rfl))
    | with_reducible refine wr_i64 (by first | omega | (simp only [LN] at *; omega)) ?_
    | with_reducible refine wr_u64 (by omega) ?_
    | with_reducible refine wr_u8 (by omega) ?_
    | with_reducible refine wr_u32 (by omega) ?_
    | with_reducible first | refine wr_mk _ rfl ?_
    | ((with_reducible refine ixN_nat ?_ ?_); (focus ((try simp only [LN] at *) <;> omega)))
    | ((with_reducible refine rowN_map ?_ ?_); (focus ((try simp only [LN] at *) <;> omega)); intro x hx)
    | with_reducible refine eqN_dec (by omega) ?_
    | with_reducible first | refine apN_mk (by kernel_rfl) ?_
    | ((with_reducible refine eqN_mk2 ?_ ?_); (focus (exact Z.kb_some rfl)))
    | ((with_reducible apply ex_and); exact rfl))
  all_goals (try (conv => whnf))
  refine Z.loopK tabOk (fun zq : Nat => [(9, .val (.int .i64 (zq : Int)))]) (fun zq : Nat => ([] : Z.Kr)) (fun zq => zq ≤ qs.length ∧ qs.all okQ = (qs.drop zq).all okQ) (fun zq => qs.length - zq) 0 0 [(0, _), (7, _), (8, _)] ⟨rfl, rfl, rfl, trivial⟩ [] trivial ?_ ?_ rfl rfl ⟨Nat.zero_le _, rfl⟩ ?_
  · repeat' (first | exact trivial | apply And.intro | exact ⟨_, rfl, rfl⟩ | exact ⟨_, rfl, Z.Imp.refl _⟩ | exact ⟨_, rfl, Z.Imp.nilg _⟩ | exact ⟨_, rfl, Z.Imp.nilr _ _⟩)
  · repeat' (first | exact trivial | (intro b hb; cases hb; done) | exact (fun b hb => ⟨b, hb, Z.ImpO.refl b⟩) | (intro b hb; cases hb; refine ⟨_, rfl, ⟨rfl, rfl, rfl⟩, ?_⟩; (repeat' (first | exact trivial | apply And.intro | exact Z.Imp.refl _ | exact Z.Imp.nilg _ | exact Z.Imp.nilr _ _)); done) | apply And.intro)
  rintro i HINV
  dsimp only at HINV ⊢
  obtain ⟨HI, HO⟩ := HINV
  repeat' ((conv => whnf); first
    | with_reducible first | refine spB_t ?_
    | ((with_reducible apply spB_cong); (focus (simp only [beq_self_eq_true, bne_self_eq_false, Bool.true_bne, Bool.false_bne, Bool.bne_true, Bool.bne_false, Bool.true_beq, Bool.false_beq, Bool.not_true, Bool.not_false, Bool.not_not, Int.reduceBEq, Int.reduceBNe, Int.reduceLE, Int.reduceLT, Int.reduceEq, decide_true, decide_false]; rfl)))
    | with_reducible first | refine spB_yes (by decide) ?_ | refine spB_no (by decide) ?_ | refine spB_f ?_ | refine spB_not ?_ | refine spB_yes (by assumption) ?_ | refine spB_no (by assumption) ?_
    | (with_reducible refine spB_dec ?_ ?_ <;> intro _ <;> (try (exfalso; first | contradiction | omega | (rename_i hz; with_reducible exact absurd rfl hz))))
    | (with_reducible refine spB_beq ?_ ?_ <;> intro _ <;> (try (exfalso; first | contradiction | omega | (rename_i hz; with_reducible exact absurd rfl hz))))
    | (with_reducible refine spB_bne ?_ ?_ <;> intro _ <;> (try (exfalso; first | contradiction | omega | (rename_i hz; with_reducible exact absurd rfl hz))))
    | (with_reducible refine spB_mk ?_ ?_ <;> intro _ <;> (try (exfalso; first | contradiction | omega | (rename_i hz; with_reducible exact absurd rfl hz))))
    | ((with_reducible apply rowN_mk); (focus rfl))
    | ((with_reducible apply ixN_lit); (focus (exact rfl)); (focus (exact rfl)))
    | ((with_reducible apply ixN_litp); (focus (exact rfl)); (focus ((try simp only [LN] at *) <;> omega)))
    | ((with_reducible refine eqN_mk2 ?_ ?_); (focus rfl))
    | with_reducible refine wr_i64 (by first | omega | (simp only [LN] at *; omega)) ?_
    | with_reducible refine wr_u64 (by omega) ?_
    | with_reducible refine wr_u8 (by omega) ?_
    | with_reducible refine wr_u32 (by omega) ?_
    | with_reducible first | refine wr_mk _ rfl ?_
    | ((with_reducible refine ixN_nat ?_ ?_); (focus ((try simp only [LN] at *) <;> omega)))
    | ((with_reducible refine rowN_map ?_ ?_); (focus ((try simp only [LN] at *) <;> omega)); intro x hx; have hlx := hlq _ (List.mem_of_getElem? hx); have hux := huq _ (List.mem_of_getElem? hx))
    | with_reducible refine eqN_dec (by omega) ?_
    | with_reducible first | refine apN_mk (by kernel_rfl) ?_
    | ((first | (with_reducible apply Z.conZ_mz ?_ (mayQ_con _ ?_ ?_) ?_) | (with_reducible apply Z.callZ_mk ?_ (mayQ_con _ ?_ ?_) ?_)); (rotate_left 1); (focus ((repeat' (first | exact trivial | exact rfl | exact Z.low_nil | exact Z.low_nil2 | exact low_osl (fun _ => rfl) | (refine Z.low_osln ?_ (fun _ => rfl); (simp only [List.length_map]; done)) | exact low_oslr (fun _ => rfl) | exact Z.low_gslm (by first | rfl | exact Z.kb_some rfl) (fun _ => rfl) | exact .inl rfl | exact .inr ⟨_, rfl⟩ | apply And.intro)); done)); (iterate 2 (focus (first | assumption | omega | ((try simp only [LN] at *); omega)))))
    | ((with_reducible refine eqN_mk2 ?_ ?_); (focus (exact Z.kb_some rfl)))
    | ((with_reducible apply ex_and); exact rfl))
  all_goals (try (conv => whnf))
  all_goals first
    | ((refine Z.rndK (i + 1) (fun s => []) rfl rfl rfl rfl ?_ ?_ ?_ ?_); (focus (repeat' (first | exact trivial | exact rfl | (rw [List.map_append]; exact rfl) | apply And.intro))); (focus (repeat' (first | exact trivial | (intro b hb; cases hb; rfl) | (intro b hb; cases hb; subst hlb; rfl) | (intro b hb; cases hb; rw [List.map_append]; rfl) | (intro b hb; cases hb; done) | exact Z.blk_sub rfl rfl (ren_map fun _ => rfl) | exact Z.blk_sub rfl rfl (Z.ren_app (ren_map fun _ => rfl) (ren_map fun _ => rfl)) | exact Z.blk_sub rfl (by first | (rw [List.map_append]; rfl) | (rw [List.map_set]; rfl) | simp only [List.map_append, List.map_cons, List.map_nil, List.map_set]) (ren_map fun _ => rfl) | exact Z.gB_sub rfl rfl (ren_map fun _ => rfl) | exact Z.gB_sub' rfl (by first | rfl | (rw [List.map_append]; rfl) | simp only [List.map_append, List.map_cons, List.map_nil]) (ren_map fun _ => rfl) | apply And.intro))); (focus (refine ⟨by (try simp only [LN] at *) <;> omega, ?_⟩; (try dsimp only); rw [HO, all_at hx]; simp_all)); (try simp only [LN] at *); (try dsimp only); omega)
    | ((first | (with_reducible apply Z.retF1) | (with_reducible apply Z.retF2) | (with_reducible apply Z.retF0)); (focus (exact rfl)); (repeat' (first | exact trivial | (with_reducible apply Z.frz_one) | (with_reducible apply Z.frz_agg) | (with_reducible apply Z.fq_int) | (with_reducible apply Z.fq_bool) | (exact Z.frz_nil) | (exact Z.frz_osl0 rfl rfl rfl) | (with_reducible apply Z.fq_nil) | (with_reducible apply Z.fq_ro) | ((with_reducible apply Z.fq_gsl); (focus (first | rfl | exact Z.isB_map _ | exact Z.gB_snoc.symm)); (focus (exact fun _ => rfl))) | ((with_reducible apply Z.fq_osl); (focus (exact rfl)); (focus (first | exact rfl | (simp only [List.length_map, Nat.zero_add]; done) | ((try simp only [LN] at *) <;> omega))); (focus (exact fun _ => rfl))) | ((with_reducible apply Z.fq_src); (focus (exact rfl)); (focus (first | exact rfl | (simp only [List.length_map, Nat.zero_add]; done) | ((try simp only [LN] at *) <;> omega))); (focus (exact fun _ => rfl))) | exact rfl | ((apply Z.fq_osl); (focus (exact rfl)); (focus (first | exact rfl | (simp only [List.length_map, Nat.zero_add]; done) | ((try simp only [LN] at *) <;> omega))); (focus (exact fun _ => rfl))) | ((apply Z.fq_src); (focus (exact rfl)); (focus (first | exact rfl | (simp only [List.length_map, Nat.zero_add]; done) | ((try simp only [LN] at *) <;> omega))); (focus (exact fun _ => rfl))) | (apply Z.fq_ro) | (apply Z.fq_int) | (apply Z.fq_bool) | apply And.intro)); (all_goals (try exact (fun _ => none))); all_goals (first | (rw [HO, all_at hx]; simp_all; done) | (rw [HO, drop_end (by (try simp only [LN] at *) <;> omega)]; rfl)))
    | (fail)

theorem allE_con (qs : List Qu) (hq : qs.length ≤ 9223372036854775807)  : Con Try.prog 44 [.one (.fn 45 []), .one (.ro false 4 (qs.map eQ))] (fun rx rK rt => rx = .val (.bool (qs.all (fun q => q.ended))) ∧ rK = [] ∧ rt = 0) := by
  refine Z.con_ofF tabOk 18 Try.f44 _ Try.func44 (by kernel_rfl) rfl rfl rfl rfl ?_
  repeat' ((conv => whnf); first
    | with_reducible first | refine spB_t ?_
    | ((with_reducible apply spB_cong); (focus (simp only [beq_self_eq_true, bne_self_eq_false, Bool.true_bne, Bool.false_bne, Bool.bne_true, Bool.bne_false, Bool.true_beq, Bool.false_beq, Bool.not_true, Bool.not_false, Bool.not_not, Int.reduceBEq, Int.reduceBNe, Int.reduceLE, Int.reduceLT, Int.reduceEq, decide_true, decide_false]; rfl)))
    | with_reducible first | refine spB_yes (by decide) ?_ | refine spB_no (by decide) ?_ | refine spB_f ?_ | refine spB_not ?_ | refine spB_yes (by assumption) ?_ | refine spB_no (by assumption) ?_
    | (with_reducible refine spB_dec ?_ ?_ <;> intro _ <;> (try (exfalso; first | contradiction | omega | (rename_i hz; with_reducible exact absurd rfl hz))))
    | (with_reducible refine spB_beq ?_ ?_ <;> intro _ <;> (try (exfalso; first | contradiction | omega | (rename_i hz; with_reducible exact absurd rfl hz))))
    | (with_reducible refine spB_bne ?_ ?_ <;> intro _ <;> (try (exfalso; first | contradiction | omega | (rename_i hz; with_reducible exact absurd rfl hz))))
    | (with_reducible refine spB_mk ?_ ?_ <;> intro _ <;> (try (exfalso; first | contradiction | omega | (rename_i hz; with_reducible exact absurd rfl hz))))
    | ((with_reducible apply rowN_mk); (focus rfl))
    | ((with_reducible apply ixN_lit); (focus (exact rfl)); (focus (exact rfl)))
    | ((with_reducible apply ixN_litp); (focus (exact rfl)); (focus ((try simp only [LN] at *) <;> omega)))
    | ((with_reducible refine eqN_mk2 ?_ ?_); (focus rfl))
    | with_reducible refine wr_i64 (by first | omega | (simp only [LN] at *; omega)) ?_
    | with_reducible refine wr_u64 (by omega) ?_
    | with_reducible refine wr_u8 (by omega) ?_
    | with_reducible refine wr_u32 (by omega) ?_
    | with_reducible first | refine wr_mk _ rfl ?_
    | ((with_reducible refine ixN_nat ?_ ?_); (focus ((try simp only [LN] at *) <;> omega)))
    | ((with_reducible refine rowN_map ?_ ?_); (focus ((try simp only [LN] at *) <;> omega)); intro x hx)
    | with_reducible refine eqN_dec (by omega) ?_
    | with_reducible first | refine apN_mk (by kernel_rfl) ?_
    | ((with_reducible refine eqN_mk2 ?_ ?_); (focus (exact Z.kb_some rfl)))
    | ((with_reducible apply ex_and); exact rfl))
  all_goals (try (conv => whnf))
  refine Z.loopK tabOk (fun zq : Nat => [(9, .val (.int .i64 (zq : Int)))]) (fun zq : Nat => ([] : Z.Kr)) (fun zq => zq ≤ qs.length ∧ qs.all (fun q => q.ended) = (qs.drop zq).all (fun q => q.ended)) (fun zq => qs.length - zq) 0 0 [(0, _), (7, _), (8, _)] ⟨rfl, rfl, rfl, trivial⟩ [] trivial ?_ ?_ rfl rfl ⟨Nat.zero_le _, rfl⟩ ?_
  · repeat' (first | exact trivial | apply And.intro | exact ⟨_, rfl, rfl⟩ | exact ⟨_, rfl, Z.Imp.refl _⟩ | exact ⟨_, rfl, Z.Imp.nilg _⟩ | exact ⟨_, rfl, Z.Imp.nilr _ _⟩)
  · repeat' (first | exact trivial | (intro b hb; cases hb; done) | exact (fun b hb => ⟨b, hb, Z.ImpO.refl b⟩) | (intro b hb; cases hb; refine ⟨_, rfl, ⟨rfl, rfl, rfl⟩, ?_⟩; (repeat' (first | exact trivial | apply And.intro | exact Z.Imp.refl _ | exact Z.Imp.nilg _ | exact Z.Imp.nilr _ _)); done) | apply And.intro)
  rintro i HINV
  dsimp only at HINV ⊢
  obtain ⟨HI, HO⟩ := HINV
  repeat' ((conv => whnf); first
    | with_reducible first | refine spB_t ?_
    | ((with_reducible apply spB_cong); (focus (simp only [beq_self_eq_true, bne_self_eq_false, Bool.true_bne, Bool.false_bne, Bool.bne_true, Bool.bne_false, Bool.true_beq, Bool.false_beq, Bool.not_true, Bool.not_false, Bool.not_not, Int.reduceBEq, Int.reduceBNe, Int.reduceLE, Int.reduceLT, Int.reduceEq, decide_true, decide_false]; rfl)))
    | with_reducible first | refine spB_yes (by decide) ?_ | refine spB_no (by decide) ?_ | refine spB_f ?_ | refine spB_not ?_ | refine spB_yes (by assumption) ?_ | refine spB_no (by assumption) ?_
    | (with_reducible refine spB_dec ?_ ?_ <;> intro _ <;> (try (exfalso; first | contradiction | omega | (rename_i hz; with_reducible exact absurd rfl hz))))
    | (with_reducible refine spB_beq ?_ ?_ <;> intro _ <;> (try (exfalso; first | contradiction | omega | (rename_i hz; with_reducible exact absurd rfl hz))))
    | (with_reducible refine spB_bne ?_ ?_ <;> intro _ <;> (try (exfalso; first | contradiction | omega | (rename_i hz; with_reducible exact absurd rfl hz))))
    | (with_reducible refine spB_mk ?_ ?_ <;> intro _ <;> (try (exfalso; first | contradiction | omega | (rename_i hz; with_reducible exact absurd rfl hz))))
    | ((with_reducible apply rowN_mk); (focus rfl))
    | ((with_reducible apply ixN_lit); (focus (exact rfl)); (focus (exact rfl)))
    | ((with_reducible apply ixN_litp); (focus (exact rfl)); (focus ((try simp only [LN] at *) <;> omega)))
    | ((with_reducible refine eqN_mk2 ?_ ?_); (focus rfl))
    | with_reducible refine wr_i64 (by first | omega | (simp only [LN] at *; omega)) ?_
    | with_reducible refine wr_u64 (by omega) ?_
    | with_reducible refine wr_u8 (by omega) ?_
    | with_reducible refine wr_u32 (by omega) ?_
    | with_reducible first | refine wr_mk _ rfl ?_
    | ((with_reducible refine ixN_nat ?_ ?_); (focus ((try simp only [LN] at *) <;> omega)))
    | ((with_reducible refine rowN_map ?_ ?_); (focus ((try simp only [LN] at *) <;> omega)); intro x hx)
    | with_reducible refine eqN_dec (by omega) ?_
    | with_reducible first | refine apN_mk (by kernel_rfl) ?_
    | ((first | (with_reducible apply Z.conZ_mz ?_ (ended_con _) ?_) | (with_reducible apply Z.callZ_mk ?_ (ended_con _) ?_)); (rotate_left 1); (focus ((repeat' (first | exact trivial | exact rfl | exact Z.low_nil | exact Z.low_nil2 | exact low_osl (fun _ => rfl) | (refine Z.low_osln ?_ (fun _ => rfl); (simp only [List.length_map]; done)) | exact low_oslr (fun _ => rfl) | exact Z.low_gslm (by first | rfl | exact Z.kb_some rfl) (fun _ => rfl) | exact .inl rfl | exact .inr ⟨_, rfl⟩ | apply And.intro)); done)))
    | ((with_reducible refine eqN_mk2 ?_ ?_); (focus (exact Z.kb_some rfl)))
    | ((with_reducible apply ex_and); exact rfl))
  all_goals (try (conv => whnf))
  all_goals first
    | ((refine Z.rndK (i + 1) (fun s => []) rfl rfl rfl rfl ?_ ?_ ?_ ?_); (focus (repeat' (first | exact trivial | exact rfl | (rw [List.map_append]; exact rfl) | apply And.intro))); (focus (repeat' (first | exact trivial | (intro b hb; cases hb; rfl) | (intro b hb; cases hb; subst hlb; rfl) | (intro b hb; cases hb; rw [List.map_append]; rfl) | (intro b hb; cases hb; done) | exact Z.blk_sub rfl rfl (ren_map fun _ => rfl) | exact Z.blk_sub rfl rfl (Z.ren_app (ren_map fun _ => rfl) (ren_map fun _ => rfl)) | exact Z.blk_sub rfl (by first | (rw [List.map_append]; rfl) | (rw [List.map_set]; rfl) | simp only [List.map_append, List.map_cons, List.map_nil, List.map_set]) (ren_map fun _ => rfl) | exact Z.gB_sub rfl rfl (ren_map fun _ => rfl) | exact Z.gB_sub' rfl (by first | rfl | (rw [List.map_append]; rfl) | simp only [List.map_append, List.map_cons, List.map_nil]) (ren_map fun _ => rfl) | apply And.intro))); (focus (refine ⟨by (try simp only [LN] at *) <;> omega, ?_⟩; (try dsimp only); rw [HO, all_at hx]; simp_all)); (try simp only [LN] at *); (try dsimp only); omega)
    | ((first | (with_reducible apply Z.retF1) | (with_reducible apply Z.retF2) | (with_reducible apply Z.retF0)); (focus (exact rfl)); (repeat' (first | exact trivial | (with_reducible apply Z.frz_one) | (with_reducible apply Z.frz_agg) | (with_reducible apply Z.fq_int) | (with_reducible apply Z.fq_bool) | (exact Z.frz_nil) | (exact Z.frz_osl0 rfl rfl rfl) | (with_reducible apply Z.fq_nil) | (with_reducible apply Z.fq_ro) | ((with_reducible apply Z.fq_gsl); (focus (first | rfl | exact Z.isB_map _ | exact Z.gB_snoc.symm)); (focus (exact fun _ => rfl))) | ((with_reducible apply Z.fq_osl); (focus (exact rfl)); (focus (first | exact rfl | (simp only [List.length_map, Nat.zero_add]; done) | ((try simp only [LN] at *) <;> omega))); (focus (exact fun _ => rfl))) | ((with_reducible apply Z.fq_src); (focus (exact rfl)); (focus (first | exact rfl | (simp only [List.length_map, Nat.zero_add]; done) | ((try simp only [LN] at *) <;> omega))); (focus (exact fun _ => rfl))) | exact rfl | ((apply Z.fq_osl); (focus (exact rfl)); (focus (first | exact rfl | (simp only [List.length_map, Nat.zero_add]; done) | ((try simp only [LN] at *) <;> omega))); (focus (exact fun _ => rfl))) | ((apply Z.fq_src); (focus (exact rfl)); (focus (first | exact rfl | (simp only [List.length_map, Nat.zero_add]; done) | ((try simp only [LN] at *) <;> omega))); (focus (exact fun _ => rfl))) | (apply Z.fq_ro) | (apply Z.fq_int) | (apply Z.fq_bool) | apply And.intro)); (all_goals (try exact (fun _ => none))); all_goals (first | (rw [HO, all_at hx]; simp_all; done) | (rw [HO, drop_end (by (try simp only [LN] at *) <;> omega)]; rfl)))
    | (fail)

theorem allD_con (qs : List Qu) (hq : qs.length ≤ 9223372036854775807)  : Con Try.prog 44 [.one (.fn 51 []), .one (.ro false 4 (qs.map eQ))] (fun rx rK rt => rx = .val (.bool (qs.all (fun q => q.held || q.ended))) ∧ rK = [] ∧ rt = 0) := by
  refine Z.con_ofF tabOk 18 Try.f44 _ Try.func44 (by kernel_rfl) rfl rfl rfl rfl ?_
  repeat' ((conv => whnf); first
    | with_reducible first | refine spB_t ?_
    | ((with_reducible apply spB_cong); (focus (simp only [beq_self_eq_true, bne_self_eq_false, Bool.true_bne, Bool.false_bne, Bool.bne_true, Bool.bne_false, Bool.true_beq, Bool.false_beq, Bool.not_true, Bool.not_false, Bool.not_not, Int.reduceBEq, Int.reduceBNe, Int.reduceLE, Int.reduceLT, Int.reduceEq, decide_true, decide_false]; rfl)))
    | with_reducible first | refine spB_yes (by decide) ?_ | refine spB_no (by decide) ?_ | refine spB_f ?_ | refine spB_not ?_ | refine spB_yes (by assumption) ?_ | refine spB_no (by assumption) ?_
    | (with_reducible refine spB_dec ?_ ?_ <;> intro _ <;> (try (exfalso; first | contradiction | omega | (rename_i hz; with_reducible exact absurd rfl hz))))
    | (with_reducible refine spB_beq ?_ ?_ <;> intro _ <;> (try (exfalso; first | contradiction | omega | (rename_i hz; with_reducible exact absurd rfl hz))))
    | (with_reducible refine spB_bne ?_ ?_ <;> intro _ <;> (try (exfalso; first | contradiction | omega | (rename_i hz; with_reducible exact absurd rfl hz))))
    | (with_reducible refine spB_mk ?_ ?_ <;> intro _ <;> (try (exfalso; first | contradiction | omega | (rename_i hz; with_reducible exact absurd rfl hz))))
    | ((with_reducible apply rowN_mk); (focus rfl))
    | ((with_reducible apply ixN_lit); (focus (exact rfl)); (focus (exact rfl)))
    | ((with_reducible apply ixN_litp); (focus (exact rfl)); (focus ((try simp only [LN] at *) <;> omega)))
    | ((with_reducible refine eqN_mk2 ?_ ?_); (focus rfl))
    | with_reducible refine wr_i64 (by first | omega | (simp only [LN] at *; omega)) ?_
    | with_reducible refine wr_u64 (by omega) ?_
    | with_reducible refine wr_u8 (by omega) ?_
    | with_reducible refine wr_u32 (by omega) ?_
    | with_reducible first | refine wr_mk _ rfl ?_
    | ((with_reducible refine ixN_nat ?_ ?_); (focus ((try simp only [LN] at *) <;> omega)))
    | ((with_reducible refine rowN_map ?_ ?_); (focus ((try simp only [LN] at *) <;> omega)); intro x hx)
    | with_reducible refine eqN_dec (by omega) ?_
    | with_reducible first | refine apN_mk (by kernel_rfl) ?_
    | ((with_reducible refine eqN_mk2 ?_ ?_); (focus (exact Z.kb_some rfl)))
    | ((with_reducible apply ex_and); exact rfl))
  all_goals (try (conv => whnf))
  refine Z.loopK tabOk (fun zq : Nat => [(9, .val (.int .i64 (zq : Int)))]) (fun zq : Nat => ([] : Z.Kr)) (fun zq => zq ≤ qs.length ∧ qs.all (fun q => q.held || q.ended) = (qs.drop zq).all (fun q => q.held || q.ended)) (fun zq => qs.length - zq) 0 0 [(0, _), (7, _), (8, _)] ⟨rfl, rfl, rfl, trivial⟩ [] trivial ?_ ?_ rfl rfl ⟨Nat.zero_le _, rfl⟩ ?_
  · repeat' (first | exact trivial | apply And.intro | exact ⟨_, rfl, rfl⟩ | exact ⟨_, rfl, Z.Imp.refl _⟩ | exact ⟨_, rfl, Z.Imp.nilg _⟩ | exact ⟨_, rfl, Z.Imp.nilr _ _⟩)
  · repeat' (first | exact trivial | (intro b hb; cases hb; done) | exact (fun b hb => ⟨b, hb, Z.ImpO.refl b⟩) | (intro b hb; cases hb; refine ⟨_, rfl, ⟨rfl, rfl, rfl⟩, ?_⟩; (repeat' (first | exact trivial | apply And.intro | exact Z.Imp.refl _ | exact Z.Imp.nilg _ | exact Z.Imp.nilr _ _)); done) | apply And.intro)
  rintro i HINV
  dsimp only at HINV ⊢
  obtain ⟨HI, HO⟩ := HINV
  repeat' ((conv => whnf); first
    | with_reducible first | refine spB_t ?_
    | ((with_reducible apply spB_cong); (focus (simp only [beq_self_eq_true, bne_self_eq_false, Bool.true_bne, Bool.false_bne, Bool.bne_true, Bool.bne_false, Bool.true_beq, Bool.false_beq, Bool.not_true, Bool.not_false, Bool.not_not, Int.reduceBEq, Int.reduceBNe, Int.reduceLE, Int.reduceLT, Int.reduceEq, decide_true, decide_false]; rfl)))
    | with_reducible first | refine spB_yes (by decide) ?_ | refine spB_no (by decide) ?_ | refine spB_f ?_ | refine spB_not ?_ | refine spB_yes (by assumption) ?_ | refine spB_no (by assumption) ?_
    | (with_reducible refine spB_dec ?_ ?_ <;> intro _ <;> (try (exfalso; first | contradiction | omega | (rename_i hz; with_reducible exact absurd rfl hz))))
    | (with_reducible refine spB_beq ?_ ?_ <;> intro _ <;> (try (exfalso; first | contradiction | omega | (rename_i hz; with_reducible exact absurd rfl hz))))
    | (with_reducible refine spB_bne ?_ ?_ <;> intro _ <;> (try (exfalso; first | contradiction | omega | (rename_i hz; with_reducible exact absurd rfl hz))))
    | (with_reducible refine spB_mk ?_ ?_ <;> intro _ <;> (try (exfalso; first | contradiction | omega | (rename_i hz; with_reducible exact absurd rfl hz))))
    | ((with_reducible apply rowN_mk); (focus rfl))
    | ((with_reducible apply ixN_lit); (focus (exact rfl)); (focus (exact rfl)))
    | ((with_reducible apply ixN_litp); (focus (exact rfl)); (focus ((try simp only [LN] at *) <;> omega)))
    | ((with_reducible refine eqN_mk2 ?_ ?_); (focus rfl))
    | with_reducible refine wr_i64 (by first | omega | (simp only [LN] at *; omega)) ?_
    | with_reducible refine wr_u64 (by omega) ?_
    | with_reducible refine wr_u8 (by omega) ?_
    | with_reducible refine wr_u32 (by omega) ?_
    | with_reducible first | refine wr_mk _ rfl ?_
    | ((with_reducible refine ixN_nat ?_ ?_); (focus ((try simp only [LN] at *) <;> omega)))
    | ((with_reducible refine rowN_map ?_ ?_); (focus ((try simp only [LN] at *) <;> omega)); intro x hx)
    | with_reducible refine eqN_dec (by omega) ?_
    | with_reducible first | refine apN_mk (by kernel_rfl) ?_
    | ((first | (with_reducible apply Z.conZ_mz ?_ (done_con _) ?_) | (with_reducible apply Z.callZ_mk ?_ (done_con _) ?_)); (rotate_left 1); (focus ((repeat' (first | exact trivial | exact rfl | exact Z.low_nil | exact Z.low_nil2 | exact low_osl (fun _ => rfl) | (refine Z.low_osln ?_ (fun _ => rfl); (simp only [List.length_map]; done)) | exact low_oslr (fun _ => rfl) | exact Z.low_gslm (by first | rfl | exact Z.kb_some rfl) (fun _ => rfl) | exact .inl rfl | exact .inr ⟨_, rfl⟩ | apply And.intro)); done)))
    | ((with_reducible refine eqN_mk2 ?_ ?_); (focus (exact Z.kb_some rfl)))
    | ((with_reducible apply ex_and); exact rfl))
  all_goals (try (conv => whnf))
  all_goals first
    | ((refine Z.rndK (i + 1) (fun s => []) rfl rfl rfl rfl ?_ ?_ ?_ ?_); (focus (repeat' (first | exact trivial | exact rfl | (rw [List.map_append]; exact rfl) | apply And.intro))); (focus (repeat' (first | exact trivial | (intro b hb; cases hb; rfl) | (intro b hb; cases hb; subst hlb; rfl) | (intro b hb; cases hb; rw [List.map_append]; rfl) | (intro b hb; cases hb; done) | exact Z.blk_sub rfl rfl (ren_map fun _ => rfl) | exact Z.blk_sub rfl rfl (Z.ren_app (ren_map fun _ => rfl) (ren_map fun _ => rfl)) | exact Z.blk_sub rfl (by first | (rw [List.map_append]; rfl) | (rw [List.map_set]; rfl) | simp only [List.map_append, List.map_cons, List.map_nil, List.map_set]) (ren_map fun _ => rfl) | exact Z.gB_sub rfl rfl (ren_map fun _ => rfl) | exact Z.gB_sub' rfl (by first | rfl | (rw [List.map_append]; rfl) | simp only [List.map_append, List.map_cons, List.map_nil]) (ren_map fun _ => rfl) | apply And.intro))); (focus (refine ⟨by (try simp only [LN] at *) <;> omega, ?_⟩; (try dsimp only); rw [HO, all_at hx]; simp_all)); (try simp only [LN] at *); (try dsimp only); omega)
    | ((first | (with_reducible apply Z.retF1) | (with_reducible apply Z.retF2) | (with_reducible apply Z.retF0)); (focus (exact rfl)); (repeat' (first | exact trivial | (with_reducible apply Z.frz_one) | (with_reducible apply Z.frz_agg) | (with_reducible apply Z.fq_int) | (with_reducible apply Z.fq_bool) | (exact Z.frz_nil) | (exact Z.frz_osl0 rfl rfl rfl) | (with_reducible apply Z.fq_nil) | (with_reducible apply Z.fq_ro) | ((with_reducible apply Z.fq_gsl); (focus (first | rfl | exact Z.isB_map _ | exact Z.gB_snoc.symm)); (focus (exact fun _ => rfl))) | ((with_reducible apply Z.fq_osl); (focus (exact rfl)); (focus (first | exact rfl | (simp only [List.length_map, Nat.zero_add]; done) | ((try simp only [LN] at *) <;> omega))); (focus (exact fun _ => rfl))) | ((with_reducible apply Z.fq_src); (focus (exact rfl)); (focus (first | exact rfl | (simp only [List.length_map, Nat.zero_add]; done) | ((try simp only [LN] at *) <;> omega))); (focus (exact fun _ => rfl))) | exact rfl | ((apply Z.fq_osl); (focus (exact rfl)); (focus (first | exact rfl | (simp only [List.length_map, Nat.zero_add]; done) | ((try simp only [LN] at *) <;> omega))); (focus (exact fun _ => rfl))) | ((apply Z.fq_src); (focus (exact rfl)); (focus (first | exact rfl | (simp only [List.length_map, Nat.zero_add]; done) | ((try simp only [LN] at *) <;> omega))); (focus (exact fun _ => rfl))) | (apply Z.fq_ro) | (apply Z.fq_int) | (apply Z.fq_bool) | apply And.intro)); (all_goals (try exact (fun _ => none))); all_goals (first | (rw [HO, all_at hx]; simp_all; done) | (rw [HO, drop_end (by (try simp only [LN] at *) <;> omega)]; rfl)))
    | (fail)

theorem idxH_con (qs : List Qu) (hq : qs.length ≤ 9223372036854775807) : Con Try.prog 53 [.one (.ro false 4 (qs.map eQ)), .one (.fn 49 [])] (fun rx rK rt => rx = .val (.int .i64 (bif anyH qs then (qs.findIdx (fun q => q.held) : Int) else -1)) ∧ rK = [] ∧ rt = 0) := by
  refine Z.con_ofF tabOk 19 Try.f53 _ Try.func53 (by kernel_rfl) rfl rfl rfl rfl ?_
  repeat' ((conv => whnf); first
    | with_reducible first | refine spB_t ?_
    | ((with_reducible apply spB_cong); (focus (simp only [beq_self_eq_true, bne_self_eq_false, Bool.true_bne, Bool.false_bne, Bool.bne_true, Bool.bne_false, Bool.true_beq, Bool.false_beq, Bool.not_true, Bool.not_false, Bool.not_not, Int.reduceBEq, Int.reduceBNe, Int.reduceLE, Int.reduceLT, Int.reduceEq, decide_true, decide_false]; rfl)))
    | with_reducible first | refine spB_yes (by decide) ?_ | refine spB_no (by decide) ?_ | refine spB_f ?_ | refine spB_not ?_ | refine spB_yes (by assumption) ?_ | refine spB_no (by assumption) ?_
    | (with_reducible refine spB_dec ?_ ?_ <;> intro _ <;> (try (exfalso; first | contradiction | omega | (rename_i hz; with_reducible exact absurd rfl hz))))
    | (with_reducible refine spB_beq ?_ ?_ <;> intro _ <;> (try (exfalso; first | contradiction | omega | (rename_i hz; with_reducible exact absurd rfl hz))))
    | (with_reducible refine spB_bne ?_ ?_ <;> intro _ <;> (try (exfalso; first | contradiction | omega | (rename_i hz; with_reducible exact absurd rfl hz))))
    | (with_reducible refine spB_mk ?_ ?_ <;> intro _ <;> (try (exfalso; first | contradiction | omega | (rename_i hz; with_reducible exact absurd rfl hz))))
    | ((with_reducible apply rowN_mk); (focus rfl))
    | ((with_reducible apply ixN_lit); (focus (exact rfl)); (focus (exact rfl)))
    | ((with_reducible apply ixN_litp); (focus (exact rfl)); (focus ((try simp only [LN] at *) <;> omega)))
    | ((with_reducible refine eqN_mk2 ?_ ?_); (focus rfl))
    | with_reducible refine wr_i64 (by first | omega | (simp only [LN] at *; omega)) ?_
    | with_reducible refine wr_u64 (by omega) ?_
    | with_reducible refine wr_u8 (by omega) ?_
    | with_reducible refine wr_u32 (by omega) ?_
    | with_reducible first | refine wr_mk _ rfl ?_
    | ((with_reducible refine ixN_nat ?_ ?_); (focus ((try simp only [LN] at *) <;> omega)))
    | ((with_reducible refine rowN_map ?_ ?_); (focus ((try simp only [LN] at *) <;> omega)); intro x hx)
    | with_reducible refine eqN_dec (by omega) ?_
    | with_reducible first | refine apN_mk (by kernel_rfl) ?_
    | ((with_reducible refine eqN_mk2 ?_ ?_); (focus (exact Z.kb_some rfl)))
    | ((with_reducible apply ex_and); exact rfl))
  all_goals (try (conv => whnf))
  refine Z.loopK tabOk (fun zq : Nat => [(8, .val (.int .i64 (zq : Int)))]) (fun zq : Nat => ([] : Z.Kr)) (fun zq => zq ≤ qs.length ∧ anyH qs = anyH (qs.drop zq) ∧ qs.findIdx (fun q => q.held) = zq + (qs.drop zq).findIdx (fun q => q.held)) (fun zq => qs.length - zq) 0 0 [(0, _), (1, _), (7, _)] ⟨rfl, rfl, rfl, trivial⟩ [] trivial ?_ ?_ rfl rfl ⟨Nat.zero_le _, rfl, (Nat.zero_add _).symm⟩ ?_
  · repeat' (first | exact trivial | apply And.intro | exact ⟨_, rfl, rfl⟩ | exact ⟨_, rfl, Z.Imp.refl _⟩ | exact ⟨_, rfl, Z.Imp.nilg _⟩ | exact ⟨_, rfl, Z.Imp.nilr _ _⟩)
  · repeat' (first | exact trivial | (intro b hb; cases hb; done) | exact (fun b hb => ⟨b, hb, Z.ImpO.refl b⟩) | (intro b hb; cases hb; refine ⟨_, rfl, ⟨rfl, rfl, rfl⟩, ?_⟩; (repeat' (first | exact trivial | apply And.intro | exact Z.Imp.refl _ | exact Z.Imp.nilg _ | exact Z.Imp.nilr _ _)); done) | apply And.intro)
  rintro i HINV
  dsimp only at HINV ⊢
  obtain ⟨HI, HO, HX⟩ := HINV
  repeat' ((conv => whnf); first
    | with_reducible first | refine spB_t ?_
    | ((with_reducible apply spB_cong); (focus (simp only [beq_self_eq_true, bne_self_eq_false, Bool.true_bne, Bool.false_bne, Bool.bne_true, Bool.bne_false, Bool.true_beq, Bool.false_beq, Bool.not_true, Bool.not_false, Bool.not_not, Int.reduceBEq, Int.reduceBNe, Int.reduceLE, Int.reduceLT, Int.reduceEq, decide_true, decide_false]; rfl)))
    | with_reducible first | refine spB_yes (by decide) ?_ | refine spB_no (by decide) ?_ | refine spB_f ?_ | refine spB_not ?_ | refine spB_yes (by assumption) ?_ | refine spB_no (by assumption) ?_
    | (with_reducible refine spB_dec ?_ ?_ <;> intro _ <;> (try (exfalso; first | contradiction | omega | (rename_i hz; with_reducible exact absurd rfl hz))))
    | (with_reducible refine spB_beq ?_ ?_ <;> intro _ <;> (try (exfalso; first | contradiction | omega | (rename_i hz; with_reducible exact absurd rfl hz))))
    | (with_reducible refine spB_bne ?_ ?_ <;> intro _ <;> (try (exfalso; first | contradiction | omega | (rename_i hz; with_reducible exact absurd rfl hz))))
    | (with_reducible refine spB_mk ?_ ?_ <;> intro _ <;> (try (exfalso; first | contradiction | omega | (rename_i hz; with_reducible exact absurd rfl hz))))
    | ((with_reducible apply rowN_mk); (focus rfl))
    | ((with_reducible apply ixN_lit); (focus (exact rfl)); (focus (exact rfl)))
    | ((with_reducible apply ixN_litp); (focus (exact rfl)); (focus ((try simp only [LN] at *) <;> omega)))
    | ((with_reducible refine eqN_mk2 ?_ ?_); (focus rfl))
    | with_reducible refine wr_i64 (by first | omega | (simp only [LN] at *; omega)) ?_
    | with_reducible refine wr_u64 (by omega) ?_
    | with_reducible refine wr_u8 (by omega) ?_
    | with_reducible refine wr_u32 (by omega) ?_
    | with_reducible first | refine wr_mk _ rfl ?_
    | ((with_reducible refine ixN_nat ?_ ?_); (focus ((try simp only [LN] at *) <;> omega)))
    | ((with_reducible refine rowN_map ?_ ?_); (focus ((try simp only [LN] at *) <;> omega)); intro x hx)
    | with_reducible refine eqN_dec (by omega) ?_
    | with_reducible first | refine apN_mk (by kernel_rfl) ?_
    | ((first | (with_reducible apply Z.conZ_mz ?_ (held_con _) ?_) | (with_reducible apply Z.callZ_mk ?_ (held_con _) ?_)); (rotate_left 1); (focus ((repeat' (first | exact trivial | exact rfl | exact Z.low_nil | exact Z.low_nil2 | exact low_osl (fun _ => rfl) | (refine Z.low_osln ?_ (fun _ => rfl); (simp only [List.length_map]; done)) | exact low_oslr (fun _ => rfl) | exact Z.low_gslm (by first | rfl | exact Z.kb_some rfl) (fun _ => rfl) | exact .inl rfl | exact .inr ⟨_, rfl⟩ | apply And.intro)); done)))
    | ((with_reducible refine eqN_mk2 ?_ ?_); (focus (exact Z.kb_some rfl)))
    | ((with_reducible apply ex_and); exact rfl))
  all_goals (try (conv => whnf))
  all_goals first
    | ((refine Z.rndK (i + 1) (fun s => []) rfl rfl rfl rfl ?_ ?_ ?_ ?_); (focus (repeat' (first | exact trivial | exact rfl | (rw [List.map_append]; exact rfl) | apply And.intro))); (focus (repeat' (first | exact trivial | (intro b hb; cases hb; rfl) | (intro b hb; cases hb; subst hlb; rfl) | (intro b hb; cases hb; rw [List.map_append]; rfl) | (intro b hb; cases hb; done) | exact Z.blk_sub rfl rfl (ren_map fun _ => rfl) | exact Z.blk_sub rfl rfl (Z.ren_app (ren_map fun _ => rfl) (ren_map fun _ => rfl)) | exact Z.blk_sub rfl (by first | (rw [List.map_append]; rfl) | (rw [List.map_set]; rfl) | simp only [List.map_append, List.map_cons, List.map_nil, List.map_set]) (ren_map fun _ => rfl) | exact Z.gB_sub rfl rfl (ren_map fun _ => rfl) | exact Z.gB_sub' rfl (by first | rfl | (rw [List.map_append]; rfl) | simp only [List.map_append, List.map_cons, List.map_nil]) (ren_map fun _ => rfl) | apply And.intro))); (focus (refine ⟨by (try simp only [LN] at *) <;> omega, ?_, ?_⟩; (focus ((try dsimp only); rw [HO]; unfold anyH; rw [any_at hx]; simp_all)); ((try dsimp only); rw [HX, drop_cons hx, List.findIdx_cons]; simp_all; omega))); (try simp only [LN] at *); (try dsimp only); omega)
    | ((first | (with_reducible apply Z.retF1) | (with_reducible apply Z.retF2) | (with_reducible apply Z.retF0)); (focus (exact rfl)); (repeat' (first | exact trivial | (with_reducible apply Z.frz_one) | (with_reducible apply Z.frz_agg) | (with_reducible apply Z.fq_int) | (with_reducible apply Z.fq_bool) | (exact Z.frz_nil) | (exact Z.frz_osl0 rfl rfl rfl) | (with_reducible apply Z.fq_nil) | (with_reducible apply Z.fq_ro) | ((with_reducible apply Z.fq_gsl); (focus (first | rfl | exact Z.isB_map _ | exact Z.gB_snoc.symm)); (focus (exact fun _ => rfl))) | ((with_reducible apply Z.fq_osl); (focus (exact rfl)); (focus (first | exact rfl | (simp only [List.length_map, Nat.zero_add]; done) | ((try simp only [LN] at *) <;> omega))); (focus (exact fun _ => rfl))) | ((with_reducible apply Z.fq_src); (focus (exact rfl)); (focus (first | exact rfl | (simp only [List.length_map, Nat.zero_add]; done) | ((try simp only [LN] at *) <;> omega))); (focus (exact fun _ => rfl))) | exact rfl | ((apply Z.fq_osl); (focus (exact rfl)); (focus (first | exact rfl | (simp only [List.length_map, Nat.zero_add]; done) | ((try simp only [LN] at *) <;> omega))); (focus (exact fun _ => rfl))) | ((apply Z.fq_src); (focus (exact rfl)); (focus (first | exact rfl | (simp only [List.length_map, Nat.zero_add]; done) | ((try simp only [LN] at *) <;> omega))); (focus (exact fun _ => rfl))) | (apply Z.fq_ro) | (apply Z.fq_int) | (apply Z.fq_bool) | apply And.intro)); (all_goals (try exact (fun _ => none))); all_goals (first | (rw [HO, HX]; unfold anyH; rw [any_at hx, drop_cons hx, List.findIdx_cons]; simp_all; done) | (rw [HO, drop_end (by (try simp only [LN] at *) <;> omega)]; rfl)))
    | (fail)

theorem conH_con (qs : List Qu) (hq : qs.length ≤ 9223372036854775807) : Con Try.prog 48 [.one (.ro false 4 (qs.map eQ)), .one (.fn 49 [])] (fun rx rK rt => rx = .val (.bool (anyH qs)) ∧ rK = [] ∧ rt = 0) := by
  refine Z.con_ofF tabOk 9 Try.f48 _ Try.func48 (by kernel_rfl) rfl rfl rfl rfl ?_
  repeat' ((conv => whnf); first
    | with_reducible first | refine spB_t ?_
    | ((with_reducible apply spB_cong); (focus (simp only [beq_self_eq_true, bne_self_eq_false, Bool.true_bne, Bool.false_bne, Bool.bne_true, Bool.bne_false, Bool.true_beq, Bool.false_beq, Bool.not_true, Bool.not_false, Bool.not_not, Int.reduceBEq, Int.reduceBNe, Int.reduceLE, Int.reduceLT, Int.reduceEq, decide_true, decide_false]; rfl)))
    | with_reducible first | refine spB_yes (by decide) ?_ | refine spB_no (by decide) ?_ | refine spB_f ?_ | refine spB_not ?_ | refine spB_yes (by assumption) ?_ | refine spB_no (by assumption) ?_
    | (with_reducible refine spB_dec ?_ ?_ <;> intro _ <;> (try (exfalso; first | contradiction | omega | (rename_i hz; with_reducible exact absurd rfl hz))))
    | (with_reducible refine spB_beq ?_ ?_ <;> intro _ <;> (try (exfalso; first | contradiction | omega | (rename_i hz; with_reducible exact absurd rfl hz))))
    | (with_reducible refine spB_bne ?_ ?_ <;> intro _ <;> (try (exfalso; first | contradiction | omega | (rename_i hz; with_reducible exact absurd rfl hz))))
    | (with_reducible refine spB_mk ?_ ?_ <;> intro _ <;> (try (exfalso; first | contradiction | omega | (rename_i hz; with_reducible exact absurd rfl hz))))
    | ((with_reducible apply rowN_mk); (focus rfl))
    | ((with_reducible apply ixN_lit); (focus (exact rfl)); (focus (exact rfl)))
    | ((with_reducible apply ixN_litp); (focus (exact rfl)); (focus ((try simp only [LN] at *) <;> omega)))
    | ((with_reducible refine eqN_mk2 ?_ ?_); (focus rfl))
    | with_reducible refine wr_i64 (by first | omega | (simp only [LN] at *; omega)) ?_
    | with_reducible refine wr_u64 (by omega) ?_
    | with_reducible first | refine wr_mk _ rfl ?_
    | ((with_reducible refine ixN_nat ?_ ?_); (focus ((try simp only [LN] at *) <;> omega)))
    | ((with_reducible refine rowN_map ?_ ?_); (focus ((try simp only [LN] at *) <;> omega)); intro x hx)
    | with_reducible refine eqN_dec (by omega) ?_
    | with_reducible first | refine apN_mk (by kernel_rfl) ?_
    | ((first | (with_reducible apply Z.conZ_mz ?_ (idxH_con _ ?_) ?_) | (with_reducible apply Z.callZ_mk ?_ (idxH_con _ ?_) ?_)); (rotate_left 1); (focus ((repeat' (first | exact trivial | exact rfl | exact Z.low_nil | exact Z.low_nil2 | exact low_osl (fun _ => rfl) | (refine Z.low_osln ?_ (fun _ => rfl); (simp only [List.length_map]; done)) | exact low_oslr (fun _ => rfl) | exact Z.low_gslm (by first | rfl | exact Z.kb_some rfl) (fun _ => rfl) | exact .inl rfl | exact .inr ⟨_, rfl⟩ | apply And.intro)); done)); (iterate 1 (focus (first | assumption | omega | ((try simp only [LN] at *); omega)))))
    | ((with_reducible refine eqN_mk2 ?_ ?_); (focus (exact Z.kb_some rfl)))
    | ((with_reducible apply ex_and); exact rfl))
  all_goals (try (conv => whnf))
  all_goals first
    | ((first | (with_reducible apply Z.retF1) | (with_reducible apply Z.retF2) | (with_reducible apply Z.retF0)); (focus (exact rfl)); (repeat' (first | exact trivial | (with_reducible apply Z.frz_one) | (with_reducible apply Z.frz_agg) | (with_reducible apply Z.fq_int) | (with_reducible apply Z.fq_bool) | (exact Z.frz_nil) | (exact Z.frz_osl0 rfl rfl rfl) | (with_reducible apply Z.fq_nil) | (with_reducible apply Z.fq_ro) | ((with_reducible apply Z.fq_gsl); (focus (first | rfl | exact Z.isB_map _ | exact Z.gB_snoc.symm)); (focus (exact fun _ => rfl))) | ((with_reducible apply Z.fq_osl); (focus (exact rfl)); (focus (first | exact rfl | (simp only [List.length_map, Nat.zero_add]; done) | ((try simp only [LN] at *) <;> omega))); (focus (exact fun _ => rfl))) | ((with_reducible apply Z.fq_src); (focus (exact rfl)); (focus (first | exact rfl | (simp only [List.length_map, Nat.zero_add]; done) | ((try simp only [LN] at *) <;> omega))); (focus (exact fun _ => rfl))) | exact rfl | ((apply Z.fq_osl); (focus (exact rfl)); (focus (first | exact rfl | (simp only [List.length_map, Nat.zero_add]; done) | ((try simp only [LN] at *) <;> omega))); (focus (exact fun _ => rfl))) | ((apply Z.fq_src); (focus (exact rfl)); (focus (first | exact rfl | (simp only [List.length_map, Nat.zero_add]; done) | ((try simp only [LN] at *) <;> omega))); (focus (exact fun _ => rfl))) | (apply Z.fq_ro) | (apply Z.fq_int) | (apply Z.fq_bool) | apply And.intro)); (all_goals (try exact (fun _ => none))); all_goals (cases h9 : anyH qs; (focus rfl); exact decide_eq_true (show (0 : Int) ≤ ((qs.findIdx (fun q => q.held) : Nat) : Int) from Int.natCast_nonneg _)))
    | (fail)

end Go.Proofs.Ytakfkbciijahgaa
