import Derived.Test.YtibjpohankaoeaaDo0
import Derived.Test.YtibjpohankaoeaaRu3
import Derived.Test.YtibjpohankaoeaaBa0
namespace Go.Proofs.Ytibjpohankaoeaa
open Go Go.RowKit Wx
set_option linter.unusedVariables false
set_option linter.unusedSimpArgs false
set_option maxHeartbeats 4000000
theorem Fits_o (t w a b c s : Int) (ins : List Int) (hi : ins.length ≤ 9223372036854775807) (hok : okO t w ins a b = false) : Con Try.prog 13 [.agg [.v (.int .i64 t), .v (.int .i64 w), .ro false 1 (ins.map eI), .v (.int .i64 a), .v (.int .i64 b)], .agg [.v (.int .i64 c), .v (.int .i64 s)]] (fun rx rK rt => rx = .val (.bool false) ∧ rK = [] ∧ rt = 0) := by
  have c1 := may_con t w a b ins hi; rw [hok] at c1
  refine con_of tabOk 12 Try.f13 _ Try.func13 (by kernel_rfl) rfl rfl rfl rfl (fun W => ?_)
  repeat' ((conv => whnf); first
    | with_reducible first | refine spB_t ?_
    | ((with_reducible apply spB_cong); (focus (simp only [beq_self_eq_true, bne_self_eq_false, Bool.true_bne, Bool.false_bne, Bool.bne_true, Bool.bne_false, Bool.true_beq, Bool.false_beq, Bool.not_true, Bool.not_false, Bool.not_not, Int.reduceBEq, Int.reduceBNe, Int.reduceLE, Int.reduceLT, Int.reduceEq, decide_true, decide_false]; rfl)))
    | with_reducible first | refine spB_yes (by decide) ?_ | refine spB_no (by decide) ?_ | refine spB_f ?_ | refine spB_not ?_ | refine spB_yes (by assumption) ?_ | refine spB_no (by assumption) ?_
    | (with_reducible refine spB_dec ?_ ?_ <;> intro _ <;> (try (exfalso; first | contradiction | omega | (rename_i hz; with_reducible exact absurd rfl hz))))
    | (with_reducible refine spB_beq ?_ ?_ <;> intro _ <;> (try (exfalso; first | contradiction | omega | (rename_i hz; with_reducible exact absurd rfl hz))))
    | (with_reducible refine spB_bne ?_ ?_ <;> intro _ <;> (try (exfalso; first | contradiction | omega | (rename_i hz; with_reducible exact absurd rfl hz))))
    | (with_reducible refine spB_mk ?_ ?_ <;> intro _ <;> (try (exfalso; first | contradiction | omega | (rename_i hz; with_reducible exact absurd rfl hz))))
    | ((with_reducible refine apz0N_mk _ ?_ ?_ ?_ ?_ ?_); (focus (first | rfl | exact (Int.toNat_of_nonneg (by omega)).symm)); (focus ((try simp only [LN] at *) <;> omega)); (focus ((try simp only [LN] at *) <;> omega)); (focus ((try simp only [LN] at *) <;> omega)))
    | ((with_reducible refine posE_pos ?_ ?_); (focus ((try simp only [LN] at *) <;> omega)))
    | ((with_reducible refine posE_nil ?_ ?_); (focus rfl))
    | ((with_reducible apply rowN_mk); (focus rfl))
    | ((with_reducible apply ixN_lit); (focus (exact rfl)); (focus (exact rfl)))
    | ((with_reducible apply ixN_litp); (focus (exact rfl)); (focus ((try simp only [LN] at *) <;> omega)))
    | ((with_reducible refine eqN_mk2 ?_ ?_); (focus rfl))
    | ((with_reducible refine posN_mk2 ?_ ?_); (focus (first | decide | ((try simp only [LN] at *) <;> omega))))
    | ((with_reducible refine apdE_r ?_); (with_reducible refine aprN.mk ⟨_, rfl, ?_⟩ ?_ ?_ ?_ ?_); (focus ((try simp only [LN] at *) <;> omega)); (focus (first | rfl | (simp; done) | ((try simp only [LN] at *) <;> omega))); (focus (first | exact one_all (by rfl) | exact one_map (fun _ => rfl) | exact one_map2 (fun _ => rfl) | exact one_drop (fun _ => rfl))); (focus ((try simp only [LN] at *) <;> omega)))
    | (with_reducible refine apdE_n ?_)
    | ((with_reducible refine slE_a ?_ ?_); (focus ((try simp only [LN] at *) <;> omega)))
    | ((with_reducible refine slE_b ?_ ?_); (focus ((try simp only [LN] at *) <;> omega)))
    | ((with_reducible refine slE_split ?_ ?_ ?_); (focus ((try simp only [LN] at *) <;> omega)); intro _)
    | ((with_reducible refine strN_src ?_ ?_ ?_); (focus (exact fun _ => rfl)); (focus ((try simp only [LN] at *) <;> omega)))
    | ((with_reducible refine strN_own ?_ ?_ ?_ ?_); (focus (exact fun _ => rfl)); (focus ((try simp only [LN] at *) <;> omega)); (focus ((try simp only [LN] at *) <;> omega)))
    | ((with_reducible apply sl3N_mk); (focus (exact rfl)); (focus (exact rfl)); (focus (exact rfl)); (focus ((try simp only [LN] at *) <;> omega)); (focus ((try simp only [LN] at *) <;> omega)); (focus ((try simp only [LN] at *) <;> omega)); (focus ((try simp only [LN] at *) <;> omega)))
    | ((with_reducible refine clrN_mk ?_ ?_ ?_); (focus ((try simp only [LN] at *) <;> omega)); (focus rfl))
    | ((with_reducible refine apdN.mk ?_ ?_ ?_ ?_ ?_ ?_); (focus (first | rfl | (simp; done))); (focus (first | exact one_all (by rfl) | exact one_map (fun _ => rfl) | exact one_map2 (fun _ => rfl))); (focus ((try simp only [LN] at *) <;> omega)); (focus ((try simp only [LN] at *) <;> omega)); (focus ((try simp only [LN] at *) <;> omega)))
    | ((with_reducible refine cpyN.mk ?_ ?_ ?_ ?_); (focus (first | rfl | (simp; done))); (focus (first | exact one_all (by rfl) | exact one_map (fun _ => rfl) | exact one_map2 (fun _ => rfl))); (focus ((try simp only [LN] at *) <;> omega)))
    | with_reducible refine wr_i64 (by first | omega | (simp only [LN] at *; omega)) ?_
    | with_reducible refine wr_u64 (by omega) ?_
    | with_reducible refine wr_u8 (by omega) ?_
    | with_reducible refine wr_u32 (by omega) ?_
    | with_reducible first | refine wr_mk _ rfl ?_
    | ((with_reducible refine ixN_nat ?_ ?_); (focus ((try simp only [LN] at *) <;> omega)))
    | ((with_reducible refine rowN_map ?_ ?_); (focus ((try simp only [LN] at *) <;> omega)); intro x hx)
    | ((with_reducible refine posE_nil (by rfl) ?_))
    | ((with_reducible refine posE_pos (by decide) ?_))
    | with_reducible refine vN_mod (by omega) ?_
    | with_reducible first | refine vN_mk ?_
    | with_reducible refine nzN_mk (by omega) ?_
    | with_reducible refine eqN_dec (by omega) ?_
    | with_reducible first | refine draw_rule tabOk mixOk ?_ | refine apN_mk (by kernel_rfl) ?_
    | ((with_reducible apply conN_mk2 ?_ (c1) ?_);(first | (focus exact ⟨⟨rfl, rfl, rfl, rfl, rfl, trivial⟩, trivial⟩)); skip)
    | ((with_reducible apply call_con2 ?_ (c1) ?_);(first | (focus exact ⟨⟨rfl, rfl, rfl, rfl, rfl, trivial⟩, trivial⟩)); rintro _ _ _ ⟨rfl, rfl, rfl⟩))
  all_goals (try (conv => whnf))
  all_goals first | (refine ret0 _ rfl _ rfl (fun _ => rfl) rfl ⟨?_, rfl, rfl⟩; rfl) | (fail)
theorem Fits_n (t w a b c s : Int) (ins : List Int) (hi : ins.length ≤ 9223372036854775807) (hok : okO t w ins a b = true) (hf : ¬ fitP t a (c, s)) : Con Try.prog 13 [.agg [.v (.int .i64 t), .v (.int .i64 w), .ro false 1 (ins.map eI), .v (.int .i64 a), .v (.int .i64 b)], .agg [.v (.int .i64 c), .v (.int .i64 s)]] (fun rx rK rt => rx = .val (.bool false) ∧ rK = [] ∧ rt = 0) := by
  have c1 := may_con t w a b ins hi; rw [hok] at c1
  have c2 := fits_con t w a b c s ins; rw [decide_eq_false hf] at c2
  refine con_of tabOk 12 Try.f13 _ Try.func13 (by kernel_rfl) rfl rfl rfl rfl (fun W => ?_)
  repeat' ((conv => whnf); first
    | with_reducible first | refine spB_t ?_
    | ((with_reducible apply spB_cong); (focus (simp only [beq_self_eq_true, bne_self_eq_false, Bool.true_bne, Bool.false_bne, Bool.bne_true, Bool.bne_false, Bool.true_beq, Bool.false_beq, Bool.not_true, Bool.not_false, Bool.not_not, Int.reduceBEq, Int.reduceBNe, Int.reduceLE, Int.reduceLT, Int.reduceEq, decide_true, decide_false]; rfl)))
    | with_reducible first | refine spB_yes (by decide) ?_ | refine spB_no (by decide) ?_ | refine spB_f ?_ | refine spB_not ?_ | refine spB_yes (by assumption) ?_ | refine spB_no (by assumption) ?_
    | (with_reducible refine spB_dec ?_ ?_ <;> intro _ <;> (try (exfalso; first | contradiction | omega | (rename_i hz; with_reducible exact absurd rfl hz))))
    | (with_reducible refine spB_beq ?_ ?_ <;> intro _ <;> (try (exfalso; first | contradiction | omega | (rename_i hz; with_reducible exact absurd rfl hz))))
    | (with_reducible refine spB_bne ?_ ?_ <;> intro _ <;> (try (exfalso; first | contradiction | omega | (rename_i hz; with_reducible exact absurd rfl hz))))
    | (with_reducible refine spB_mk ?_ ?_ <;> intro _ <;> (try (exfalso; first | contradiction | omega | (rename_i hz; with_reducible exact absurd rfl hz))))
    | ((with_reducible refine apz0N_mk _ ?_ ?_ ?_ ?_ ?_); (focus (first | rfl | exact (Int.toNat_of_nonneg (by omega)).symm)); (focus ((try simp only [LN] at *) <;> omega)); (focus ((try simp only [LN] at *) <;> omega)); (focus ((try simp only [LN] at *) <;> omega)))
    | ((with_reducible refine posE_pos ?_ ?_); (focus ((try simp only [LN] at *) <;> omega)))
    | ((with_reducible refine posE_nil ?_ ?_); (focus rfl))
    | ((with_reducible apply rowN_mk); (focus rfl))
    | ((with_reducible apply ixN_lit); (focus (exact rfl)); (focus (exact rfl)))
    | ((with_reducible apply ixN_litp); (focus (exact rfl)); (focus ((try simp only [LN] at *) <;> omega)))
    | ((with_reducible refine eqN_mk2 ?_ ?_); (focus rfl))
    | ((with_reducible refine posN_mk2 ?_ ?_); (focus (first | decide | ((try simp only [LN] at *) <;> omega))))
    | ((with_reducible refine apdE_r ?_); (with_reducible refine aprN.mk ⟨_, rfl, ?_⟩ ?_ ?_ ?_ ?_); (focus ((try simp only [LN] at *) <;> omega)); (focus (first | rfl | (simp; done) | ((try simp only [LN] at *) <;> omega))); (focus (first | exact one_all (by rfl) | exact one_map (fun _ => rfl) | exact one_map2 (fun _ => rfl) | exact one_drop (fun _ => rfl))); (focus ((try simp only [LN] at *) <;> omega)))
    | (with_reducible refine apdE_n ?_)
    | ((with_reducible refine slE_a ?_ ?_); (focus ((try simp only [LN] at *) <;> omega)))
    | ((with_reducible refine slE_b ?_ ?_); (focus ((try simp only [LN] at *) <;> omega)))
    | ((with_reducible refine slE_split ?_ ?_ ?_); (focus ((try simp only [LN] at *) <;> omega)); intro _)
    | ((with_reducible refine strN_src ?_ ?_ ?_); (focus (exact fun _ => rfl)); (focus ((try simp only [LN] at *) <;> omega)))
    | ((with_reducible refine strN_own ?_ ?_ ?_ ?_); (focus (exact fun _ => rfl)); (focus ((try simp only [LN] at *) <;> omega)); (focus ((try simp only [LN] at *) <;> omega)))
    | ((with_reducible apply sl3N_mk); (focus (exact rfl)); (focus (exact rfl)); (focus (exact rfl)); (focus ((try simp only [LN] at *) <;> omega)); (focus ((try simp only [LN] at *) <;> omega)); (focus ((try simp only [LN] at *) <;> omega)); (focus ((try simp only [LN] at *) <;> omega)))
    | ((with_reducible refine clrN_mk ?_ ?_ ?_); (focus ((try simp only [LN] at *) <;> omega)); (focus rfl))
    | ((with_reducible refine apdN.mk ?_ ?_ ?_ ?_ ?_ ?_); (focus (first | rfl | (simp; done))); (focus (first | exact one_all (by rfl) | exact one_map (fun _ => rfl) | exact one_map2 (fun _ => rfl))); (focus ((try simp only [LN] at *) <;> omega)); (focus ((try simp only [LN] at *) <;> omega)); (focus ((try simp only [LN] at *) <;> omega)))
    | ((with_reducible refine cpyN.mk ?_ ?_ ?_ ?_); (focus (first | rfl | (simp; done))); (focus (first | exact one_all (by rfl) | exact one_map (fun _ => rfl) | exact one_map2 (fun _ => rfl))); (focus ((try simp only [LN] at *) <;> omega)))
    | with_reducible refine wr_i64 (by first | omega | (simp only [LN] at *; omega)) ?_
    | with_reducible refine wr_u64 (by omega) ?_
    | with_reducible refine wr_u8 (by omega) ?_
    | with_reducible refine wr_u32 (by omega) ?_
    | with_reducible first | refine wr_mk _ rfl ?_
    | ((with_reducible refine ixN_nat ?_ ?_); (focus ((try simp only [LN] at *) <;> omega)))
    | ((with_reducible refine rowN_map ?_ ?_); (focus ((try simp only [LN] at *) <;> omega)); intro x hx)
    | ((with_reducible refine posE_nil (by rfl) ?_))
    | ((with_reducible refine posE_pos (by decide) ?_))
    | with_reducible refine vN_mod (by omega) ?_
    | with_reducible first | refine vN_mk ?_
    | with_reducible refine nzN_mk (by omega) ?_
    | with_reducible refine eqN_dec (by omega) ?_
    | with_reducible first | refine draw_rule tabOk mixOk ?_ | refine apN_mk (by kernel_rfl) ?_
    | ((with_reducible apply conN_mk2 ?_ (c1) ?_);(first | (focus exact ⟨⟨rfl, rfl, rfl, rfl, rfl, trivial⟩, trivial⟩)); skip)
    | ((with_reducible apply call_con2 ?_ (c1) ?_);(first | (focus exact ⟨⟨rfl, rfl, rfl, rfl, rfl, trivial⟩, trivial⟩)); rintro _ _ _ ⟨rfl, rfl, rfl⟩)
    | ((with_reducible apply conN_mk2 ?_ (c2) ?_);(first | (focus exact ⟨⟨rfl, rfl, rfl, rfl, rfl, trivial⟩, ⟨rfl, rfl, trivial⟩, trivial⟩)); skip)
    | ((with_reducible apply call_con2 ?_ (c2) ?_);(first | (focus exact ⟨⟨rfl, rfl, rfl, rfl, rfl, trivial⟩, ⟨rfl, rfl, trivial⟩, trivial⟩)); rintro _ _ _ ⟨rfl, rfl, rfl⟩))
  all_goals (try (conv => whnf))
  all_goals first | (refine ret0 _ rfl _ rfl (fun _ => rfl) rfl ⟨?_, rfl, rfl⟩; rfl) | (fail)
theorem Fits_y (t w a b c s : Int) (ins : List Int) (hi : ins.length ≤ 9223372036854775807) (hok : okO t w ins a b = true) (hf : fitP t a (c, s)) : Con Try.prog 13 [.agg [.v (.int .i64 t), .v (.int .i64 w), .ro false 1 (ins.map eI), .v (.int .i64 a), .v (.int .i64 b)], .agg [.v (.int .i64 c), .v (.int .i64 s)]] (fun rx rK rt => rx = .val (.bool true) ∧ rK = [] ∧ rt = 0) := by
  have c1 := may_con t w a b ins hi; rw [hok] at c1
  have c2 := fits_con t w a b c s ins; rw [decide_eq_true hf] at c2
  refine con_of tabOk 12 Try.f13 _ Try.func13 (by kernel_rfl) rfl rfl rfl rfl (fun W => ?_)
  repeat' ((conv => whnf); first
    | with_reducible first | refine spB_t ?_
    | ((with_reducible apply spB_cong); (focus (simp only [beq_self_eq_true, bne_self_eq_false, Bool.true_bne, Bool.false_bne, Bool.bne_true, Bool.bne_false, Bool.true_beq, Bool.false_beq, Bool.not_true, Bool.not_false, Bool.not_not, Int.reduceBEq, Int.reduceBNe, Int.reduceLE, Int.reduceLT, Int.reduceEq, decide_true, decide_false]; rfl)))
    | with_reducible first | refine spB_yes (by decide) ?_ | refine spB_no (by decide) ?_ | refine spB_f ?_ | refine spB_not ?_ | refine spB_yes (by assumption) ?_ | refine spB_no (by assumption) ?_
    | (with_reducible refine spB_dec ?_ ?_ <;> intro _ <;> (try (exfalso; first | contradiction | omega | (rename_i hz; with_reducible exact absurd rfl hz))))
    | (with_reducible refine spB_beq ?_ ?_ <;> intro _ <;> (try (exfalso; first | contradiction | omega | (rename_i hz; with_reducible exact absurd rfl hz))))
    | (with_reducible refine spB_bne ?_ ?_ <;> intro _ <;> (try (exfalso; first | contradiction | omega | (rename_i hz; with_reducible exact absurd rfl hz))))
    | (with_reducible refine spB_mk ?_ ?_ <;> intro _ <;> (try (exfalso; first | contradiction | omega | (rename_i hz; with_reducible exact absurd rfl hz))))
    | ((with_reducible refine apz0N_mk _ ?_ ?_ ?_ ?_ ?_); (focus (first | rfl | exact (Int.toNat_of_nonneg (by omega)).symm)); (focus ((try simp only [LN] at *) <;> omega)); (focus ((try simp only [LN] at *) <;> omega)); (focus ((try simp only [LN] at *) <;> omega)))
    | ((with_reducible refine posE_pos ?_ ?_); (focus ((try simp only [LN] at *) <;> omega)))
    | ((with_reducible refine posE_nil ?_ ?_); (focus rfl))
    | ((with_reducible apply rowN_mk); (focus rfl))
    | ((with_reducible apply ixN_lit); (focus (exact rfl)); (focus (exact rfl)))
    | ((with_reducible apply ixN_litp); (focus (exact rfl)); (focus ((try simp only [LN] at *) <;> omega)))
    | ((with_reducible refine eqN_mk2 ?_ ?_); (focus rfl))
    | ((with_reducible refine posN_mk2 ?_ ?_); (focus (first | decide | ((try simp only [LN] at *) <;> omega))))
    | ((with_reducible refine apdE_r ?_); (with_reducible refine aprN.mk ⟨_, rfl, ?_⟩ ?_ ?_ ?_ ?_); (focus ((try simp only [LN] at *) <;> omega)); (focus (first | rfl | (simp; done) | ((try simp only [LN] at *) <;> omega))); (focus (first | exact one_all (by rfl) | exact one_map (fun _ => rfl) | exact one_map2 (fun _ => rfl) | exact one_drop (fun _ => rfl))); (focus ((try simp only [LN] at *) <;> omega)))
    | (with_reducible refine apdE_n ?_)
    | ((with_reducible refine slE_a ?_ ?_); (focus ((try simp only [LN] at *) <;> omega)))
    | ((with_reducible refine slE_b ?_ ?_); (focus ((try simp only [LN] at *) <;> omega)))
    | ((with_reducible refine slE_split ?_ ?_ ?_); (focus ((try simp only [LN] at *) <;> omega)); intro _)
    | ((with_reducible refine strN_src ?_ ?_ ?_); (focus (exact fun _ => rfl)); (focus ((try simp only [LN] at *) <;> omega)))
    | ((with_reducible refine strN_own ?_ ?_ ?_ ?_); (focus (exact fun _ => rfl)); (focus ((try simp only [LN] at *) <;> omega)); (focus ((try simp only [LN] at *) <;> omega)))
    | ((with_reducible apply sl3N_mk); (focus (exact rfl)); (focus (exact rfl)); (focus (exact rfl)); (focus ((try simp only [LN] at *) <;> omega)); (focus ((try simp only [LN] at *) <;> omega)); (focus ((try simp only [LN] at *) <;> omega)); (focus ((try simp only [LN] at *) <;> omega)))
    | ((with_reducible refine clrN_mk ?_ ?_ ?_); (focus ((try simp only [LN] at *) <;> omega)); (focus rfl))
    | ((with_reducible refine apdN.mk ?_ ?_ ?_ ?_ ?_ ?_); (focus (first | rfl | (simp; done))); (focus (first | exact one_all (by rfl) | exact one_map (fun _ => rfl) | exact one_map2 (fun _ => rfl))); (focus ((try simp only [LN] at *) <;> omega)); (focus ((try simp only [LN] at *) <;> omega)); (focus ((try simp only [LN] at *) <;> omega)))
    | ((with_reducible refine cpyN.mk ?_ ?_ ?_ ?_); (focus (first | rfl | (simp; done))); (focus (first | exact one_all (by rfl) | exact one_map (fun _ => rfl) | exact one_map2 (fun _ => rfl))); (focus ((try simp only [LN] at *) <;> omega)))
    | with_reducible refine wr_i64 (by first | omega | (simp only [LN] at *; omega)) ?_
    | with_reducible refine wr_u64 (by omega) ?_
    | with_reducible refine wr_u8 (by omega) ?_
    | with_reducible refine wr_u32 (by omega) ?_
    | with_reducible first | refine wr_mk _ rfl ?_
    | ((with_reducible refine ixN_nat ?_ ?_); (focus ((try simp only [LN] at *) <;> omega)))
    | ((with_reducible refine rowN_map ?_ ?_); (focus ((try simp only [LN] at *) <;> omega)); intro x hx)
    | ((with_reducible refine posE_nil (by rfl) ?_))
    | ((with_reducible refine posE_pos (by decide) ?_))
    | with_reducible refine vN_mod (by omega) ?_
    | with_reducible first | refine vN_mk ?_
    | with_reducible refine nzN_mk (by omega) ?_
    | with_reducible refine eqN_dec (by omega) ?_
    | with_reducible first | refine draw_rule tabOk mixOk ?_ | refine apN_mk (by kernel_rfl) ?_
    | ((with_reducible apply conN_mk2 ?_ (c1) ?_);(first | (focus exact ⟨⟨rfl, rfl, rfl, rfl, rfl, trivial⟩, trivial⟩)); skip)
    | ((with_reducible apply call_con2 ?_ (c1) ?_);(first | (focus exact ⟨⟨rfl, rfl, rfl, rfl, rfl, trivial⟩, trivial⟩)); rintro _ _ _ ⟨rfl, rfl, rfl⟩)
    | ((with_reducible apply conN_mk2 ?_ (c2) ?_);(first | (focus exact ⟨⟨rfl, rfl, rfl, rfl, rfl, trivial⟩, ⟨rfl, rfl, trivial⟩, trivial⟩)); skip)
    | ((with_reducible apply call_con2 ?_ (c2) ?_);(first | (focus exact ⟨⟨rfl, rfl, rfl, rfl, rfl, trivial⟩, ⟨rfl, rfl, trivial⟩, trivial⟩)); rintro _ _ _ ⟨rfl, rfl, rfl⟩))
  all_goals (try (conv => whnf))
  all_goals first | (refine ret0 _ rfl _ rfl (fun _ => rfl) rfl ⟨?_, rfl, rfl⟩; rfl) | (fail)
theorem keeps_t (t w a b : Int) (ins : List Int) (h : t = 4 ∨ t = 5) : Con Try.prog 12 [.agg [.v (.int .i64 t), .v (.int .i64 w), .ro false 1 (ins.map eI), .v (.int .i64 a), .v (.int .i64 b)]] (fun rx rK rt => rx = .val (.bool true) ∧ rK = [] ∧ rt = 0) := by
  have := keeps_con t w a b ins; rwa [decide_eq_true h] at this
theorem keeps_f (t w a b : Int) (ins : List Int) (h : ¬ (t = 4 ∨ t = 5)) : Con Try.prog 12 [.agg [.v (.int .i64 t), .v (.int .i64 w), .ro false 1 (ins.map eI), .v (.int .i64 a), .v (.int .i64 b)]] (fun rx rK rt => rx = .val (.bool false) ∧ rK = [] ∧ rt = 0) := by
  have := keeps_con t w a b ins; rwa [decide_eq_false h] at this
theorem rright_t (t w a b : Int) (ins : List Int) (hi : ins.length ≤ 9223372036854775807) (hok : okO t w ins a b = true) : Con Try.prog 14 [.agg [.v (.int .i64 t), .v (.int .i64 w), .ro false 1 (ins.map eI), .v (.int .i64 a), .v (.int .i64 b)]] (fun rx rK rt => rx = .val (.bool true) ∧ rK = [] ∧ rt = 0) := by
  have := rright_con t w a b ins hi; rwa [hok] at this
theorem rright_f (t w a b : Int) (ins : List Int) (hi : ins.length ≤ 9223372036854775807) (hok : okO t w ins a b = false) : Con Try.prog 14 [.agg [.v (.int .i64 t), .v (.int .i64 w), .ro false 1 (ins.map eI), .v (.int .i64 a), .v (.int .i64 b)]] (fun rx rK rt => rx = .val (.bool false) ∧ rK = [] ∧ rt = 0) := by
  have := rright_con t w a b ins hi; rwa [hok] at this
theorem rfits_t (t w a b c s : Int) (ins : List Int) (hok : okO t w ins a b = true) (hf : fitP t a (c, s)) : Con Try.prog 15 [.agg [.v (.int .i64 t), .v (.int .i64 w), .ro false 1 (ins.map eI), .v (.int .i64 a), .v (.int .i64 b)], .agg [.v (.int .i64 c), .v (.int .i64 s)]] (fun rx rK rt => rx = .val (.bool true) ∧ rK = [] ∧ rt = 0) := by
  have := rfits_con t w a b c s ins (fun h => by have := okO_tag hok; unfold tagP at this; omega); rwa [decide_eq_true hf] at this
theorem rfits_f (t w a b c s : Int) (ins : List Int) (hok : okO t w ins a b = true) (hf : ¬ fitP t a (c, s)) : Con Try.prog 15 [.agg [.v (.int .i64 t), .v (.int .i64 w), .ro false 1 (ins.map eI), .v (.int .i64 a), .v (.int .i64 b)], .agg [.v (.int .i64 c), .v (.int .i64 s)]] (fun rx rK rt => rx = .val (.bool false) ∧ rK = [] ∧ rt = 0) := by
  have := rfits_con t w a b c s ins (fun h => by have := okO_tag hok; unfold tagP at this; omega); rwa [decide_eq_false hf] at this
theorem run_one (t w a b c s v : Int) (ins : List Int) : runF t w ins a b c s [v] = doF t w ins a b c s v := by
  unfold runF doF runG fullB fullB
  rw [if_neg (by simp)]
  split
  · rfl
  · split
    · rfl
    · simp [fs]
theorem doF_len {t w a b c s v : Int} {ins : List Int} : (doF t w ins a b c s v).2.1.length ≤ 1 := by
  unfold doF
  repeat' split
  all_goals first | exact Nat.zero_le _ | exact out_len
theorem do_con (t w a b c s v : Int) (ins : List Int) (hi : ins.length ≤ 9223372036854775807) (hc : c ≤ 9223372036854775807) : Con Try.prog 16 [.agg [.v (.int .i64 t), .v (.int .i64 w), .ro false 1 (ins.map eI), .v (.int .i64 a), .v (.int .i64 b)], .agg [.v (.int .i64 c), .v (.int .i64 s)], .one (.v (.int .i64 v))] (fun rx rK rt => rx = .tup [.agg [.v (.int .i64 (doF t w ins a b c s v).1.1), .v (.int .i64 (doF t w ins a b c s v).1.2)], .one (.ro true 1 ((doF t w ins a b c s v).2.1.map eI)), .one (.v (.int .i64 (doF t w ins a b c s v).2.2))] ∧ rK = [] ∧ rt = 0) := by
  have c1 := Run_con t w a b c s ins [v] hi hc (by simp)
  rw [run_one] at c1
  refine con_of tabOk 17 Try.f16 _ Try.func16 (by kernel_rfl) rfl rfl rfl rfl (fun W => ?_)
  repeat' ((conv => whnf); first
    | with_reducible first | refine spB_t ?_
    | ((with_reducible apply spB_cong); (focus (simp only [beq_self_eq_true, bne_self_eq_false, Bool.true_bne, Bool.false_bne, Bool.bne_true, Bool.bne_false, Bool.true_beq, Bool.false_beq, Bool.not_true, Bool.not_false, Bool.not_not, Int.reduceBEq, Int.reduceBNe, Int.reduceLE, Int.reduceLT, Int.reduceEq, decide_true, decide_false]; rfl)))
    | with_reducible first | refine spB_yes (by decide) ?_ | refine spB_no (by decide) ?_ | refine spB_f ?_ | refine spB_not ?_ | refine spB_yes (by assumption) ?_ | refine spB_no (by assumption) ?_
    | (with_reducible refine spB_dec ?_ ?_ <;> intro _ <;> (try (exfalso; first | contradiction | omega | (rename_i hz; with_reducible exact absurd rfl hz))))
    | (with_reducible refine spB_beq ?_ ?_ <;> intro _ <;> (try (exfalso; first | contradiction | omega | (rename_i hz; with_reducible exact absurd rfl hz))))
    | (with_reducible refine spB_bne ?_ ?_ <;> intro _ <;> (try (exfalso; first | contradiction | omega | (rename_i hz; with_reducible exact absurd rfl hz))))
    | (with_reducible refine spB_mk ?_ ?_ <;> intro _ <;> (try (exfalso; first | contradiction | omega | (rename_i hz; with_reducible exact absurd rfl hz))))
    | ((with_reducible refine apz0N_mk _ ?_ ?_ ?_ ?_ ?_); (focus (first | rfl | exact (Int.toNat_of_nonneg (by omega)).symm)); (focus ((try simp only [LN] at *) <;> omega)); (focus ((try simp only [LN] at *) <;> omega)); (focus ((try simp only [LN] at *) <;> omega)))
    | ((with_reducible refine posE_pos ?_ ?_); (focus ((try simp only [LN] at *) <;> omega)))
    | ((with_reducible refine posE_nil ?_ ?_); (focus rfl))
    | ((with_reducible apply rowN_mk); (focus rfl))
    | ((with_reducible apply ixN_lit); (focus (exact rfl)); (focus (exact rfl)))
    | ((with_reducible apply ixN_litp); (focus (exact rfl)); (focus ((try simp only [LN] at *) <;> omega)))
    | ((with_reducible refine eqN_mk2 ?_ ?_); (focus rfl))
    | ((with_reducible refine posN_mk2 ?_ ?_); (focus (first | decide | ((try simp only [LN] at *) <;> omega))))
    | ((with_reducible refine apdE_r ?_); (with_reducible refine aprN.mk ⟨_, rfl, ?_⟩ ?_ ?_ ?_ ?_); (focus ((try simp only [LN] at *) <;> omega)); (focus (first | rfl | (simp; done) | ((try simp only [LN] at *) <;> omega))); (focus (first | exact one_all (by rfl) | exact one_map (fun _ => rfl) | exact one_map2 (fun _ => rfl) | exact one_drop (fun _ => rfl))); (focus ((try simp only [LN] at *) <;> omega)))
    | (with_reducible refine apdE_n ?_)
    | ((with_reducible refine slE_a ?_ ?_); (focus ((try simp only [LN] at *) <;> omega)))
    | ((with_reducible refine slE_b ?_ ?_); (focus ((try simp only [LN] at *) <;> omega)))
    | ((with_reducible refine slE_split ?_ ?_ ?_); (focus ((try simp only [LN] at *) <;> omega)); intro _)
    | ((with_reducible refine strN_src ?_ ?_ ?_); (focus (exact fun _ => rfl)); (focus ((try simp only [LN] at *) <;> omega)))
    | ((with_reducible refine strN_own ?_ ?_ ?_ ?_); (focus (exact fun _ => rfl)); (focus ((try simp only [LN] at *) <;> omega)); (focus ((try simp only [LN] at *) <;> omega)))
    | ((with_reducible apply sl3N_mk); (focus (exact rfl)); (focus (exact rfl)); (focus (exact rfl)); (focus ((try simp only [LN] at *) <;> omega)); (focus ((try simp only [LN] at *) <;> omega)); (focus ((try simp only [LN] at *) <;> omega)); (focus ((try simp only [LN] at *) <;> omega)))
    | ((with_reducible refine clrN_mk ?_ ?_ ?_); (focus ((try simp only [LN] at *) <;> omega)); (focus rfl))
    | ((with_reducible refine apdN.mk ?_ ?_ ?_ ?_ ?_ ?_); (focus (first | rfl | (simp; done))); (focus (first | exact one_all (by rfl) | exact one_map (fun _ => rfl) | exact one_map2 (fun _ => rfl))); (focus ((try simp only [LN] at *) <;> omega)); (focus ((try simp only [LN] at *) <;> omega)); (focus ((try simp only [LN] at *) <;> omega)))
    | ((with_reducible refine cpyN.mk ?_ ?_ ?_ ?_); (focus (first | rfl | (simp; done))); (focus (first | exact one_all (by rfl) | exact one_map (fun _ => rfl) | exact one_map2 (fun _ => rfl))); (focus ((try simp only [LN] at *) <;> omega)))
    | with_reducible refine wr_i64 (by first | omega | (simp only [LN] at *; omega)) ?_
    | with_reducible refine wr_u64 (by omega) ?_
    | with_reducible refine wr_u8 (by omega) ?_
    | with_reducible refine wr_u32 (by omega) ?_
    | with_reducible first | refine wr_mk _ rfl ?_
    | ((with_reducible refine ixN_nat ?_ ?_); (focus ((try simp only [LN] at *) <;> omega)))
    | ((with_reducible refine rowN_map ?_ ?_); (focus ((try simp only [LN] at *) <;> omega)); intro x hx)
    | ((with_reducible refine posE_nil (by rfl) ?_))
    | ((with_reducible refine posE_pos (by decide) ?_))
    | with_reducible refine vN_mod (by omega) ?_
    | with_reducible first | refine vN_mk ?_
    | with_reducible refine nzN_mk (by omega) ?_
    | with_reducible refine eqN_dec (by omega) ?_
    | with_reducible first | refine draw_rule tabOk mixOk ?_ | refine apN_mk (by kernel_rfl) ?_
    | ((with_reducible apply conN_mk2 ?_ (c1) ?_);(first | (focus exact ⟨⟨rfl, rfl, rfl, rfl, rfl, trivial⟩, ⟨rfl, rfl, trivial⟩, ⟨[eI v], rfl, rfl, rfl⟩, trivial⟩)); skip)
    | ((with_reducible apply call_con2 ?_ (c1) ?_);(first | (focus exact ⟨⟨rfl, rfl, rfl, rfl, rfl, trivial⟩, ⟨rfl, rfl, trivial⟩, ⟨[eI v], rfl, rfl, rfl⟩, trivial⟩)); rintro _ _ _ ⟨rfl, rfl, rfl⟩))
  all_goals (try (conv => whnf))
  all_goals first | (refine ret0 _ rfl _ rfl (fun _ => rfl) rfl ⟨?_, rfl, rfl⟩; rfl) | (fail)
end Go.Proofs.Ytibjpohankaoeaa
