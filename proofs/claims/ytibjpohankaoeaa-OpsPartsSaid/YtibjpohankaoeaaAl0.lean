import Derived.Test.YtibjpohankaoeaaMo
namespace Go.Proofs.Ytibjpohankaoeaa
open Go Go.RowKit Wx
set_option linter.unusedVariables false
set_option linter.unusedSimpArgs false
set_option maxHeartbeats 4000000
theorem keeps_con (t w a b : Int) (ins : List Int)  : Con Try.prog 12 [.agg [.v (.int .i64 t), .v (.int .i64 w), .ro false 1 (ins.map eI), .v (.int .i64 a), .v (.int .i64 b)]] (fun rx rK rt => rx = .val (.bool (decide (t = 4 ∨ t = 5))) ∧ rK = [] ∧ rt = 0) := by
  refine con_of tabOk 11 Try.f12 _ Try.func12 (by kernel_rfl) rfl rfl rfl rfl (fun W => ?_)
  repeat' ((conv => whnf); first
    | with_reducible first | refine spB_t ?_
    | ((with_reducible apply spB_cong); (focus (simp only [beq_self_eq_true, bne_self_eq_false, Bool.true_bne, Bool.false_bne, Bool.bne_true, Bool.bne_false, Bool.true_beq, Bool.false_beq, Bool.not_true, Bool.not_false, Bool.not_not, Int.reduceBEq, Int.reduceBNe, Int.reduceLE, Int.reduceLT, Int.reduceEq, decide_true, decide_false]; rfl)))
    | with_reducible first | refine spB_yes (by decide) ?_ | refine spB_no (by decide) ?_ | refine spB_f ?_ | refine spB_not ?_ | refine spB_yes (by assumption) ?_ | refine spB_no (by assumption) ?_
    | (with_reducible refine spB_dec ?_ ?_ <;> intro _ <;> (try (exfalso; first | contradiction | omega | (rename_i hz; with_reducible exact absurd rfl hz))))
    | (with_reducible refine spB_beq ?_ ?_ <;> intro _ <;> (try (exfalso; first | contradiction | omega | (rename_i hz; with_reducible exact absurd rfl hz))))
    | (with_reducible refine spB_bne ?_ ?_ <;> intro _ <;> (try (exfalso; first | contradiction | omega | (rename_i hz; with_reducible exact absurd rfl hz))))
    | (with_reducible refine spB_mk ?_ ?_ <;> intro _ <;> (try (exfalso; first | contradiction | omega | (rename_i hz; with_reducible exact absurd rfl hz))))
    | ((with_reducible refine apz0N_mk _ ?_ ?_ ?_ ?_ ?_); (focus (first | rfl | exact (Int.toNat_of_nonneg (by omega)).symm)); (focus ((try simp only [LN] at *) <;> omega)); (focus ((try simp only [LN] at *) <;> omega)); (focus ((try simp only [LN] at *) <;> omega)))
    | ((with_reducible refine posE_pos ?_ ?_); (focus ((try simp only [LN] at *) <;> omega)))
    | ((with_reducible refine posE_nil ?_ ?_); (focus rfl))
    | ((with_reducible apply rowN_mk); (focus rfl))
    | ((with_reducible apply ixN_lit); (focus (exact rfl)); (focus (exact rfl)))
    | ((with_reducible apply ixN_litp); (focus (exact rfl)); (focus ((try simp only [LN] at *) <;> omega)))
    | ((with_reducible refine eqN_mk2 ?_ ?_); (focus rfl))
    | ((with_reducible refine posN_mk2 ?_ ?_); (focus (first | decide | ((try simp only [LN] at *) <;> omega))))
    | ((with_reducible refine apdE_r ?_); (with_reducible refine aprN.mk ⟨_, rfl, ?_⟩ ?_ ?_ ?_ ?_); (focus ((try simp only [LN] at *) <;> omega)); (focus (first | rfl | (simp; done) | ((try simp only [LN] at *) <;> omega))); (focus (first | exact one_all (by rfl) | exact one_map (fun _ => rfl) | exact one_map2 (fun _ => rfl) | exact one_drop (fun _ => rfl))); (focus ((try simp only [LN] at *) <;> omega)))
    | (with_reducible refine apdE_n ?_)
    | ((with_reducible refine slE_a ?_ ?_); (focus ((try simp only [LN] at *) <;> omega)))
    | ((with_reducible refine slE_b ?_ ?_); (focus ((try simp only [LN] at *) <;> omega)))
    | ((with_reducible refine slE_split ?_ ?_ ?_); (focus ((try simp only [LN] at *) <;> omega)); intro _)
    | ((with_reducible refine strN_src ?_ ?_ ?_); (focus (exact fun _ => rfl)); (focus ((try simp only [LN] at *) <;> omega)))
    | ((with_reducible refine strN_own ?_ ?_ ?_ ?_); (focus (exact fun _ => rfl)); (focus ((try simp only [LN] at *) <;> omega)); (focus ((try simp only [LN] at *) <;> omega)))
    | ((with_reducible apply sl3N_mk); (focus (exact rfl)); (focus (exact rfl)); (focus (exact rfl)); (focus ((try simp only [LN] at *) <;> omega)); (focus ((try simp only [LN] at *) <;> omega)); (focus ((try simp only [LN] at *) <;> omega)); (focus ((try simp only [LN] at *) <;> omega)))
    | ((with_reducible refine clrN_mk ?_ ?_ ?_); (focus ((try simp only [LN] at *) <;> omega)); (focus rfl))
    | ((with_reducible refine apdN.mk ?_ ?_ ?_ ?_ ?_ ?_); (focus (first | rfl | (simp; done))); (focus (first | exact one_all (by rfl) | exact one_map (fun _ => rfl) | exact one_map2 (fun _ => rfl))); (focus ((try simp only [LN] at *) <;> omega)); (focus ((try simp only [LN] at *) <;> omega)); (focus ((try simp only [LN] at *) <;> omega)))
    | ((with_reducible refine cpyN.mk ?_ ?_ ?_ ?_); (focus (first | rfl | (simp; done))); (focus (first | exact one_all (by rfl) | exact one_map (fun _ => rfl) | exact one_map2 (fun _ => rfl))); (focus ((try simp only [LN] at *) <;> omega)))
    | with_reducible refine wr_i64 (by first | omega | (simp only [LN] at *; omega)) ?_
    | with_reducible refine wr_u64 (by omega) ?_
    | with_reducible refine wr_u8 (by omega) ?_
    | with_reducible refine wr_u32 (by omega) ?_
    | with_reducible first | refine wr_mk _ rfl ?_
    | ((with_reducible refine ixN_nat ?_ ?_); (focus ((try simp only [LN] at *) <;> omega)))
    | ((with_reducible refine rowN_map ?_ ?_); (focus ((try simp only [LN] at *) <;> omega)); intro x hx)
    | ((with_reducible refine posE_nil (by rfl) ?_))
    | ((with_reducible refine posE_pos (by decide) ?_))
    | with_reducible refine vN_mod (by omega) ?_
    | with_reducible first | refine vN_mk ?_
    | with_reducible refine nzN_mk (by omega) ?_
    | with_reducible refine eqN_dec (by omega) ?_
    | with_reducible first | refine draw_rule tabOk mixOk ?_
    | with_reducible refine apN_mk (by kernel_rfl) ?_)
  all_goals (try (conv => whnf))
  all_goals refine ret0 _ rfl _ rfl (fun _ => rfl) rfl ⟨?_, rfl, rfl⟩
  all_goals (refine rv_bool ?_; first | (exact bool_t (by omega)) | (exact bool_f (by omega)) | (exact bool_p (by omega)))

theorem drop_cons8 {α : Type} {l : List α} {i : Nat} {x : α} (h : l[i]? = some x) : l.drop i = x :: l.drop (i + 1) := by
  have hlt := (List.getElem?_eq_some_iff.1 h).1
  rw [List.drop_eq_getElem_cons hlt, (List.getElem?_eq_some_iff.1 h).2]
theorem rising_con (l : List Int) (lim : Int) (hl : l.length ≤ 9223372036854775807) : Con Try.prog 38 [.one (.ro false 1 (l.map eI)), .one (.v (.int .i64 lim))] (fun rx rK rt => rx = .val (.bool (ris lim (-1) l)) ∧ rK = [] ∧ rt = 0) := by
  refine con_of tabOk 24 Try.f38 _ Try.func38 (by kernel_rfl) rfl rfl rfl rfl (fun W => ?_)
  repeat' ((conv => whnf); first
    | with_reducible first | refine spB_t ?_
    | ((with_reducible apply spB_cong); (focus (simp only [beq_self_eq_true, bne_self_eq_false, Bool.true_bne, Bool.false_bne, Bool.bne_true, Bool.bne_false, Bool.true_beq, Bool.false_beq, Bool.not_true, Bool.not_false, Bool.not_not, Int.reduceBEq, Int.reduceBNe, Int.reduceLE, Int.reduceLT, Int.reduceEq, decide_true, decide_false]; rfl)))
    | with_reducible first | refine spB_yes (by decide) ?_ | refine spB_no (by decide) ?_ | refine spB_f ?_ | refine spB_not ?_ | refine spB_yes (by assumption) ?_ | refine spB_no (by assumption) ?_
    | (with_reducible refine spB_dec ?_ ?_ <;> intro _ <;> (try (exfalso; first | contradiction | omega | (rename_i hz; with_reducible exact absurd rfl hz))))
    | (with_reducible refine spB_beq ?_ ?_ <;> intro _ <;> (try (exfalso; first | contradiction | omega | (rename_i hz; with_reducible exact absurd rfl hz))))
    | (with_reducible refine spB_bne ?_ ?_ <;> intro _ <;> (try (exfalso; first | contradiction | omega | (rename_i hz; with_reducible exact absurd rfl hz))))
    | (with_reducible refine spB_mk ?_ ?_ <;> intro _ <;> (try (exfalso; first | contradiction | omega | (rename_i hz; with_reducible exact absurd rfl hz))))
    | ((with_reducible refine apz0N_mk _ ?_ ?_ ?_ ?_ ?_); (focus (first | rfl | exact (Int.toNat_of_nonneg (by omega)).symm)); (focus ((try simp only [LN] at *) <;> omega)); (focus ((try simp only [LN] at *) <;> omega)); (focus ((try simp only [LN] at *) <;> omega)))
    | ((with_reducible refine posE_pos ?_ ?_); (focus ((try simp only [LN] at *) <;> omega)))
    | ((with_reducible refine posE_nil ?_ ?_); (focus rfl))
    | ((with_reducible apply rowN_mk); (focus rfl))
    | ((with_reducible apply ixN_lit); (focus (exact rfl)); (focus (exact rfl)))
    | ((with_reducible apply ixN_litp); (focus (exact rfl)); (focus ((try simp only [LN] at *) <;> omega)))
    | ((with_reducible refine eqN_mk2 ?_ ?_); (focus rfl))
    | ((with_reducible refine posN_mk2 ?_ ?_); (focus (first | decide | ((try simp only [LN] at *) <;> omega))))
    | ((with_reducible refine apdE_r ?_); (with_reducible refine aprN.mk ⟨_, rfl, ?_⟩ ?_ ?_ ?_ ?_); (focus ((try simp only [LN] at *) <;> omega)); (focus (first | rfl | (simp; done) | ((try simp only [LN] at *) <;> omega))); (focus (first | exact one_all (by rfl) | exact one_map (fun _ => rfl) | exact one_map2 (fun _ => rfl) | exact one_drop (fun _ => rfl))); (focus ((try simp only [LN] at *) <;> omega)))
    | (with_reducible refine apdE_n ?_)
    | ((with_reducible refine slE_a ?_ ?_); (focus ((try simp only [LN] at *) <;> omega)))
    | ((with_reducible refine slE_b ?_ ?_); (focus ((try simp only [LN] at *) <;> omega)))
    | ((with_reducible refine slE_split ?_ ?_ ?_); (focus ((try simp only [LN] at *) <;> omega)); intro _)
    | ((with_reducible refine strN_src ?_ ?_ ?_); (focus (exact fun _ => rfl)); (focus ((try simp only [LN] at *) <;> omega)))
    | ((with_reducible refine strN_own ?_ ?_ ?_ ?_); (focus (exact fun _ => rfl)); (focus ((try simp only [LN] at *) <;> omega)); (focus ((try simp only [LN] at *) <;> omega)))
    | ((with_reducible apply sl3N_mk); (focus (exact rfl)); (focus (exact rfl)); (focus (exact rfl)); (focus ((try simp only [LN] at *) <;> omega)); (focus ((try simp only [LN] at *) <;> omega)); (focus ((try simp only [LN] at *) <;> omega)); (focus ((try simp only [LN] at *) <;> omega)))
    | ((with_reducible refine clrN_mk ?_ ?_ ?_); (focus ((try simp only [LN] at *) <;> omega)); (focus rfl))
    | ((with_reducible refine apdN.mk ?_ ?_ ?_ ?_ ?_ ?_); (focus (first | rfl | (simp; done))); (focus (first | exact one_all (by rfl) | exact one_map (fun _ => rfl) | exact one_map2 (fun _ => rfl))); (focus ((try simp only [LN] at *) <;> omega)); (focus ((try simp only [LN] at *) <;> omega)); (focus ((try simp only [LN] at *) <;> omega)))
    | ((with_reducible refine cpyN.mk ?_ ?_ ?_ ?_); (focus (first | rfl | (simp; done))); (focus (first | exact one_all (by rfl) | exact one_map (fun _ => rfl) | exact one_map2 (fun _ => rfl))); (focus ((try simp only [LN] at *) <;> omega)))
    | with_reducible refine wr_i64 (by first | omega | (simp only [LN] at *; omega)) ?_
    | with_reducible refine wr_u64 (by omega) ?_
    | with_reducible refine wr_u8 (by omega) ?_
    | with_reducible refine wr_u32 (by omega) ?_
    | with_reducible first | refine wr_mk _ rfl ?_
    | ((with_reducible refine ixN_nat ?_ ?_); (focus ((try simp only [LN] at *) <;> omega)))
    | ((with_reducible refine rowN_map ?_ ?_); (focus ((try simp only [LN] at *) <;> omega)); intro x hx)
    | ((with_reducible refine posE_nil (by rfl) ?_))
    | ((with_reducible refine posE_pos (by decide) ?_))
    | with_reducible refine vN_mod (by omega) ?_
    | with_reducible first | refine vN_mk ?_
    | with_reducible refine nzN_mk (by omega) ?_
    | with_reducible refine eqN_dec (by omega) ?_
    | with_reducible first | refine draw_rule tabOk mixOk ?_
    | with_reducible refine apN_mk (by kernel_rfl) ?_)
  all_goals (try (conv => whnf))
  refine loop_rule tabOk (fun q : Nat × Int => ⟨[(10, .val (.int .i64 (q.1 : Int))), (9, .val (.int .i64 ((l.map eI).length : Nat))), (8, .c (.ro false 1 (l.map eI))), (5, .val (.int .i64 q.2)), (1, .val (.int .i64 lim))], [], 0⟩) (fun q => q.1 ≤ l.length ∧ ris lim (-1) l = ris lim q.2 (l.drop q.1)) (fun q => l.length - q.1) (0, -1) ⟨Nat.zero_le _, rfl⟩ (Wk.stp (l := []) ⟨rfl, by decide, rfl, Nat.zero_le _, ⟨rfl, rfl, rfl, rfl, rfl, trivial⟩, trivial⟩) ?_
  rintro ⟨i, last⟩ ⟨hi, hr⟩
  dsimp only at hi hr ⊢
  repeat' ((conv => whnf); first
    | with_reducible first | refine spB_t ?_
    | ((with_reducible apply spB_cong); (focus (simp only [beq_self_eq_true, bne_self_eq_false, Bool.true_bne, Bool.false_bne, Bool.bne_true, Bool.bne_false, Bool.true_beq, Bool.false_beq, Bool.not_true, Bool.not_false, Bool.not_not, Int.reduceBEq, Int.reduceBNe, Int.reduceLE, Int.reduceLT, Int.reduceEq, decide_true, decide_false]; rfl)))
    | with_reducible first | refine spB_yes (by decide) ?_ | refine spB_no (by decide) ?_ | refine spB_f ?_ | refine spB_not ?_ | refine spB_yes (by assumption) ?_ | refine spB_no (by assumption) ?_
    | (with_reducible refine spB_dec ?_ ?_ <;> intro _ <;> (try (exfalso; first | contradiction | omega | (rename_i hz; with_reducible exact absurd rfl hz))))
    | (with_reducible refine spB_beq ?_ ?_ <;> intro _ <;> (try (exfalso; first | contradiction | omega | (rename_i hz; with_reducible exact absurd rfl hz))))
    | (with_reducible refine spB_bne ?_ ?_ <;> intro _ <;> (try (exfalso; first | contradiction | omega | (rename_i hz; with_reducible exact absurd rfl hz))))
    | (with_reducible refine spB_mk ?_ ?_ <;> intro _ <;> (try (exfalso; first | contradiction | omega | (rename_i hz; with_reducible exact absurd rfl hz))))
    | ((with_reducible refine apz0N_mk _ ?_ ?_ ?_ ?_ ?_); (focus (first | rfl | exact (Int.toNat_of_nonneg (by omega)).symm)); (focus ((try simp only [LN] at *) <;> omega)); (focus ((try simp only [LN] at *) <;> omega)); (focus ((try simp only [LN] at *) <;> omega)))
    | ((with_reducible refine posE_pos ?_ ?_); (focus ((try simp only [LN] at *) <;> omega)))
    | ((with_reducible refine posE_nil ?_ ?_); (focus rfl))
    | ((with_reducible apply rowN_mk); (focus rfl))
    | ((with_reducible apply ixN_lit); (focus (exact rfl)); (focus (exact rfl)))
    | ((with_reducible apply ixN_litp); (focus (exact rfl)); (focus ((try simp only [LN] at *) <;> omega)))
    | ((with_reducible refine eqN_mk2 ?_ ?_); (focus rfl))
    | ((with_reducible refine posN_mk2 ?_ ?_); (focus (first | decide | ((try simp only [LN] at *) <;> omega))))
    | ((with_reducible refine apdE_r ?_); (with_reducible refine aprN.mk ⟨_, rfl, ?_⟩ ?_ ?_ ?_ ?_); (focus ((try simp only [LN] at *) <;> omega)); (focus (first | rfl | (simp; done) | ((try simp only [LN] at *) <;> omega))); (focus (first | exact one_all (by rfl) | exact one_map (fun _ => rfl) | exact one_map2 (fun _ => rfl) | exact one_drop (fun _ => rfl))); (focus ((try simp only [LN] at *) <;> omega)))
    | (with_reducible refine apdE_n ?_)
    | ((with_reducible refine slE_a ?_ ?_); (focus ((try simp only [LN] at *) <;> omega)))
    | ((with_reducible refine slE_b ?_ ?_); (focus ((try simp only [LN] at *) <;> omega)))
    | ((with_reducible refine slE_split ?_ ?_ ?_); (focus ((try simp only [LN] at *) <;> omega)); intro _)
    | ((with_reducible refine strN_src ?_ ?_ ?_); (focus (exact fun _ => rfl)); (focus ((try simp only [LN] at *) <;> omega)))
    | ((with_reducible refine strN_own ?_ ?_ ?_ ?_); (focus (exact fun _ => rfl)); (focus ((try simp only [LN] at *) <;> omega)); (focus ((try simp only [LN] at *) <;> omega)))
    | ((with_reducible apply sl3N_mk); (focus (exact rfl)); (focus (exact rfl)); (focus (exact rfl)); (focus ((try simp only [LN] at *) <;> omega)); (focus ((try simp only [LN] at *) <;> omega)); (focus ((try simp only [LN] at *) <;> omega)); (focus ((try simp only [LN] at *) <;> omega)))
    | ((with_reducible refine clrN_mk ?_ ?_ ?_); (focus ((try simp only [LN] at *) <;> omega)); (focus rfl))
    | ((with_reducible refine apdN.mk ?_ ?_ ?_ ?_ ?_ ?_); (focus (first | rfl | (simp; done))); (focus (first | exact one_all (by rfl) | exact one_map (fun _ => rfl) | exact one_map2 (fun _ => rfl))); (focus ((try simp only [LN] at *) <;> omega)); (focus ((try simp only [LN] at *) <;> omega)); (focus ((try simp only [LN] at *) <;> omega)))
    | ((with_reducible refine cpyN.mk ?_ ?_ ?_ ?_); (focus (first | rfl | (simp; done))); (focus (first | exact one_all (by rfl) | exact one_map (fun _ => rfl) | exact one_map2 (fun _ => rfl))); (focus ((try simp only [LN] at *) <;> omega)))
    | with_reducible refine wr_i64 (by first | omega | (simp only [LN] at *; omega)) ?_
    | with_reducible refine wr_u64 (by omega) ?_
    | with_reducible refine wr_u8 (by omega) ?_
    | with_reducible refine wr_u32 (by omega) ?_
    | with_reducible first | refine wr_mk _ rfl ?_
    | ((with_reducible refine ixN_nat ?_ ?_); (focus ((try simp only [LN] at *) <;> omega)))
    | ((with_reducible refine rowN_map ?_ ?_); (focus ((try simp only [LN] at *) <;> omega)); intro x hx)
    | ((with_reducible refine posE_nil (by rfl) ?_))
    | ((with_reducible refine posE_pos (by decide) ?_))
    | with_reducible refine vN_mod (by omega) ?_
    | with_reducible first | refine vN_mk ?_
    | with_reducible refine nzN_mk (by omega) ?_
    | with_reducible refine eqN_dec (by omega) ?_
    | with_reducible first | refine draw_rule tabOk mixOk ?_
    | with_reducible refine apN_mk (by kernel_rfl) ?_)
  all_goals (try (conv => whnf))
  all_goals first
    | (refine ⟨⟨(i + 1, x), ⟨by (try simp only [LN] at *) <;> omega, ?_⟩, by (try simp only [List.length_map] at *); (try dsimp only); omega, (Wk.stp (l := []) ⟨rfl, by decide, rfl, Nat.zero_le _, ⟨rfl, rfl, rfl, rfl, rfl, trivial⟩, trivial⟩)⟩⟩
       dsimp only; rw [hr, drop_cons8 hx, ris, decide_eq_true (by omega), Bool.true_and])
    | (refine ret0 _ rfl _ rfl (fun _ => rfl) rfl ⟨?_, rfl, rfl⟩; refine rv_bool ?_; rw [hr, drop_cons8 hx, ris, decide_eq_false (by omega), Bool.false_and])
    | (refine ret0 _ rfl _ rfl (fun _ => rfl) rfl ⟨?_, rfl, rfl⟩; refine rv_bool ?_; rw [hr, List.drop_eq_nil_of_le (by (try simp only [LN] at *) <;> omega)]; rfl)
    | (fail)

theorem okO_e {x : Bool} {p q : Prop} [Decidable p] [Decidable q] (h : x = true ↔ p ∧ q) : x = (decide p && decide q) := by
  rw [Bool.eq_iff_iff, h, Bool.and_eq_true, decide_eq_true_eq, decide_eq_true_eq]
theorem okO_t {p q : Prop} [Decidable p] [Decidable q] (h : p) (k : q) : true = (decide p && decide q) := by simp [h, k]
theorem okO_f {p q : Prop} [Decidable p] [Decidable q] (h : ¬ (p ∧ q)) : false = (decide p && decide q) := by
  cases hh : (decide p && decide q) with
  | false => rfl
  | true => simp only [Bool.and_eq_true, decide_eq_true_eq] at hh; exact absurd hh h
theorem alone_t (t w a b : Int) (ins : List Int) (hl : ins.length ≤ 9223372036854775807) (hr : ris 8 (-1) ins = true) : Con Try.prog 28 [.agg [.v (.int .i64 t), .v (.int .i64 w), .ro false 1 (ins.map eI), .v (.int .i64 a), .v (.int .i64 b)], .one (.v (.int .i64 8))] (fun rx rK rt => rx = .val (.bool (okO t w ins a b)) ∧ rK = [] ∧ rt = 0) := by
  refine con_of tabOk 118 Try.f28 _ Try.func28 (by kernel_rfl) rfl rfl rfl rfl (fun W => ?_)
  have c1 := rising_con ins 8 hl; rw [hr] at c1
  repeat' ((conv => whnf); first
    | with_reducible first | refine spB_t ?_
    | ((with_reducible apply spB_cong); (focus (simp only [beq_self_eq_true, bne_self_eq_false, Bool.true_bne, Bool.false_bne, Bool.bne_true, Bool.bne_false, Bool.true_beq, Bool.false_beq, Bool.not_true, Bool.not_false, Bool.not_not, Int.reduceBEq, Int.reduceBNe, Int.reduceLE, Int.reduceLT, Int.reduceEq, decide_true, decide_false]; rfl)))
    | with_reducible first | refine spB_yes (by decide) ?_ | refine spB_no (by decide) ?_ | refine spB_f ?_ | refine spB_not ?_ | refine spB_yes (by assumption) ?_ | refine spB_no (by assumption) ?_
    | (with_reducible refine spB_dec ?_ ?_ <;> intro _ <;> (try (exfalso; first | contradiction | omega | (rename_i hz; with_reducible exact absurd rfl hz))))
    | (with_reducible refine spB_beq ?_ ?_ <;> intro _ <;> (try (exfalso; first | contradiction | omega | (rename_i hz; with_reducible exact absurd rfl hz))))
    | (with_reducible refine spB_bne ?_ ?_ <;> intro _ <;> (try (exfalso; first | contradiction | omega | (rename_i hz; with_reducible exact absurd rfl hz))))
    | (with_reducible refine spB_mk ?_ ?_ <;> intro _ <;> (try (exfalso; first | contradiction | omega | (rename_i hz; with_reducible exact absurd rfl hz))))
    | ((with_reducible refine apz0N_mk _ ?_ ?_ ?_ ?_ ?_); (focus (first | rfl | exact (Int.toNat_of_nonneg (by omega)).symm)); (focus ((try simp only [LN] at *) <;> omega)); (focus ((try simp only [LN] at *) <;> omega)); (focus ((try simp only [LN] at *) <;> omega)))
    | ((with_reducible refine posE_pos ?_ ?_); (focus ((try simp only [LN] at *) <;> omega)))
    | ((with_reducible refine posE_nil ?_ ?_); (focus rfl))
    | ((with_reducible apply rowN_mk); (focus rfl))
    | ((with_reducible apply ixN_lit); (focus (exact rfl)); (focus (exact rfl)))
    | ((with_reducible apply ixN_litp); (focus (exact rfl)); (focus ((try simp only [LN] at *) <;> omega)))
    | ((with_reducible refine eqN_mk2 ?_ ?_); (focus rfl))
    | ((with_reducible refine posN_mk2 ?_ ?_); (focus (first | decide | ((try simp only [LN] at *) <;> omega))))
    | ((with_reducible refine apdE_r ?_); (with_reducible refine aprN.mk ⟨_, rfl, ?_⟩ ?_ ?_ ?_ ?_); (focus ((try simp only [LN] at *) <;> omega)); (focus (first | rfl | (simp; done) | ((try simp only [LN] at *) <;> omega))); (focus (first | exact one_all (by rfl) | exact one_map (fun _ => rfl) | exact one_map2 (fun _ => rfl) | exact one_drop (fun _ => rfl))); (focus ((try simp only [LN] at *) <;> omega)))
    | (with_reducible refine apdE_n ?_)
    | ((with_reducible refine slE_a ?_ ?_); (focus ((try simp only [LN] at *) <;> omega)))
    | ((with_reducible refine slE_b ?_ ?_); (focus ((try simp only [LN] at *) <;> omega)))
    | ((with_reducible refine slE_split ?_ ?_ ?_); (focus ((try simp only [LN] at *) <;> omega)); intro _)
    | ((with_reducible refine strN_src ?_ ?_ ?_); (focus (exact fun _ => rfl)); (focus ((try simp only [LN] at *) <;> omega)))
    | ((with_reducible refine strN_own ?_ ?_ ?_ ?_); (focus (exact fun _ => rfl)); (focus ((try simp only [LN] at *) <;> omega)); (focus ((try simp only [LN] at *) <;> omega)))
    | ((with_reducible apply sl3N_mk); (focus (exact rfl)); (focus (exact rfl)); (focus (exact rfl)); (focus ((try simp only [LN] at *) <;> omega)); (focus ((try simp only [LN] at *) <;> omega)); (focus ((try simp only [LN] at *) <;> omega)); (focus ((try simp only [LN] at *) <;> omega)))
    | ((with_reducible refine clrN_mk ?_ ?_ ?_); (focus ((try simp only [LN] at *) <;> omega)); (focus rfl))
    | ((with_reducible refine apdN.mk ?_ ?_ ?_ ?_ ?_ ?_); (focus (first | rfl | (simp; done))); (focus (first | exact one_all (by rfl) | exact one_map (fun _ => rfl) | exact one_map2 (fun _ => rfl))); (focus ((try simp only [LN] at *) <;> omega)); (focus ((try simp only [LN] at *) <;> omega)); (focus ((try simp only [LN] at *) <;> omega)))
    | ((with_reducible refine cpyN.mk ?_ ?_ ?_ ?_); (focus (first | rfl | (simp; done))); (focus (first | exact one_all (by rfl) | exact one_map (fun _ => rfl) | exact one_map2 (fun _ => rfl))); (focus ((try simp only [LN] at *) <;> omega)))
    | with_reducible refine wr_i64 (by first | omega | (simp only [LN] at *; omega)) ?_
    | with_reducible refine wr_u64 (by omega) ?_
    | with_reducible refine wr_u8 (by omega) ?_
    | with_reducible refine wr_u32 (by omega) ?_
    | with_reducible first | refine wr_mk _ rfl ?_
    | ((with_reducible refine ixN_nat ?_ ?_); (focus ((try simp only [LN] at *) <;> omega)))
    | ((with_reducible refine rowN_map ?_ ?_); (focus ((try simp only [LN] at *) <;> omega)); intro x hx)
    | ((with_reducible refine posE_nil (by rfl) ?_))
    | ((with_reducible refine posE_pos (by decide) ?_))
    | with_reducible refine vN_mod (by omega) ?_
    | with_reducible first | refine vN_mk ?_
    | with_reducible refine nzN_mk (by omega) ?_
    | with_reducible refine eqN_dec (by omega) ?_
    | with_reducible first | refine draw_rule tabOk mixOk ?_ | refine apN_mk (by kernel_rfl) ?_
    | ((with_reducible apply conN_mk2 ?_ (c1) ?_);(first | (focus exact ⟨rfl, rfl, trivial⟩)); skip)
    | ((with_reducible apply call_con2 ?_ (c1) ?_);(first | (focus exact ⟨rfl, rfl, trivial⟩)); rintro _ _ _ ⟨rfl, rfl, rfl⟩))
  all_goals (try (conv => whnf))
  all_goals refine ret0 _ rfl _ rfl (fun _ => rfl) rfl ⟨?_, rfl, rfl⟩
  all_goals (refine rv_bool ?_; unfold okO; rw [hr]; simp only [Bool.and_true, Bool.and_false, Bool.false_and] <;> first | exact okO_t (by omega) (by unfold tagP; (try simp only [LN] at *) <;> omega) | exact okO_f (by unfold tagP; (try simp only [LN] at *) <;> omega) | rfl | (refine okO_e ?_; simp only [beq_iff_eq, decide_eq_true_eq, List.length_map]; unfold tagP; (try simp only [LN] at *) <;> omega) | (fail))
theorem alone_f (t w a b : Int) (ins : List Int) (hl : ins.length ≤ 9223372036854775807) (hr : ris 8 (-1) ins = false) : Con Try.prog 28 [.agg [.v (.int .i64 t), .v (.int .i64 w), .ro false 1 (ins.map eI), .v (.int .i64 a), .v (.int .i64 b)], .one (.v (.int .i64 8))] (fun rx rK rt => rx = .val (.bool (okO t w ins a b)) ∧ rK = [] ∧ rt = 0) := by
  refine con_of tabOk 118 Try.f28 _ Try.func28 (by kernel_rfl) rfl rfl rfl rfl (fun W => ?_)
  have c1 := rising_con ins 8 hl; rw [hr] at c1
  repeat' ((conv => whnf); first
    | with_reducible first | refine spB_t ?_
    | ((with_reducible apply spB_cong); (focus (simp only [beq_self_eq_true, bne_self_eq_false, Bool.true_bne, Bool.false_bne, Bool.bne_true, Bool.bne_false, Bool.true_beq, Bool.false_beq, Bool.not_true, Bool.not_false, Bool.not_not, Int.reduceBEq, Int.reduceBNe, Int.reduceLE, Int.reduceLT, Int.reduceEq, decide_true, decide_false]; rfl)))
    | with_reducible first | refine spB_yes (by decide) ?_ | refine spB_no (by decide) ?_ | refine spB_f ?_ | refine spB_not ?_ | refine spB_yes (by assumption) ?_ | refine spB_no (by assumption) ?_
    | (with_reducible refine spB_dec ?_ ?_ <;> intro _ <;> (try (exfalso; first | contradiction | omega | (rename_i hz; with_reducible exact absurd rfl hz))))
    | (with_reducible refine spB_beq ?_ ?_ <;> intro _ <;> (try (exfalso; first | contradiction | omega | (rename_i hz; with_reducible exact absurd rfl hz))))
    | (with_reducible refine spB_bne ?_ ?_ <;> intro _ <;> (try (exfalso; first | contradiction | omega | (rename_i hz; with_reducible exact absurd rfl hz))))
    | (with_reducible refine spB_mk ?_ ?_ <;> intro _ <;> (try (exfalso; first | contradiction | omega | (rename_i hz; with_reducible exact absurd rfl hz))))
    | ((with_reducible refine apz0N_mk _ ?_ ?_ ?_ ?_ ?_); (focus (first | rfl | exact (Int.toNat_of_nonneg (by omega)).symm)); (focus ((try simp only [LN] at *) <;> omega)); (focus ((try simp only [LN] at *) <;> omega)); (focus ((try simp only [LN] at *) <;> omega)))
    | ((with_reducible refine posE_pos ?_ ?_); (focus ((try simp only [LN] at *) <;> omega)))
    | ((with_reducible refine posE_nil ?_ ?_); (focus rfl))
    | ((with_reducible apply rowN_mk); (focus rfl))
    | ((with_reducible apply ixN_lit); (focus (exact rfl)); (focus (exact rfl)))
    | ((with_reducible apply ixN_litp); (focus (exact rfl)); (focus ((try simp only [LN] at *) <;> omega)))
    | ((with_reducible refine eqN_mk2 ?_ ?_); (focus rfl))
    | ((with_reducible refine posN_mk2 ?_ ?_); (focus (first | decide | ((try simp only [LN] at *) <;> omega))))
    | ((with_reducible refine apdE_r ?_); (with_reducible refine aprN.mk ⟨_, rfl, ?_⟩ ?_ ?_ ?_ ?_); (focus ((try simp only [LN] at *) <;> omega)); (focus (first | rfl | (simp; done) | ((try simp only [LN] at *) <;> omega))); (focus (first | exact one_all (by rfl) | exact one_map (fun _ => rfl) | exact one_map2 (fun _ => rfl) | exact one_drop (fun _ => rfl))); (focus ((try simp only [LN] at *) <;> omega)))
    | (with_reducible refine apdE_n ?_)
    | ((with_reducible refine slE_a ?_ ?_); (focus ((try simp only [LN] at *) <;> omega)))
    | ((with_reducible refine slE_b ?_ ?_); (focus ((try simp only [LN] at *) <;> omega)))
    | ((with_reducible refine slE_split ?_ ?_ ?_); (focus ((try simp only [LN] at *) <;> omega)); intro _)
    | ((with_reducible refine strN_src ?_ ?_ ?_); (focus (exact fun _ => rfl)); (focus ((try simp only [LN] at *) <;> omega)))
    | ((with_reducible refine strN_own ?_ ?_ ?_ ?_); (focus (exact fun _ => rfl)); (focus ((try simp only [LN] at *) <;> omega)); (focus ((try simp only [LN] at *) <;> omega)))
    | ((with_reducible apply sl3N_mk); (focus (exact rfl)); (focus (exact rfl)); (focus (exact rfl)); (focus ((try simp only [LN] at *) <;> omega)); (focus ((try simp only [LN] at *) <;> omega)); (focus ((try simp only [LN] at *) <;> omega)); (focus ((try simp only [LN] at *) <;> omega)))
    | ((with_reducible refine clrN_mk ?_ ?_ ?_); (focus ((try simp only [LN] at *) <;> omega)); (focus rfl))
    | ((with_reducible refine apdN.mk ?_ ?_ ?_ ?_ ?_ ?_); (focus (first | rfl | (simp; done))); (focus (first | exact one_all (by rfl) | exact one_map (fun _ => rfl) | exact one_map2 (fun _ => rfl))); (focus ((try simp only [LN] at *) <;> omega)); (focus ((try simp only [LN] at *) <;> omega)); (focus ((try simp only [LN] at *) <;> omega)))
    | ((with_reducible refine cpyN.mk ?_ ?_ ?_ ?_); (focus (first | rfl | (simp; done))); (focus (first | exact one_all (by rfl) | exact one_map (fun _ => rfl) | exact one_map2 (fun _ => rfl))); (focus ((try simp only [LN] at *) <;> omega)))
    | with_reducible refine wr_i64 (by first | omega | (simp only [LN] at *; omega)) ?_
    | with_reducible refine wr_u64 (by omega) ?_
    | with_reducible refine wr_u8 (by omega) ?_
    | with_reducible refine wr_u32 (by omega) ?_
    | with_reducible first | refine wr_mk _ rfl ?_
    | ((with_reducible refine ixN_nat ?_ ?_); (focus ((try simp only [LN] at *) <;> omega)))
    | ((with_reducible refine rowN_map ?_ ?_); (focus ((try simp only [LN] at *) <;> omega)); intro x hx)
    | ((with_reducible refine posE_nil (by rfl) ?_))
    | ((with_reducible refine posE_pos (by decide) ?_))
    | with_reducible refine vN_mod (by omega) ?_
    | with_reducible first | refine vN_mk ?_
    | with_reducible refine nzN_mk (by omega) ?_
    | with_reducible refine eqN_dec (by omega) ?_
    | with_reducible first | refine draw_rule tabOk mixOk ?_ | refine apN_mk (by kernel_rfl) ?_
    | ((with_reducible apply conN_mk2 ?_ (c1) ?_);(first | (focus exact ⟨rfl, rfl, trivial⟩)); skip)
    | ((with_reducible apply call_con2 ?_ (c1) ?_);(first | (focus exact ⟨rfl, rfl, trivial⟩)); rintro _ _ _ ⟨rfl, rfl, rfl⟩))
  all_goals (try (conv => whnf))
  all_goals refine ret0 _ rfl _ rfl (fun _ => rfl) rfl ⟨?_, rfl, rfl⟩
  all_goals (refine rv_bool ?_; unfold okO; rw [hr]; simp only [Bool.and_true, Bool.and_false, Bool.false_and] <;> first | exact okO_t (by omega) (by unfold tagP; (try simp only [LN] at *) <;> omega) | exact okO_f (by unfold tagP; (try simp only [LN] at *) <;> omega) | rfl | (refine okO_e ?_; simp only [beq_iff_eq, decide_eq_true_eq, List.length_map]; unfold tagP; (try simp only [LN] at *) <;> omega) | (fail))
theorem alone_con (t w a b : Int) (ins : List Int) (hl : ins.length ≤ 9223372036854775807) : Con Try.prog 28 [.agg [.v (.int .i64 t), .v (.int .i64 w), .ro false 1 (ins.map eI), .v (.int .i64 a), .v (.int .i64 b)], .one (.v (.int .i64 8))] (fun rx rK rt => rx = .val (.bool (okO t w ins a b)) ∧ rK = [] ∧ rt = 0) := by
  cases hr : ris 8 (-1) ins with
  | true => exact alone_t t w a b ins hl hr
  | false => exact alone_f t w a b ins hl hr
end Go.Proofs.Ytibjpohankaoeaa
