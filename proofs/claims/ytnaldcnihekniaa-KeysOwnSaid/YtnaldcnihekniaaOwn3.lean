import Derived.Test.YtnaldcnihekniaaOwn2
namespace Go.Proofs.Ytnaldcnihekniaa
open Go Go.RowKit Wx
set_option linter.unusedVariables false
set_option linter.unusedSimpArgs false
set_option maxHeartbeats 4000000
theorem owned_bad (i w : Int) (h : ¬ okS i w) : Con Try.prog 13 [.one (.v (.int .i64 i)), .one (.v (.int .i64 w))] (fun rx rK rt => rx = .tup [.one (.v (.slice none 0 0)), .one (.v (.int .i64 2))] ∧ rK = [] ∧ rt = 0) := by
  unfold okS at h
  refine con_of tabOk 29 Try.f13 _ Try.func13 (by kernel_rfl) rfl rfl rfl rfl (fun W => ?_)
  repeat' ((conv => whnf); first
    | with_reducible refine spB_t ?_
    | ((with_reducible apply spB_cong); (focus (simp only [beq_self_eq_true, bne_self_eq_false, Bool.true_bne, Bool.false_bne, Bool.bne_true, Bool.bne_false, Bool.true_beq, Bool.false_beq, Bool.not_true, Bool.not_false, Bool.not_not, Int.reduceBEq, Int.reduceBNe, Int.reduceLE, Int.reduceLT, Int.reduceEq, decide_true, decide_false]; rfl)))
    | with_reducible refine spB_f ?_
    | with_reducible refine spB_not ?_
    | with_reducible refine spB_yes (by assumption) ?_
    | with_reducible refine spB_no (by assumption) ?_
    | (with_reducible refine spB_dec ?_ ?_ <;> intro _ <;> (try (exfalso; first | contradiction | omega | (rename_i hz; with_reducible exact absurd rfl hz))))
    | (with_reducible refine spB_beq ?_ ?_ <;> intro _ <;> (try (exfalso; first | contradiction | omega | (rename_i hz; with_reducible exact absurd rfl hz))))
    | (with_reducible refine spB_bne ?_ ?_ <;> intro _ <;> (try (exfalso; first | contradiction | omega | (rename_i hz; with_reducible exact absurd rfl hz))))
    | (with_reducible refine spB_mk ?_ ?_ <;> intro _ <;> (try (exfalso; first | contradiction | omega | (rename_i hz; with_reducible exact absurd rfl hz))))
    | ((with_reducible apply rowN_mk); (focus rfl))
    | with_reducible refine wr_i64 (by omega) ?_
    | with_reducible refine wr_u64 (by omega) ?_
    | with_reducible refine wr_u8 (by omega) ?_
    | with_reducible refine wr_u32 (by omega) ?_
    | with_reducible refine wr_mk _ rfl ?_
    | ((with_reducible refine ixN_nat ?_ ?_); (focus (omega)))
    | ((with_reducible refine rowN_map ?_ ?_); (focus (omega)); intro x hx)
    | ((with_reducible refine ixN_mk 0 ?_ ?_ ?_); (focus rfl); (focus decide))
    | ((with_reducible refine ixN_mk 1 ?_ ?_ ?_); (focus rfl); (focus decide))
    | ((with_reducible refine ixN_mk 2 ?_ ?_ ?_); (focus rfl); (focus decide))
    | ((with_reducible refine ixN_mk 3 ?_ ?_ ?_); (focus rfl); (focus decide))
    | ((with_reducible refine ixN_mk 4 ?_ ?_ ?_); (focus rfl); (focus decide))
    | ((with_reducible refine ixN_mk 5 ?_ ?_ ?_); (focus rfl); (focus decide))
    | ((with_reducible refine ixN_mk 6 ?_ ?_ ?_); (focus rfl); (focus decide))
    | ((with_reducible refine ixN_mk 7 ?_ ?_ ?_); (focus rfl); (focus decide))
    | ((with_reducible refine posE_nil (by rfl) ?_))
    | ((with_reducible refine posE_pos (by decide) ?_))
    | with_reducible refine vN_mod (by omega) ?_
    | with_reducible refine vN_mk ?_
    | with_reducible refine nzN_mk (by omega) ?_
    | with_reducible refine eqN_dec (by omega) ?_
    | with_reducible refine draw_rule tabOk mixOk ?_
    | with_reducible refine apN_mk (by kernel_rfl) ?_
    | ((with_reducible apply conN_mk2 ?_ (share_con _ _) ?_);(first | (focus exact ⟨rfl, rfl, trivial⟩) | (rotate_left 1; (focus exact ⟨rfl, rfl, trivial⟩)) | (rotate_left 2; (focus exact ⟨rfl, rfl, trivial⟩))); skip)
    | ((with_reducible apply call_con2 ?_ (share_con _ _) ?_);(first | (focus exact ⟨rfl, rfl, trivial⟩) | (rotate_left 1; (focus exact ⟨rfl, rfl, trivial⟩)) | (rotate_left 2; (focus exact ⟨rfl, rfl, trivial⟩))); rintro _ _ _ ⟨rfl, rfl, rfl⟩))
  all_goals (try (conv => whnf))
  all_goals try (exfalso; omega)
  all_goals refine ret0 _ rfl _ rfl (fun _ => rfl) rfl ⟨?_, rfl, rfl⟩
  all_goals rfl
theorem own_bad (s k v gr i w : Int) (hs : ¬ okS i w) : Con Try.prog 3 [.agg [.v (.int .i64 s), .v (.int .i64 k), .v (.int .i64 v)], .one (.v (.int .i64 gr)), .agg [.v (.int .i64 i), .v (.int .i64 w)]] (fun rx rK rt => rx = .val (.bool true) ∧ rK = [] ∧ rt = 0) := by
  by_cases hk : okR s k <;> by_cases hg : okG gr w
  · have c1 := group_con s k v; have c2 := right_con s k v; simp only [if_pos hk, decide_eq_true hk] at c1 c2
    have c3 := owner_con gr w; rw [if_pos hg] at c3
    unfold okG at hg
    have c5 := rshare_con i w; have c6 := share_con i w
    have c4 := rgroup_con k hk.2.1
    have c7 := rowner_con gr w hg
    have c8 := mine_con s k v i w; rw [show decide (okR s k ∧ okS i w ∧ ownP (k % 8) w = i) = false from decide_eq_false (fun hx => hs hx.2.1)] at c8
    simp only [decide_eq_false hs] at c5
    refine con_of tabOk 178 Try.f3 _ Try.func3 (by kernel_rfl) rfl rfl rfl rfl (fun W => ?_)
    repeat' ((conv => whnf); first
      | with_reducible refine spB_t ?_
      | ((with_reducible apply spB_cong); (focus (simp only [beq_self_eq_true, bne_self_eq_false, Bool.true_bne, Bool.false_bne, Bool.bne_true, Bool.bne_false, Bool.true_beq, Bool.false_beq, Bool.not_true, Bool.not_false, Bool.not_not, Int.reduceBEq, Int.reduceBNe, Int.reduceLE, Int.reduceLT, Int.reduceEq, decide_true, decide_false]; rfl)))
      | with_reducible refine spB_f ?_
      | with_reducible refine spB_not ?_
      | with_reducible refine spB_yes (by assumption) ?_
      | with_reducible refine spB_no (by assumption) ?_
      | (with_reducible refine spB_dec ?_ ?_ <;> intro _ <;> (try (exfalso; first | contradiction | omega | (rename_i hz; with_reducible exact absurd rfl hz))))
      | (with_reducible refine spB_beq ?_ ?_ <;> intro _ <;> (try (exfalso; first | contradiction | omega | (rename_i hz; with_reducible exact absurd rfl hz))))
      | (with_reducible refine spB_bne ?_ ?_ <;> intro _ <;> (try (exfalso; first | contradiction | omega | (rename_i hz; with_reducible exact absurd rfl hz))))
      | (with_reducible refine spB_mk ?_ ?_ <;> intro _ <;> (try (exfalso; first | contradiction | omega | (rename_i hz; with_reducible exact absurd rfl hz))))
      | ((with_reducible apply rowN_mk); (focus rfl))
      | with_reducible refine wr_i64 (by omega) ?_
      | with_reducible refine wr_u64 (by omega) ?_
      | with_reducible refine wr_u8 (by omega) ?_
      | with_reducible refine wr_u32 (by omega) ?_
      | with_reducible refine wr_mk _ rfl ?_
      | ((with_reducible refine ixN_nat ?_ ?_); (focus (omega)))
      | ((with_reducible refine rowN_map ?_ ?_); (focus (omega)); intro x hx)
      | ((with_reducible refine ixN_mk 0 ?_ ?_ ?_); (focus rfl); (focus decide))
      | ((with_reducible refine ixN_mk 1 ?_ ?_ ?_); (focus rfl); (focus decide))
      | ((with_reducible refine ixN_mk 2 ?_ ?_ ?_); (focus rfl); (focus decide))
      | ((with_reducible refine ixN_mk 3 ?_ ?_ ?_); (focus rfl); (focus decide))
      | ((with_reducible refine ixN_mk 4 ?_ ?_ ?_); (focus rfl); (focus decide))
      | ((with_reducible refine ixN_mk 5 ?_ ?_ ?_); (focus rfl); (focus decide))
      | ((with_reducible refine ixN_mk 6 ?_ ?_ ?_); (focus rfl); (focus decide))
      | ((with_reducible refine ixN_mk 7 ?_ ?_ ?_); (focus rfl); (focus decide))
      | ((with_reducible refine posE_nil (by rfl) ?_))
      | ((with_reducible refine posE_pos (by decide) ?_))
      | with_reducible refine vN_mod (by omega) ?_
      | with_reducible refine vN_mk ?_
      | with_reducible refine nzN_mk (by omega) ?_
      | with_reducible refine eqN_dec (by omega) ?_
      | with_reducible refine draw_rule tabOk mixOk ?_
      | with_reducible refine apN_mk (by kernel_rfl) ?_
      | ((with_reducible apply conN_mk2 ?_ (wakes_con) ?_);(first | (focus exact trivial)); skip)
      | ((with_reducible apply call_con2 ?_ (wakes_con) ?_);(first | (focus exact trivial)); rintro _ _ _ ⟨rfl, rfl, rfl⟩)
      | ((with_reducible apply conN_mk2 ?_ (c1) ?_);(first | (focus exact ⟨⟨rfl, rfl, rfl, trivial⟩, trivial⟩)); skip)
      | ((with_reducible apply call_con2 ?_ (c1) ?_);(first | (focus exact ⟨⟨rfl, rfl, rfl, trivial⟩, trivial⟩)); rintro _ _ _ ⟨rfl, rfl, rfl⟩)
      | ((with_reducible apply conN_mk2 ?_ (c2) ?_);(first | (focus exact ⟨⟨rfl, rfl, rfl, trivial⟩, trivial⟩)); skip)
      | ((with_reducible apply call_con2 ?_ (c2) ?_);(first | (focus exact ⟨⟨rfl, rfl, rfl, trivial⟩, trivial⟩)); rintro _ _ _ ⟨rfl, rfl, rfl⟩)
      | ((with_reducible apply conN_mk2 ?_ (c4) ?_);(first | (focus exact ⟨rfl, trivial⟩)); skip)
      | ((with_reducible apply call_con2 ?_ (c4) ?_);(first | (focus exact ⟨rfl, trivial⟩)); rintro _ _ _ ⟨rfl, rfl, rfl⟩)
      | ((with_reducible apply conN_mk2 ?_ (c3) ?_);(first | (focus exact ⟨rfl, rfl, trivial⟩)); skip)
      | ((with_reducible apply call_con2 ?_ (c3) ?_);(first | (focus exact ⟨rfl, rfl, trivial⟩)); rintro _ _ _ ⟨rfl, rfl, rfl⟩)
      | ((with_reducible apply conN_mk2 ?_ (c7) ?_);(first | (focus exact ⟨rfl, rfl, trivial⟩)); skip)
      | ((with_reducible apply call_con2 ?_ (c7) ?_);(first | (focus exact ⟨rfl, rfl, trivial⟩)); rintro _ _ _ ⟨rfl, rfl, rfl⟩)
      | ((with_reducible apply conN_mk2 ?_ (c5) ?_);(first | (focus exact ⟨rfl, rfl, trivial⟩)); skip)
      | ((with_reducible apply call_con2 ?_ (c5) ?_);(first | (focus exact ⟨rfl, rfl, trivial⟩)); rintro _ _ _ ⟨rfl, rfl, rfl⟩)
      | ((with_reducible apply conN_mk2 ?_ (c8) ?_);(first | (focus exact ⟨⟨rfl, rfl, rfl, trivial⟩, rfl, rfl, trivial⟩)); skip)
      | ((with_reducible apply call_con2 ?_ (c8) ?_);(first | (focus exact ⟨⟨rfl, rfl, rfl, trivial⟩, rfl, rfl, trivial⟩)); rintro _ _ _ ⟨rfl, rfl, rfl⟩)
      | ((with_reducible apply conN_mk2 ?_ (owned_bad _ _ hs) ?_);(first | (focus exact ⟨rfl, rfl, trivial⟩) | (rotate_left 1; (focus exact ⟨rfl, rfl, trivial⟩)) | (rotate_left 2; (focus exact ⟨rfl, rfl, trivial⟩))); skip)
      | ((with_reducible apply call_con2 ?_ (owned_bad _ _ hs) ?_);(first | (focus exact ⟨rfl, rfl, trivial⟩) | (rotate_left 1; (focus exact ⟨rfl, rfl, trivial⟩)) | (rotate_left 2; (focus exact ⟨rfl, rfl, trivial⟩))); rintro _ _ _ ⟨rfl, rfl, rfl⟩))
    all_goals (try (conv => whnf))
    all_goals first | (refine ret0 _ rfl _ rfl (fun _ => rfl) rfl ⟨rfl, rfl, rfl⟩) | (trace_state; sorry)
  · have c1 := group_con s k v; have c2 := right_con s k v; simp only [if_pos hk, decide_eq_true hk] at c1 c2
    have c3 := owner_con gr w; rw [if_neg hg, show ownP gr w = 0 from if_neg hg] at c3
    unfold okG at hg
    have c5 := rshare_con i w; have c6 := share_con i w
    have c4 := rgroup_con k hk.2.1
    have c8 := mine_con s k v i w; rw [show decide (okR s k ∧ okS i w ∧ ownP (k % 8) w = i) = false from decide_eq_false (fun hx => hs hx.2.1)] at c8
    simp only [decide_eq_false hs] at c5
    refine con_of tabOk 178 Try.f3 _ Try.func3 (by kernel_rfl) rfl rfl rfl rfl (fun W => ?_)
    repeat' ((conv => whnf); first
      | with_reducible refine spB_t ?_
      | ((with_reducible apply spB_cong); (focus (simp only [beq_self_eq_true, bne_self_eq_false, Bool.true_bne, Bool.false_bne, Bool.bne_true, Bool.bne_false, Bool.true_beq, Bool.false_beq, Bool.not_true, Bool.not_false, Bool.not_not, Int.reduceBEq, Int.reduceBNe, Int.reduceLE, Int.reduceLT, Int.reduceEq, decide_true, decide_false]; rfl)))
      | with_reducible refine spB_f ?_
      | with_reducible refine spB_not ?_
      | with_reducible refine spB_yes (by assumption) ?_
      | with_reducible refine spB_no (by assumption) ?_
      | (with_reducible refine spB_dec ?_ ?_ <;> intro _ <;> (try (exfalso; first | contradiction | omega | (rename_i hz; with_reducible exact absurd rfl hz))))
      | (with_reducible refine spB_beq ?_ ?_ <;> intro _ <;> (try (exfalso; first | contradiction | omega | (rename_i hz; with_reducible exact absurd rfl hz))))
      | (with_reducible refine spB_bne ?_ ?_ <;> intro _ <;> (try (exfalso; first | contradiction | omega | (rename_i hz; with_reducible exact absurd rfl hz))))
      | (with_reducible refine spB_mk ?_ ?_ <;> intro _ <;> (try (exfalso; first | contradiction | omega | (rename_i hz; with_reducible exact absurd rfl hz))))
      | ((with_reducible apply rowN_mk); (focus rfl))
      | with_reducible refine wr_i64 (by omega) ?_
      | with_reducible refine wr_u64 (by omega) ?_
      | with_reducible refine wr_u8 (by omega) ?_
      | with_reducible refine wr_u32 (by omega) ?_
      | with_reducible refine wr_mk _ rfl ?_
      | ((with_reducible refine ixN_nat ?_ ?_); (focus (omega)))
      | ((with_reducible refine rowN_map ?_ ?_); (focus (omega)); intro x hx)
      | ((with_reducible refine ixN_mk 0 ?_ ?_ ?_); (focus rfl); (focus decide))
      | ((with_reducible refine ixN_mk 1 ?_ ?_ ?_); (focus rfl); (focus decide))
      | ((with_reducible refine ixN_mk 2 ?_ ?_ ?_); (focus rfl); (focus decide))
      | ((with_reducible refine ixN_mk 3 ?_ ?_ ?_); (focus rfl); (focus decide))
      | ((with_reducible refine ixN_mk 4 ?_ ?_ ?_); (focus rfl); (focus decide))
      | ((with_reducible refine ixN_mk 5 ?_ ?_ ?_); (focus rfl); (focus decide))
      | ((with_reducible refine ixN_mk 6 ?_ ?_ ?_); (focus rfl); (focus decide))
      | ((with_reducible refine ixN_mk 7 ?_ ?_ ?_); (focus rfl); (focus decide))
      | ((with_reducible refine posE_nil (by rfl) ?_))
      | ((with_reducible refine posE_pos (by decide) ?_))
      | with_reducible refine vN_mod (by omega) ?_
      | with_reducible refine vN_mk ?_
      | with_reducible refine nzN_mk (by omega) ?_
      | with_reducible refine eqN_dec (by omega) ?_
      | with_reducible refine draw_rule tabOk mixOk ?_
      | with_reducible refine apN_mk (by kernel_rfl) ?_
      | ((with_reducible apply conN_mk2 ?_ (wakes_con) ?_);(first | (focus exact trivial)); skip)
      | ((with_reducible apply call_con2 ?_ (wakes_con) ?_);(first | (focus exact trivial)); rintro _ _ _ ⟨rfl, rfl, rfl⟩)
      | ((with_reducible apply conN_mk2 ?_ (c1) ?_);(first | (focus exact ⟨⟨rfl, rfl, rfl, trivial⟩, trivial⟩)); skip)
      | ((with_reducible apply call_con2 ?_ (c1) ?_);(first | (focus exact ⟨⟨rfl, rfl, rfl, trivial⟩, trivial⟩)); rintro _ _ _ ⟨rfl, rfl, rfl⟩)
      | ((with_reducible apply conN_mk2 ?_ (c2) ?_);(first | (focus exact ⟨⟨rfl, rfl, rfl, trivial⟩, trivial⟩)); skip)
      | ((with_reducible apply call_con2 ?_ (c2) ?_);(first | (focus exact ⟨⟨rfl, rfl, rfl, trivial⟩, trivial⟩)); rintro _ _ _ ⟨rfl, rfl, rfl⟩)
      | ((with_reducible apply conN_mk2 ?_ (c4) ?_);(first | (focus exact ⟨rfl, trivial⟩)); skip)
      | ((with_reducible apply call_con2 ?_ (c4) ?_);(first | (focus exact ⟨rfl, trivial⟩)); rintro _ _ _ ⟨rfl, rfl, rfl⟩)
      | ((with_reducible apply conN_mk2 ?_ (c3) ?_);(first | (focus exact ⟨rfl, rfl, trivial⟩)); skip)
      | ((with_reducible apply call_con2 ?_ (c3) ?_);(first | (focus exact ⟨rfl, rfl, trivial⟩)); rintro _ _ _ ⟨rfl, rfl, rfl⟩)
      | ((with_reducible apply conN_mk2 ?_ (c5) ?_);(first | (focus exact ⟨rfl, rfl, trivial⟩)); skip)
      | ((with_reducible apply call_con2 ?_ (c5) ?_);(first | (focus exact ⟨rfl, rfl, trivial⟩)); rintro _ _ _ ⟨rfl, rfl, rfl⟩)
      | ((with_reducible apply conN_mk2 ?_ (c8) ?_);(first | (focus exact ⟨⟨rfl, rfl, rfl, trivial⟩, rfl, rfl, trivial⟩)); skip)
      | ((with_reducible apply call_con2 ?_ (c8) ?_);(first | (focus exact ⟨⟨rfl, rfl, rfl, trivial⟩, rfl, rfl, trivial⟩)); rintro _ _ _ ⟨rfl, rfl, rfl⟩)
      | ((with_reducible apply conN_mk2 ?_ (owned_bad _ _ hs) ?_);(first | (focus exact ⟨rfl, rfl, trivial⟩) | (rotate_left 1; (focus exact ⟨rfl, rfl, trivial⟩)) | (rotate_left 2; (focus exact ⟨rfl, rfl, trivial⟩))); skip)
      | ((with_reducible apply call_con2 ?_ (owned_bad _ _ hs) ?_);(first | (focus exact ⟨rfl, rfl, trivial⟩) | (rotate_left 1; (focus exact ⟨rfl, rfl, trivial⟩)) | (rotate_left 2; (focus exact ⟨rfl, rfl, trivial⟩))); rintro _ _ _ ⟨rfl, rfl, rfl⟩))
    all_goals (try (conv => whnf))
    all_goals first | (refine ret0 _ rfl _ rfl (fun _ => rfl) rfl ⟨rfl, rfl, rfl⟩) | (trace_state; sorry)
  · have c1 := group_con s k v; have c2 := right_con s k v; simp only [if_neg hk, decide_eq_false hk] at c1 c2
    have c3 := owner_con gr w; rw [if_pos hg] at c3
    unfold okG at hg
    have c5 := rshare_con i w; have c6 := share_con i w
    have c7 := rowner_con gr w hg
    have c8 := mine_con s k v i w; rw [show decide (okR s k ∧ okS i w ∧ ownP (k % 8) w = i) = false from decide_eq_false (fun hx => hs hx.2.1)] at c8
    simp only [decide_eq_false hs] at c5
    refine con_of tabOk 178 Try.f3 _ Try.func3 (by kernel_rfl) rfl rfl rfl rfl (fun W => ?_)
    repeat' ((conv => whnf); first
      | with_reducible refine spB_t ?_
      | ((with_reducible apply spB_cong); (focus (simp only [beq_self_eq_true, bne_self_eq_false, Bool.true_bne, Bool.false_bne, Bool.bne_true, Bool.bne_false, Bool.true_beq, Bool.false_beq, Bool.not_true, Bool.not_false, Bool.not_not, Int.reduceBEq, Int.reduceBNe, Int.reduceLE, Int.reduceLT, Int.reduceEq, decide_true, decide_false]; rfl)))
      | with_reducible refine spB_f ?_
      | with_reducible refine spB_not ?_
      | with_reducible refine spB_yes (by assumption) ?_
      | with_reducible refine spB_no (by assumption) ?_
      | (with_reducible refine spB_dec ?_ ?_ <;> intro _ <;> (try (exfalso; first | contradiction | omega | (rename_i hz; with_reducible exact absurd rfl hz))))
      | (with_reducible refine spB_beq ?_ ?_ <;> intro _ <;> (try (exfalso; first | contradiction | omega | (rename_i hz; with_reducible exact absurd rfl hz))))
      | (with_reducible refine spB_bne ?_ ?_ <;> intro _ <;> (try (exfalso; first | contradiction | omega | (rename_i hz; with_reducible exact absurd rfl hz))))
      | (with_reducible refine spB_mk ?_ ?_ <;> intro _ <;> (try (exfalso; first | contradiction | omega | (rename_i hz; with_reducible exact absurd rfl hz))))
      | ((with_reducible apply rowN_mk); (focus rfl))
      | with_reducible refine wr_i64 (by omega) ?_
      | with_reducible refine wr_u64 (by omega) ?_
      | with_reducible refine wr_u8 (by omega) ?_
      | with_reducible refine wr_u32 (by omega) ?_
      | with_reducible refine wr_mk _ rfl ?_
      | ((with_reducible refine ixN_nat ?_ ?_); (focus (omega)))
      | ((with_reducible refine rowN_map ?_ ?_); (focus (omega)); intro x hx)
      | ((with_reducible refine ixN_mk 0 ?_ ?_ ?_); (focus rfl); (focus decide))
      | ((with_reducible refine ixN_mk 1 ?_ ?_ ?_); (focus rfl); (focus decide))
      | ((with_reducible refine ixN_mk 2 ?_ ?_ ?_); (focus rfl); (focus decide))
      | ((with_reducible refine ixN_mk 3 ?_ ?_ ?_); (focus rfl); (focus decide))
      | ((with_reducible refine ixN_mk 4 ?_ ?_ ?_); (focus rfl); (focus decide))
      | ((with_reducible refine ixN_mk 5 ?_ ?_ ?_); (focus rfl); (focus decide))
      | ((with_reducible refine ixN_mk 6 ?_ ?_ ?_); (focus rfl); (focus decide))
      | ((with_reducible refine ixN_mk 7 ?_ ?_ ?_); (focus rfl); (focus decide))
      | ((with_reducible refine posE_nil (by rfl) ?_))
      | ((with_reducible refine posE_pos (by decide) ?_))
      | with_reducible refine vN_mod (by omega) ?_
      | with_reducible refine vN_mk ?_
      | with_reducible refine nzN_mk (by omega) ?_
      | with_reducible refine eqN_dec (by omega) ?_
      | with_reducible refine draw_rule tabOk mixOk ?_
      | with_reducible refine apN_mk (by kernel_rfl) ?_
      | ((with_reducible apply conN_mk2 ?_ (wakes_con) ?_);(first | (focus exact trivial)); skip)
      | ((with_reducible apply call_con2 ?_ (wakes_con) ?_);(first | (focus exact trivial)); rintro _ _ _ ⟨rfl, rfl, rfl⟩)
      | ((with_reducible apply conN_mk2 ?_ (c1) ?_);(first | (focus exact ⟨⟨rfl, rfl, rfl, trivial⟩, trivial⟩)); skip)
      | ((with_reducible apply call_con2 ?_ (c1) ?_);(first | (focus exact ⟨⟨rfl, rfl, rfl, trivial⟩, trivial⟩)); rintro _ _ _ ⟨rfl, rfl, rfl⟩)
      | ((with_reducible apply conN_mk2 ?_ (c2) ?_);(first | (focus exact ⟨⟨rfl, rfl, rfl, trivial⟩, trivial⟩)); skip)
      | ((with_reducible apply call_con2 ?_ (c2) ?_);(first | (focus exact ⟨⟨rfl, rfl, rfl, trivial⟩, trivial⟩)); rintro _ _ _ ⟨rfl, rfl, rfl⟩)
      | ((with_reducible apply conN_mk2 ?_ (c3) ?_);(first | (focus exact ⟨rfl, rfl, trivial⟩)); skip)
      | ((with_reducible apply call_con2 ?_ (c3) ?_);(first | (focus exact ⟨rfl, rfl, trivial⟩)); rintro _ _ _ ⟨rfl, rfl, rfl⟩)
      | ((with_reducible apply conN_mk2 ?_ (c7) ?_);(first | (focus exact ⟨rfl, rfl, trivial⟩)); skip)
      | ((with_reducible apply call_con2 ?_ (c7) ?_);(first | (focus exact ⟨rfl, rfl, trivial⟩)); rintro _ _ _ ⟨rfl, rfl, rfl⟩)
      | ((with_reducible apply conN_mk2 ?_ (c5) ?_);(first | (focus exact ⟨rfl, rfl, trivial⟩)); skip)
      | ((with_reducible apply call_con2 ?_ (c5) ?_);(first | (focus exact ⟨rfl, rfl, trivial⟩)); rintro _ _ _ ⟨rfl, rfl, rfl⟩)
      | ((with_reducible apply conN_mk2 ?_ (c8) ?_);(first | (focus exact ⟨⟨rfl, rfl, rfl, trivial⟩, rfl, rfl, trivial⟩)); skip)
      | ((with_reducible apply call_con2 ?_ (c8) ?_);(first | (focus exact ⟨⟨rfl, rfl, rfl, trivial⟩, rfl, rfl, trivial⟩)); rintro _ _ _ ⟨rfl, rfl, rfl⟩)
      | ((with_reducible apply conN_mk2 ?_ (owned_bad _ _ hs) ?_);(first | (focus exact ⟨rfl, rfl, trivial⟩) | (rotate_left 1; (focus exact ⟨rfl, rfl, trivial⟩)) | (rotate_left 2; (focus exact ⟨rfl, rfl, trivial⟩))); skip)
      | ((with_reducible apply call_con2 ?_ (owned_bad _ _ hs) ?_);(first | (focus exact ⟨rfl, rfl, trivial⟩) | (rotate_left 1; (focus exact ⟨rfl, rfl, trivial⟩)) | (rotate_left 2; (focus exact ⟨rfl, rfl, trivial⟩))); rintro _ _ _ ⟨rfl, rfl, rfl⟩))
    all_goals (try (conv => whnf))
    all_goals first | (refine ret0 _ rfl _ rfl (fun _ => rfl) rfl ⟨rfl, rfl, rfl⟩) | (trace_state; sorry)
  · have c1 := group_con s k v; have c2 := right_con s k v; simp only [if_neg hk, decide_eq_false hk] at c1 c2
    have c3 := owner_con gr w; rw [if_neg hg, show ownP gr w = 0 from if_neg hg] at c3
    unfold okG at hg
    have c5 := rshare_con i w; have c6 := share_con i w
    have c8 := mine_con s k v i w; rw [show decide (okR s k ∧ okS i w ∧ ownP (k % 8) w = i) = false from decide_eq_false (fun hx => hs hx.2.1)] at c8
    simp only [decide_eq_false hs] at c5
    refine con_of tabOk 178 Try.f3 _ Try.func3 (by kernel_rfl) rfl rfl rfl rfl (fun W => ?_)
    repeat' ((conv => whnf); first
      | with_reducible refine spB_t ?_
      | ((with_reducible apply spB_cong); (focus (simp only [beq_self_eq_true, bne_self_eq_false, Bool.true_bne, Bool.false_bne, Bool.bne_true, Bool.bne_false, Bool.true_beq, Bool.false_beq, Bool.not_true, Bool.not_false, Bool.not_not, Int.reduceBEq, Int.reduceBNe, Int.reduceLE, Int.reduceLT, Int.reduceEq, decide_true, decide_false]; rfl)))
      | with_reducible refine spB_f ?_
      | with_reducible refine spB_not ?_
      | with_reducible refine spB_yes (by assumption) ?_
      | with_reducible refine spB_no (by assumption) ?_
      | (with_reducible refine spB_dec ?_ ?_ <;> intro _ <;> (try (exfalso; first | contradiction | omega | (rename_i hz; with_reducible exact absurd rfl hz))))
      | (with_reducible refine spB_beq ?_ ?_ <;> intro _ <;> (try (exfalso; first | contradiction | omega | (rename_i hz; with_reducible exact absurd rfl hz))))
      | (with_reducible refine spB_bne ?_ ?_ <;> intro _ <;> (try (exfalso; first | contradiction | omega | (rename_i hz; with_reducible exact absurd rfl hz))))
      | (with_reducible refine spB_mk ?_ ?_ <;> intro _ <;> (try (exfalso; first | contradiction | omega | (rename_i hz; with_reducible exact absurd rfl hz))))
      | ((with_reducible apply rowN_mk); (focus rfl))
      | with_reducible refine wr_i64 (by omega) ?_
      | with_reducible refine wr_u64 (by omega) ?_
      | with_reducible refine wr_u8 (by omega) ?_
      | with_reducible refine wr_u32 (by omega) ?_
      | with_reducible refine wr_mk _ rfl ?_
      | ((with_reducible refine ixN_nat ?_ ?_); (focus (omega)))
      | ((with_reducible refine rowN_map ?_ ?_); (focus (omega)); intro x hx)
      | ((with_reducible refine ixN_mk 0 ?_ ?_ ?_); (focus rfl); (focus decide))
      | ((with_reducible refine ixN_mk 1 ?_ ?_ ?_); (focus rfl); (focus decide))
      | ((with_reducible refine ixN_mk 2 ?_ ?_ ?_); (focus rfl); (focus decide))
      | ((with_reducible refine ixN_mk 3 ?_ ?_ ?_); (focus rfl); (focus decide))
      | ((with_reducible refine ixN_mk 4 ?_ ?_ ?_); (focus rfl); (focus decide))
      | ((with_reducible refine ixN_mk 5 ?_ ?_ ?_); (focus rfl); (focus decide))
      | ((with_reducible refine ixN_mk 6 ?_ ?_ ?_); (focus rfl); (focus decide))
      | ((with_reducible refine ixN_mk 7 ?_ ?_ ?_); (focus rfl); (focus decide))
      | ((with_reducible refine posE_nil (by rfl) ?_))
      | ((with_reducible refine posE_pos (by decide) ?_))
      | with_reducible refine vN_mod (by omega) ?_
      | with_reducible refine vN_mk ?_
      | with_reducible refine nzN_mk (by omega) ?_
      | with_reducible refine eqN_dec (by omega) ?_
      | with_reducible refine draw_rule tabOk mixOk ?_
      | with_reducible refine apN_mk (by kernel_rfl) ?_
      | ((with_reducible apply conN_mk2 ?_ (wakes_con) ?_);(first | (focus exact trivial)); skip)
      | ((with_reducible apply call_con2 ?_ (wakes_con) ?_);(first | (focus exact trivial)); rintro _ _ _ ⟨rfl, rfl, rfl⟩)
      | ((with_reducible apply conN_mk2 ?_ (c1) ?_);(first | (focus exact ⟨⟨rfl, rfl, rfl, trivial⟩, trivial⟩)); skip)
      | ((with_reducible apply call_con2 ?_ (c1) ?_);(first | (focus exact ⟨⟨rfl, rfl, rfl, trivial⟩, trivial⟩)); rintro _ _ _ ⟨rfl, rfl, rfl⟩)
      | ((with_reducible apply conN_mk2 ?_ (c2) ?_);(first | (focus exact ⟨⟨rfl, rfl, rfl, trivial⟩, trivial⟩)); skip)
      | ((with_reducible apply call_con2 ?_ (c2) ?_);(first | (focus exact ⟨⟨rfl, rfl, rfl, trivial⟩, trivial⟩)); rintro _ _ _ ⟨rfl, rfl, rfl⟩)
      | ((with_reducible apply conN_mk2 ?_ (c3) ?_);(first | (focus exact ⟨rfl, rfl, trivial⟩)); skip)
      | ((with_reducible apply call_con2 ?_ (c3) ?_);(first | (focus exact ⟨rfl, rfl, trivial⟩)); rintro _ _ _ ⟨rfl, rfl, rfl⟩)
      | ((with_reducible apply conN_mk2 ?_ (c5) ?_);(first | (focus exact ⟨rfl, rfl, trivial⟩)); skip)
      | ((with_reducible apply call_con2 ?_ (c5) ?_);(first | (focus exact ⟨rfl, rfl, trivial⟩)); rintro _ _ _ ⟨rfl, rfl, rfl⟩)
      | ((with_reducible apply conN_mk2 ?_ (c8) ?_);(first | (focus exact ⟨⟨rfl, rfl, rfl, trivial⟩, rfl, rfl, trivial⟩)); skip)
      | ((with_reducible apply call_con2 ?_ (c8) ?_);(first | (focus exact ⟨⟨rfl, rfl, rfl, trivial⟩, rfl, rfl, trivial⟩)); rintro _ _ _ ⟨rfl, rfl, rfl⟩)
      | ((with_reducible apply conN_mk2 ?_ (owned_bad _ _ hs) ?_);(first | (focus exact ⟨rfl, rfl, trivial⟩) | (rotate_left 1; (focus exact ⟨rfl, rfl, trivial⟩)) | (rotate_left 2; (focus exact ⟨rfl, rfl, trivial⟩))); skip)
      | ((with_reducible apply call_con2 ?_ (owned_bad _ _ hs) ?_);(first | (focus exact ⟨rfl, rfl, trivial⟩) | (rotate_left 1; (focus exact ⟨rfl, rfl, trivial⟩)) | (rotate_left 2; (focus exact ⟨rfl, rfl, trivial⟩))); rintro _ _ _ ⟨rfl, rfl, rfl⟩))
    all_goals (try (conv => whnf))
    all_goals first | (refine ret0 _ rfl _ rfl (fun _ => rfl) rfl ⟨rfl, rfl, rfl⟩) | (trace_state; sorry)
end Go.Proofs.Ytnaldcnihekniaa
