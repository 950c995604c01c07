import Derived.Test.YtnaldcnihekniaaOwn3
namespace Go.Proofs.Ytnaldcnihekniaa
open Go Go.RowKit Wx
set_option linter.unusedVariables false
set_option linter.unusedSimpArgs false
set_option maxHeartbeats 4000000
def kc0_1 : Nat → Int
  | 0 => 0
  | 1 => 1
  | 2 => 2
  | 3 => 3
  | 4 => 4
  | 5 => 5
  | 6 => 6
  | 7 => 7
  | _ => 8
theorem own_0_1 (s k v gr : Int)  : Con Try.prog 3 [.agg [.v (.int .i64 s), .v (.int .i64 k), .v (.int .i64 v)], .one (.v (.int .i64 gr)), .agg [.v (.int .i64 0), .v (.int .i64 1)]] (fun rx rK rt => rx = .val (.bool true) ∧ rK = [] ∧ rt = 0) := by
  by_cases hk : okR s k <;> by_cases hg : okG gr 1
  · have c1 := group_con s k v; have c2 := right_con s k v; simp only [if_pos hk, decide_eq_true hk] at c1 c2
    have c3 := owner_con gr 1; rw [if_pos hg] at c3
    unfold okG at hg
    have c5 := rshare_con 0 1; have c6 := share_con 0 1
    have c4 := rgroup_con k hk.2.1
    have c7 := rowner_con gr 1 hg
    simp only [decide_eq_true (show okS 0 1 by decide)] at c5
    refine con_of tabOk 178 Try.f3 _ Try.func3 (by kernel_rfl) rfl rfl rfl rfl (fun W => ?_)
    repeat' ((conv => whnf); first
      | with_reducible refine spB_t ?_
      | ((with_reducible apply spB_cong); (focus (simp only [beq_self_eq_true, bne_self_eq_false, Bool.true_bne, Bool.false_bne, Bool.bne_true, Bool.bne_false, Bool.true_beq, Bool.false_beq, Bool.not_true, Bool.not_false, Bool.not_not, Int.reduceBEq, Int.reduceBNe, Int.reduceLE, Int.reduceLT, Int.reduceEq, decide_true, decide_false]; rfl)))
      | with_reducible refine spB_f ?_
      | with_reducible refine spB_not ?_
      | with_reducible refine spB_yes (by assumption) ?_
      | with_reducible refine spB_no (by assumption) ?_
      | (with_reducible refine spB_dec ?_ ?_ <;> intro _ <;> (try (exfalso; first | contradiction | omega | (rename_i hz; with_reducible exact absurd rfl hz))))
      | (with_reducible refine spB_beq ?_ ?_ <;> intro _ <;> (try (exfalso; first | contradiction | omega | (rename_i hz; with_reducible exact absurd rfl hz))))
      | (with_reducible refine spB_bne ?_ ?_ <;> intro _ <;> (try (exfalso; first | contradiction | omega | (rename_i hz; with_reducible exact absurd rfl hz))))
      | (with_reducible refine spB_mk ?_ ?_ <;> intro _ <;> (try (exfalso; first | contradiction | omega | (rename_i hz; with_reducible exact absurd rfl hz))))
      | ((with_reducible apply rowN_mk); (focus rfl))
      | with_reducible refine wr_i64 (by omega) ?_
      | with_reducible refine wr_u64 (by omega) ?_
      | with_reducible refine wr_u8 (by omega) ?_
      | with_reducible refine wr_u32 (by omega) ?_
      | with_reducible refine wr_mk _ rfl ?_
      | ((with_reducible refine ixN_nat ?_ ?_); (focus (omega)))
      | ((with_reducible refine rowN_map ?_ ?_); (focus (omega)); intro x hx)
      | ((with_reducible refine ixN_mk 0 ?_ ?_ ?_); (focus rfl); (focus decide))
      | ((with_reducible refine ixN_mk 1 ?_ ?_ ?_); (focus rfl); (focus decide))
      | ((with_reducible refine ixN_mk 2 ?_ ?_ ?_); (focus rfl); (focus decide))
      | ((with_reducible refine ixN_mk 3 ?_ ?_ ?_); (focus rfl); (focus decide))
      | ((with_reducible refine ixN_mk 4 ?_ ?_ ?_); (focus rfl); (focus decide))
      | ((with_reducible refine ixN_mk 5 ?_ ?_ ?_); (focus rfl); (focus decide))
      | ((with_reducible refine ixN_mk 6 ?_ ?_ ?_); (focus rfl); (focus decide))
      | ((with_reducible refine ixN_mk 7 ?_ ?_ ?_); (focus rfl); (focus decide))
      | ((with_reducible refine posE_nil (by rfl) ?_))
      | ((with_reducible refine posE_pos (by decide) ?_))
      | with_reducible refine vN_mod (by omega) ?_
      | with_reducible refine vN_mk ?_
      | with_reducible refine nzN_mk (by omega) ?_
      | with_reducible refine eqN_dec (by omega) ?_
      | with_reducible refine draw_rule tabOk mixOk ?_
      | with_reducible refine apN_mk (by kernel_rfl) ?_
      | ((with_reducible apply conN_mk2 ?_ (wakes_con) ?_);(first | (focus exact trivial)); skip)
      | ((with_reducible apply call_con2 ?_ (wakes_con) ?_);(first | (focus exact trivial)); rintro _ _ _ ⟨rfl, rfl, rfl⟩)
      | ((with_reducible apply conN_mk2 ?_ (c1) ?_);(first | (focus exact ⟨⟨rfl, rfl, rfl, trivial⟩, trivial⟩)); skip)
      | ((with_reducible apply call_con2 ?_ (c1) ?_);(first | (focus exact ⟨⟨rfl, rfl, rfl, trivial⟩, trivial⟩)); rintro _ _ _ ⟨rfl, rfl, rfl⟩)
      | ((with_reducible apply conN_mk2 ?_ (c2) ?_);(first | (focus exact ⟨⟨rfl, rfl, rfl, trivial⟩, trivial⟩)); skip)
      | ((with_reducible apply call_con2 ?_ (c2) ?_);(first | (focus exact ⟨⟨rfl, rfl, rfl, trivial⟩, trivial⟩)); rintro _ _ _ ⟨rfl, rfl, rfl⟩)
      | ((with_reducible apply conN_mk2 ?_ (c4) ?_);(first | (focus exact ⟨rfl, trivial⟩)); skip)
      | ((with_reducible apply call_con2 ?_ (c4) ?_);(first | (focus exact ⟨rfl, trivial⟩)); rintro _ _ _ ⟨rfl, rfl, rfl⟩)
      | ((with_reducible apply conN_mk2 ?_ (c3) ?_);(first | (focus exact ⟨rfl, rfl, trivial⟩)); skip)
      | ((with_reducible apply call_con2 ?_ (c3) ?_);(first | (focus exact ⟨rfl, rfl, trivial⟩)); rintro _ _ _ ⟨rfl, rfl, rfl⟩)
      | ((with_reducible apply conN_mk2 ?_ (c7) ?_);(first | (focus exact ⟨rfl, rfl, trivial⟩)); skip)
      | ((with_reducible apply call_con2 ?_ (c7) ?_);(first | (focus exact ⟨rfl, rfl, trivial⟩)); rintro _ _ _ ⟨rfl, rfl, rfl⟩)
      | ((with_reducible apply conN_mk2 ?_ (c5) ?_);(first | (focus exact ⟨rfl, rfl, trivial⟩)); skip)
      | ((with_reducible apply call_con2 ?_ (c5) ?_);(first | (focus exact ⟨rfl, rfl, trivial⟩)); rintro _ _ _ ⟨rfl, rfl, rfl⟩)
      | ((with_reducible apply conN_mk2 ?_ (owned_0_1) ?_);(first | (focus exact ⟨rfl, rfl, trivial⟩)); skip)
      | ((with_reducible apply call_con2 ?_ (owned_0_1) ?_);(first | (focus exact ⟨rfl, rfl, trivial⟩)); rintro _ _ _ ⟨rfl, rfl, rfl⟩)
      | ((with_reducible apply conN_mk2 ?_ (mine_con s k v 0 1) ?_);(first | (focus exact ⟨⟨rfl, rfl, rfl, trivial⟩, rfl, rfl, trivial⟩)); skip)
      | ((with_reducible apply call_con2 ?_ (mine_con s k v 0 1) ?_);(first | (focus exact ⟨⟨rfl, rfl, rfl, trivial⟩, rfl, rfl, trivial⟩)); rintro _ _ _ ⟨rfl, rfl, rfl⟩)
      | ((with_reducible apply conN_mk2 ?_ (rmine_con s k v 0 1) ?_);(first | (focus exact ⟨⟨rfl, rfl, rfl, trivial⟩, rfl, rfl, trivial⟩)); skip)
      | ((with_reducible apply call_con2 ?_ (rmine_con s k v 0 1) ?_);(first | (focus exact ⟨⟨rfl, rfl, rfl, trivial⟩, rfl, rfl, trivial⟩)); rintro _ _ _ ⟨rfl, rfl, rfl⟩))
    all_goals (try (conv => whnf))
    all_goals (refine loop_rule tabOk (fun i : Nat => ⟨[(130, .val (.int .i64 (i : Int))), (13, .val (.int .i64 (kc0_1 i))), (12, .c (.osl 2 0 8 none)), (8, .val (.int .i64 0)), (3, .c (.own 0 0 0)), (5, .c (.own 1 0 0))], [(0, some ⟨[[.v (.int .i64 s), .v (.int .i64 k), .v (.int .i64 v)]], 3, 23, true⟩), (1, some ⟨[[.v (.int .i64 0), .v (.int .i64 1)]], 2, 25, true⟩), (2, some ⟨[[.v (.int .i64 0)], [.v (.int .i64 1)], [.v (.int .i64 2)], [.v (.int .i64 3)], [.v (.int .i64 4)], [.v (.int .i64 5)], [.v (.int .i64 6)], [.v (.int .i64 7)]], 1, 3, false⟩)], 3⟩) (fun i => i ≤ 8) (fun i => 8 - i) 0 (Nat.zero_le _) (Wk.stp (l := [0, 1, 19]) ⟨rfl, by decide, rfl, Nat.zero_le _, ⟨rfl, rfl, rfl, rfl, rfl, rfl, trivial⟩, ⟨fun b hb => by cases hb; rfl, fun b hb => by cases hb; rfl, fun b hb => by cases hb; rfl, trivial⟩⟩) ?_
               intro i hi
               have hc : i = 0 ∨ i = 1 ∨ i = 2 ∨ i = 3 ∨ i = 4 ∨ i = 5 ∨ i = 6 ∨ i = 7 ∨ i = 8 := by omega
               rcases hc with rfl | rfl | rfl | rfl | rfl | rfl | rfl | rfl | rfl <;> dsimp only [kc0_1])
    repeat' ((conv => whnf); first
      | with_reducible refine spB_t ?_
      | ((with_reducible apply spB_cong); (focus (simp only [beq_self_eq_true, bne_self_eq_false, Bool.true_bne, Bool.false_bne, Bool.bne_true, Bool.bne_false, Bool.true_beq, Bool.false_beq, Bool.not_true, Bool.not_false, Bool.not_not, Int.reduceBEq, Int.reduceBNe, Int.reduceLE, Int.reduceLT, Int.reduceEq, decide_true, decide_false]; rfl)))
      | with_reducible refine spB_f ?_
      | with_reducible refine spB_not ?_
      | with_reducible refine spB_yes (by assumption) ?_
      | with_reducible refine spB_no (by assumption) ?_
      | (with_reducible refine spB_dec ?_ ?_ <;> intro _ <;> (try (exfalso; first | contradiction | omega | (rename_i hz; with_reducible exact absurd rfl hz))))
      | (with_reducible refine spB_beq ?_ ?_ <;> intro _ <;> (try (exfalso; first | contradiction | omega | (rename_i hz; with_reducible exact absurd rfl hz))))
      | (with_reducible refine spB_bne ?_ ?_ <;> intro _ <;> (try (exfalso; first | contradiction | omega | (rename_i hz; with_reducible exact absurd rfl hz))))
      | (with_reducible refine spB_mk ?_ ?_ <;> intro _ <;> (try (exfalso; first | contradiction | omega | (rename_i hz; with_reducible exact absurd rfl hz))))
      | ((with_reducible apply rowN_mk); (focus rfl))
      | with_reducible refine wr_i64 (by omega) ?_
      | with_reducible refine wr_u64 (by omega) ?_
      | with_reducible refine wr_u8 (by omega) ?_
      | with_reducible refine wr_u32 (by omega) ?_
      | with_reducible refine wr_mk _ rfl ?_
      | ((with_reducible refine ixN_nat ?_ ?_); (focus (omega)))
      | ((with_reducible refine rowN_map ?_ ?_); (focus (omega)); intro x hx)
      | ((with_reducible refine ixN_mk 0 ?_ ?_ ?_); (focus rfl); (focus decide))
      | ((with_reducible refine ixN_mk 1 ?_ ?_ ?_); (focus rfl); (focus decide))
      | ((with_reducible refine ixN_mk 2 ?_ ?_ ?_); (focus rfl); (focus decide))
      | ((with_reducible refine ixN_mk 3 ?_ ?_ ?_); (focus rfl); (focus decide))
      | ((with_reducible refine ixN_mk 4 ?_ ?_ ?_); (focus rfl); (focus decide))
      | ((with_reducible refine ixN_mk 5 ?_ ?_ ?_); (focus rfl); (focus decide))
      | ((with_reducible refine ixN_mk 6 ?_ ?_ ?_); (focus rfl); (focus decide))
      | ((with_reducible refine ixN_mk 7 ?_ ?_ ?_); (focus rfl); (focus decide))
      | ((with_reducible refine posE_nil (by rfl) ?_))
      | ((with_reducible refine posE_pos (by decide) ?_))
      | with_reducible refine vN_mod (by omega) ?_
      | with_reducible refine vN_mk ?_
      | with_reducible refine nzN_mk (by omega) ?_
      | with_reducible refine eqN_dec (by omega) ?_
      | with_reducible refine draw_rule tabOk mixOk ?_
      | with_reducible refine apN_mk (by kernel_rfl) ?_
      | ((with_reducible apply conN_mk2 ?_ (wakes_con) ?_);(first | (focus exact trivial)); skip)
      | ((with_reducible apply call_con2 ?_ (wakes_con) ?_);(first | (focus exact trivial)); rintro _ _ _ ⟨rfl, rfl, rfl⟩)
      | ((with_reducible apply conN_mk2 ?_ (c1) ?_);(first | (focus exact ⟨⟨rfl, rfl, rfl, trivial⟩, trivial⟩)); skip)
      | ((with_reducible apply call_con2 ?_ (c1) ?_);(first | (focus exact ⟨⟨rfl, rfl, rfl, trivial⟩, trivial⟩)); rintro _ _ _ ⟨rfl, rfl, rfl⟩)
      | ((with_reducible apply conN_mk2 ?_ (c2) ?_);(first | (focus exact ⟨⟨rfl, rfl, rfl, trivial⟩, trivial⟩)); skip)
      | ((with_reducible apply call_con2 ?_ (c2) ?_);(first | (focus exact ⟨⟨rfl, rfl, rfl, trivial⟩, trivial⟩)); rintro _ _ _ ⟨rfl, rfl, rfl⟩)
      | ((with_reducible apply conN_mk2 ?_ (c4) ?_);(first | (focus exact ⟨rfl, trivial⟩)); skip)
      | ((with_reducible apply call_con2 ?_ (c4) ?_);(first | (focus exact ⟨rfl, trivial⟩)); rintro _ _ _ ⟨rfl, rfl, rfl⟩)
      | ((with_reducible apply conN_mk2 ?_ (c3) ?_);(first | (focus exact ⟨rfl, rfl, trivial⟩)); skip)
      | ((with_reducible apply call_con2 ?_ (c3) ?_);(first | (focus exact ⟨rfl, rfl, trivial⟩)); rintro _ _ _ ⟨rfl, rfl, rfl⟩)
      | ((with_reducible apply conN_mk2 ?_ (c7) ?_);(first | (focus exact ⟨rfl, rfl, trivial⟩)); skip)
      | ((with_reducible apply call_con2 ?_ (c7) ?_);(first | (focus exact ⟨rfl, rfl, trivial⟩)); rintro _ _ _ ⟨rfl, rfl, rfl⟩)
      | ((with_reducible apply conN_mk2 ?_ (c5) ?_);(first | (focus exact ⟨rfl, rfl, trivial⟩)); skip)
      | ((with_reducible apply call_con2 ?_ (c5) ?_);(first | (focus exact ⟨rfl, rfl, trivial⟩)); rintro _ _ _ ⟨rfl, rfl, rfl⟩)
      | ((with_reducible apply conN_mk2 ?_ (owned_0_1) ?_);(first | (focus exact ⟨rfl, rfl, trivial⟩)); skip)
      | ((with_reducible apply call_con2 ?_ (owned_0_1) ?_);(first | (focus exact ⟨rfl, rfl, trivial⟩)); rintro _ _ _ ⟨rfl, rfl, rfl⟩)
      | ((with_reducible apply conN_mk2 ?_ (mine_con s k v 0 1) ?_);(first | (focus exact ⟨⟨rfl, rfl, rfl, trivial⟩, rfl, rfl, trivial⟩)); skip)
      | ((with_reducible apply call_con2 ?_ (mine_con s k v 0 1) ?_);(first | (focus exact ⟨⟨rfl, rfl, rfl, trivial⟩, rfl, rfl, trivial⟩)); rintro _ _ _ ⟨rfl, rfl, rfl⟩)
      | ((with_reducible apply conN_mk2 ?_ (rmine_con s k v 0 1) ?_);(first | (focus exact ⟨⟨rfl, rfl, rfl, trivial⟩, rfl, rfl, trivial⟩)); skip)
      | ((with_reducible apply call_con2 ?_ (rmine_con s k v 0 1) ?_);(first | (focus exact ⟨⟨rfl, rfl, rfl, trivial⟩, rfl, rfl, trivial⟩)); rintro _ _ _ ⟨rfl, rfl, rfl⟩)
      | ((with_reducible apply conN_mk2 ?_ (rw_0_1) ?_);(first | (focus exact ⟨rfl, rfl, trivial⟩)); skip)
      | ((with_reducible apply call_con2 ?_ (rw_0_1) ?_);(first | (focus exact ⟨rfl, rfl, trivial⟩)); rintro _ _ _ ⟨rfl, rfl, rfl⟩)
      | ((with_reducible apply conN_mk2 ?_ (rw_1_1) ?_);(first | (focus exact ⟨rfl, rfl, trivial⟩)); skip)
      | ((with_reducible apply call_con2 ?_ (rw_1_1) ?_);(first | (focus exact ⟨rfl, rfl, trivial⟩)); rintro _ _ _ ⟨rfl, rfl, rfl⟩)
      | ((with_reducible apply conN_mk2 ?_ (rw_2_1) ?_);(first | (focus exact ⟨rfl, rfl, trivial⟩)); skip)
      | ((with_reducible apply call_con2 ?_ (rw_2_1) ?_);(first | (focus exact ⟨rfl, rfl, trivial⟩)); rintro _ _ _ ⟨rfl, rfl, rfl⟩)
      | ((with_reducible apply conN_mk2 ?_ (rw_3_1) ?_);(first | (focus exact ⟨rfl, rfl, trivial⟩)); skip)
      | ((with_reducible apply call_con2 ?_ (rw_3_1) ?_);(first | (focus exact ⟨rfl, rfl, trivial⟩)); rintro _ _ _ ⟨rfl, rfl, rfl⟩)
      | ((with_reducible apply conN_mk2 ?_ (rw_4_1) ?_);(first | (focus exact ⟨rfl, rfl, trivial⟩)); skip)
      | ((with_reducible apply call_con2 ?_ (rw_4_1) ?_);(first | (focus exact ⟨rfl, rfl, trivial⟩)); rintro _ _ _ ⟨rfl, rfl, rfl⟩)
      | ((with_reducible apply conN_mk2 ?_ (rw_5_1) ?_);(first | (focus exact ⟨rfl, rfl, trivial⟩)); skip)
      | ((with_reducible apply call_con2 ?_ (rw_5_1) ?_);(first | (focus exact ⟨rfl, rfl, trivial⟩)); rintro _ _ _ ⟨rfl, rfl, rfl⟩)
      | ((with_reducible apply conN_mk2 ?_ (rw_6_1) ?_);(first | (focus exact ⟨rfl, rfl, trivial⟩)); skip)
      | ((with_reducible apply call_con2 ?_ (rw_6_1) ?_);(first | (focus exact ⟨rfl, rfl, trivial⟩)); rintro _ _ _ ⟨rfl, rfl, rfl⟩)
      | ((with_reducible apply conN_mk2 ?_ (rw_7_1) ?_);(first | (focus exact ⟨rfl, rfl, trivial⟩)); skip)
      | ((with_reducible apply call_con2 ?_ (rw_7_1) ?_);(first | (focus exact ⟨rfl, rfl, trivial⟩)); rintro _ _ _ ⟨rfl, rfl, rfl⟩))
    all_goals (try (conv => whnf))
    all_goals try (exfalso; omega)
    all_goals first
      | (refine ⟨⟨1, by omega, by omega, (Wk.stp (l := [0, 1, 2]) ⟨rfl, by decide, rfl, Nat.zero_le _, ⟨rfl, rfl, rfl, rfl, rfl, rfl, trivial⟩, ⟨fun b hb => by cases hb; rfl, fun b hb => by cases hb; rfl, fun b hb => by cases hb; rfl, trivial⟩⟩)⟩⟩)
      | (refine ⟨⟨2, by omega, by omega, (Wk.stp (l := [0, 1, 2]) ⟨rfl, by decide, rfl, Nat.zero_le _, ⟨rfl, rfl, rfl, rfl, rfl, rfl, trivial⟩, ⟨fun b hb => by cases hb; rfl, fun b hb => by cases hb; rfl, fun b hb => by cases hb; rfl, trivial⟩⟩)⟩⟩)
      | (refine ⟨⟨3, by omega, by omega, (Wk.stp (l := [0, 1, 2]) ⟨rfl, by decide, rfl, Nat.zero_le _, ⟨rfl, rfl, rfl, rfl, rfl, rfl, trivial⟩, ⟨fun b hb => by cases hb; rfl, fun b hb => by cases hb; rfl, fun b hb => by cases hb; rfl, trivial⟩⟩)⟩⟩)
      | (refine ⟨⟨4, by omega, by omega, (Wk.stp (l := [0, 1, 2]) ⟨rfl, by decide, rfl, Nat.zero_le _, ⟨rfl, rfl, rfl, rfl, rfl, rfl, trivial⟩, ⟨fun b hb => by cases hb; rfl, fun b hb => by cases hb; rfl, fun b hb => by cases hb; rfl, trivial⟩⟩)⟩⟩)
      | (refine ⟨⟨5, by omega, by omega, (Wk.stp (l := [0, 1, 2]) ⟨rfl, by decide, rfl, Nat.zero_le _, ⟨rfl, rfl, rfl, rfl, rfl, rfl, trivial⟩, ⟨fun b hb => by cases hb; rfl, fun b hb => by cases hb; rfl, fun b hb => by cases hb; rfl, trivial⟩⟩)⟩⟩)
      | (refine ⟨⟨6, by omega, by omega, (Wk.stp (l := [0, 1, 2]) ⟨rfl, by decide, rfl, Nat.zero_le _, ⟨rfl, rfl, rfl, rfl, rfl, rfl, trivial⟩, ⟨fun b hb => by cases hb; rfl, fun b hb => by cases hb; rfl, fun b hb => by cases hb; rfl, trivial⟩⟩)⟩⟩)
      | (refine ⟨⟨7, by omega, by omega, (Wk.stp (l := [0, 1, 2]) ⟨rfl, by decide, rfl, Nat.zero_le _, ⟨rfl, rfl, rfl, rfl, rfl, rfl, trivial⟩, ⟨fun b hb => by cases hb; rfl, fun b hb => by cases hb; rfl, fun b hb => by cases hb; rfl, trivial⟩⟩)⟩⟩)
      | (refine ⟨⟨8, by omega, by omega, (Wk.stp (l := [0, 1, 2]) ⟨rfl, by decide, rfl, Nat.zero_le _, ⟨rfl, rfl, rfl, rfl, rfl, rfl, trivial⟩, ⟨fun b hb => by cases hb; rfl, fun b hb => by cases hb; rfl, fun b hb => by cases hb; rfl, trivial⟩⟩)⟩⟩)
      | (refine ret0 _ rfl _ rfl (fun _ => rfl) rfl ⟨?_, rfl, rfl⟩; (first | rfl | (refine rv_bool ?_; simp; done)))
      | (trace_state; sorry)
  · have c1 := group_con s k v; have c2 := right_con s k v; simp only [if_pos hk, decide_eq_true hk] at c1 c2
    have c3 := owner_con gr 1; rw [if_neg hg, show ownP gr 1 = 0 from if_neg hg] at c3
    unfold okG at hg
    have c5 := rshare_con 0 1; have c6 := share_con 0 1
    have c4 := rgroup_con k hk.2.1
    simp only [decide_eq_true (show okS 0 1 by decide)] at c5
    refine con_of tabOk 178 Try.f3 _ Try.func3 (by kernel_rfl) rfl rfl rfl rfl (fun W => ?_)
    repeat' ((conv => whnf); first
      | with_reducible refine spB_t ?_
      | ((with_reducible apply spB_cong); (focus (simp only [beq_self_eq_true, bne_self_eq_false, Bool.true_bne, Bool.false_bne, Bool.bne_true, Bool.bne_false, Bool.true_beq, Bool.false_beq, Bool.not_true, Bool.not_false, Bool.not_not, Int.reduceBEq, Int.reduceBNe, Int.reduceLE, Int.reduceLT, Int.reduceEq, decide_true, decide_false]; rfl)))
      | with_reducible refine spB_f ?_
      | with_reducible refine spB_not ?_
      | with_reducible refine spB_yes (by assumption) ?_
      | with_reducible refine spB_no (by assumption) ?_
      | (with_reducible refine spB_dec ?_ ?_ <;> intro _ <;> (try (exfalso; first | contradiction | omega | (rename_i hz; with_reducible exact absurd rfl hz))))
      | (with_reducible refine spB_beq ?_ ?_ <;> intro _ <;> (try (exfalso; first | contradiction | omega | (rename_i hz; with_reducible exact absurd rfl hz))))
      | (with_reducible refine spB_bne ?_ ?_ <;> intro _ <;> (try (exfalso; first | contradiction | omega | (rename_i hz; with_reducible exact absurd rfl hz))))
      | (with_reducible refine spB_mk ?_ ?_ <;> intro _ <;> (try (exfalso; first | contradiction | omega | (rename_i hz; with_reducible exact absurd rfl hz))))
      | ((with_reducible apply rowN_mk); (focus rfl))
      | with_reducible refine wr_i64 (by omega) ?_
      | with_reducible refine wr_u64 (by omega) ?_
      | with_reducible refine wr_u8 (by omega) ?_
      | with_reducible refine wr_u32 (by omega) ?_
      | with_reducible refine wr_mk _ rfl ?_
      | ((with_reducible refine ixN_nat ?_ ?_); (focus (omega)))
      | ((with_reducible refine rowN_map ?_ ?_); (focus (omega)); intro x hx)
      | ((with_reducible refine ixN_mk 0 ?_ ?_ ?_); (focus rfl); (focus decide))
      | ((with_reducible refine ixN_mk 1 ?_ ?_ ?_); (focus rfl); (focus decide))
      | ((with_reducible refine ixN_mk 2 ?_ ?_ ?_); (focus rfl); (focus decide))
      | ((with_reducible refine ixN_mk 3 ?_ ?_ ?_); (focus rfl); (focus decide))
      | ((with_reducible refine ixN_mk 4 ?_ ?_ ?_); (focus rfl); (focus decide))
      | ((with_reducible refine ixN_mk 5 ?_ ?_ ?_); (focus rfl); (focus decide))
      | ((with_reducible refine ixN_mk 6 ?_ ?_ ?_); (focus rfl); (focus decide))
      | ((with_reducible refine ixN_mk 7 ?_ ?_ ?_); (focus rfl); (focus decide))
      | ((with_reducible refine posE_nil (by rfl) ?_))
      | ((with_reducible refine posE_pos (by decide) ?_))
      | with_reducible refine vN_mod (by omega) ?_
      | with_reducible refine vN_mk ?_
      | with_reducible refine nzN_mk (by omega) ?_
      | with_reducible refine eqN_dec (by omega) ?_
      | with_reducible refine draw_rule tabOk mixOk ?_
      | with_reducible refine apN_mk (by kernel_rfl) ?_
      | ((with_reducible apply conN_mk2 ?_ (wakes_con) ?_);(first | (focus exact trivial)); skip)
      | ((with_reducible apply call_con2 ?_ (wakes_con) ?_);(first | (focus exact trivial)); rintro _ _ _ ⟨rfl, rfl, rfl⟩)
      | ((with_reducible apply conN_mk2 ?_ (c1) ?_);(first | (focus exact ⟨⟨rfl, rfl, rfl, trivial⟩, trivial⟩)); skip)
      | ((with_reducible apply call_con2 ?_ (c1) ?_);(first | (focus exact ⟨⟨rfl, rfl, rfl, trivial⟩, trivial⟩)); rintro _ _ _ ⟨rfl, rfl, rfl⟩)
      | ((with_reducible apply conN_mk2 ?_ (c2) ?_);(first | (focus exact ⟨⟨rfl, rfl, rfl, trivial⟩, trivial⟩)); skip)
      | ((with_reducible apply call_con2 ?_ (c2) ?_);(first | (focus exact ⟨⟨rfl, rfl, rfl, trivial⟩, trivial⟩)); rintro _ _ _ ⟨rfl, rfl, rfl⟩)
      | ((with_reducible apply conN_mk2 ?_ (c4) ?_);(first | (focus exact ⟨rfl, trivial⟩)); skip)
      | ((with_reducible apply call_con2 ?_ (c4) ?_);(first | (focus exact ⟨rfl, trivial⟩)); rintro _ _ _ ⟨rfl, rfl, rfl⟩)
      | ((with_reducible apply conN_mk2 ?_ (c3) ?_);(first | (focus exact ⟨rfl, rfl, trivial⟩)); skip)
      | ((with_reducible apply call_con2 ?_ (c3) ?_);(first | (focus exact ⟨rfl, rfl, trivial⟩)); rintro _ _ _ ⟨rfl, rfl, rfl⟩)
      | ((with_reducible apply conN_mk2 ?_ (c5) ?_);(first | (focus exact ⟨rfl, rfl, trivial⟩)); skip)
      | ((with_reducible apply call_con2 ?_ (c5) ?_);(first | (focus exact ⟨rfl, rfl, trivial⟩)); rintro _ _ _ ⟨rfl, rfl, rfl⟩)
      | ((with_reducible apply conN_mk2 ?_ (owned_0_1) ?_);(first | (focus exact ⟨rfl, rfl, trivial⟩)); skip)
      | ((with_reducible apply call_con2 ?_ (owned_0_1) ?_);(first | (focus exact ⟨rfl, rfl, trivial⟩)); rintro _ _ _ ⟨rfl, rfl, rfl⟩)
      | ((with_reducible apply conN_mk2 ?_ (mine_con s k v 0 1) ?_);(first | (focus exact ⟨⟨rfl, rfl, rfl, trivial⟩, rfl, rfl, trivial⟩)); skip)
      | ((with_reducible apply call_con2 ?_ (mine_con s k v 0 1) ?_);(first | (focus exact ⟨⟨rfl, rfl, rfl, trivial⟩, rfl, rfl, trivial⟩)); rintro _ _ _ ⟨rfl, rfl, rfl⟩)
      | ((with_reducible apply conN_mk2 ?_ (rmine_con s k v 0 1) ?_);(first | (focus exact ⟨⟨rfl, rfl, rfl, trivial⟩, rfl, rfl, trivial⟩)); skip)
      | ((with_reducible apply call_con2 ?_ (rmine_con s k v 0 1) ?_);(first | (focus exact ⟨⟨rfl, rfl, rfl, trivial⟩, rfl, rfl, trivial⟩)); rintro _ _ _ ⟨rfl, rfl, rfl⟩))
    all_goals (try (conv => whnf))
    all_goals (refine loop_rule tabOk (fun i : Nat => ⟨[(130, .val (.int .i64 (i : Int))), (13, .val (.int .i64 (kc0_1 i))), (12, .c (.osl 2 0 8 none)), (8, .val (.int .i64 0)), (3, .c (.own 0 0 0)), (5, .c (.own 1 0 0))], [(0, some ⟨[[.v (.int .i64 s), .v (.int .i64 k), .v (.int .i64 v)]], 3, 23, true⟩), (1, some ⟨[[.v (.int .i64 0), .v (.int .i64 1)]], 2, 25, true⟩), (2, some ⟨[[.v (.int .i64 0)], [.v (.int .i64 1)], [.v (.int .i64 2)], [.v (.int .i64 3)], [.v (.int .i64 4)], [.v (.int .i64 5)], [.v (.int .i64 6)], [.v (.int .i64 7)]], 1, 3, false⟩)], 3⟩) (fun i => i ≤ 8) (fun i => 8 - i) 0 (Nat.zero_le _) (Wk.stp (l := [0, 1, 19]) ⟨rfl, by decide, rfl, Nat.zero_le _, ⟨rfl, rfl, rfl, rfl, rfl, rfl, trivial⟩, ⟨fun b hb => by cases hb; rfl, fun b hb => by cases hb; rfl, fun b hb => by cases hb; rfl, trivial⟩⟩) ?_
               intro i hi
               have hc : i = 0 ∨ i = 1 ∨ i = 2 ∨ i = 3 ∨ i = 4 ∨ i = 5 ∨ i = 6 ∨ i = 7 ∨ i = 8 := by omega
               rcases hc with rfl | rfl | rfl | rfl | rfl | rfl | rfl | rfl | rfl <;> dsimp only [kc0_1])
    repeat' ((conv => whnf); first
      | with_reducible refine spB_t ?_
      | ((with_reducible apply spB_cong); (focus (simp only [beq_self_eq_true, bne_self_eq_false, Bool.true_bne, Bool.false_bne, Bool.bne_true, Bool.bne_false, Bool.true_beq, Bool.false_beq, Bool.not_true, Bool.not_false, Bool.not_not, Int.reduceBEq, Int.reduceBNe, Int.reduceLE, Int.reduceLT, Int.reduceEq, decide_true, decide_false]; rfl)))
      | with_reducible refine spB_f ?_
      | with_reducible refine spB_not ?_
      | with_reducible refine spB_yes (by assumption) ?_
      | with_reducible refine spB_no (by assumption) ?_
      | (with_reducible refine spB_dec ?_ ?_ <;> intro _ <;> (try (exfalso; first | contradiction | omega | (rename_i hz; with_reducible exact absurd rfl hz))))
      | (with_reducible refine spB_beq ?_ ?_ <;> intro _ <;> (try (exfalso; first | contradiction | omega | (rename_i hz; with_reducible exact absurd rfl hz))))
      | (with_reducible refine spB_bne ?_ ?_ <;> intro _ <;> (try (exfalso; first | contradiction | omega | (rename_i hz; with_reducible exact absurd rfl hz))))
      | (with_reducible refine spB_mk ?_ ?_ <;> intro _ <;> (try (exfalso; first | contradiction | omega | (rename_i hz; with_reducible exact absurd rfl hz))))
      | ((with_reducible apply rowN_mk); (focus rfl))
      | with_reducible refine wr_i64 (by omega) ?_
      | with_reducible refine wr_u64 (by omega) ?_
      | with_reducible refine wr_u8 (by omega) ?_
      | with_reducible refine wr_u32 (by omega) ?_
      | with_reducible refine wr_mk _ rfl ?_
      | ((with_reducible refine ixN_nat ?_ ?_); (focus (omega)))
      | ((with_reducible refine rowN_map ?_ ?_); (focus (omega)); intro x hx)
      | ((with_reducible refine ixN_mk 0 ?_ ?_ ?_); (focus rfl); (focus decide))
      | ((with_reducible refine ixN_mk 1 ?_ ?_ ?_); (focus rfl); (focus decide))
      | ((with_reducible refine ixN_mk 2 ?_ ?_ ?_); (focus rfl); (focus decide))
      | ((with_reducible refine ixN_mk 3 ?_ ?_ ?_); (focus rfl); (focus decide))
      | ((with_reducible refine ixN_mk 4 ?_ ?_ ?_); (focus rfl); (focus decide))
      | ((with_reducible refine ixN_mk 5 ?_ ?_ ?_); (focus rfl); (focus decide))
      | ((with_reducible refine ixN_mk 6 ?_ ?_ ?_); (focus rfl); (focus decide))
      | ((with_reducible refine ixN_mk 7 ?_ ?_ ?_); (focus rfl); (focus decide))
      | ((with_reducible refine posE_nil (by rfl) ?_))
      | ((with_reducible refine posE_pos (by decide) ?_))
      | with_reducible refine vN_mod (by omega) ?_
      | with_reducible refine vN_mk ?_
      | with_reducible refine nzN_mk (by omega) ?_
      | with_reducible refine eqN_dec (by omega) ?_
      | with_reducible refine draw_rule tabOk mixOk ?_
      | with_reducible refine apN_mk (by kernel_rfl) ?_
      | ((with_reducible apply conN_mk2 ?_ (wakes_con) ?_);(first | (focus exact trivial)); skip)
      | ((with_reducible apply call_con2 ?_ (wakes_con) ?_);(first | (focus exact trivial)); rintro _ _ _ ⟨rfl, rfl, rfl⟩)
      | ((with_reducible apply conN_mk2 ?_ (c1) ?_);(first | (focus exact ⟨⟨rfl, rfl, rfl, trivial⟩, trivial⟩)); skip)
      | ((with_reducible apply call_con2 ?_ (c1) ?_);(first | (focus exact ⟨⟨rfl, rfl, rfl, trivial⟩, trivial⟩)); rintro _ _ _ ⟨rfl, rfl, rfl⟩)
      | ((with_reducible apply conN_mk2 ?_ (c2) ?_);(first | (focus exact ⟨⟨rfl, rfl, rfl, trivial⟩, trivial⟩)); skip)
      | ((with_reducible apply call_con2 ?_ (c2) ?_);(first | (focus exact ⟨⟨rfl, rfl, rfl, trivial⟩, trivial⟩)); rintro _ _ _ ⟨rfl, rfl, rfl⟩)
      | ((with_reducible apply conN_mk2 ?_ (c4) ?_);(first | (focus exact ⟨rfl, trivial⟩)); skip)
      | ((with_reducible apply call_con2 ?_ (c4) ?_);(first | (focus exact ⟨rfl, trivial⟩)); rintro _ _ _ ⟨rfl, rfl, rfl⟩)
      | ((with_reducible apply conN_mk2 ?_ (c3) ?_);(first | (focus exact ⟨rfl, rfl, trivial⟩)); skip)
      | ((with_reducible apply call_con2 ?_ (c3) ?_);(first | (focus exact ⟨rfl, rfl, trivial⟩)); rintro _ _ _ ⟨rfl, rfl, rfl⟩)
      | ((with_reducible apply conN_mk2 ?_ (c5) ?_);(first | (focus exact ⟨rfl, rfl, trivial⟩)); skip)
      | ((with_reducible apply call_con2 ?_ (c5) ?_);(first | (focus exact ⟨rfl, rfl, trivial⟩)); rintro _ _ _ ⟨rfl, rfl, rfl⟩)
      | ((with_reducible apply conN_mk2 ?_ (owned_0_1) ?_);(first | (focus exact ⟨rfl, rfl, trivial⟩)); skip)
      | ((with_reducible apply call_con2 ?_ (owned_0_1) ?_);(first | (focus exact ⟨rfl, rfl, trivial⟩)); rintro _ _ _ ⟨rfl, rfl, rfl⟩)
      | ((with_reducible apply conN_mk2 ?_ (mine_con s k v 0 1) ?_);(first | (focus exact ⟨⟨rfl, rfl, rfl, trivial⟩, rfl, rfl, trivial⟩)); skip)
      | ((with_reducible apply call_con2 ?_ (mine_con s k v 0 1) ?_);(first | (focus exact ⟨⟨rfl, rfl, rfl, trivial⟩, rfl, rfl, trivial⟩)); rintro _ _ _ ⟨rfl, rfl, rfl⟩)
      | ((with_reducible apply conN_mk2 ?_ (rmine_con s k v 0 1) ?_);(first | (focus exact ⟨⟨rfl, rfl, rfl, trivial⟩, rfl, rfl, trivial⟩)); skip)
      | ((with_reducible apply call_con2 ?_ (rmine_con s k v 0 1) ?_);(first | (focus exact ⟨⟨rfl, rfl, rfl, trivial⟩, rfl, rfl, trivial⟩)); rintro _ _ _ ⟨rfl, rfl, rfl⟩)
      | ((with_reducible apply conN_mk2 ?_ (rw_0_1) ?_);(first | (focus exact ⟨rfl, rfl, trivial⟩)); skip)
      | ((with_reducible apply call_con2 ?_ (rw_0_1) ?_);(first | (focus exact ⟨rfl, rfl, trivial⟩)); rintro _ _ _ ⟨rfl, rfl, rfl⟩)
      | ((with_reducible apply conN_mk2 ?_ (rw_1_1) ?_);(first | (focus exact ⟨rfl, rfl, trivial⟩)); skip)
      | ((with_reducible apply call_con2 ?_ (rw_1_1) ?_);(first | (focus exact ⟨rfl, rfl, trivial⟩)); rintro _ _ _ ⟨rfl, rfl, rfl⟩)
      | ((with_reducible apply conN_mk2 ?_ (rw_2_1) ?_);(first | (focus exact ⟨rfl, rfl, trivial⟩)); skip)
      | ((with_reducible apply call_con2 ?_ (rw_2_1) ?_);(first | (focus exact ⟨rfl, rfl, trivial⟩)); rintro _ _ _ ⟨rfl, rfl, rfl⟩)
      | ((with_reducible apply conN_mk2 ?_ (rw_3_1) ?_);(first | (focus exact ⟨rfl, rfl, trivial⟩)); skip)
      | ((with_reducible apply call_con2 ?_ (rw_3_1) ?_);(first | (focus exact ⟨rfl, rfl, trivial⟩)); rintro _ _ _ ⟨rfl, rfl, rfl⟩)
      | ((with_reducible apply conN_mk2 ?_ (rw_4_1) ?_);(first | (focus exact ⟨rfl, rfl, trivial⟩)); skip)
      | ((with_reducible apply call_con2 ?_ (rw_4_1) ?_);(first | (focus exact ⟨rfl, rfl, trivial⟩)); rintro _ _ _ ⟨rfl, rfl, rfl⟩)
      | ((with_reducible apply conN_mk2 ?_ (rw_5_1) ?_);(first | (focus exact ⟨rfl, rfl, trivial⟩)); skip)
      | ((with_reducible apply call_con2 ?_ (rw_5_1) ?_);(first | (focus exact ⟨rfl, rfl, trivial⟩)); rintro _ _ _ ⟨rfl, rfl, rfl⟩)
      | ((with_reducible apply conN_mk2 ?_ (rw_6_1) ?_);(first | (focus exact ⟨rfl, rfl, trivial⟩)); skip)
      | ((with_reducible apply call_con2 ?_ (rw_6_1) ?_);(first | (focus exact ⟨rfl, rfl, trivial⟩)); rintro _ _ _ ⟨rfl, rfl, rfl⟩)
      | ((with_reducible apply conN_mk2 ?_ (rw_7_1) ?_);(first | (focus exact ⟨rfl, rfl, trivial⟩)); skip)
      | ((with_reducible apply call_con2 ?_ (rw_7_1) ?_);(first | (focus exact ⟨rfl, rfl, trivial⟩)); rintro _ _ _ ⟨rfl, rfl, rfl⟩))
    all_goals (try (conv => whnf))
    all_goals try (exfalso; omega)
    all_goals first
      | (refine ⟨⟨1, by omega, by omega, (Wk.stp (l := [0, 1, 2]) ⟨rfl, by decide, rfl, Nat.zero_le _, ⟨rfl, rfl, rfl, rfl, rfl, rfl, trivial⟩, ⟨fun b hb => by cases hb; rfl, fun b hb => by cases hb; rfl, fun b hb => by cases hb; rfl, trivial⟩⟩)⟩⟩)
      | (refine ⟨⟨2, by omega, by omega, (Wk.stp (l := [0, 1, 2]) ⟨rfl, by decide, rfl, Nat.zero_le _, ⟨rfl, rfl, rfl, rfl, rfl, rfl, trivial⟩, ⟨fun b hb => by cases hb; rfl, fun b hb => by cases hb; rfl, fun b hb => by cases hb; rfl, trivial⟩⟩)⟩⟩)
      | (refine ⟨⟨3, by omega, by omega, (Wk.stp (l := [0, 1, 2]) ⟨rfl, by decide, rfl, Nat.zero_le _, ⟨rfl, rfl, rfl, rfl, rfl, rfl, trivial⟩, ⟨fun b hb => by cases hb; rfl, fun b hb => by cases hb; rfl, fun b hb => by cases hb; rfl, trivial⟩⟩)⟩⟩)
      | (refine ⟨⟨4, by omega, by omega, (Wk.stp (l := [0, 1, 2]) ⟨rfl, by decide, rfl, Nat.zero_le _, ⟨rfl, rfl, rfl, rfl, rfl, rfl, trivial⟩, ⟨fun b hb => by cases hb; rfl, fun b hb => by cases hb; rfl, fun b hb => by cases hb; rfl, trivial⟩⟩)⟩⟩)
      | (refine ⟨⟨5, by omega, by omega, (Wk.stp (l := [0, 1, 2]) ⟨rfl, by decide, rfl, Nat.zero_le _, ⟨rfl, rfl, rfl, rfl, rfl, rfl, trivial⟩, ⟨fun b hb => by cases hb; rfl, fun b hb => by cases hb; rfl, fun b hb => by cases hb; rfl, trivial⟩⟩)⟩⟩)
      | (refine ⟨⟨6, by omega, by omega, (Wk.stp (l := [0, 1, 2]) ⟨rfl, by decide, rfl, Nat.zero_le _, ⟨rfl, rfl, rfl, rfl, rfl, rfl, trivial⟩, ⟨fun b hb => by cases hb; rfl, fun b hb => by cases hb; rfl, fun b hb => by cases hb; rfl, trivial⟩⟩)⟩⟩)
      | (refine ⟨⟨7, by omega, by omega, (Wk.stp (l := [0, 1, 2]) ⟨rfl, by decide, rfl, Nat.zero_le _, ⟨rfl, rfl, rfl, rfl, rfl, rfl, trivial⟩, ⟨fun b hb => by cases hb; rfl, fun b hb => by cases hb; rfl, fun b hb => by cases hb; rfl, trivial⟩⟩)⟩⟩)
      | (refine ⟨⟨8, by omega, by omega, (Wk.stp (l := [0, 1, 2]) ⟨rfl, by decide, rfl, Nat.zero_le _, ⟨rfl, rfl, rfl, rfl, rfl, rfl, trivial⟩, ⟨fun b hb => by cases hb; rfl, fun b hb => by cases hb; rfl, fun b hb => by cases hb; rfl, trivial⟩⟩)⟩⟩)
      | (refine ret0 _ rfl _ rfl (fun _ => rfl) rfl ⟨?_, rfl, rfl⟩; (first | rfl | (refine rv_bool ?_; simp; done)))
      | (trace_state; sorry)
  · have c1 := group_con s k v; have c2 := right_con s k v; simp only [if_neg hk, decide_eq_false hk] at c1 c2
    have c3 := owner_con gr 1; rw [if_pos hg] at c3
    unfold okG at hg
    have c5 := rshare_con 0 1; have c6 := share_con 0 1
    have c7 := rowner_con gr 1 hg
    simp only [decide_eq_true (show okS 0 1 by decide)] at c5
    refine con_of tabOk 178 Try.f3 _ Try.func3 (by kernel_rfl) rfl rfl rfl rfl (fun W => ?_)
    repeat' ((conv => whnf); first
      | with_reducible refine spB_t ?_
      | ((with_reducible apply spB_cong); (focus (simp only [beq_self_eq_true, bne_self_eq_false, Bool.true_bne, Bool.false_bne, Bool.bne_true, Bool.bne_false, Bool.true_beq, Bool.false_beq, Bool.not_true, Bool.not_false, Bool.not_not, Int.reduceBEq, Int.reduceBNe, Int.reduceLE, Int.reduceLT, Int.reduceEq, decide_true, decide_false]; rfl)))
      | with_reducible refine spB_f ?_
      | with_reducible refine spB_not ?_
      | with_reducible refine spB_yes (by assumption) ?_
      | with_reducible refine spB_no (by assumption) ?_
      | (with_reducible refine spB_dec ?_ ?_ <;> intro _ <;> (try (exfalso; first | contradiction | omega | (rename_i hz; with_reducible exact absurd rfl hz))))
      | (with_reducible refine spB_beq ?_ ?_ <;> intro _ <;> (try (exfalso; first | contradiction | omega | (rename_i hz; with_reducible exact absurd rfl hz))))
      | (with_reducible refine spB_bne ?_ ?_ <;> intro _ <;> (try (exfalso; first | contradiction | omega | (rename_i hz; with_reducible exact absurd rfl hz))))
      | (with_reducible refine spB_mk ?_ ?_ <;> intro _ <;> (try (exfalso; first | contradiction | omega | (rename_i hz; with_reducible exact absurd rfl hz))))
      | ((with_reducible apply rowN_mk); (focus rfl))
      | with_reducible refine wr_i64 (by omega) ?_
      | with_reducible refine wr_u64 (by omega) ?_
      | with_reducible refine wr_u8 (by omega) ?_
      | with_reducible refine wr_u32 (by omega) ?_
      | with_reducible refine wr_mk _ rfl ?_
      | ((with_reducible refine ixN_nat ?_ ?_); (focus (omega)))
      | ((with_reducible refine rowN_map ?_ ?_); (focus (omega)); intro x hx)
      | ((with_reducible refine ixN_mk 0 ?_ ?_ ?_); (focus rfl); (focus decide))
      | ((with_reducible refine ixN_mk 1 ?_ ?_ ?_); (focus rfl); (focus decide))
      | ((with_reducible refine ixN_mk 2 ?_ ?_ ?_); (focus rfl); (focus decide))
      | ((with_reducible refine ixN_mk 3 ?_ ?_ ?_); (focus rfl); (focus decide))
      | ((with_reducible refine ixN_mk 4 ?_ ?_ ?_); (focus rfl); (focus decide))
      | ((with_reducible refine ixN_mk 5 ?_ ?_ ?_); (focus rfl); (focus decide))
      | ((with_reducible refine ixN_mk 6 ?_ ?_ ?_); (focus rfl); (focus decide))
      | ((with_reducible refine ixN_mk 7 ?_ ?_ ?_); (focus rfl); (focus decide))
      | ((with_reducible refine posE_nil (by rfl) ?_))
      | ((with_reducible refine posE_pos (by decide) ?_))
      | with_reducible refine vN_mod (by omega) ?_
      | with_reducible refine vN_mk ?_
      | with_reducible refine nzN_mk (by omega) ?_
      | with_reducible refine eqN_dec (by omega) ?_
      | with_reducible refine draw_rule tabOk mixOk ?_
      | with_reducible refine apN_mk (by kernel_rfl) ?_
      | ((with_reducible apply conN_mk2 ?_ (wakes_con) ?_);(first | (focus exact trivial)); skip)
      | ((with_reducible apply call_con2 ?_ (wakes_con) ?_);(first | (focus exact trivial)); rintro _ _ _ ⟨rfl, rfl, rfl⟩)
      | ((with_reducible apply conN_mk2 ?_ (c1) ?_);(first | (focus exact ⟨⟨rfl, rfl, rfl, trivial⟩, trivial⟩)); skip)
      | ((with_reducible apply call_con2 ?_ (c1) ?_);(first | (focus exact ⟨⟨rfl, rfl, rfl, trivial⟩, trivial⟩)); rintro _ _ _ ⟨rfl, rfl, rfl⟩)
      | ((with_reducible apply conN_mk2 ?_ (c2) ?_);(first | (focus exact ⟨⟨rfl, rfl, rfl, trivial⟩, trivial⟩)); skip)
      | ((with_reducible apply call_con2 ?_ (c2) ?_);(first | (focus exact ⟨⟨rfl, rfl, rfl, trivial⟩, trivial⟩)); rintro _ _ _ ⟨rfl, rfl, rfl⟩)
      | ((with_reducible apply conN_mk2 ?_ (c3) ?_);(first | (focus exact ⟨rfl, rfl, trivial⟩)); skip)
      | ((with_reducible apply call_con2 ?_ (c3) ?_);(first | (focus exact ⟨rfl, rfl, trivial⟩)); rintro _ _ _ ⟨rfl, rfl, rfl⟩)
      | ((with_reducible apply conN_mk2 ?_ (c7) ?_);(first | (focus exact ⟨rfl, rfl, trivial⟩)); skip)
      | ((with_reducible apply call_con2 ?_ (c7) ?_);(first | (focus exact ⟨rfl, rfl, trivial⟩)); rintro _ _ _ ⟨rfl, rfl, rfl⟩)
      | ((with_reducible apply conN_mk2 ?_ (c5) ?_);(first | (focus exact ⟨rfl, rfl, trivial⟩)); skip)
      | ((with_reducible apply call_con2 ?_ (c5) ?_);(first | (focus exact ⟨rfl, rfl, trivial⟩)); rintro _ _ _ ⟨rfl, rfl, rfl⟩)
      | ((with_reducible apply conN_mk2 ?_ (owned_0_1) ?_);(first | (focus exact ⟨rfl, rfl, trivial⟩)); skip)
      | ((with_reducible apply call_con2 ?_ (owned_0_1) ?_);(first | (focus exact ⟨rfl, rfl, trivial⟩)); rintro _ _ _ ⟨rfl, rfl, rfl⟩)
      | ((with_reducible apply conN_mk2 ?_ (mine_con s k v 0 1) ?_);(first | (focus exact ⟨⟨rfl, rfl, rfl, trivial⟩, rfl, rfl, trivial⟩)); skip)
      | ((with_reducible apply call_con2 ?_ (mine_con s k v 0 1) ?_);(first | (focus exact ⟨⟨rfl, rfl, rfl, trivial⟩, rfl, rfl, trivial⟩)); rintro _ _ _ ⟨rfl, rfl, rfl⟩)
      | ((with_reducible apply conN_mk2 ?_ (rmine_con s k v 0 1) ?_);(first | (focus exact ⟨⟨rfl, rfl, rfl, trivial⟩, rfl, rfl, trivial⟩)); skip)
      | ((with_reducible apply call_con2 ?_ (rmine_con s k v 0 1) ?_);(first | (focus exact ⟨⟨rfl, rfl, rfl, trivial⟩, rfl, rfl, trivial⟩)); rintro _ _ _ ⟨rfl, rfl, rfl⟩))
    all_goals (try (conv => whnf))
    all_goals (refine loop_rule tabOk (fun i : Nat => ⟨[(130, .val (.int .i64 (i : Int))), (13, .val (.int .i64 (kc0_1 i))), (12, .c (.osl 2 0 8 none)), (8, .val (.int .i64 0)), (3, .c (.own 0 0 0)), (5, .c (.own 1 0 0))], [(0, some ⟨[[.v (.int .i64 s), .v (.int .i64 k), .v (.int .i64 v)]], 3, 23, true⟩), (1, some ⟨[[.v (.int .i64 0), .v (.int .i64 1)]], 2, 25, true⟩), (2, some ⟨[[.v (.int .i64 0)], [.v (.int .i64 1)], [.v (.int .i64 2)], [.v (.int .i64 3)], [.v (.int .i64 4)], [.v (.int .i64 5)], [.v (.int .i64 6)], [.v (.int .i64 7)]], 1, 3, false⟩)], 3⟩) (fun i => i ≤ 8) (fun i => 8 - i) 0 (Nat.zero_le _) (Wk.stp (l := [0, 1, 19]) ⟨rfl, by decide, rfl, Nat.zero_le _, ⟨rfl, rfl, rfl, rfl, rfl, rfl, trivial⟩, ⟨fun b hb => by cases hb; rfl, fun b hb => by cases hb; rfl, fun b hb => by cases hb; rfl, trivial⟩⟩) ?_
               intro i hi
               have hc : i = 0 ∨ i = 1 ∨ i = 2 ∨ i = 3 ∨ i = 4 ∨ i = 5 ∨ i = 6 ∨ i = 7 ∨ i = 8 := by omega
               rcases hc with rfl | rfl | rfl | rfl | rfl | rfl | rfl | rfl | rfl <;> dsimp only [kc0_1])
    repeat' ((conv => whnf); first
      | with_reducible refine spB_t ?_
      | ((with_reducible apply spB_cong); (focus (simp only [beq_self_eq_true, bne_self_eq_false, Bool.true_bne, Bool.false_bne, Bool.bne_true, Bool.bne_false, Bool.true_beq, Bool.false_beq, Bool.not_true, Bool.not_false, Bool.not_not, Int.reduceBEq, Int.reduceBNe, Int.reduceLE, Int.reduceLT, Int.reduceEq, decide_true, decide_false]; rfl)))
      | with_reducible refine spB_f ?_
      | with_reducible refine spB_not ?_
      | with_reducible refine spB_yes (by assumption) ?_
      | with_reducible refine spB_no (by assumption) ?_
      | (with_reducible refine spB_dec ?_ ?_ <;> intro _ <;> (try (exfalso; first | contradiction | omega | (rename_i hz; with_reducible exact absurd rfl hz))))
      | (with_reducible refine spB_beq ?_ ?_ <;> intro _ <;> (try (exfalso; first | contradiction | omega | (rename_i hz; with_reducible exact absurd rfl hz))))
      | (with_reducible refine spB_bne ?_ ?_ <;> intro _ <;> (try (exfalso; first | contradiction | omega | (rename_i hz; with_reducible exact absurd rfl hz))))
      | (with_reducible refine spB_mk ?_ ?_ <;> intro _ <;> (try (exfalso; first | contradiction | omega | (rename_i hz; with_reducible exact absurd rfl hz))))
      | ((with_reducible apply rowN_mk); (focus rfl))
      | with_reducible refine wr_i64 (by omega) ?_
      | with_reducible refine wr_u64 (by omega) ?_
      | with_reducible refine wr_u8 (by omega) ?_
      | with_reducible refine wr_u32 (by omega) ?_
      | with_reducible refine wr_mk _ rfl ?_
      | ((with_reducible refine ixN_nat ?_ ?_); (focus (omega)))
      | ((with_reducible refine rowN_map ?_ ?_); (focus (omega)); intro x hx)
      | ((with_reducible refine ixN_mk 0 ?_ ?_ ?_); (focus rfl); (focus decide))
      | ((with_reducible refine ixN_mk 1 ?_ ?_ ?_); (focus rfl); (focus decide))
      | ((with_reducible refine ixN_mk 2 ?_ ?_ ?_); (focus rfl); (focus decide))
      | ((with_reducible refine ixN_mk 3 ?_ ?_ ?_); (focus rfl); (focus decide))
      | ((with_reducible refine ixN_mk 4 ?_ ?_ ?_); (focus rfl); (focus decide))
      | ((with_reducible refine ixN_mk 5 ?_ ?_ ?_); (focus rfl); (focus decide))
      | ((with_reducible refine ixN_mk 6 ?_ ?_ ?_); (focus rfl); (focus decide))
      | ((with_reducible refine ixN_mk 7 ?_ ?_ ?_); (focus rfl); (focus decide))
      | ((with_reducible refine posE_nil (by rfl) ?_))
      | ((with_reducible refine posE_pos (by decide) ?_))
      | with_reducible refine vN_mod (by omega) ?_
      | with_reducible refine vN_mk ?_
      | with_reducible refine nzN_mk (by omega) ?_
      | with_reducible refine eqN_dec (by omega) ?_
      | with_reducible refine draw_rule tabOk mixOk ?_
      | with_reducible refine apN_mk (by kernel_rfl) ?_
      | ((with_reducible apply conN_mk2 ?_ (wakes_con) ?_);(first | (focus exact trivial)); skip)
      | ((with_reducible apply call_con2 ?_ (wakes_con) ?_);(first | (focus exact trivial)); rintro _ _ _ ⟨rfl, rfl, rfl⟩)
      | ((with_reducible apply conN_mk2 ?_ (c1) ?_);(first | (focus exact ⟨⟨rfl, rfl, rfl, trivial⟩, trivial⟩)); skip)
      | ((with_reducible apply call_con2 ?_ (c1) ?_);(first | (focus exact ⟨⟨rfl, rfl, rfl, trivial⟩, trivial⟩)); rintro _ _ _ ⟨rfl, rfl, rfl⟩)
      | ((with_reducible apply conN_mk2 ?_ (c2) ?_);(first | (focus exact ⟨⟨rfl, rfl, rfl, trivial⟩, trivial⟩)); skip)
      | ((with_reducible apply call_con2 ?_ (c2) ?_);(first | (focus exact ⟨⟨rfl, rfl, rfl, trivial⟩, trivial⟩)); rintro _ _ _ ⟨rfl, rfl, rfl⟩)
      | ((with_reducible apply conN_mk2 ?_ (c3) ?_);(first | (focus exact ⟨rfl, rfl, trivial⟩)); skip)
      | ((with_reducible apply call_con2 ?_ (c3) ?_);(first | (focus exact ⟨rfl, rfl, trivial⟩)); rintro _ _ _ ⟨rfl, rfl, rfl⟩)
      | ((with_reducible apply conN_mk2 ?_ (c7) ?_);(first | (focus exact ⟨rfl, rfl, trivial⟩)); skip)
      | ((with_reducible apply call_con2 ?_ (c7) ?_);(first | (focus exact ⟨rfl, rfl, trivial⟩)); rintro _ _ _ ⟨rfl, rfl, rfl⟩)
      | ((with_reducible apply conN_mk2 ?_ (c5) ?_);(first | (focus exact ⟨rfl, rfl, trivial⟩)); skip)
      | ((with_reducible apply call_con2 ?_ (c5) ?_);(first | (focus exact ⟨rfl, rfl, trivial⟩)); rintro _ _ _ ⟨rfl, rfl, rfl⟩)
      | ((with_reducible apply conN_mk2 ?_ (owned_0_1) ?_);(first | (focus exact ⟨rfl, rfl, trivial⟩)); skip)
      | ((with_reducible apply call_con2 ?_ (owned_0_1) ?_);(first | (focus exact ⟨rfl, rfl, trivial⟩)); rintro _ _ _ ⟨rfl, rfl, rfl⟩)
      | ((with_reducible apply conN_mk2 ?_ (mine_con s k v 0 1) ?_);(first | (focus exact ⟨⟨rfl, rfl, rfl, trivial⟩, rfl, rfl, trivial⟩)); skip)
      | ((with_reducible apply call_con2 ?_ (mine_con s k v 0 1) ?_);(first | (focus exact ⟨⟨rfl, rfl, rfl, trivial⟩, rfl, rfl, trivial⟩)); rintro _ _ _ ⟨rfl, rfl, rfl⟩)
      | ((with_reducible apply conN_mk2 ?_ (rmine_con s k v 0 1) ?_);(first | (focus exact ⟨⟨rfl, rfl, rfl, trivial⟩, rfl, rfl, trivial⟩)); skip)
      | ((with_reducible apply call_con2 ?_ (rmine_con s k v 0 1) ?_);(first | (focus exact ⟨⟨rfl, rfl, rfl, trivial⟩, rfl, rfl, trivial⟩)); rintro _ _ _ ⟨rfl, rfl, rfl⟩)
      | ((with_reducible apply conN_mk2 ?_ (rw_0_1) ?_);(first | (focus exact ⟨rfl, rfl, trivial⟩)); skip)
      | ((with_reducible apply call_con2 ?_ (rw_0_1) ?_);(first | (focus exact ⟨rfl, rfl, trivial⟩)); rintro _ _ _ ⟨rfl, rfl, rfl⟩)
      | ((with_reducible apply conN_mk2 ?_ (rw_1_1) ?_);(first | (focus exact ⟨rfl, rfl, trivial⟩)); skip)
      | ((with_reducible apply call_con2 ?_ (rw_1_1) ?_);(first | (focus exact ⟨rfl, rfl, trivial⟩)); rintro _ _ _ ⟨rfl, rfl, rfl⟩)
      | ((with_reducible apply conN_mk2 ?_ (rw_2_1) ?_);(first | (focus exact ⟨rfl, rfl, trivial⟩)); skip)
      | ((with_reducible apply call_con2 ?_ (rw_2_1) ?_);(first | (focus exact ⟨rfl, rfl, trivial⟩)); rintro _ _ _ ⟨rfl, rfl, rfl⟩)
      | ((with_reducible apply conN_mk2 ?_ (rw_3_1) ?_);(first | (focus exact ⟨rfl, rfl, trivial⟩)); skip)
      | ((with_reducible apply call_con2 ?_ (rw_3_1) ?_);(first | (focus exact ⟨rfl, rfl, trivial⟩)); rintro _ _ _ ⟨rfl, rfl, rfl⟩)
      | ((with_reducible apply conN_mk2 ?_ (rw_4_1) ?_);(first | (focus exact ⟨rfl, rfl, trivial⟩)); skip)
      | ((with_reducible apply call_con2 ?_ (rw_4_1) ?_);(first | (focus exact ⟨rfl, rfl, trivial⟩)); rintro _ _ _ ⟨rfl, rfl, rfl⟩)
      | ((with_reducible apply conN_mk2 ?_ (rw_5_1) ?_);(first | (focus exact ⟨rfl, rfl, trivial⟩)); skip)
      | ((with_reducible apply call_con2 ?_ (rw_5_1) ?_);(first | (focus exact ⟨rfl, rfl, trivial⟩)); rintro _ _ _ ⟨rfl, rfl, rfl⟩)
      | ((with_reducible apply conN_mk2 ?_ (rw_6_1) ?_);(first | (focus exact ⟨rfl, rfl, trivial⟩)); skip)
      | ((with_reducible apply call_con2 ?_ (rw_6_1) ?_);(first | (focus exact ⟨rfl, rfl, trivial⟩)); rintro _ _ _ ⟨rfl, rfl, rfl⟩)
      | ((with_reducible apply conN_mk2 ?_ (rw_7_1) ?_);(first | (focus exact ⟨rfl, rfl, trivial⟩)); skip)
      | ((with_reducible apply call_con2 ?_ (rw_7_1) ?_);(first | (focus exact ⟨rfl, rfl, trivial⟩)); rintro _ _ _ ⟨rfl, rfl, rfl⟩))
    all_goals (try (conv => whnf))
    all_goals try (exfalso; omega)
    all_goals first
      | (refine ⟨⟨1, by omega, by omega, (Wk.stp (l := [0, 1, 2]) ⟨rfl, by decide, rfl, Nat.zero_le _, ⟨rfl, rfl, rfl, rfl, rfl, rfl, trivial⟩, ⟨fun b hb => by cases hb; rfl, fun b hb => by cases hb; rfl, fun b hb => by cases hb; rfl, trivial⟩⟩)⟩⟩)
      | (refine ⟨⟨2, by omega, by omega, (Wk.stp (l := [0, 1, 2]) ⟨rfl, by decide, rfl, Nat.zero_le _, ⟨rfl, rfl, rfl, rfl, rfl, rfl, trivial⟩, ⟨fun b hb => by cases hb; rfl, fun b hb => by cases hb; rfl, fun b hb => by cases hb; rfl, trivial⟩⟩)⟩⟩)
      | (refine ⟨⟨3, by omega, by omega, (Wk.stp (l := [0, 1, 2]) ⟨rfl, by decide, rfl, Nat.zero_le _, ⟨rfl, rfl, rfl, rfl, rfl, rfl, trivial⟩, ⟨fun b hb => by cases hb; rfl, fun b hb => by cases hb; rfl, fun b hb => by cases hb; rfl, trivial⟩⟩)⟩⟩)
      | (refine ⟨⟨4, by omega, by omega, (Wk.stp (l := [0, 1, 2]) ⟨rfl, by decide, rfl, Nat.zero_le _, ⟨rfl, rfl, rfl, rfl, rfl, rfl, trivial⟩, ⟨fun b hb => by cases hb; rfl, fun b hb => by cases hb; rfl, fun b hb => by cases hb; rfl, trivial⟩⟩)⟩⟩)
      | (refine ⟨⟨5, by omega, by omega, (Wk.stp (l := [0, 1, 2]) ⟨rfl, by decide, rfl, Nat.zero_le _, ⟨rfl, rfl, rfl, rfl, rfl, rfl, trivial⟩, ⟨fun b hb => by cases hb; rfl, fun b hb => by cases hb; rfl, fun b hb => by cases hb; rfl, trivial⟩⟩)⟩⟩)
      | (refine ⟨⟨6, by omega, by omega, (Wk.stp (l := [0, 1, 2]) ⟨rfl, by decide, rfl, Nat.zero_le _, ⟨rfl, rfl, rfl, rfl, rfl, rfl, trivial⟩, ⟨fun b hb => by cases hb; rfl, fun b hb => by cases hb; rfl, fun b hb => by cases hb; rfl, trivial⟩⟩)⟩⟩)
      | (refine ⟨⟨7, by omega, by omega, (Wk.stp (l := [0, 1, 2]) ⟨rfl, by decide, rfl, Nat.zero_le _, ⟨rfl, rfl, rfl, rfl, rfl, rfl, trivial⟩, ⟨fun b hb => by cases hb; rfl, fun b hb => by cases hb; rfl, fun b hb => by cases hb; rfl, trivial⟩⟩)⟩⟩)
      | (refine ⟨⟨8, by omega, by omega, (Wk.stp (l := [0, 1, 2]) ⟨rfl, by decide, rfl, Nat.zero_le _, ⟨rfl, rfl, rfl, rfl, rfl, rfl, trivial⟩, ⟨fun b hb => by cases hb; rfl, fun b hb => by cases hb; rfl, fun b hb => by cases hb; rfl, trivial⟩⟩)⟩⟩)
      | (refine ret0 _ rfl _ rfl (fun _ => rfl) rfl ⟨?_, rfl, rfl⟩; (first | rfl | (refine rv_bool ?_; simp; done)))
      | (trace_state; sorry)
  · have c1 := group_con s k v; have c2 := right_con s k v; simp only [if_neg hk, decide_eq_false hk] at c1 c2
    have c3 := owner_con gr 1; rw [if_neg hg, show ownP gr 1 = 0 from if_neg hg] at c3
    unfold okG at hg
    have c5 := rshare_con 0 1; have c6 := share_con 0 1
    simp only [decide_eq_true (show okS 0 1 by decide)] at c5
    refine con_of tabOk 178 Try.f3 _ Try.func3 (by kernel_rfl) rfl rfl rfl rfl (fun W => ?_)
    repeat' ((conv => whnf); first
      | with_reducible refine spB_t ?_
      | ((with_reducible apply spB_cong); (focus (simp only [beq_self_eq_true, bne_self_eq_false, Bool.true_bne, Bool.false_bne, Bool.bne_true, Bool.bne_false, Bool.true_beq, Bool.false_beq, Bool.not_true, Bool.not_false, Bool.not_not, Int.reduceBEq, Int.reduceBNe, Int.reduceLE, Int.reduceLT, Int.reduceEq, decide_true, decide_false]; rfl)))
      | with_reducible refine spB_f ?_
      | with_reducible refine spB_not ?_
      | with_reducible refine spB_yes (by assumption) ?_
      | with_reducible refine spB_no (by assumption) ?_
      | (with_reducible refine spB_dec ?_ ?_ <;> intro _ <;> (try (exfalso; first | contradiction | omega | (rename_i hz; with_reducible exact absurd rfl hz))))
      | (with_reducible refine spB_beq ?_ ?_ <;> intro _ <;> (try (exfalso; first | contradiction | omega | (rename_i hz; with_reducible exact absurd rfl hz))))
      | (with_reducible refine spB_bne ?_ ?_ <;> intro _ <;> (try (exfalso; first | contradiction | omega | (rename_i hz; with_reducible exact absurd rfl hz))))
      | (with_reducible refine spB_mk ?_ ?_ <;> intro _ <;> (try (exfalso; first | contradiction | omega | (rename_i hz; with_reducible exact absurd rfl hz))))
      | ((with_reducible apply rowN_mk); (focus rfl))
      | with_reducible refine wr_i64 (by omega) ?_
      | with_reducible refine wr_u64 (by omega) ?_
      | with_reducible refine wr_u8 (by omega) ?_
      | with_reducible refine wr_u32 (by omega) ?_
      | with_reducible refine wr_mk _ rfl ?_
      | ((with_reducible refine ixN_nat ?_ ?_); (focus (omega)))
      | ((with_reducible refine rowN_map ?_ ?_); (focus (omega)); intro x hx)
      | ((with_reducible refine ixN_mk 0 ?_ ?_ ?_); (focus rfl); (focus decide))
      | ((with_reducible refine ixN_mk 1 ?_ ?_ ?_); (focus rfl); (focus decide))
      | ((with_reducible refine ixN_mk 2 ?_ ?_ ?_); (focus rfl); (focus decide))
      | ((with_reducible refine ixN_mk 3 ?_ ?_ ?_); (focus rfl); (focus decide))
      | ((with_reducible refine ixN_mk 4 ?_ ?_ ?_); (focus rfl); (focus decide))
      | ((with_reducible refine ixN_mk 5 ?_ ?_ ?_); (focus rfl); (focus decide))
      | ((with_reducible refine ixN_mk 6 ?_ ?_ ?_); (focus rfl); (focus decide))
      | ((with_reducible refine ixN_mk 7 ?_ ?_ ?_); (focus rfl); (focus decide))
      | ((with_reducible refine posE_nil (by rfl) ?_))
      | ((with_reducible refine posE_pos (by decide) ?_))
      | with_reducible refine vN_mod (by omega) ?_
      | with_reducible refine vN_mk ?_
      | with_reducible refine nzN_mk (by omega) ?_
      | with_reducible refine eqN_dec (by omega) ?_
      | with_reducible refine draw_rule tabOk mixOk ?_
      | with_reducible refine apN_mk (by kernel_rfl) ?_
      | ((with_reducible apply conN_mk2 ?_ (wakes_con) ?_);(first | (focus exact trivial)); skip)
      | ((with_reducible apply call_con2 ?_ (wakes_con) ?_);(first | (focus exact trivial)); rintro _ _ _ ⟨rfl, rfl, rfl⟩)
      | ((with_reducible apply conN_mk2 ?_ (c1) ?_);(first | (focus exact ⟨⟨rfl, rfl, rfl, trivial⟩, trivial⟩)); skip)
      | ((with_reducible apply call_con2 ?_ (c1) ?_);(first | (focus exact ⟨⟨rfl, rfl, rfl, trivial⟩, trivial⟩)); rintro _ _ _ ⟨rfl, rfl, rfl⟩)
      | ((with_reducible apply conN_mk2 ?_ (c2) ?_);(first | (focus exact ⟨⟨rfl, rfl, rfl, trivial⟩, trivial⟩)); skip)
      | ((with_reducible apply call_con2 ?_ (c2) ?_);(first | (focus exact ⟨⟨rfl, rfl, rfl, trivial⟩, trivial⟩)); rintro _ _ _ ⟨rfl, rfl, rfl⟩)
      | ((with_reducible apply conN_mk2 ?_ (c3) ?_);(first | (focus exact ⟨rfl, rfl, trivial⟩)); skip)
      | ((with_reducible apply call_con2 ?_ (c3) ?_);(first | (focus exact ⟨rfl, rfl, trivial⟩)); rintro _ _ _ ⟨rfl, rfl, rfl⟩)
      | ((with_reducible apply conN_mk2 ?_ (c5) ?_);(first | (focus exact ⟨rfl, rfl, trivial⟩)); skip)
      | ((with_reducible apply call_con2 ?_ (c5) ?_);(first | (focus exact ⟨rfl, rfl, trivial⟩)); rintro _ _ _ ⟨rfl, rfl, rfl⟩)
      | ((with_reducible apply conN_mk2 ?_ (owned_0_1) ?_);(first | (focus exact ⟨rfl, rfl, trivial⟩)); skip)
      | ((with_reducible apply call_con2 ?_ (owned_0_1) ?_);(first | (focus exact ⟨rfl, rfl, trivial⟩)); rintro _ _ _ ⟨rfl, rfl, rfl⟩)
      | ((with_reducible apply conN_mk2 ?_ (mine_con s k v 0 1) ?_);(first | (focus exact ⟨⟨rfl, rfl, rfl, trivial⟩, rfl, rfl, trivial⟩)); skip)
      | ((with_reducible apply call_con2 ?_ (mine_con s k v 0 1) ?_);(first | (focus exact ⟨⟨rfl, rfl, rfl, trivial⟩, rfl, rfl, trivial⟩)); rintro _ _ _ ⟨rfl, rfl, rfl⟩)
      | ((with_reducible apply conN_mk2 ?_ (rmine_con s k v 0 1) ?_);(first | (focus exact ⟨⟨rfl, rfl, rfl, trivial⟩, rfl, rfl, trivial⟩)); skip)
      | ((with_reducible apply call_con2 ?_ (rmine_con s k v 0 1) ?_);(first | (focus exact ⟨⟨rfl, rfl, rfl, trivial⟩, rfl, rfl, trivial⟩)); rintro _ _ _ ⟨rfl, rfl, rfl⟩))
    all_goals (try (conv => whnf))
    all_goals (refine loop_rule tabOk (fun i : Nat => ⟨[(130, .val (.int .i64 (i : Int))), (13, .val (.int .i64 (kc0_1 i))), (12, .c (.osl 2 0 8 none)), (8, .val (.int .i64 0)), (3, .c (.own 0 0 0)), (5, .c (.own 1 0 0))], [(0, some ⟨[[.v (.int .i64 s), .v (.int .i64 k), .v (.int .i64 v)]], 3, 23, true⟩), (1, some ⟨[[.v (.int .i64 0), .v (.int .i64 1)]], 2, 25, true⟩), (2, some ⟨[[.v (.int .i64 0)], [.v (.int .i64 1)], [.v (.int .i64 2)], [.v (.int .i64 3)], [.v (.int .i64 4)], [.v (.int .i64 5)], [.v (.int .i64 6)], [.v (.int .i64 7)]], 1, 3, false⟩)], 3⟩) (fun i => i ≤ 8) (fun i => 8 - i) 0 (Nat.zero_le _) (Wk.stp (l := [0, 1, 19]) ⟨rfl, by decide, rfl, Nat.zero_le _, ⟨rfl, rfl, rfl, rfl, rfl, rfl, trivial⟩, ⟨fun b hb => by cases hb; rfl, fun b hb => by cases hb; rfl, fun b hb => by cases hb; rfl, trivial⟩⟩) ?_
               intro i hi
               have hc : i = 0 ∨ i = 1 ∨ i = 2 ∨ i = 3 ∨ i = 4 ∨ i = 5 ∨ i = 6 ∨ i = 7 ∨ i = 8 := by omega
               rcases hc with rfl | rfl | rfl | rfl | rfl | rfl | rfl | rfl | rfl <;> dsimp only [kc0_1])
    repeat' ((conv => whnf); first
      | with_reducible refine spB_t ?_
      | ((with_reducible apply spB_cong); (focus (simp only [beq_self_eq_true, bne_self_eq_false, Bool.true_bne, Bool.false_bne, Bool.bne_true, Bool.bne_false, Bool.true_beq, Bool.false_beq, Bool.not_true, Bool.not_false, Bool.not_not, Int.reduceBEq, Int.reduceBNe, Int.reduceLE, Int.reduceLT, Int.reduceEq, decide_true, decide_false]; rfl)))
      | with_reducible refine spB_f ?_
      | with_reducible refine spB_not ?_
      | with_reducible refine spB_yes (by assumption) ?_
      | with_reducible refine spB_no (by assumption) ?_
      | (with_reducible refine spB_dec ?_ ?_ <;> intro _ <;> (try (exfalso; first | contradiction | omega | (rename_i hz; with_reducible exact absurd rfl hz))))
      | (with_reducible refine spB_beq ?_ ?_ <;> intro _ <;> (try (exfalso; first | contradiction | omega | (rename_i hz; with_reducible exact absurd rfl hz))))
      | (with_reducible refine spB_bne ?_ ?_ <;> intro _ <;> (try (exfalso; first | contradiction | omega | (rename_i hz; with_reducible exact absurd rfl hz))))
      | (with_reducible refine spB_mk ?_ ?_ <;> intro _ <;> (try (exfalso; first | contradiction | omega | (rename_i hz; with_reducible exact absurd rfl hz))))
      | ((with_reducible apply rowN_mk); (focus rfl))
      | with_reducible refine wr_i64 (by omega) ?_
      | with_reducible refine wr_u64 (by omega) ?_
      | with_reducible refine wr_u8 (by omega) ?_
      | with_reducible refine wr_u32 (by omega) ?_
      | with_reducible refine wr_mk _ rfl ?_
      | ((with_reducible refine ixN_nat ?_ ?_); (focus (omega)))
      | ((with_reducible refine rowN_map ?_ ?_); (focus (omega)); intro x hx)
      | ((with_reducible refine ixN_mk 0 ?_ ?_ ?_); (focus rfl); (focus decide))
      | ((with_reducible refine ixN_mk 1 ?_ ?_ ?_); (focus rfl); (focus decide))
      | ((with_reducible refine ixN_mk 2 ?_ ?_ ?_); (focus rfl); (focus decide))
      | ((with_reducible refine ixN_mk 3 ?_ ?_ ?_); (focus rfl); (focus decide))
      | ((with_reducible refine ixN_mk 4 ?_ ?_ ?_); (focus rfl); (focus decide))
      | ((with_reducible refine ixN_mk 5 ?_ ?_ ?_); (focus rfl); (focus decide))
      | ((with_reducible refine ixN_mk 6 ?_ ?_ ?_); (focus rfl); (focus decide))
      | ((with_reducible refine ixN_mk 7 ?_ ?_ ?_); (focus rfl); (focus decide))
      | ((with_reducible refine posE_nil (by rfl) ?_))
      | ((with_reducible refine posE_pos (by decide) ?_))
      | with_reducible refine vN_mod (by omega) ?_
      | with_reducible refine vN_mk ?_
      | with_reducible refine nzN_mk (by omega) ?_
      | with_reducible refine eqN_dec (by omega) ?_
      | with_reducible refine draw_rule tabOk mixOk ?_
      | with_reducible refine apN_mk (by kernel_rfl) ?_
      | ((with_reducible apply conN_mk2 ?_ (wakes_con) ?_);(first | (focus exact trivial)); skip)
      | ((with_reducible apply call_con2 ?_ (wakes_con) ?_);(first | (focus exact trivial)); rintro _ _ _ ⟨rfl, rfl, rfl⟩)
      | ((with_reducible apply conN_mk2 ?_ (c1) ?_);(first | (focus exact ⟨⟨rfl, rfl, rfl, trivial⟩, trivial⟩)); skip)
      | ((with_reducible apply call_con2 ?_ (c1) ?_);(first | (focus exact ⟨⟨rfl, rfl, rfl, trivial⟩, trivial⟩)); rintro _ _ _ ⟨rfl, rfl, rfl⟩)
      | ((with_reducible apply conN_mk2 ?_ (c2) ?_);(first | (focus exact ⟨⟨rfl, rfl, rfl, trivial⟩, trivial⟩)); skip)
      | ((with_reducible apply call_con2 ?_ (c2) ?_);(first | (focus exact ⟨⟨rfl, rfl, rfl, trivial⟩, trivial⟩)); rintro _ _ _ ⟨rfl, rfl, rfl⟩)
      | ((with_reducible apply conN_mk2 ?_ (c3) ?_);(first | (focus exact ⟨rfl, rfl, trivial⟩)); skip)
      | ((with_reducible apply call_con2 ?_ (c3) ?_);(first | (focus exact ⟨rfl, rfl, trivial⟩)); rintro _ _ _ ⟨rfl, rfl, rfl⟩)
      | ((with_reducible apply conN_mk2 ?_ (c5) ?_);(first | (focus exact ⟨rfl, rfl, trivial⟩)); skip)
      | ((with_reducible apply call_con2 ?_ (c5) ?_);(first | (focus exact ⟨rfl, rfl, trivial⟩)); rintro _ _ _ ⟨rfl, rfl, rfl⟩)
      | ((with_reducible apply conN_mk2 ?_ (owned_0_1) ?_);(first | (focus exact ⟨rfl, rfl, trivial⟩)); skip)
      | ((with_reducible apply call_con2 ?_ (owned_0_1) ?_);(first | (focus exact ⟨rfl, rfl, trivial⟩)); rintro _ _ _ ⟨rfl, rfl, rfl⟩)
      | ((with_reducible apply conN_mk2 ?_ (mine_con s k v 0 1) ?_);(first | (focus exact ⟨⟨rfl, rfl, rfl, trivial⟩, rfl, rfl, trivial⟩)); skip)
      | ((with_reducible apply call_con2 ?_ (mine_con s k v 0 1) ?_);(first | (focus exact ⟨⟨rfl, rfl, rfl, trivial⟩, rfl, rfl, trivial⟩)); rintro _ _ _ ⟨rfl, rfl, rfl⟩)
      | ((with_reducible apply conN_mk2 ?_ (rmine_con s k v 0 1) ?_);(first | (focus exact ⟨⟨rfl, rfl, rfl, trivial⟩, rfl, rfl, trivial⟩)); skip)
      | ((with_reducible apply call_con2 ?_ (rmine_con s k v 0 1) ?_);(first | (focus exact ⟨⟨rfl, rfl, rfl, trivial⟩, rfl, rfl, trivial⟩)); rintro _ _ _ ⟨rfl, rfl, rfl⟩)
      | ((with_reducible apply conN_mk2 ?_ (rw_0_1) ?_);(first | (focus exact ⟨rfl, rfl, trivial⟩)); skip)
      | ((with_reducible apply call_con2 ?_ (rw_0_1) ?_);(first | (focus exact ⟨rfl, rfl, trivial⟩)); rintro _ _ _ ⟨rfl, rfl, rfl⟩)
      | ((with_reducible apply conN_mk2 ?_ (rw_1_1) ?_);(first | (focus exact ⟨rfl, rfl, trivial⟩)); skip)
      | ((with_reducible apply call_con2 ?_ (rw_1_1) ?_);(first | (focus exact ⟨rfl, rfl, trivial⟩)); rintro _ _ _ ⟨rfl, rfl, rfl⟩)
      | ((with_reducible apply conN_mk2 ?_ (rw_2_1) ?_);(first | (focus exact ⟨rfl, rfl, trivial⟩)); skip)
      | ((with_reducible apply call_con2 ?_ (rw_2_1) ?_);(first | (focus exact ⟨rfl, rfl, trivial⟩)); rintro _ _ _ ⟨rfl, rfl, rfl⟩)
      | ((with_reducible apply conN_mk2 ?_ (rw_3_1) ?_);(first | (focus exact ⟨rfl, rfl, trivial⟩)); skip)
      | ((with_reducible apply call_con2 ?_ (rw_3_1) ?_);(first | (focus exact ⟨rfl, rfl, trivial⟩)); rintro _ _ _ ⟨rfl, rfl, rfl⟩)
      | ((with_reducible apply conN_mk2 ?_ (rw_4_1) ?_);(first | (focus exact ⟨rfl, rfl, trivial⟩)); skip)
      | ((with_reducible apply call_con2 ?_ (rw_4_1) ?_);(first | (focus exact ⟨rfl, rfl, trivial⟩)); rintro _ _ _ ⟨rfl, rfl, rfl⟩)
      | ((with_reducible apply conN_mk2 ?_ (rw_5_1) ?_);(first | (focus exact ⟨rfl, rfl, trivial⟩)); skip)
      | ((with_reducible apply call_con2 ?_ (rw_5_1) ?_);(first | (focus exact ⟨rfl, rfl, trivial⟩)); rintro _ _ _ ⟨rfl, rfl, rfl⟩)
      | ((with_reducible apply conN_mk2 ?_ (rw_6_1) ?_);(first | (focus exact ⟨rfl, rfl, trivial⟩)); skip)
      | ((with_reducible apply call_con2 ?_ (rw_6_1) ?_);(first | (focus exact ⟨rfl, rfl, trivial⟩)); rintro _ _ _ ⟨rfl, rfl, rfl⟩)
      | ((with_reducible apply conN_mk2 ?_ (rw_7_1) ?_);(first | (focus exact ⟨rfl, rfl, trivial⟩)); skip)
      | ((with_reducible apply call_con2 ?_ (rw_7_1) ?_);(first | (focus exact ⟨rfl, rfl, trivial⟩)); rintro _ _ _ ⟨rfl, rfl, rfl⟩))
    all_goals (try (conv => whnf))
    all_goals try (exfalso; omega)
    all_goals first
      | (refine ⟨⟨1, by omega, by omega, (Wk.stp (l := [0, 1, 2]) ⟨rfl, by decide, rfl, Nat.zero_le _, ⟨rfl, rfl, rfl, rfl, rfl, rfl, trivial⟩, ⟨fun b hb => by cases hb; rfl, fun b hb => by cases hb; rfl, fun b hb => by cases hb; rfl, trivial⟩⟩)⟩⟩)
      | (refine ⟨⟨2, by omega, by omega, (Wk.stp (l := [0, 1, 2]) ⟨rfl, by decide, rfl, Nat.zero_le _, ⟨rfl, rfl, rfl, rfl, rfl, rfl, trivial⟩, ⟨fun b hb => by cases hb; rfl, fun b hb => by cases hb; rfl, fun b hb => by cases hb; rfl, trivial⟩⟩)⟩⟩)
      | (refine ⟨⟨3, by omega, by omega, (Wk.stp (l := [0, 1, 2]) ⟨rfl, by decide, rfl, Nat.zero_le _, ⟨rfl, rfl, rfl, rfl, rfl, rfl, trivial⟩, ⟨fun b hb => by cases hb; rfl, fun b hb => by cases hb; rfl, fun b hb => by cases hb; rfl, trivial⟩⟩)⟩⟩)
      | (refine ⟨⟨4, by omega, by omega, (Wk.stp (l := [0, 1, 2]) ⟨rfl, by decide, rfl, Nat.zero_le _, ⟨rfl, rfl, rfl, rfl, rfl, rfl, trivial⟩, ⟨fun b hb => by cases hb; rfl, fun b hb => by cases hb; rfl, fun b hb => by cases hb; rfl, trivial⟩⟩)⟩⟩)
      | (refine ⟨⟨5, by omega, by omega, (Wk.stp (l := [0, 1, 2]) ⟨rfl, by decide, rfl, Nat.zero_le _, ⟨rfl, rfl, rfl, rfl, rfl, rfl, trivial⟩, ⟨fun b hb => by cases hb; rfl, fun b hb => by cases hb; rfl, fun b hb => by cases hb; rfl, trivial⟩⟩)⟩⟩)
      | (refine ⟨⟨6, by omega, by omega, (Wk.stp (l := [0, 1, 2]) ⟨rfl, by decide, rfl, Nat.zero_le _, ⟨rfl, rfl, rfl, rfl, rfl, rfl, trivial⟩, ⟨fun b hb => by cases hb; rfl, fun b hb => by cases hb; rfl, fun b hb => by cases hb; rfl, trivial⟩⟩)⟩⟩)
      | (refine ⟨⟨7, by omega, by omega, (Wk.stp (l := [0, 1, 2]) ⟨rfl, by decide, rfl, Nat.zero_le _, ⟨rfl, rfl, rfl, rfl, rfl, rfl, trivial⟩, ⟨fun b hb => by cases hb; rfl, fun b hb => by cases hb; rfl, fun b hb => by cases hb; rfl, trivial⟩⟩)⟩⟩)
      | (refine ⟨⟨8, by omega, by omega, (Wk.stp (l := [0, 1, 2]) ⟨rfl, by decide, rfl, Nat.zero_le _, ⟨rfl, rfl, rfl, rfl, rfl, rfl, trivial⟩, ⟨fun b hb => by cases hb; rfl, fun b hb => by cases hb; rfl, fun b hb => by cases hb; rfl, trivial⟩⟩)⟩⟩)
      | (refine ret0 _ rfl _ rfl (fun _ => rfl) rfl ⟨?_, rfl, rfl⟩; (first | rfl | (refine rv_bool ?_; simp; done)))
      | (trace_state; sorry)
def kc0_2 : Nat → Int
  | 0 => 0
  | 1 => 1
  | 2 => 2
  | 3 => 3
  | 4 => 4
  | 5 => 4
  | 6 => 4
  | 7 => 4
  | _ => 4
theorem own_0_2 (s k v gr : Int)  : Con Try.prog 3 [.agg [.v (.int .i64 s), .v (.int .i64 k), .v (.int .i64 v)], .one (.v (.int .i64 gr)), .agg [.v (.int .i64 0), .v (.int .i64 2)]] (fun rx rK rt => rx = .val (.bool true) ∧ rK = [] ∧ rt = 0) := by
  by_cases hk : okR s k <;> by_cases hg : okG gr 2
  · have c1 := group_con s k v; have c2 := right_con s k v; simp only [if_pos hk, decide_eq_true hk] at c1 c2
    have c3 := owner_con gr 2; rw [if_pos hg] at c3
    unfold okG at hg
    have c5 := rshare_con 0 2; have c6 := share_con 0 2
    have c4 := rgroup_con k hk.2.1
    have c7 := rowner_con gr 2 hg
    simp only [decide_eq_true (show okS 0 2 by decide)] at c5
    refine con_of tabOk 178 Try.f3 _ Try.func3 (by kernel_rfl) rfl rfl rfl rfl (fun W => ?_)
    repeat' ((conv => whnf); first
      | with_reducible refine spB_t ?_
      | ((with_reducible apply spB_cong); (focus (simp only [beq_self_eq_true, bne_self_eq_false, Bool.true_bne, Bool.false_bne, Bool.bne_true, Bool.bne_false, Bool.true_beq, Bool.false_beq, Bool.not_true, Bool.not_false, Bool.not_not, Int.reduceBEq, Int.reduceBNe, Int.reduceLE, Int.reduceLT, Int.reduceEq, decide_true, decide_false]; rfl)))
      | with_reducible refine spB_f ?_
      | with_reducible refine spB_not ?_
      | with_reducible refine spB_yes (by assumption) ?_
      | with_reducible refine spB_no (by assumption) ?_
      | (with_reducible refine spB_dec ?_ ?_ <;> intro _ <;> (try (exfalso; first | contradiction | omega | (rename_i hz; with_reducible exact absurd rfl hz))))
      | (with_reducible refine spB_beq ?_ ?_ <;> intro _ <;> (try (exfalso; first | contradiction | omega | (rename_i hz; with_reducible exact absurd rfl hz))))
      | (with_reducible refine spB_bne ?_ ?_ <;> intro _ <;> (try (exfalso; first | contradiction | omega | (rename_i hz; with_reducible exact absurd rfl hz))))
      | (with_reducible refine spB_mk ?_ ?_ <;> intro _ <;> (try (exfalso; first | contradiction | omega | (rename_i hz; with_reducible exact absurd rfl hz))))
      | ((with_reducible apply rowN_mk); (focus rfl))
      | with_reducible refine wr_i64 (by omega) ?_
      | with_reducible refine wr_u64 (by omega) ?_
      | with_reducible refine wr_u8 (by omega) ?_
      | with_reducible refine wr_u32 (by omega) ?_
      | with_reducible refine wr_mk _ rfl ?_
      | ((with_reducible refine ixN_nat ?_ ?_); (focus (omega)))
      | ((with_reducible refine rowN_map ?_ ?_); (focus (omega)); intro x hx)
      | ((with_reducible refine ixN_mk 0 ?_ ?_ ?_); (focus rfl); (focus decide))
      | ((with_reducible refine ixN_mk 1 ?_ ?_ ?_); (focus rfl); (focus decide))
      | ((with_reducible refine ixN_mk 2 ?_ ?_ ?_); (focus rfl); (focus decide))
      | ((with_reducible refine ixN_mk 3 ?_ ?_ ?_); (focus rfl); (focus decide))
      | ((with_reducible refine ixN_mk 4 ?_ ?_ ?_); (focus rfl); (focus decide))
      | ((with_reducible refine ixN_mk 5 ?_ ?_ ?_); (focus rfl); (focus decide))
      | ((with_reducible refine ixN_mk 6 ?_ ?_ ?_); (focus rfl); (focus decide))
      | ((with_reducible refine ixN_mk 7 ?_ ?_ ?_); (focus rfl); (focus decide))
      | ((with_reducible refine posE_nil (by rfl) ?_))
      | ((with_reducible refine posE_pos (by decide) ?_))
      | with_reducible refine vN_mod (by omega) ?_
      | with_reducible refine vN_mk ?_
      | with_reducible refine nzN_mk (by omega) ?_
      | with_reducible refine eqN_dec (by omega) ?_
      | with_reducible refine draw_rule tabOk mixOk ?_
      | with_reducible refine apN_mk (by kernel_rfl) ?_
      | ((with_reducible apply conN_mk2 ?_ (wakes_con) ?_);(first | (focus exact trivial)); skip)
      | ((with_reducible apply call_con2 ?_ (wakes_con) ?_);(first | (focus exact trivial)); rintro _ _ _ ⟨rfl, rfl, rfl⟩)
      | ((with_reducible apply conN_mk2 ?_ (c1) ?_);(first | (focus exact ⟨⟨rfl, rfl, rfl, trivial⟩, trivial⟩)); skip)
      | ((with_reducible apply call_con2 ?_ (c1) ?_);(first | (focus exact ⟨⟨rfl, rfl, rfl, trivial⟩, trivial⟩)); rintro _ _ _ ⟨rfl, rfl, rfl⟩)
      | ((with_reducible apply conN_mk2 ?_ (c2) ?_);(first | (focus exact ⟨⟨rfl, rfl, rfl, trivial⟩, trivial⟩)); skip)
      | ((with_reducible apply call_con2 ?_ (c2) ?_);(first | (focus exact ⟨⟨rfl, rfl, rfl, trivial⟩, trivial⟩)); rintro _ _ _ ⟨rfl, rfl, rfl⟩)
      | ((with_reducible apply conN_mk2 ?_ (c4) ?_);(first | (focus exact ⟨rfl, trivial⟩)); skip)
      | ((with_reducible apply call_con2 ?_ (c4) ?_);(first | (focus exact ⟨rfl, trivial⟩)); rintro _ _ _ ⟨rfl, rfl, rfl⟩)
      | ((with_reducible apply conN_mk2 ?_ (c3) ?_);(first | (focus exact ⟨rfl, rfl, trivial⟩)); skip)
      | ((with_reducible apply call_con2 ?_ (c3) ?_);(first | (focus exact ⟨rfl, rfl, trivial⟩)); rintro _ _ _ ⟨rfl, rfl, rfl⟩)
      | ((with_reducible apply conN_mk2 ?_ (c7) ?_);(first | (focus exact ⟨rfl, rfl, trivial⟩)); skip)
      | ((with_reducible apply call_con2 ?_ (c7) ?_);(first | (focus exact ⟨rfl, rfl, trivial⟩)); rintro _ _ _ ⟨rfl, rfl, rfl⟩)
      | ((with_reducible apply conN_mk2 ?_ (c5) ?_);(first | (focus exact ⟨rfl, rfl, trivial⟩)); skip)
      | ((with_reducible apply call_con2 ?_ (c5) ?_);(first | (focus exact ⟨rfl, rfl, trivial⟩)); rintro _ _ _ ⟨rfl, rfl, rfl⟩)
      | ((with_reducible apply conN_mk2 ?_ (owned_0_2) ?_);(first | (focus exact ⟨rfl, rfl, trivial⟩)); skip)
      | ((with_reducible apply call_con2 ?_ (owned_0_2) ?_);(first | (focus exact ⟨rfl, rfl, trivial⟩)); rintro _ _ _ ⟨rfl, rfl, rfl⟩)
      | ((with_reducible apply conN_mk2 ?_ (mine_con s k v 0 2) ?_);(first | (focus exact ⟨⟨rfl, rfl, rfl, trivial⟩, rfl, rfl, trivial⟩)); skip)
      | ((with_reducible apply call_con2 ?_ (mine_con s k v 0 2) ?_);(first | (focus exact ⟨⟨rfl, rfl, rfl, trivial⟩, rfl, rfl, trivial⟩)); rintro _ _ _ ⟨rfl, rfl, rfl⟩)
      | ((with_reducible apply conN_mk2 ?_ (rmine_con s k v 0 2) ?_);(first | (focus exact ⟨⟨rfl, rfl, rfl, trivial⟩, rfl, rfl, trivial⟩)); skip)
      | ((with_reducible apply call_con2 ?_ (rmine_con s k v 0 2) ?_);(first | (focus exact ⟨⟨rfl, rfl, rfl, trivial⟩, rfl, rfl, trivial⟩)); rintro _ _ _ ⟨rfl, rfl, rfl⟩))
    all_goals (try (conv => whnf))
    all_goals (refine loop_rule tabOk (fun i : Nat => ⟨[(130, .val (.int .i64 (i : Int))), (13, .val (.int .i64 (kc0_2 i))), (12, .c (.osl 2 0 4 none)), (8, .val (.int .i64 0)), (3, .c (.own 0 0 0)), (5, .c (.own 1 0 0))], [(0, some ⟨[[.v (.int .i64 s), .v (.int .i64 k), .v (.int .i64 v)]], 3, 23, true⟩), (1, some ⟨[[.v (.int .i64 0), .v (.int .i64 2)]], 2, 25, true⟩), (2, some ⟨[[.v (.int .i64 0)], [.v (.int .i64 1)], [.v (.int .i64 2)], [.v (.int .i64 3)]], 1, 3, false⟩)], 3⟩) (fun i => i ≤ 8) (fun i => 8 - i) 0 (Nat.zero_le _) (Wk.stp (l := [0, 1, 11]) ⟨rfl, by decide, rfl, Nat.zero_le _, ⟨rfl, rfl, rfl, rfl, rfl, rfl, trivial⟩, ⟨fun b hb => by cases hb; rfl, fun b hb => by cases hb; rfl, fun b hb => by cases hb; rfl, trivial⟩⟩) ?_
               intro i hi
               have hc : i = 0 ∨ i = 1 ∨ i = 2 ∨ i = 3 ∨ i = 4 ∨ i = 5 ∨ i = 6 ∨ i = 7 ∨ i = 8 := by omega
               rcases hc with rfl | rfl | rfl | rfl | rfl | rfl | rfl | rfl | rfl <;> dsimp only [kc0_2])
    repeat' ((conv => whnf); first
      | with_reducible refine spB_t ?_
      | ((with_reducible apply spB_cong); (focus (simp only [beq_self_eq_true, bne_self_eq_false, Bool.true_bne, Bool.false_bne, Bool.bne_true, Bool.bne_false, Bool.true_beq, Bool.false_beq, Bool.not_true, Bool.not_false, Bool.not_not, Int.reduceBEq, Int.reduceBNe, Int.reduceLE, Int.reduceLT, Int.reduceEq, decide_true, decide_false]; rfl)))
      | with_reducible refine spB_f ?_
      | with_reducible refine spB_not ?_
      | with_reducible refine spB_yes (by assumption) ?_
      | with_reducible refine spB_no (by assumption) ?_
      | (with_reducible refine spB_dec ?_ ?_ <;> intro _ <;> (try (exfalso; first | contradiction | omega | (rename_i hz; with_reducible exact absurd rfl hz))))
      | (with_reducible refine spB_beq ?_ ?_ <;> intro _ <;> (try (exfalso; first | contradiction | omega | (rename_i hz; with_reducible exact absurd rfl hz))))
      | (with_reducible refine spB_bne ?_ ?_ <;> intro _ <;> (try (exfalso; first | contradiction | omega | (rename_i hz; with_reducible exact absurd rfl hz))))
      | (with_reducible refine spB_mk ?_ ?_ <;> intro _ <;> (try (exfalso; first | contradiction | omega | (rename_i hz; with_reducible exact absurd rfl hz))))
      | ((with_reducible apply rowN_mk); (focus rfl))
      | with_reducible refine wr_i64 (by omega) ?_
      | with_reducible refine wr_u64 (by omega) ?_
      | with_reducible refine wr_u8 (by omega) ?_
      | with_reducible refine wr_u32 (by omega) ?_
      | with_reducible refine wr_mk _ rfl ?_
      | ((with_reducible refine ixN_nat ?_ ?_); (focus (omega)))
      | ((with_reducible refine rowN_map ?_ ?_); (focus (omega)); intro x hx)
      | ((with_reducible refine ixN_mk 0 ?_ ?_ ?_); (focus rfl); (focus decide))
      | ((with_reducible refine ixN_mk 1 ?_ ?_ ?_); (focus rfl); (focus decide))
      | ((with_reducible refine ixN_mk 2 ?_ ?_ ?_); (focus rfl); (focus decide))
      | ((with_reducible refine ixN_mk 3 ?_ ?_ ?_); (focus rfl); (focus decide))
      | ((with_reducible refine ixN_mk 4 ?_ ?_ ?_); (focus rfl); (focus decide))
      | ((with_reducible refine ixN_mk 5 ?_ ?_ ?_); (focus rfl); (focus decide))
      | ((with_reducible refine ixN_mk 6 ?_ ?_ ?_); (focus rfl); (focus decide))
      | ((with_reducible refine ixN_mk 7 ?_ ?_ ?_); (focus rfl); (focus decide))
      | ((with_reducible refine posE_nil (by rfl) ?_))
      | ((with_reducible refine posE_pos (by decide) ?_))
      | with_reducible refine vN_mod (by omega) ?_
      | with_reducible refine vN_mk ?_
      | with_reducible refine nzN_mk (by omega) ?_
      | with_reducible refine eqN_dec (by omega) ?_
      | with_reducible refine draw_rule tabOk mixOk ?_
      | with_reducible refine apN_mk (by kernel_rfl) ?_
      | ((with_reducible apply conN_mk2 ?_ (wakes_con) ?_);(first | (focus exact trivial)); skip)
      | ((with_reducible apply call_con2 ?_ (wakes_con) ?_);(first | (focus exact trivial)); rintro _ _ _ ⟨rfl, rfl, rfl⟩)
      | ((with_reducible apply conN_mk2 ?_ (c1) ?_);(first | (focus exact ⟨⟨rfl, rfl, rfl, trivial⟩, trivial⟩)); skip)
      | ((with_reducible apply call_con2 ?_ (c1) ?_);(first | (focus exact ⟨⟨rfl, rfl, rfl, trivial⟩, trivial⟩)); rintro _ _ _ ⟨rfl, rfl, rfl⟩)
      | ((with_reducible apply conN_mk2 ?_ (c2) ?_);(first | (focus exact ⟨⟨rfl, rfl, rfl, trivial⟩, trivial⟩)); skip)
      | ((with_reducible apply call_con2 ?_ (c2) ?_);(first | (focus exact ⟨⟨rfl, rfl, rfl, trivial⟩, trivial⟩)); rintro _ _ _ ⟨rfl, rfl, rfl⟩)
      | ((with_reducible apply conN_mk2 ?_ (c4) ?_);(first | (focus exact ⟨rfl, trivial⟩)); skip)
      | ((with_reducible apply call_con2 ?_ (c4) ?_);(first | (focus exact ⟨rfl, trivial⟩)); rintro _ _ _ ⟨rfl, rfl, rfl⟩)
      | ((with_reducible apply conN_mk2 ?_ (c3) ?_);(first | (focus exact ⟨rfl, rfl, trivial⟩)); skip)
      | ((with_reducible apply call_con2 ?_ (c3) ?_);(first | (focus exact ⟨rfl, rfl, trivial⟩)); rintro _ _ _ ⟨rfl, rfl, rfl⟩)
      | ((with_reducible apply conN_mk2 ?_ (c7) ?_);(first | (focus exact ⟨rfl, rfl, trivial⟩)); skip)
      | ((with_reducible apply call_con2 ?_ (c7) ?_);(first | (focus exact ⟨rfl, rfl, trivial⟩)); rintro _ _ _ ⟨rfl, rfl, rfl⟩)
      | ((with_reducible apply conN_mk2 ?_ (c5) ?_);(first | (focus exact ⟨rfl, rfl, trivial⟩)); skip)
      | ((with_reducible apply call_con2 ?_ (c5) ?_);(first | (focus exact ⟨rfl, rfl, trivial⟩)); rintro _ _ _ ⟨rfl, rfl, rfl⟩)
      | ((with_reducible apply conN_mk2 ?_ (owned_0_2) ?_);(first | (focus exact ⟨rfl, rfl, trivial⟩)); skip)
      | ((with_reducible apply call_con2 ?_ (owned_0_2) ?_);(first | (focus exact ⟨rfl, rfl, trivial⟩)); rintro _ _ _ ⟨rfl, rfl, rfl⟩)
      | ((with_reducible apply conN_mk2 ?_ (mine_con s k v 0 2) ?_);(first | (focus exact ⟨⟨rfl, rfl, rfl, trivial⟩, rfl, rfl, trivial⟩)); skip)
      | ((with_reducible apply call_con2 ?_ (mine_con s k v 0 2) ?_);(first | (focus exact ⟨⟨rfl, rfl, rfl, trivial⟩, rfl, rfl, trivial⟩)); rintro _ _ _ ⟨rfl, rfl, rfl⟩)
      | ((with_reducible apply conN_mk2 ?_ (rmine_con s k v 0 2) ?_);(first | (focus exact ⟨⟨rfl, rfl, rfl, trivial⟩, rfl, rfl, trivial⟩)); skip)
      | ((with_reducible apply call_con2 ?_ (rmine_con s k v 0 2) ?_);(first | (focus exact ⟨⟨rfl, rfl, rfl, trivial⟩, rfl, rfl, trivial⟩)); rintro _ _ _ ⟨rfl, rfl, rfl⟩)
      | ((with_reducible apply conN_mk2 ?_ (rw_0_2) ?_);(first | (focus exact ⟨rfl, rfl, trivial⟩)); skip)
      | ((with_reducible apply call_con2 ?_ (rw_0_2) ?_);(first | (focus exact ⟨rfl, rfl, trivial⟩)); rintro _ _ _ ⟨rfl, rfl, rfl⟩)
      | ((with_reducible apply conN_mk2 ?_ (rw_1_2) ?_);(first | (focus exact ⟨rfl, rfl, trivial⟩)); skip)
      | ((with_reducible apply call_con2 ?_ (rw_1_2) ?_);(first | (focus exact ⟨rfl, rfl, trivial⟩)); rintro _ _ _ ⟨rfl, rfl, rfl⟩)
      | ((with_reducible apply conN_mk2 ?_ (rw_2_2) ?_);(first | (focus exact ⟨rfl, rfl, trivial⟩)); skip)
      | ((with_reducible apply call_con2 ?_ (rw_2_2) ?_);(first | (focus exact ⟨rfl, rfl, trivial⟩)); rintro _ _ _ ⟨rfl, rfl, rfl⟩)
      | ((with_reducible apply conN_mk2 ?_ (rw_3_2) ?_);(first | (focus exact ⟨rfl, rfl, trivial⟩)); skip)
      | ((with_reducible apply call_con2 ?_ (rw_3_2) ?_);(first | (focus exact ⟨rfl, rfl, trivial⟩)); rintro _ _ _ ⟨rfl, rfl, rfl⟩)
      | ((with_reducible apply conN_mk2 ?_ (rw_4_2) ?_);(first | (focus exact ⟨rfl, rfl, trivial⟩)); skip)
      | ((with_reducible apply call_con2 ?_ (rw_4_2) ?_);(first | (focus exact ⟨rfl, rfl, trivial⟩)); rintro _ _ _ ⟨rfl, rfl, rfl⟩)
      | ((with_reducible apply conN_mk2 ?_ (rw_5_2) ?_);(first | (focus exact ⟨rfl, rfl, trivial⟩)); skip)
      | ((with_reducible apply call_con2 ?_ (rw_5_2) ?_);(first | (focus exact ⟨rfl, rfl, trivial⟩)); rintro _ _ _ ⟨rfl, rfl, rfl⟩)
      | ((with_reducible apply conN_mk2 ?_ (rw_6_2) ?_);(first | (focus exact ⟨rfl, rfl, trivial⟩)); skip)
      | ((with_reducible apply call_con2 ?_ (rw_6_2) ?_);(first | (focus exact ⟨rfl, rfl, trivial⟩)); rintro _ _ _ ⟨rfl, rfl, rfl⟩)
      | ((with_reducible apply conN_mk2 ?_ (rw_7_2) ?_);(first | (focus exact ⟨rfl, rfl, trivial⟩)); skip)
      | ((with_reducible apply call_con2 ?_ (rw_7_2) ?_);(first | (focus exact ⟨rfl, rfl, trivial⟩)); rintro _ _ _ ⟨rfl, rfl, rfl⟩))
    all_goals (try (conv => whnf))
    all_goals try (exfalso; omega)
    all_goals first
      | (refine ⟨⟨1, by omega, by omega, (Wk.stp (l := [0, 1, 2]) ⟨rfl, by decide, rfl, Nat.zero_le _, ⟨rfl, rfl, rfl, rfl, rfl, rfl, trivial⟩, ⟨fun b hb => by cases hb; rfl, fun b hb => by cases hb; rfl, fun b hb => by cases hb; rfl, trivial⟩⟩)⟩⟩)
      | (refine ⟨⟨2, by omega, by omega, (Wk.stp (l := [0, 1, 2]) ⟨rfl, by decide, rfl, Nat.zero_le _, ⟨rfl, rfl, rfl, rfl, rfl, rfl, trivial⟩, ⟨fun b hb => by cases hb; rfl, fun b hb => by cases hb; rfl, fun b hb => by cases hb; rfl, trivial⟩⟩)⟩⟩)
      | (refine ⟨⟨3, by omega, by omega, (Wk.stp (l := [0, 1, 2]) ⟨rfl, by decide, rfl, Nat.zero_le _, ⟨rfl, rfl, rfl, rfl, rfl, rfl, trivial⟩, ⟨fun b hb => by cases hb; rfl, fun b hb => by cases hb; rfl, fun b hb => by cases hb; rfl, trivial⟩⟩)⟩⟩)
      | (refine ⟨⟨4, by omega, by omega, (Wk.stp (l := [0, 1, 2]) ⟨rfl, by decide, rfl, Nat.zero_le _, ⟨rfl, rfl, rfl, rfl, rfl, rfl, trivial⟩, ⟨fun b hb => by cases hb; rfl, fun b hb => by cases hb; rfl, fun b hb => by cases hb; rfl, trivial⟩⟩)⟩⟩)
      | (refine ⟨⟨5, by omega, by omega, (Wk.stp (l := [0, 1, 2]) ⟨rfl, by decide, rfl, Nat.zero_le _, ⟨rfl, rfl, rfl, rfl, rfl, rfl, trivial⟩, ⟨fun b hb => by cases hb; rfl, fun b hb => by cases hb; rfl, fun b hb => by cases hb; rfl, trivial⟩⟩)⟩⟩)
      | (refine ⟨⟨6, by omega, by omega, (Wk.stp (l := [0, 1, 2]) ⟨rfl, by decide, rfl, Nat.zero_le _, ⟨rfl, rfl, rfl, rfl, rfl, rfl, trivial⟩, ⟨fun b hb => by cases hb; rfl, fun b hb => by cases hb; rfl, fun b hb => by cases hb; rfl, trivial⟩⟩)⟩⟩)
      | (refine ⟨⟨7, by omega, by omega, (Wk.stp (l := [0, 1, 2]) ⟨rfl, by decide, rfl, Nat.zero_le _, ⟨rfl, rfl, rfl, rfl, rfl, rfl, trivial⟩, ⟨fun b hb => by cases hb; rfl, fun b hb => by cases hb; rfl, fun b hb => by cases hb; rfl, trivial⟩⟩)⟩⟩)
      | (refine ⟨⟨8, by omega, by omega, (Wk.stp (l := [0, 1, 2]) ⟨rfl, by decide, rfl, Nat.zero_le _, ⟨rfl, rfl, rfl, rfl, rfl, rfl, trivial⟩, ⟨fun b hb => by cases hb; rfl, fun b hb => by cases hb; rfl, fun b hb => by cases hb; rfl, trivial⟩⟩)⟩⟩)
      | (refine ret0 _ rfl _ rfl (fun _ => rfl) rfl ⟨?_, rfl, rfl⟩; (first | rfl | (refine rv_bool ?_; simp; done)))
      | (trace_state; sorry)
  · have c1 := group_con s k v; have c2 := right_con s k v; simp only [if_pos hk, decide_eq_true hk] at c1 c2
    have c3 := owner_con gr 2; rw [if_neg hg, show ownP gr 2 = 0 from if_neg hg] at c3
    unfold okG at hg
    have c5 := rshare_con 0 2; have c6 := share_con 0 2
    have c4 := rgroup_con k hk.2.1
    simp only [decide_eq_true (show okS 0 2 by decide)] at c5
    refine con_of tabOk 178 Try.f3 _ Try.func3 (by kernel_rfl) rfl rfl rfl rfl (fun W => ?_)
    repeat' ((conv => whnf); first
      | with_reducible refine spB_t ?_
      | ((with_reducible apply spB_cong); (focus (simp only [beq_self_eq_true, bne_self_eq_false, Bool.true_bne, Bool.false_bne, Bool.bne_true, Bool.bne_false, Bool.true_beq, Bool.false_beq, Bool.not_true, Bool.not_false, Bool.not_not, Int.reduceBEq, Int.reduceBNe, Int.reduceLE, Int.reduceLT, Int.reduceEq, decide_true, decide_false]; rfl)))
      | with_reducible refine spB_f ?_
      | with_reducible refine spB_not ?_
      | with_reducible refine spB_yes (by assumption) ?_
      | with_reducible refine spB_no (by assumption) ?_
      | (with_reducible refine spB_dec ?_ ?_ <;> intro _ <;> (try (exfalso; first | contradiction | omega | (rename_i hz; with_reducible exact absurd rfl hz))))
      | (with_reducible refine spB_beq ?_ ?_ <;> intro _ <;> (try (exfalso; first | contradiction | omega | (rename_i hz; with_reducible exact absurd rfl hz))))
      | (with_reducible refine spB_bne ?_ ?_ <;> intro _ <;> (try (exfalso; first | contradiction | omega | (rename_i hz; with_reducible exact absurd rfl hz))))
      | (with_reducible refine spB_mk ?_ ?_ <;> intro _ <;> (try (exfalso; first | contradiction | omega | (rename_i hz; with_reducible exact absurd rfl hz))))
      | ((with_reducible apply rowN_mk); (focus rfl))
      | with_reducible refine wr_i64 (by omega) ?_
      | with_reducible refine wr_u64 (by omega) ?_
      | with_reducible refine wr_u8 (by omega) ?_
      | with_reducible refine wr_u32 (by omega) ?_
      | with_reducible refine wr_mk _ rfl ?_
      | ((with_reducible refine ixN_nat ?_ ?_); (focus (omega)))
      | ((with_reducible refine rowN_map ?_ ?_); (focus (omega)); intro x hx)
      | ((with_reducible refine ixN_mk 0 ?_ ?_ ?_); (focus rfl); (focus decide))
      | ((with_reducible refine ixN_mk 1 ?_ ?_ ?_); (focus rfl); (focus decide))
      | ((with_reducible refine ixN_mk 2 ?_ ?_ ?_); (focus rfl); (focus decide))
      | ((with_reducible refine ixN_mk 3 ?_ ?_ ?_); (focus rfl); (focus decide))
      | ((with_reducible refine ixN_mk 4 ?_ ?_ ?_); (focus rfl); (focus decide))
      | ((with_reducible refine ixN_mk 5 ?_ ?_ ?_); (focus rfl); (focus decide))
      | ((with_reducible refine ixN_mk 6 ?_ ?_ ?_); (focus rfl); (focus decide))
      | ((with_reducible refine ixN_mk 7 ?_ ?_ ?_); (focus rfl); (focus decide))
      | ((with_reducible refine posE_nil (by rfl) ?_))
      | ((with_reducible refine posE_pos (by decide) ?_))
      | with_reducible refine vN_mod (by omega) ?_
      | with_reducible refine vN_mk ?_
      | with_reducible refine nzN_mk (by omega) ?_
      | with_reducible refine eqN_dec (by omega) ?_
      | with_reducible refine draw_rule tabOk mixOk ?_
      | with_reducible refine apN_mk (by kernel_rfl) ?_
      | ((with_reducible apply conN_mk2 ?_ (wakes_con) ?_);(first | (focus exact trivial)); skip)
      | ((with_reducible apply call_con2 ?_ (wakes_con) ?_);(first | (focus exact trivial)); rintro _ _ _ ⟨rfl, rfl, rfl⟩)
      | ((with_reducible apply conN_mk2 ?_ (c1) ?_);(first | (focus exact ⟨⟨rfl, rfl, rfl, trivial⟩, trivial⟩)); skip)
      | ((with_reducible apply call_con2 ?_ (c1) ?_);(first | (focus exact ⟨⟨rfl, rfl, rfl, trivial⟩, trivial⟩)); rintro _ _ _ ⟨rfl, rfl, rfl⟩)
      | ((with_reducible apply conN_mk2 ?_ (c2) ?_);(first | (focus exact ⟨⟨rfl, rfl, rfl, trivial⟩, trivial⟩)); skip)
      | ((with_reducible apply call_con2 ?_ (c2) ?_);(first | (focus exact ⟨⟨rfl, rfl, rfl, trivial⟩, trivial⟩)); rintro _ _ _ ⟨rfl, rfl, rfl⟩)
      | ((with_reducible apply conN_mk2 ?_ (c4) ?_);(first | (focus exact ⟨rfl, trivial⟩)); skip)
      | ((with_reducible apply call_con2 ?_ (c4) ?_);(first | (focus exact ⟨rfl, trivial⟩)); rintro _ _ _ ⟨rfl, rfl, rfl⟩)
      | ((with_reducible apply conN_mk2 ?_ (c3) ?_);(first | (focus exact ⟨rfl, rfl, trivial⟩)); skip)
      | ((with_reducible apply call_con2 ?_ (c3) ?_);(first | (focus exact ⟨rfl, rfl, trivial⟩)); rintro _ _ _ ⟨rfl, rfl, rfl⟩)
      | ((with_reducible apply conN_mk2 ?_ (c5) ?_);(first | (focus exact ⟨rfl, rfl, trivial⟩)); skip)
      | ((with_reducible apply call_con2 ?_ (c5) ?_);(first | (focus exact ⟨rfl, rfl, trivial⟩)); rintro _ _ _ ⟨rfl, rfl, rfl⟩)
      | ((with_reducible apply conN_mk2 ?_ (owned_0_2) ?_);(first | (focus exact ⟨rfl, rfl, trivial⟩)); skip)
      | ((with_reducible apply call_con2 ?_ (owned_0_2) ?_);(first | (focus exact ⟨rfl, rfl, trivial⟩)); rintro _ _ _ ⟨rfl, rfl, rfl⟩)
      | ((with_reducible apply conN_mk2 ?_ (mine_con s k v 0 2) ?_);(first | (focus exact ⟨⟨rfl, rfl, rfl, trivial⟩, rfl, rfl, trivial⟩)); skip)
      | ((with_reducible apply call_con2 ?_ (mine_con s k v 0 2) ?_);(first | (focus exact ⟨⟨rfl, rfl, rfl, trivial⟩, rfl, rfl, trivial⟩)); rintro _ _ _ ⟨rfl, rfl, rfl⟩)
      | ((with_reducible apply conN_mk2 ?_ (rmine_con s k v 0 2) ?_);(first | (focus exact ⟨⟨rfl, rfl, rfl, trivial⟩, rfl, rfl, trivial⟩)); skip)
      | ((with_reducible apply call_con2 ?_ (rmine_con s k v 0 2) ?_);(first | (focus exact ⟨⟨rfl, rfl, rfl, trivial⟩, rfl, rfl, trivial⟩)); rintro _ _ _ ⟨rfl, rfl, rfl⟩))
    all_goals (try (conv => whnf))
    all_goals (refine loop_rule tabOk (fun i : Nat => ⟨[(130, .val (.int .i64 (i : Int))), (13, .val (.int .i64 (kc0_2 i))), (12, .c (.osl 2 0 4 none)), (8, .val (.int .i64 0)), (3, .c (.own 0 0 0)), (5, .c (.own 1 0 0))], [(0, some ⟨[[.v (.int .i64 s), .v (.int .i64 k), .v (.int .i64 v)]], 3, 23, true⟩), (1, some ⟨[[.v (.int .i64 0), .v (.int .i64 2)]], 2, 25, true⟩), (2, some ⟨[[.v (.int .i64 0)], [.v (.int .i64 1)], [.v (.int .i64 2)], [.v (.int .i64 3)]], 1, 3, false⟩)], 3⟩) (fun i => i ≤ 8) (fun i => 8 - i) 0 (Nat.zero_le _) (Wk.stp (l := [0, 1, 11]) ⟨rfl, by decide, rfl, Nat.zero_le _, ⟨rfl, rfl, rfl, rfl, rfl, rfl, trivial⟩, ⟨fun b hb => by cases hb; rfl, fun b hb => by cases hb; rfl, fun b hb => by cases hb; rfl, trivial⟩⟩) ?_
               intro i hi
               have hc : i = 0 ∨ i = 1 ∨ i = 2 ∨ i = 3 ∨ i = 4 ∨ i = 5 ∨ i = 6 ∨ i = 7 ∨ i = 8 := by omega
               rcases hc with rfl | rfl | rfl | rfl | rfl | rfl | rfl | rfl | rfl <;> dsimp only [kc0_2])
    repeat' ((conv => whnf); first
      | with_reducible refine spB_t ?_
      | ((with_reducible apply spB_cong); (focus (simp only [beq_self_eq_true, bne_self_eq_false, Bool.true_bne, Bool.false_bne, Bool.bne_true, Bool.bne_false, Bool.true_beq, Bool.false_beq, Bool.not_true, Bool.not_false, Bool.not_not, Int.reduceBEq, Int.reduceBNe, Int.reduceLE, Int.reduceLT, Int.reduceEq, decide_true, decide_false]; rfl)))
      | with_reducible refine spB_f ?_
      | with_reducible refine spB_not ?_
      | with_reducible refine spB_yes (by assumption) ?_
      | with_reducible refine spB_no (by assumption) ?_
      | (with_reducible refine spB_dec ?_ ?_ <;> intro _ <;> (try (exfalso; first | contradiction | omega | (rename_i hz; with_reducible exact absurd rfl hz))))
      | (with_reducible refine spB_beq ?_ ?_ <;> intro _ <;> (try (exfalso; first | contradiction | omega | (rename_i hz; with_reducible exact absurd rfl hz))))
      | (with_reducible refine spB_bne ?_ ?_ <;> intro _ <;> (try (exfalso; first | contradiction | omega | (rename_i hz; with_reducible exact absurd rfl hz))))
      | (with_reducible refine spB_mk ?_ ?_ <;> intro _ <;> (try (exfalso; first | contradiction | omega | (rename_i hz; with_reducible exact absurd rfl hz))))
      | ((with_reducible apply rowN_mk); (focus rfl))
      | with_reducible refine wr_i64 (by omega) ?_
      | with_reducible refine wr_u64 (by omega) ?_
      | with_reducible refine wr_u8 (by omega) ?_
      | with_reducible refine wr_u32 (by omega) ?_
      | with_reducible refine wr_mk _ rfl ?_
      | ((with_reducible refine ixN_nat ?_ ?_); (focus (omega)))
      | ((with_reducible refine rowN_map ?_ ?_); (focus (omega)); intro x hx)
      | ((with_reducible refine ixN_mk 0 ?_ ?_ ?_); (focus rfl); (focus decide))
      | ((with_reducible refine ixN_mk 1 ?_ ?_ ?_); (focus rfl); (focus decide))
      | ((with_reducible refine ixN_mk 2 ?_ ?_ ?_); (focus rfl); (focus decide))
      | ((with_reducible refine ixN_mk 3 ?_ ?_ ?_); (focus rfl); (focus decide))
      | ((with_reducible refine ixN_mk 4 ?_ ?_ ?_); (focus rfl); (focus decide))
      | ((with_reducible refine ixN_mk 5 ?_ ?_ ?_); (focus rfl); (focus decide))
      | ((with_reducible refine ixN_mk 6 ?_ ?_ ?_); (focus rfl); (focus decide))
      | ((with_reducible refine ixN_mk 7 ?_ ?_ ?_); (focus rfl); (focus decide))
      | ((with_reducible refine posE_nil (by rfl) ?_))
      | ((with_reducible refine posE_pos (by decide) ?_))
      | with_reducible refine vN_mod (by omega) ?_
      | with_reducible refine vN_mk ?_
      | with_reducible refine nzN_mk (by omega) ?_
      | with_reducible refine eqN_dec (by omega) ?_
      | with_reducible refine draw_rule tabOk mixOk ?_
      | with_reducible refine apN_mk (by kernel_rfl) ?_
      | ((with_reducible apply conN_mk2 ?_ (wakes_con) ?_);(first | (focus exact trivial)); skip)
      | ((with_reducible apply call_con2 ?_ (wakes_con) ?_);(first | (focus exact trivial)); rintro _ _ _ ⟨rfl, rfl, rfl⟩)
      | ((with_reducible apply conN_mk2 ?_ (c1) ?_);(first | (focus exact ⟨⟨rfl, rfl, rfl, trivial⟩, trivial⟩)); skip)
      | ((with_reducible apply call_con2 ?_ (c1) ?_);(first | (focus exact ⟨⟨rfl, rfl, rfl, trivial⟩, trivial⟩)); rintro _ _ _ ⟨rfl, rfl, rfl⟩)
      | ((with_reducible apply conN_mk2 ?_ (c2) ?_);(first | (focus exact ⟨⟨rfl, rfl, rfl, trivial⟩, trivial⟩)); skip)
      | ((with_reducible apply call_con2 ?_ (c2) ?_);(first | (focus exact ⟨⟨rfl, rfl, rfl, trivial⟩, trivial⟩)); rintro _ _ _ ⟨rfl, rfl, rfl⟩)
      | ((with_reducible apply conN_mk2 ?_ (c4) ?_);(first | (focus exact ⟨rfl, trivial⟩)); skip)
      | ((with_reducible apply call_con2 ?_ (c4) ?_);(first | (focus exact ⟨rfl, trivial⟩)); rintro _ _ _ ⟨rfl, rfl, rfl⟩)
      | ((with_reducible apply conN_mk2 ?_ (c3) ?_);(first | (focus exact ⟨rfl, rfl, trivial⟩)); skip)
      | ((with_reducible apply call_con2 ?_ (c3) ?_);(first | (focus exact ⟨rfl, rfl, trivial⟩)); rintro _ _ _ ⟨rfl, rfl, rfl⟩)
      | ((with_reducible apply conN_mk2 ?_ (c5) ?_);(first | (focus exact ⟨rfl, rfl, trivial⟩)); skip)
      | ((with_reducible apply call_con2 ?_ (c5) ?_);(first | (focus exact ⟨rfl, rfl, trivial⟩)); rintro _ _ _ ⟨rfl, rfl, rfl⟩)
      | ((with_reducible apply conN_mk2 ?_ (owned_0_2) ?_);(first | (focus exact ⟨rfl, rfl, trivial⟩)); skip)
      | ((with_reducible apply call_con2 ?_ (owned_0_2) ?_);(first | (focus exact ⟨rfl, rfl, trivial⟩)); rintro _ _ _ ⟨rfl, rfl, rfl⟩)
      | ((with_reducible apply conN_mk2 ?_ (mine_con s k v 0 2) ?_);(first | (focus exact ⟨⟨rfl, rfl, rfl, trivial⟩, rfl, rfl, trivial⟩)); skip)
      | ((with_reducible apply call_con2 ?_ (mine_con s k v 0 2) ?_);(first | (focus exact ⟨⟨rfl, rfl, rfl, trivial⟩, rfl, rfl, trivial⟩)); rintro _ _ _ ⟨rfl, rfl, rfl⟩)
      | ((with_reducible apply conN_mk2 ?_ (rmine_con s k v 0 2) ?_);(first | (focus exact ⟨⟨rfl, rfl, rfl, trivial⟩, rfl, rfl, trivial⟩)); skip)
      | ((with_reducible apply call_con2 ?_ (rmine_con s k v 0 2) ?_);(first | (focus exact ⟨⟨rfl, rfl, rfl, trivial⟩, rfl, rfl, trivial⟩)); rintro _ _ _ ⟨rfl, rfl, rfl⟩)
      | ((with_reducible apply conN_mk2 ?_ (rw_0_2) ?_);(first | (focus exact ⟨rfl, rfl, trivial⟩)); skip)
      | ((with_reducible apply call_con2 ?_ (rw_0_2) ?_);(first | (focus exact ⟨rfl, rfl, trivial⟩)); rintro _ _ _ ⟨rfl, rfl, rfl⟩)
      | ((with_reducible apply conN_mk2 ?_ (rw_1_2) ?_);(first | (focus exact ⟨rfl, rfl, trivial⟩)); skip)
      | ((with_reducible apply call_con2 ?_ (rw_1_2) ?_);(first | (focus exact ⟨rfl, rfl, trivial⟩)); rintro _ _ _ ⟨rfl, rfl, rfl⟩)
      | ((with_reducible apply conN_mk2 ?_ (rw_2_2) ?_);(first | (focus exact ⟨rfl, rfl, trivial⟩)); skip)
      | ((with_reducible apply call_con2 ?_ (rw_2_2) ?_);(first | (focus exact ⟨rfl, rfl, trivial⟩)); rintro _ _ _ ⟨rfl, rfl, rfl⟩)
      | ((with_reducible apply conN_mk2 ?_ (rw_3_2) ?_);(first | (focus exact ⟨rfl, rfl, trivial⟩)); skip)
      | ((with_reducible apply call_con2 ?_ (rw_3_2) ?_);(first | (focus exact ⟨rfl, rfl, trivial⟩)); rintro _ _ _ ⟨rfl, rfl, rfl⟩)
      | ((with_reducible apply conN_mk2 ?_ (rw_4_2) ?_);(first | (focus exact ⟨rfl, rfl, trivial⟩)); skip)
      | ((with_reducible apply call_con2 ?_ (rw_4_2) ?_);(first | (focus exact ⟨rfl, rfl, trivial⟩)); rintro _ _ _ ⟨rfl, rfl, rfl⟩)
      | ((with_reducible apply conN_mk2 ?_ (rw_5_2) ?_);(first | (focus exact ⟨rfl, rfl, trivial⟩)); skip)
      | ((with_reducible apply call_con2 ?_ (rw_5_2) ?_);(first | (focus exact ⟨rfl, rfl, trivial⟩)); rintro _ _ _ ⟨rfl, rfl, rfl⟩)
      | ((with_reducible apply conN_mk2 ?_ (rw_6_2) ?_);(first | (focus exact ⟨rfl, rfl, trivial⟩)); skip)
      | ((with_reducible apply call_con2 ?_ (rw_6_2) ?_);(first | (focus exact ⟨rfl, rfl, trivial⟩)); rintro _ _ _ ⟨rfl, rfl, rfl⟩)
      | ((with_reducible apply conN_mk2 ?_ (rw_7_2) ?_);(first | (focus exact ⟨rfl, rfl, trivial⟩)); skip)
      | ((with_reducible apply call_con2 ?_ (rw_7_2) ?_);(first | (focus exact ⟨rfl, rfl, trivial⟩)); rintro _ _ _ ⟨rfl, rfl, rfl⟩))
    all_goals (try (conv => whnf))
    all_goals try (exfalso; omega)
    all_goals first
      | (refine ⟨⟨1, by omega, by omega, (Wk.stp (l := [0, 1, 2]) ⟨rfl, by decide, rfl, Nat.zero_le _, ⟨rfl, rfl, rfl, rfl, rfl, rfl, trivial⟩, ⟨fun b hb => by cases hb; rfl, fun b hb => by cases hb; rfl, fun b hb => by cases hb; rfl, trivial⟩⟩)⟩⟩)
      | (refine ⟨⟨2, by omega, by omega, (Wk.stp (l := [0, 1, 2]) ⟨rfl, by decide, rfl, Nat.zero_le _, ⟨rfl, rfl, rfl, rfl, rfl, rfl, trivial⟩, ⟨fun b hb => by cases hb; rfl, fun b hb => by cases hb; rfl, fun b hb => by cases hb; rfl, trivial⟩⟩)⟩⟩)
      | (refine ⟨⟨3, by omega, by omega, (Wk.stp (l := [0, 1, 2]) ⟨rfl, by decide, rfl, Nat.zero_le _, ⟨rfl, rfl, rfl, rfl, rfl, rfl, trivial⟩, ⟨fun b hb => by cases hb; rfl, fun b hb => by cases hb; rfl, fun b hb => by cases hb; rfl, trivial⟩⟩)⟩⟩)
      | (refine ⟨⟨4, by omega, by omega, (Wk.stp (l := [0, 1, 2]) ⟨rfl, by decide, rfl, Nat.zero_le _, ⟨rfl, rfl, rfl, rfl, rfl, rfl, trivial⟩, ⟨fun b hb => by cases hb; rfl, fun b hb => by cases hb; rfl, fun b hb => by cases hb; rfl, trivial⟩⟩)⟩⟩)
      | (refine ⟨⟨5, by omega, by omega, (Wk.stp (l := [0, 1, 2]) ⟨rfl, by decide, rfl, Nat.zero_le _, ⟨rfl, rfl, rfl, rfl, rfl, rfl, trivial⟩, ⟨fun b hb => by cases hb; rfl, fun b hb => by cases hb; rfl, fun b hb => by cases hb; rfl, trivial⟩⟩)⟩⟩)
      | (refine ⟨⟨6, by omega, by omega, (Wk.stp (l := [0, 1, 2]) ⟨rfl, by decide, rfl, Nat.zero_le _, ⟨rfl, rfl, rfl, rfl, rfl, rfl, trivial⟩, ⟨fun b hb => by cases hb; rfl, fun b hb => by cases hb; rfl, fun b hb => by cases hb; rfl, trivial⟩⟩)⟩⟩)
      | (refine ⟨⟨7, by omega, by omega, (Wk.stp (l := [0, 1, 2]) ⟨rfl, by decide, rfl, Nat.zero_le _, ⟨rfl, rfl, rfl, rfl, rfl, rfl, trivial⟩, ⟨fun b hb => by cases hb; rfl, fun b hb => by cases hb; rfl, fun b hb => by cases hb; rfl, trivial⟩⟩)⟩⟩)
      | (refine ⟨⟨8, by omega, by omega, (Wk.stp (l := [0, 1, 2]) ⟨rfl, by decide, rfl, Nat.zero_le _, ⟨rfl, rfl, rfl, rfl, rfl, rfl, trivial⟩, ⟨fun b hb => by cases hb; rfl, fun b hb => by cases hb; rfl, fun b hb => by cases hb; rfl, trivial⟩⟩)⟩⟩)
      | (refine ret0 _ rfl _ rfl (fun _ => rfl) rfl ⟨?_, rfl, rfl⟩; (first | rfl | (refine rv_bool ?_; simp; done)))
      | (trace_state; sorry)
  · have c1 := group_con s k v; have c2 := right_con s k v; simp only [if_neg hk, decide_eq_false hk] at c1 c2
    have c3 := owner_con gr 2; rw [if_pos hg] at c3
    unfold okG at hg
    have c5 := rshare_con 0 2; have c6 := share_con 0 2
    have c7 := rowner_con gr 2 hg
    simp only [decide_eq_true (show okS 0 2 by decide)] at c5
    refine con_of tabOk 178 Try.f3 _ Try.func3 (by kernel_rfl) rfl rfl rfl rfl (fun W => ?_)
    repeat' ((conv => whnf); first
      | with_reducible refine spB_t ?_
      | ((with_reducible apply spB_cong); (focus (simp only [beq_self_eq_true, bne_self_eq_false, Bool.true_bne, Bool.false_bne, Bool.bne_true, Bool.bne_false, Bool.true_beq, Bool.false_beq, Bool.not_true, Bool.not_false, Bool.not_not, Int.reduceBEq, Int.reduceBNe, Int.reduceLE, Int.reduceLT, Int.reduceEq, decide_true, decide_false]; rfl)))
      | with_reducible refine spB_f ?_
      | with_reducible refine spB_not ?_
      | with_reducible refine spB_yes (by assumption) ?_
      | with_reducible refine spB_no (by assumption) ?_
      | (with_reducible refine spB_dec ?_ ?_ <;> intro _ <;> (try (exfalso; first | contradiction | omega | (rename_i hz; with_reducible exact absurd rfl hz))))
      | (with_reducible refine spB_beq ?_ ?_ <;> intro _ <;> (try (exfalso; first | contradiction | omega | (rename_i hz; with_reducible exact absurd rfl hz))))
      | (with_reducible refine spB_bne ?_ ?_ <;> intro _ <;> (try (exfalso; first | contradiction | omega | (rename_i hz; with_reducible exact absurd rfl hz))))
      | (with_reducible refine spB_mk ?_ ?_ <;> intro _ <;> (try (exfalso; first | contradiction | omega | (rename_i hz; with_reducible exact absurd rfl hz))))
      | ((with_reducible apply rowN_mk); (focus rfl))
      | with_reducible refine wr_i64 (by omega) ?_
      | with_reducible refine wr_u64 (by omega) ?_
      | with_reducible refine wr_u8 (by omega) ?_
      | with_reducible refine wr_u32 (by omega) ?_
      | with_reducible refine wr_mk _ rfl ?_
      | ((with_reducible refine ixN_nat ?_ ?_); (focus (omega)))
      | ((with_reducible refine rowN_map ?_ ?_); (focus (omega)); intro x hx)
      | ((with_reducible refine ixN_mk 0 ?_ ?_ ?_); (focus rfl); (focus decide))
      | ((with_reducible refine ixN_mk 1 ?_ ?_ ?_); (focus rfl); (focus decide))
      | ((with_reducible refine ixN_mk 2 ?_ ?_ ?_); (focus rfl); (focus decide))
      | ((with_reducible refine ixN_mk 3 ?_ ?_ ?_); (focus rfl); (focus decide))
      | ((with_reducible refine ixN_mk 4 ?_ ?_ ?_); (focus rfl); (focus decide))
      | ((with_reducible refine ixN_mk 5 ?_ ?_ ?_); (focus rfl); (focus decide))
      | ((with_reducible refine ixN_mk 6 ?_ ?_ ?_); (focus rfl); (focus decide))
      | ((with_reducible refine ixN_mk 7 ?_ ?_ ?_); (focus rfl); (focus decide))
      | ((with_reducible refine posE_nil (by rfl) ?_))
      | ((with_reducible refine posE_pos (by decide) ?_))
      | with_reducible refine vN_mod (by omega) ?_
      | with_reducible refine vN_mk ?_
      | with_reducible refine nzN_mk (by omega) ?_
      | with_reducible refine eqN_dec (by omega) ?_
      | with_reducible refine draw_rule tabOk mixOk ?_
      | with_reducible refine apN_mk (by kernel_rfl) ?_
      | ((with_reducible apply conN_mk2 ?_ (wakes_con) ?_);(first | (focus exact trivial)); skip)
      | ((with_reducible apply call_con2 ?_ (wakes_con) ?_);(first | (focus exact trivial)); rintro _ _ _ ⟨rfl, rfl, rfl⟩)
      | ((with_reducible apply conN_mk2 ?_ (c1) ?_);(first | (focus exact ⟨⟨rfl, rfl, rfl, trivial⟩, trivial⟩)); skip)
      | ((with_reducible apply call_con2 ?_ (c1) ?_);(first | (focus exact ⟨⟨rfl, rfl, rfl, trivial⟩, trivial⟩)); rintro _ _ _ ⟨rfl, rfl, rfl⟩)
      | ((with_reducible apply conN_mk2 ?_ (c2) ?_);(first | (focus exact ⟨⟨rfl, rfl, rfl, trivial⟩, trivial⟩)); skip)
      | ((with_reducible apply call_con2 ?_ (c2) ?_);(first | (focus exact ⟨⟨rfl, rfl, rfl, trivial⟩, trivial⟩)); rintro _ _ _ ⟨rfl, rfl, rfl⟩)
      | ((with_reducible apply conN_mk2 ?_ (c3) ?_);(first | (focus exact ⟨rfl, rfl, trivial⟩)); skip)
      | ((with_reducible apply call_con2 ?_ (c3) ?_);(first | (focus exact ⟨rfl, rfl, trivial⟩)); rintro _ _ _ ⟨rfl, rfl, rfl⟩)
      | ((with_reducible apply conN_mk2 ?_ (c7) ?_);(first | (focus exact ⟨rfl, rfl, trivial⟩)); skip)
      | ((with_reducible apply call_con2 ?_ (c7) ?_);(first | (focus exact ⟨rfl, rfl, trivial⟩)); rintro _ _ _ ⟨rfl, rfl, rfl⟩)
      | ((with_reducible apply conN_mk2 ?_ (c5) ?_);(first | (focus exact ⟨rfl, rfl, trivial⟩)); skip)
      | ((with_reducible apply call_con2 ?_ (c5) ?_);(first | (focus exact ⟨rfl, rfl, trivial⟩)); rintro _ _ _ ⟨rfl, rfl, rfl⟩)
      | ((with_reducible apply conN_mk2 ?_ (owned_0_2) ?_);(first | (focus exact ⟨rfl, rfl, trivial⟩)); skip)
      | ((with_reducible apply call_con2 ?_ (owned_0_2) ?_);(first | (focus exact ⟨rfl, rfl, trivial⟩)); rintro _ _ _ ⟨rfl, rfl, rfl⟩)
      | ((with_reducible apply conN_mk2 ?_ (mine_con s k v 0 2) ?_);(first | (focus exact ⟨⟨rfl, rfl, rfl, trivial⟩, rfl, rfl, trivial⟩)); skip)
      | ((with_reducible apply call_con2 ?_ (mine_con s k v 0 2) ?_);(first | (focus exact ⟨⟨rfl, rfl, rfl, trivial⟩, rfl, rfl, trivial⟩)); rintro _ _ _ ⟨rfl, rfl, rfl⟩)
      | ((with_reducible apply conN_mk2 ?_ (rmine_con s k v 0 2) ?_);(first | (focus exact ⟨⟨rfl, rfl, rfl, trivial⟩, rfl, rfl, trivial⟩)); skip)
      | ((with_reducible apply call_con2 ?_ (rmine_con s k v 0 2) ?_);(first | (focus exact ⟨⟨rfl, rfl, rfl, trivial⟩, rfl, rfl, trivial⟩)); rintro _ _ _ ⟨rfl, rfl, rfl⟩))
    all_goals (try (conv => whnf))
    all_goals (refine loop_rule tabOk (fun i : Nat => ⟨[(130, .val (.int .i64 (i : Int))), (13, .val (.int .i64 (kc0_2 i))), (12, .c (.osl 2 0 4 none)), (8, .val (.int .i64 0)), (3, .c (.own 0 0 0)), (5, .c (.own 1 0 0))], [(0, some ⟨[[.v (.int .i64 s), .v (.int .i64 k), .v (.int .i64 v)]], 3, 23, true⟩), (1, some ⟨[[.v (.int .i64 0), .v (.int .i64 2)]], 2, 25, true⟩), (2, some ⟨[[.v (.int .i64 0)], [.v (.int .i64 1)], [.v (.int .i64 2)], [.v (.int .i64 3)]], 1, 3, false⟩)], 3⟩) (fun i => i ≤ 8) (fun i => 8 - i) 0 (Nat.zero_le _) (Wk.stp (l := [0, 1, 11]) ⟨rfl, by decide, rfl, Nat.zero_le _, ⟨rfl, rfl, rfl, rfl, rfl, rfl, trivial⟩, ⟨fun b hb => by cases hb; rfl, fun b hb => by cases hb; rfl, fun b hb => by cases hb; rfl, trivial⟩⟩) ?_
               intro i hi
               have hc : i = 0 ∨ i = 1 ∨ i = 2 ∨ i = 3 ∨ i = 4 ∨ i = 5 ∨ i = 6 ∨ i = 7 ∨ i = 8 := by omega
               rcases hc with rfl | rfl | rfl | rfl | rfl | rfl | rfl | rfl | rfl <;> dsimp only [kc0_2])
    repeat' ((conv => whnf); first
      | with_reducible refine spB_t ?_
      | ((with_reducible apply spB_cong); (focus (simp only [beq_self_eq_true, bne_self_eq_false, Bool.true_bne, Bool.false_bne, Bool.bne_true, Bool.bne_false, Bool.true_beq, Bool.false_beq, Bool.not_true, Bool.not_false, Bool.not_not, Int.reduceBEq, Int.reduceBNe, Int.reduceLE, Int.reduceLT, Int.reduceEq, decide_true, decide_false]; rfl)))
      | with_reducible refine spB_f ?_
      | with_reducible refine spB_not ?_
      | with_reducible refine spB_yes (by assumption) ?_
      | with_reducible refine spB_no (by assumption) ?_
      | (with_reducible refine spB_dec ?_ ?_ <;> intro _ <;> (try (exfalso; first | contradiction | omega | (rename_i hz; with_reducible exact absurd rfl hz))))
      | (with_reducible refine spB_beq ?_ ?_ <;> intro _ <;> (try (exfalso; first | contradiction | omega | (rename_i hz; with_reducible exact absurd rfl hz))))
      | (with_reducible refine spB_bne ?_ ?_ <;> intro _ <;> (try (exfalso; first | contradiction | omega | (rename_i hz; with_reducible exact absurd rfl hz))))
      | (with_reducible refine spB_mk ?_ ?_ <;> intro _ <;> (try (exfalso; first | contradiction | omega | (rename_i hz; with_reducible exact absurd rfl hz))))
      | ((with_reducible apply rowN_mk); (focus rfl))
      | with_reducible refine wr_i64 (by omega) ?_
      | with_reducible refine wr_u64 (by omega) ?_
      | with_reducible refine wr_u8 (by omega) ?_
      | with_reducible refine wr_u32 (by omega) ?_
      | with_reducible refine wr_mk _ rfl ?_
      | ((with_reducible refine ixN_nat ?_ ?_); (focus (omega)))
      | ((with_reducible refine rowN_map ?_ ?_); (focus (omega)); intro x hx)
      | ((with_reducible refine ixN_mk 0 ?_ ?_ ?_); (focus rfl); (focus decide))
      | ((with_reducible refine ixN_mk 1 ?_ ?_ ?_); (focus rfl); (focus decide))
      | ((with_reducible refine ixN_mk 2 ?_ ?_ ?_); (focus rfl); (focus decide))
      | ((with_reducible refine ixN_mk 3 ?_ ?_ ?_); (focus rfl); (focus decide))
      | ((with_reducible refine ixN_mk 4 ?_ ?_ ?_); (focus rfl); (focus decide))
      | ((with_reducible refine ixN_mk 5 ?_ ?_ ?_); (focus rfl); (focus decide))
      | ((with_reducible refine ixN_mk 6 ?_ ?_ ?_); (focus rfl); (focus decide))
      | ((with_reducible refine ixN_mk 7 ?_ ?_ ?_); (focus rfl); (focus decide))
      | ((with_reducible refine posE_nil (by rfl) ?_))
      | ((with_reducible refine posE_pos (by decide) ?_))
      | with_reducible refine vN_mod (by omega) ?_
      | with_reducible refine vN_mk ?_
      | with_reducible refine nzN_mk (by omega) ?_
      | with_reducible refine eqN_dec (by omega) ?_
      | with_reducible refine draw_rule tabOk mixOk ?_
      | with_reducible refine apN_mk (by kernel_rfl) ?_
      | ((with_reducible apply conN_mk2 ?_ (wakes_con) ?_);(first | (focus exact trivial)); skip)
      | ((with_reducible apply call_con2 ?_ (wakes_con) ?_);(first | (focus exact trivial)); rintro _ _ _ ⟨rfl, rfl, rfl⟩)
      | ((with_reducible apply conN_mk2 ?_ (c1) ?_);(first | (focus exact ⟨⟨rfl, rfl, rfl, trivial⟩, trivial⟩)); skip)
      | ((with_reducible apply call_con2 ?_ (c1) ?_);(first | (focus exact ⟨⟨rfl, rfl, rfl, trivial⟩, trivial⟩)); rintro _ _ _ ⟨rfl, rfl, rfl⟩)
      | ((with_reducible apply conN_mk2 ?_ (c2) ?_);(first | (focus exact ⟨⟨rfl, rfl, rfl, trivial⟩, trivial⟩)); skip)
      | ((with_reducible apply call_con2 ?_ (c2) ?_);(first | (focus exact ⟨⟨rfl, rfl, rfl, trivial⟩, trivial⟩)); rintro _ _ _ ⟨rfl, rfl, rfl⟩)
      | ((with_reducible apply conN_mk2 ?_ (c3) ?_);(first | (focus exact ⟨rfl, rfl, trivial⟩)); skip)
      | ((with_reducible apply call_con2 ?_ (c3) ?_);(first | (focus exact ⟨rfl, rfl, trivial⟩)); rintro _ _ _ ⟨rfl, rfl, rfl⟩)
      | ((with_reducible apply conN_mk2 ?_ (c7) ?_);(first | (focus exact ⟨rfl, rfl, trivial⟩)); skip)
      | ((with_reducible apply call_con2 ?_ (c7) ?_);(first | (focus exact ⟨rfl, rfl, trivial⟩)); rintro _ _ _ ⟨rfl, rfl, rfl⟩)
      | ((with_reducible apply conN_mk2 ?_ (c5) ?_);(first | (focus exact ⟨rfl, rfl, trivial⟩)); skip)
      | ((with_reducible apply call_con2 ?_ (c5) ?_);(first | (focus exact ⟨rfl, rfl, trivial⟩)); rintro _ _ _ ⟨rfl, rfl, rfl⟩)
      | ((with_reducible apply conN_mk2 ?_ (owned_0_2) ?_);(first | (focus exact ⟨rfl, rfl, trivial⟩)); skip)
      | ((with_reducible apply call_con2 ?_ (owned_0_2) ?_);(first | (focus exact ⟨rfl, rfl, trivial⟩)); rintro _ _ _ ⟨rfl, rfl, rfl⟩)
      | ((with_reducible apply conN_mk2 ?_ (mine_con s k v 0 2) ?_);(first | (focus exact ⟨⟨rfl, rfl, rfl, trivial⟩, rfl, rfl, trivial⟩)); skip)
      | ((with_reducible apply call_con2 ?_ (mine_con s k v 0 2) ?_);(first | (focus exact ⟨⟨rfl, rfl, rfl, trivial⟩, rfl, rfl, trivial⟩)); rintro _ _ _ ⟨rfl, rfl, rfl⟩)
      | ((with_reducible apply conN_mk2 ?_ (rmine_con s k v 0 2) ?_);(first | (focus exact ⟨⟨rfl, rfl, rfl, trivial⟩, rfl, rfl, trivial⟩)); skip)
      | ((with_reducible apply call_con2 ?_ (rmine_con s k v 0 2) ?_);(first | (focus exact ⟨⟨rfl, rfl, rfl, trivial⟩, rfl, rfl, trivial⟩)); rintro _ _ _ ⟨rfl, rfl, rfl⟩)
      | ((with_reducible apply conN_mk2 ?_ (rw_0_2) ?_);(first | (focus exact ⟨rfl, rfl, trivial⟩)); skip)
      | ((with_reducible apply call_con2 ?_ (rw_0_2) ?_);(first | (focus exact ⟨rfl, rfl, trivial⟩)); rintro _ _ _ ⟨rfl, rfl, rfl⟩)
      | ((with_reducible apply conN_mk2 ?_ (rw_1_2) ?_);(first | (focus exact ⟨rfl, rfl, trivial⟩)); skip)
      | ((with_reducible apply call_con2 ?_ (rw_1_2) ?_);(first | (focus exact ⟨rfl, rfl, trivial⟩)); rintro _ _ _ ⟨rfl, rfl, rfl⟩)
      | ((with_reducible apply conN_mk2 ?_ (rw_2_2) ?_);(first | (focus exact ⟨rfl, rfl, trivial⟩)); skip)
      | ((with_reducible apply call_con2 ?_ (rw_2_2) ?_);(first | (focus exact ⟨rfl, rfl, trivial⟩)); rintro _ _ _ ⟨rfl, rfl, rfl⟩)
      | ((with_reducible apply conN_mk2 ?_ (rw_3_2) ?_);(first | (focus exact ⟨rfl, rfl, trivial⟩)); skip)
      | ((with_reducible apply call_con2 ?_ (rw_3_2) ?_);(first | (focus exact ⟨rfl, rfl, trivial⟩)); rintro _ _ _ ⟨rfl, rfl, rfl⟩)
      | ((with_reducible apply conN_mk2 ?_ (rw_4_2) ?_);(first | (focus exact ⟨rfl, rfl, trivial⟩)); skip)
      | ((with_reducible apply call_con2 ?_ (rw_4_2) ?_);(first | (focus exact ⟨rfl, rfl, trivial⟩)); rintro _ _ _ ⟨rfl, rfl, rfl⟩)
      | ((with_reducible apply conN_mk2 ?_ (rw_5_2) ?_);(first | (focus exact ⟨rfl, rfl, trivial⟩)); skip)
      | ((with_reducible apply call_con2 ?_ (rw_5_2) ?_);(first | (focus exact ⟨rfl, rfl, trivial⟩)); rintro _ _ _ ⟨rfl, rfl, rfl⟩)
      | ((with_reducible apply conN_mk2 ?_ (rw_6_2) ?_);(first | (focus exact ⟨rfl, rfl, trivial⟩)); skip)
      | ((with_reducible apply call_con2 ?_ (rw_6_2) ?_);(first | (focus exact ⟨rfl, rfl, trivial⟩)); rintro _ _ _ ⟨rfl, rfl, rfl⟩)
      | ((with_reducible apply conN_mk2 ?_ (rw_7_2) ?_);(first | (focus exact ⟨rfl, rfl, trivial⟩)); skip)
      | ((with_reducible apply call_con2 ?_ (rw_7_2) ?_);(first | (focus exact ⟨rfl, rfl, trivial⟩)); rintro _ _ _ ⟨rfl, rfl, rfl⟩))
    all_goals (try (conv => whnf))
    all_goals try (exfalso; omega)
    all_goals first
      | (refine ⟨⟨1, by omega, by omega, (Wk.stp (l := [0, 1, 2]) ⟨rfl, by decide, rfl, Nat.zero_le _, ⟨rfl, rfl, rfl, rfl, rfl, rfl, trivial⟩, ⟨fun b hb => by cases hb; rfl, fun b hb => by cases hb; rfl, fun b hb => by cases hb; rfl, trivial⟩⟩)⟩⟩)
      | (refine ⟨⟨2, by omega, by omega, (Wk.stp (l := [0, 1, 2]) ⟨rfl, by decide, rfl, Nat.zero_le _, ⟨rfl, rfl, rfl, rfl, rfl, rfl, trivial⟩, ⟨fun b hb => by cases hb; rfl, fun b hb => by cases hb; rfl, fun b hb => by cases hb; rfl, trivial⟩⟩)⟩⟩)
      | (refine ⟨⟨3, by omega, by omega, (Wk.stp (l := [0, 1, 2]) ⟨rfl, by decide, rfl, Nat.zero_le _, ⟨rfl, rfl, rfl, rfl, rfl, rfl, trivial⟩, ⟨fun b hb => by cases hb; rfl, fun b hb => by cases hb; rfl, fun b hb => by cases hb; rfl, trivial⟩⟩)⟩⟩)
      | (refine ⟨⟨4, by omega, by omega, (Wk.stp (l := [0, 1, 2]) ⟨rfl, by decide, rfl, Nat.zero_le _, ⟨rfl, rfl, rfl, rfl, rfl, rfl, trivial⟩, ⟨fun b hb => by cases hb; rfl, fun b hb => by cases hb; rfl, fun b hb => by cases hb; rfl, trivial⟩⟩)⟩⟩)
      | (refine ⟨⟨5, by omega, by omega, (Wk.stp (l := [0, 1, 2]) ⟨rfl, by decide, rfl, Nat.zero_le _, ⟨rfl, rfl, rfl, rfl, rfl, rfl, trivial⟩, ⟨fun b hb => by cases hb; rfl, fun b hb => by cases hb; rfl, fun b hb => by cases hb; rfl, trivial⟩⟩)⟩⟩)
      | (refine ⟨⟨6, by omega, by omega, (Wk.stp (l := [0, 1, 2]) ⟨rfl, by decide, rfl, Nat.zero_le _, ⟨rfl, rfl, rfl, rfl, rfl, rfl, trivial⟩, ⟨fun b hb => by cases hb; rfl, fun b hb => by cases hb; rfl, fun b hb => by cases hb; rfl, trivial⟩⟩)⟩⟩)
      | (refine ⟨⟨7, by omega, by omega, (Wk.stp (l := [0, 1, 2]) ⟨rfl, by decide, rfl, Nat.zero_le _, ⟨rfl, rfl, rfl, rfl, rfl, rfl, trivial⟩, ⟨fun b hb => by cases hb; rfl, fun b hb => by cases hb; rfl, fun b hb => by cases hb; rfl, trivial⟩⟩)⟩⟩)
      | (refine ⟨⟨8, by omega, by omega, (Wk.stp (l := [0, 1, 2]) ⟨rfl, by decide, rfl, Nat.zero_le _, ⟨rfl, rfl, rfl, rfl, rfl, rfl, trivial⟩, ⟨fun b hb => by cases hb; rfl, fun b hb => by cases hb; rfl, fun b hb => by cases hb; rfl, trivial⟩⟩)⟩⟩)
      | (refine ret0 _ rfl _ rfl (fun _ => rfl) rfl ⟨?_, rfl, rfl⟩; (first | rfl | (refine rv_bool ?_; simp; done)))
      | (trace_state; sorry)
  · have c1 := group_con s k v; have c2 := right_con s k v; simp only [if_neg hk, decide_eq_false hk] at c1 c2
    have c3 := owner_con gr 2; rw [if_neg hg, show ownP gr 2 = 0 from if_neg hg] at c3
    unfold okG at hg
    have c5 := rshare_con 0 2; have c6 := share_con 0 2
    simp only [decide_eq_true (show okS 0 2 by decide)] at c5
    refine con_of tabOk 178 Try.f3 _ Try.func3 (by kernel_rfl) rfl rfl rfl rfl (fun W => ?_)
    repeat' ((conv => whnf); first
      | with_reducible refine spB_t ?_
      | ((with_reducible apply spB_cong); (focus (simp only [beq_self_eq_true, bne_self_eq_false, Bool.true_bne, Bool.false_bne, Bool.bne_true, Bool.bne_false, Bool.true_beq, Bool.false_beq, Bool.not_true, Bool.not_false, Bool.not_not, Int.reduceBEq, Int.reduceBNe, Int.reduceLE, Int.reduceLT, Int.reduceEq, decide_true, decide_false]; rfl)))
      | with_reducible refine spB_f ?_
      | with_reducible refine spB_not ?_
      | with_reducible refine spB_yes (by assumption) ?_
      | with_reducible refine spB_no (by assumption) ?_
      | (with_reducible refine spB_dec ?_ ?_ <;> intro _ <;> (try (exfalso; first | contradiction | omega | (rename_i hz; with_reducible exact absurd rfl hz))))
      | (with_reducible refine spB_beq ?_ ?_ <;> intro _ <;> (try (exfalso; first | contradiction | omega | (rename_i hz; with_reducible exact absurd rfl hz))))
      | (with_reducible refine spB_bne ?_ ?_ <;> intro _ <;> (try (exfalso; first | contradiction | omega | (rename_i hz; with_reducible exact absurd rfl hz))))
      | (with_reducible refine spB_mk ?_ ?_ <;> intro _ <;> (try (exfalso; first | contradiction | omega | (rename_i hz; with_reducible exact absurd rfl hz))))
      | ((with_reducible apply rowN_mk); (focus rfl))
      | with_reducible refine wr_i64 (by omega) ?_
      | with_reducible refine wr_u64 (by omega) ?_
      | with_reducible refine wr_u8 (by omega) ?_
      | with_reducible refine wr_u32 (by omega) ?_
      | with_reducible refine wr_mk _ rfl ?_
      | ((with_reducible refine ixN_nat ?_ ?_); (focus (omega)))
      | ((with_reducible refine rowN_map ?_ ?_); (focus (omega)); intro x hx)
      | ((with_reducible refine ixN_mk 0 ?_ ?_ ?_); (focus rfl); (focus decide))
      | ((with_reducible refine ixN_mk 1 ?_ ?_ ?_); (focus rfl); (focus decide))
      | ((with_reducible refine ixN_mk 2 ?_ ?_ ?_); (focus rfl); (focus decide))
      | ((with_reducible refine ixN_mk 3 ?_ ?_ ?_); (focus rfl); (focus decide))
      | ((with_reducible refine ixN_mk 4 ?_ ?_ ?_); (focus rfl); (focus decide))
      | ((with_reducible refine ixN_mk 5 ?_ ?_ ?_); (focus rfl); (focus decide))
      | ((with_reducible refine ixN_mk 6 ?_ ?_ ?_); (focus rfl); (focus decide))
      | ((with_reducible refine ixN_mk 7 ?_ ?_ ?_); (focus rfl); (focus decide))
      | ((with_reducible refine posE_nil (by rfl) ?_))
      | ((with_reducible refine posE_pos (by decide) ?_))
      | with_reducible refine vN_mod (by omega) ?_
      | with_reducible refine vN_mk ?_
      | with_reducible refine nzN_mk (by omega) ?_
      | with_reducible refine eqN_dec (by omega) ?_
      | with_reducible refine draw_rule tabOk mixOk ?_
      | with_reducible refine apN_mk (by kernel_rfl) ?_
      | ((with_reducible apply conN_mk2 ?_ (wakes_con) ?_);(first | (focus exact trivial)); skip)
      | ((with_reducible apply call_con2 ?_ (wakes_con) ?_);(first | (focus exact trivial)); rintro _ _ _ ⟨rfl, rfl, rfl⟩)
      | ((with_reducible apply conN_mk2 ?_ (c1) ?_);(first | (focus exact ⟨⟨rfl, rfl, rfl, trivial⟩, trivial⟩)); skip)
      | ((with_reducible apply call_con2 ?_ (c1) ?_);(first | (focus exact ⟨⟨rfl, rfl, rfl, trivial⟩, trivial⟩)); rintro _ _ _ ⟨rfl, rfl, rfl⟩)
      | ((with_reducible apply conN_mk2 ?_ (c2) ?_);(first | (focus exact ⟨⟨rfl, rfl, rfl, trivial⟩, trivial⟩)); skip)
      | ((with_reducible apply call_con2 ?_ (c2) ?_);(first | (focus exact ⟨⟨rfl, rfl, rfl, trivial⟩, trivial⟩)); rintro _ _ _ ⟨rfl, rfl, rfl⟩)
      | ((with_reducible apply conN_mk2 ?_ (c3) ?_);(first | (focus exact ⟨rfl, rfl, trivial⟩)); skip)
      | ((with_reducible apply call_con2 ?_ (c3) ?_);(first | (focus exact ⟨rfl, rfl, trivial⟩)); rintro _ _ _ ⟨rfl, rfl, rfl⟩)
      | ((with_reducible apply conN_mk2 ?_ (c5) ?_);(first | (focus exact ⟨rfl, rfl, trivial⟩)); skip)
      | ((with_reducible apply call_con2 ?_ (c5) ?_);(first | (focus exact ⟨rfl, rfl, trivial⟩)); rintro _ _ _ ⟨rfl, rfl, rfl⟩)
      | ((with_reducible apply conN_mk2 ?_ (owned_0_2) ?_);(first | (focus exact ⟨rfl, rfl, trivial⟩)); skip)
      | ((with_reducible apply call_con2 ?_ (owned_0_2) ?_);(first | (focus exact ⟨rfl, rfl, trivial⟩)); rintro _ _ _ ⟨rfl, rfl, rfl⟩)
      | ((with_reducible apply conN_mk2 ?_ (mine_con s k v 0 2) ?_);(first | (focus exact ⟨⟨rfl, rfl, rfl, trivial⟩, rfl, rfl, trivial⟩)); skip)
      | ((with_reducible apply call_con2 ?_ (mine_con s k v 0 2) ?_);(first | (focus exact ⟨⟨rfl, rfl, rfl, trivial⟩, rfl, rfl, trivial⟩)); rintro _ _ _ ⟨rfl, rfl, rfl⟩)
      | ((with_reducible apply conN_mk2 ?_ (rmine_con s k v 0 2) ?_);(first | (focus exact ⟨⟨rfl, rfl, rfl, trivial⟩, rfl, rfl, trivial⟩)); skip)
      | ((with_reducible apply call_con2 ?_ (rmine_con s k v 0 2) ?_);(first | (focus exact ⟨⟨rfl, rfl, rfl, trivial⟩, rfl, rfl, trivial⟩)); rintro _ _ _ ⟨rfl, rfl, rfl⟩))
    all_goals (try (conv => whnf))
    all_goals (refine loop_rule tabOk (fun i : Nat => ⟨[(130, .val (.int .i64 (i : Int))), (13, .val (.int .i64 (kc0_2 i))), (12, .c (.osl 2 0 4 none)), (8, .val (.int .i64 0)), (3, .c (.own 0 0 0)), (5, .c (.own 1 0 0))], [(0, some ⟨[[.v (.int .i64 s), .v (.int .i64 k), .v (.int .i64 v)]], 3, 23, true⟩), (1, some ⟨[[.v (.int .i64 0), .v (.int .i64 2)]], 2, 25, true⟩), (2, some ⟨[[.v (.int .i64 0)], [.v (.int .i64 1)], [.v (.int .i64 2)], [.v (.int .i64 3)]], 1, 3, false⟩)], 3⟩) (fun i => i ≤ 8) (fun i => 8 - i) 0 (Nat.zero_le _) (Wk.stp (l := [0, 1, 11]) ⟨rfl, by decide, rfl, Nat.zero_le _, ⟨rfl, rfl, rfl, rfl, rfl, rfl, trivial⟩, ⟨fun b hb => by cases hb; rfl, fun b hb => by cases hb; rfl, fun b hb => by cases hb; rfl, trivial⟩⟩) ?_
               intro i hi
               have hc : i = 0 ∨ i = 1 ∨ i = 2 ∨ i = 3 ∨ i = 4 ∨ i = 5 ∨ i = 6 ∨ i = 7 ∨ i = 8 := by omega
               rcases hc with rfl | rfl | rfl | rfl | rfl | rfl | rfl | rfl | rfl <;> dsimp only [kc0_2])
    repeat' ((conv => whnf); first
      | with_reducible refine spB_t ?_
      | ((with_reducible apply spB_cong); (focus (simp only [beq_self_eq_true, bne_self_eq_false, Bool.true_bne, Bool.false_bne, Bool.bne_true, Bool.bne_false, Bool.true_beq, Bool.false_beq, Bool.not_true, Bool.not_false, Bool.not_not, Int.reduceBEq, Int.reduceBNe, Int.reduceLE, Int.reduceLT, Int.reduceEq, decide_true, decide_false]; rfl)))
      | with_reducible refine spB_f ?_
      | with_reducible refine spB_not ?_
      | with_reducible refine spB_yes (by assumption) ?_
      | with_reducible refine spB_no (by assumption) ?_
      | (with_reducible refine spB_dec ?_ ?_ <;> intro _ <;> (try (exfalso; first | contradiction | omega | (rename_i hz; with_reducible exact absurd rfl hz))))
      | (with_reducible refine spB_beq ?_ ?_ <;> intro _ <;> (try (exfalso; first | contradiction | omega | (rename_i hz; with_reducible exact absurd rfl hz))))
      | (with_reducible refine spB_bne ?_ ?_ <;> intro _ <;> (try (exfalso; first | contradiction | omega | (rename_i hz; with_reducible exact absurd rfl hz))))
      | (with_reducible refine spB_mk ?_ ?_ <;> intro _ <;> (try (exfalso; first | contradiction | omega | (rename_i hz; with_reducible exact absurd rfl hz))))
      | ((with_reducible apply rowN_mk); (focus rfl))
      | with_reducible refine wr_i64 (by omega) ?_
      | with_reducible refine wr_u64 (by omega) ?_
      | with_reducible refine wr_u8 (by omega) ?_
      | with_reducible refine wr_u32 (by omega) ?_
      | with_reducible refine wr_mk _ rfl ?_
      | ((with_reducible refine ixN_nat ?_ ?_); (focus (omega)))
      | ((with_reducible refine rowN_map ?_ ?_); (focus (omega)); intro x hx)
      | ((with_reducible refine ixN_mk 0 ?_ ?_ ?_); (focus rfl); (focus decide))
      | ((with_reducible refine ixN_mk 1 ?_ ?_ ?_); (focus rfl); (focus decide))
      | ((with_reducible refine ixN_mk 2 ?_ ?_ ?_); (focus rfl); (focus decide))
      | ((with_reducible refine ixN_mk 3 ?_ ?_ ?_); (focus rfl); (focus decide))
      | ((with_reducible refine ixN_mk 4 ?_ ?_ ?_); (focus rfl); (focus decide))
      | ((with_reducible refine ixN_mk 5 ?_ ?_ ?_); (focus rfl); (focus decide))
      | ((with_reducible refine ixN_mk 6 ?_ ?_ ?_); (focus rfl); (focus decide))
      | ((with_reducible refine ixN_mk 7 ?_ ?_ ?_); (focus rfl); (focus decide))
      | ((with_reducible refine posE_nil (by rfl) ?_))
      | ((with_reducible refine posE_pos (by decide) ?_))
      | with_reducible refine vN_mod (by omega) ?_
      | with_reducible refine vN_mk ?_
      | with_reducible refine nzN_mk (by omega) ?_
      | with_reducible refine eqN_dec (by omega) ?_
      | with_reducible refine draw_rule tabOk mixOk ?_
      | with_reducible refine apN_mk (by kernel_rfl) ?_
      | ((with_reducible apply conN_mk2 ?_ (wakes_con) ?_);(first | (focus exact trivial)); skip)
      | ((with_reducible apply call_con2 ?_ (wakes_con) ?_);(first | (focus exact trivial)); rintro _ _ _ ⟨rfl, rfl, rfl⟩)
      | ((with_reducible apply conN_mk2 ?_ (c1) ?_);(first | (focus exact ⟨⟨rfl, rfl, rfl, trivial⟩, trivial⟩)); skip)
      | ((with_reducible apply call_con2 ?_ (c1) ?_);(first | (focus exact ⟨⟨rfl, rfl, rfl, trivial⟩, trivial⟩)); rintro _ _ _ ⟨rfl, rfl, rfl⟩)
      | ((with_reducible apply conN_mk2 ?_ (c2) ?_);(first | (focus exact ⟨⟨rfl, rfl, rfl, trivial⟩, trivial⟩)); skip)
      | ((with_reducible apply call_con2 ?_ (c2) ?_);(first | (focus exact ⟨⟨rfl, rfl, rfl, trivial⟩, trivial⟩)); rintro _ _ _ ⟨rfl, rfl, rfl⟩)
      | ((with_reducible apply conN_mk2 ?_ (c3) ?_);(first | (focus exact ⟨rfl, rfl, trivial⟩)); skip)
      | ((with_reducible apply call_con2 ?_ (c3) ?_);(first | (focus exact ⟨rfl, rfl, trivial⟩)); rintro _ _ _ ⟨rfl, rfl, rfl⟩)
      | ((with_reducible apply conN_mk2 ?_ (c5) ?_);(first | (focus exact ⟨rfl, rfl, trivial⟩)); skip)
      | ((with_reducible apply call_con2 ?_ (c5) ?_);(first | (focus exact ⟨rfl, rfl, trivial⟩)); rintro _ _ _ ⟨rfl, rfl, rfl⟩)
      | ((with_reducible apply conN_mk2 ?_ (owned_0_2) ?_);(first | (focus exact ⟨rfl, rfl, trivial⟩)); skip)
      | ((with_reducible apply call_con2 ?_ (owned_0_2) ?_);(first | (focus exact ⟨rfl, rfl, trivial⟩)); rintro _ _ _ ⟨rfl, rfl, rfl⟩)
      | ((with_reducible apply conN_mk2 ?_ (mine_con s k v 0 2) ?_);(first | (focus exact ⟨⟨rfl, rfl, rfl, trivial⟩, rfl, rfl, trivial⟩)); skip)
      | ((with_reducible apply call_con2 ?_ (mine_con s k v 0 2) ?_);(first | (focus exact ⟨⟨rfl, rfl, rfl, trivial⟩, rfl, rfl, trivial⟩)); rintro _ _ _ ⟨rfl, rfl, rfl⟩)
      | ((with_reducible apply conN_mk2 ?_ (rmine_con s k v 0 2) ?_);(first | (focus exact ⟨⟨rfl, rfl, rfl, trivial⟩, rfl, rfl, trivial⟩)); skip)
      | ((with_reducible apply call_con2 ?_ (rmine_con s k v 0 2) ?_);(first | (focus exact ⟨⟨rfl, rfl, rfl, trivial⟩, rfl, rfl, trivial⟩)); rintro _ _ _ ⟨rfl, rfl, rfl⟩)
      | ((with_reducible apply conN_mk2 ?_ (rw_0_2) ?_);(first | (focus exact ⟨rfl, rfl, trivial⟩)); skip)
      | ((with_reducible apply call_con2 ?_ (rw_0_2) ?_);(first | (focus exact ⟨rfl, rfl, trivial⟩)); rintro _ _ _ ⟨rfl, rfl, rfl⟩)
      | ((with_reducible apply conN_mk2 ?_ (rw_1_2) ?_);(first | (focus exact ⟨rfl, rfl, trivial⟩)); skip)
      | ((with_reducible apply call_con2 ?_ (rw_1_2) ?_);(first | (focus exact ⟨rfl, rfl, trivial⟩)); rintro _ _ _ ⟨rfl, rfl, rfl⟩)
      | ((with_reducible apply conN_mk2 ?_ (rw_2_2) ?_);(first | (focus exact ⟨rfl, rfl, trivial⟩)); skip)
      | ((with_reducible apply call_con2 ?_ (rw_2_2) ?_);(first | (focus exact ⟨rfl, rfl, trivial⟩)); rintro _ _ _ ⟨rfl, rfl, rfl⟩)
      | ((with_reducible apply conN_mk2 ?_ (rw_3_2) ?_);(first | (focus exact ⟨rfl, rfl, trivial⟩)); skip)
      | ((with_reducible apply call_con2 ?_ (rw_3_2) ?_);(first | (focus exact ⟨rfl, rfl, trivial⟩)); rintro _ _ _ ⟨rfl, rfl, rfl⟩)
      | ((with_reducible apply conN_mk2 ?_ (rw_4_2) ?_);(first | (focus exact ⟨rfl, rfl, trivial⟩)); skip)
      | ((with_reducible apply call_con2 ?_ (rw_4_2) ?_);(first | (focus exact ⟨rfl, rfl, trivial⟩)); rintro _ _ _ ⟨rfl, rfl, rfl⟩)
      | ((with_reducible apply conN_mk2 ?_ (rw_5_2) ?_);(first | (focus exact ⟨rfl, rfl, trivial⟩)); skip)
      | ((with_reducible apply call_con2 ?_ (rw_5_2) ?_);(first | (focus exact ⟨rfl, rfl, trivial⟩)); rintro _ _ _ ⟨rfl, rfl, rfl⟩)
      | ((with_reducible apply conN_mk2 ?_ (rw_6_2) ?_);(first | (focus exact ⟨rfl, rfl, trivial⟩)); skip)
      | ((with_reducible apply call_con2 ?_ (rw_6_2) ?_);(first | (focus exact ⟨rfl, rfl, trivial⟩)); rintro _ _ _ ⟨rfl, rfl, rfl⟩)
      | ((with_reducible apply conN_mk2 ?_ (rw_7_2) ?_);(first | (focus exact ⟨rfl, rfl, trivial⟩)); skip)
      | ((with_reducible apply call_con2 ?_ (rw_7_2) ?_);(first | (focus exact ⟨rfl, rfl, trivial⟩)); rintro _ _ _ ⟨rfl, rfl, rfl⟩))
    all_goals (try (conv => whnf))
    all_goals try (exfalso; omega)
    all_goals first
      | (refine ⟨⟨1, by omega, by omega, (Wk.stp (l := [0, 1, 2]) ⟨rfl, by decide, rfl, Nat.zero_le _, ⟨rfl, rfl, rfl, rfl, rfl, rfl, trivial⟩, ⟨fun b hb => by cases hb; rfl, fun b hb => by cases hb; rfl, fun b hb => by cases hb; rfl, trivial⟩⟩)⟩⟩)
      | (refine ⟨⟨2, by omega, by omega, (Wk.stp (l := [0, 1, 2]) ⟨rfl, by decide, rfl, Nat.zero_le _, ⟨rfl, rfl, rfl, rfl, rfl, rfl, trivial⟩, ⟨fun b hb => by cases hb; rfl, fun b hb => by cases hb; rfl, fun b hb => by cases hb; rfl, trivial⟩⟩)⟩⟩)
      | (refine ⟨⟨3, by omega, by omega, (Wk.stp (l := [0, 1, 2]) ⟨rfl, by decide, rfl, Nat.zero_le _, ⟨rfl, rfl, rfl, rfl, rfl, rfl, trivial⟩, ⟨fun b hb => by cases hb; rfl, fun b hb => by cases hb; rfl, fun b hb => by cases hb; rfl, trivial⟩⟩)⟩⟩)
      | (refine ⟨⟨4, by omega, by omega, (Wk.stp (l := [0, 1, 2]) ⟨rfl, by decide, rfl, Nat.zero_le _, ⟨rfl, rfl, rfl, rfl, rfl, rfl, trivial⟩, ⟨fun b hb => by cases hb; rfl, fun b hb => by cases hb; rfl, fun b hb => by cases hb; rfl, trivial⟩⟩)⟩⟩)
      | (refine ⟨⟨5, by omega, by omega, (Wk.stp (l := [0, 1, 2]) ⟨rfl, by decide, rfl, Nat.zero_le _, ⟨rfl, rfl, rfl, rfl, rfl, rfl, trivial⟩, ⟨fun b hb => by cases hb; rfl, fun b hb => by cases hb; rfl, fun b hb => by cases hb; rfl, trivial⟩⟩)⟩⟩)
      | (refine ⟨⟨6, by omega, by omega, (Wk.stp (l := [0, 1, 2]) ⟨rfl, by decide, rfl, Nat.zero_le _, ⟨rfl, rfl, rfl, rfl, rfl, rfl, trivial⟩, ⟨fun b hb => by cases hb; rfl, fun b hb => by cases hb; rfl, fun b hb => by cases hb; rfl, trivial⟩⟩)⟩⟩)
      | (refine ⟨⟨7, by omega, by omega, (Wk.stp (l := [0, 1, 2]) ⟨rfl, by decide, rfl, Nat.zero_le _, ⟨rfl, rfl, rfl, rfl, rfl, rfl, trivial⟩, ⟨fun b hb => by cases hb; rfl, fun b hb => by cases hb; rfl, fun b hb => by cases hb; rfl, trivial⟩⟩)⟩⟩)
      | (refine ⟨⟨8, by omega, by omega, (Wk.stp (l := [0, 1, 2]) ⟨rfl, by decide, rfl, Nat.zero_le _, ⟨rfl, rfl, rfl, rfl, rfl, rfl, trivial⟩, ⟨fun b hb => by cases hb; rfl, fun b hb => by cases hb; rfl, fun b hb => by cases hb; rfl, trivial⟩⟩)⟩⟩)
      | (refine ret0 _ rfl _ rfl (fun _ => rfl) rfl ⟨?_, rfl, rfl⟩; (first | rfl | (refine rv_bool ?_; simp; done)))
      | (trace_state; sorry)
end Go.Proofs.Ytnaldcnihekniaa
