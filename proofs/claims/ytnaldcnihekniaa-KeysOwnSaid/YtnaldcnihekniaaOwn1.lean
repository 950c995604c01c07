import Derived.Test.YtnaldcnihekniaaOwn0
namespace Go.Proofs.Ytnaldcnihekniaa
open Go Go.RowKit Wx
set_option linter.unusedVariables false
set_option linter.unusedSimpArgs false
set_option maxHeartbeats 4000000
def ownP (g w : Int) : Int := if (0 ≤ g ∧ g < 8) ∧ 1 ≤ w ∧ w ≤ 3 then (g * w) / 8 else 0
def okS (i w : Int) : Prop := (1 ≤ w ∧ w ≤ 3) ∧ 0 ≤ i ∧ i < w
instance (i w : Int) : Decidable (okS i w) := by unfold okS; infer_instance
def okG (g w : Int) : Prop := (0 ≤ g ∧ g < 8) ∧ 1 ≤ w ∧ w ≤ 3
instance (g w : Int) : Decidable (okG g w) := by unfold okG; infer_instance
theorem owner_bad (g w : Int) (h : ¬ okG g w) : Con Try.prog 11 [.one (.v (.int .i64 g)), .one (.v (.int .i64 w))] (fun rx rK rt => rx = .tup [.one (.v (.int .i64 0)), .one (.v (.int .i64 2))] ∧ rK = [] ∧ rt = 0) := by
  unfold okG at h
  refine con_of tabOk 21 Try.f11 _ Try.func11 (by kernel_rfl) rfl rfl rfl rfl (fun W => ?_)
  repeat' ((conv => whnf); first
    | with_reducible refine spB_t ?_
    | with_reducible refine spB_f ?_
    | with_reducible refine spB_not ?_
    | with_reducible refine spB_yes (by assumption) ?_
    | with_reducible refine spB_no (by assumption) ?_
    | (with_reducible refine spB_dec ?_ ?_ <;> intro _ <;> (try (exfalso; omega)))
    | (with_reducible refine spB_beq ?_ ?_ <;> intro _)
    | (with_reducible refine spB_bne ?_ ?_ <;> intro _)
    | (with_reducible refine spB_mk ?_ ?_ <;> intro _)
    | with_reducible refine wr_i64 (by omega) ?_
    | with_reducible refine wr_u64 (by omega) ?_
    | with_reducible refine wr_u8 (by omega) ?_
    | with_reducible refine wr_u32 (by omega) ?_
    | with_reducible refine wr_mk _ rfl ?_
    | ((with_reducible refine ixN_nat ?_ ?_); (focus (omega)))
    | ((with_reducible refine rowN_map ?_ ?_); (focus (omega)); intro x hx)
    | ((with_reducible refine ixN_mk 0 ?_ ?_ ?_); (focus rfl); (focus decide))
    | ((with_reducible refine ixN_mk 1 ?_ ?_ ?_); (focus rfl); (focus decide))
    | ((with_reducible refine ixN_mk 2 ?_ ?_ ?_); (focus rfl); (focus decide))
    | ((with_reducible refine ixN_mk 3 ?_ ?_ ?_); (focus rfl); (focus decide))
    | ((with_reducible refine ixN_mk 4 ?_ ?_ ?_); (focus rfl); (focus decide))
    | ((with_reducible refine ixN_mk 5 ?_ ?_ ?_); (focus rfl); (focus decide))
    | ((with_reducible refine ixN_mk 6 ?_ ?_ ?_); (focus rfl); (focus decide))
    | ((with_reducible refine ixN_mk 7 ?_ ?_ ?_); (focus rfl); (focus decide))
    | ((with_reducible refine posE_nil (by rfl) ?_))
    | ((with_reducible refine posE_pos (by decide) ?_))
    | with_reducible refine vN_mod (by omega) ?_
    | with_reducible refine vN_mk ?_
    | with_reducible refine nzN_mk (by omega) ?_
    | with_reducible refine eqN_dec (by omega) ?_
    | with_reducible refine draw_rule tabOk mixOk ?_
    | with_reducible refine apN_mk (by kernel_rfl) ?_
    | ((with_reducible apply conN_mk2 ?_ (isw_con _) ?_);(first | (focus exact ⟨rfl, trivial⟩) | (rotate_left 1; (focus exact ⟨rfl, trivial⟩))); skip)
    | ((with_reducible apply call_con2 ?_ (isw_con _) ?_);(first | (focus exact ⟨rfl, trivial⟩) | (rotate_left 1; (focus exact ⟨rfl, trivial⟩))); rintro _ _ _ ⟨rfl, rfl, rfl⟩))
  all_goals (try (conv => whnf))
  all_goals try (exfalso; omega)
  all_goals refine ret0 _ rfl _ rfl (fun _ => rfl) rfl ⟨?_, rfl, rfl⟩
  all_goals rfl
theorem owner_con (g w : Int) : Con Try.prog 11 [.one (.v (.int .i64 g)), .one (.v (.int .i64 w))] (fun rx rK rt => rx = .tup [.one (.v (.int .i64 (ownP g w))), .one (.v (.int .i64 (if okG g w then 0 else 2)))] ∧ rK = [] ∧ rt = 0) := by
  by_cases h : okG g w
  · have h1 : g = 0 ∨ g = 1 ∨ g = 2 ∨ g = 3 ∨ g = 4 ∨ g = 5 ∨ g = 6 ∨ g = 7 := by unfold okG at h; omega
    have h2 : w = 1 ∨ w = 2 ∨ w = 3 := by unfold okG at h; omega
    rcases h2 with rfl | rfl | rfl <;> rcases h1 with rfl | rfl | rfl | rfl | rfl | rfl | rfl | rfl
    · exact ow_0_1
    · exact ow_1_1
    · exact ow_2_1
    · exact ow_3_1
    · exact ow_4_1
    · exact ow_5_1
    · exact ow_6_1
    · exact ow_7_1
    · exact ow_0_2
    · exact ow_1_2
    · exact ow_2_2
    · exact ow_3_2
    · exact ow_4_2
    · exact ow_5_2
    · exact ow_6_2
    · exact ow_7_2
    · exact ow_0_3
    · exact ow_1_3
    · exact ow_2_3
    · exact ow_3_3
    · exact ow_4_3
    · exact ow_5_3
    · exact ow_6_3
    · exact ow_7_3
  · have := owner_bad g w h
    rw [if_neg h]
    rw [show ownP g w = 0 from if_neg h]
    exact this
theorem rowner_con (g w : Int) (h : okG g w) : Con Try.prog 12 [.one (.v (.int .i64 g)), .one (.v (.int .i64 w))] (fun rx rK rt => rx = .val (.int .i64 (ownP g w)) ∧ rK = [] ∧ rt = 0) := by
  have h1 : g = 0 ∨ g = 1 ∨ g = 2 ∨ g = 3 ∨ g = 4 ∨ g = 5 ∨ g = 6 ∨ g = 7 := by unfold okG at h; omega
  have h2 : w = 1 ∨ w = 2 ∨ w = 3 := by unfold okG at h; omega
  rcases h2 with rfl | rfl | rfl <;> rcases h1 with rfl | rfl | rfl | rfl | rfl | rfl | rfl | rfl
  · exact rw_0_1
  · exact rw_1_1
  · exact rw_2_1
  · exact rw_3_1
  · exact rw_4_1
  · exact rw_5_1
  · exact rw_6_1
  · exact rw_7_1
  · exact rw_0_2
  · exact rw_1_2
  · exact rw_2_2
  · exact rw_3_2
  · exact rw_4_2
  · exact rw_5_2
  · exact rw_6_2
  · exact rw_7_2
  · exact rw_0_3
  · exact rw_1_3
  · exact rw_2_3
  · exact rw_3_3
  · exact rw_4_3
  · exact rw_5_3
  · exact rw_6_3
  · exact rw_7_3
theorem rshare_con (i w : Int)  : Con Try.prog 14 [.one (.v (.int .i64 i)), .one (.v (.int .i64 w))] (fun rx rK rt => rx = .val (.bool (decide (okS i w))) ∧ rK = [] ∧ rt = 0) := by
  refine con_of tabOk 20 Try.f14 _ Try.func14 (by kernel_rfl) rfl rfl rfl rfl (fun W => ?_)
  repeat' ((conv => whnf); first
    | with_reducible refine spB_t ?_
    | with_reducible refine spB_f ?_
    | with_reducible refine spB_not ?_
    | with_reducible refine spB_yes (by assumption) ?_
    | with_reducible refine spB_no (by assumption) ?_
    | (with_reducible refine spB_dec ?_ ?_ <;> intro _ <;> (try (exfalso; omega)))
    | (with_reducible refine spB_beq ?_ ?_ <;> intro _)
    | (with_reducible refine spB_bne ?_ ?_ <;> intro _)
    | (with_reducible refine spB_mk ?_ ?_ <;> intro _)
    | with_reducible refine wr_i64 (by omega) ?_
    | with_reducible refine wr_u64 (by omega) ?_
    | with_reducible refine wr_u8 (by omega) ?_
    | with_reducible refine wr_u32 (by omega) ?_
    | with_reducible refine wr_mk _ rfl ?_
    | ((with_reducible refine ixN_nat ?_ ?_); (focus (omega)))
    | ((with_reducible refine rowN_map ?_ ?_); (focus (omega)); intro x hx)
    | ((with_reducible refine ixN_mk 0 ?_ ?_ ?_); (focus rfl); (focus decide))
    | ((with_reducible refine ixN_mk 1 ?_ ?_ ?_); (focus rfl); (focus decide))
    | ((with_reducible refine ixN_mk 2 ?_ ?_ ?_); (focus rfl); (focus decide))
    | ((with_reducible refine ixN_mk 3 ?_ ?_ ?_); (focus rfl); (focus decide))
    | ((with_reducible refine ixN_mk 4 ?_ ?_ ?_); (focus rfl); (focus decide))
    | ((with_reducible refine ixN_mk 5 ?_ ?_ ?_); (focus rfl); (focus decide))
    | ((with_reducible refine ixN_mk 6 ?_ ?_ ?_); (focus rfl); (focus decide))
    | ((with_reducible refine ixN_mk 7 ?_ ?_ ?_); (focus rfl); (focus decide))
    | ((with_reducible refine posE_nil (by rfl) ?_))
    | ((with_reducible refine posE_pos (by decide) ?_))
    | with_reducible refine vN_mod (by omega) ?_
    | with_reducible refine vN_mk ?_
    | with_reducible refine nzN_mk (by omega) ?_
    | with_reducible refine eqN_dec (by omega) ?_
    | with_reducible refine draw_rule tabOk mixOk ?_
    | with_reducible refine apN_mk (by kernel_rfl) ?_)
  all_goals (try (conv => whnf))
  all_goals refine ret0 _ rfl _ rfl (fun _ => rfl) rfl ⟨?_, rfl, rfl⟩
  all_goals (refine rv_bool ?_; first | (exact bool_t (by unfold okS; omega)) | (exact bool_f (by unfold okS; omega)) | (exact bool_p (by unfold okS; omega)))

theorem owners_1 : Con Try.prog 28 [.one (.v (.int .i64 1))] (fun rx rK rt => rx = .pl (.agg [.v (.int .i64 0), .v (.int .i64 0), .v (.int .i64 0), .v (.int .i64 0), .v (.int .i64 0), .v (.int .i64 0), .v (.int .i64 0), .v (.int .i64 0)]) ∧ rK = [] ∧ rt = 0) := Y.con_eval ftabOk tabOk mixOk 40 12 (by kernel_rfl) (by rfl) (by kernel_rfl)
theorem owners_2 : Con Try.prog 28 [.one (.v (.int .i64 2))] (fun rx rK rt => rx = .pl (.agg [.v (.int .i64 0), .v (.int .i64 0), .v (.int .i64 0), .v (.int .i64 0), .v (.int .i64 1), .v (.int .i64 1), .v (.int .i64 1), .v (.int .i64 1)]) ∧ rK = [] ∧ rt = 0) := Y.con_eval ftabOk tabOk mixOk 40 12 (by kernel_rfl) (by rfl) (by kernel_rfl)
theorem owners_3 : Con Try.prog 28 [.one (.v (.int .i64 3))] (fun rx rK rt => rx = .pl (.agg [.v (.int .i64 0), .v (.int .i64 0), .v (.int .i64 0), .v (.int .i64 1), .v (.int .i64 1), .v (.int .i64 1), .v (.int .i64 2), .v (.int .i64 2)]) ∧ rK = [] ∧ rt = 0) := Y.con_eval ftabOk tabOk mixOk 40 12 (by kernel_rfl) (by rfl) (by kernel_rfl)
theorem kgroup_0 (s k v : Int) (h : 0 ≤ k) (hj : k % 8 = 0) : Con Try.prog 26 [.agg [.v (.int .i64 s), .v (.int .i64 k), .v (.int .i64 v)]] (fun rx rK rt => rx = .val (.int .i64 0) ∧ rK = [] ∧ rt = 0) := by
  refine con_of tabOk 6 Try.f26 _ Try.func26 (by kernel_rfl) rfl rfl rfl rfl (fun W => ?_)
  repeat' ((conv => whnf); first
    | with_reducible refine spB_t ?_
    | with_reducible refine spB_f ?_
    | with_reducible refine spB_not ?_
    | with_reducible refine spB_yes (by assumption) ?_
    | with_reducible refine spB_no (by assumption) ?_
    | (with_reducible refine spB_dec ?_ ?_ <;> intro _ <;> (try (exfalso; omega)))
    | (with_reducible refine spB_beq ?_ ?_ <;> intro _)
    | (with_reducible refine spB_bne ?_ ?_ <;> intro _)
    | (with_reducible refine spB_mk ?_ ?_ <;> intro _)
    | with_reducible refine wr_i64 (by omega) ?_
    | with_reducible refine wr_u64 (by omega) ?_
    | with_reducible refine wr_u8 (by omega) ?_
    | with_reducible refine wr_u32 (by omega) ?_
    | with_reducible refine wr_mk _ rfl ?_
    | ((with_reducible refine ixN_nat ?_ ?_); (focus (omega)))
    | ((with_reducible refine rowN_map ?_ ?_); (focus (omega)); intro x hx)
    | ((with_reducible refine ixN_mk 0 ?_ ?_ ?_); (focus rfl); (focus decide))
    | ((with_reducible refine ixN_mk 1 ?_ ?_ ?_); (focus rfl); (focus decide))
    | ((with_reducible refine ixN_mk 2 ?_ ?_ ?_); (focus rfl); (focus decide))
    | ((with_reducible refine ixN_mk 3 ?_ ?_ ?_); (focus rfl); (focus decide))
    | ((with_reducible refine ixN_mk 4 ?_ ?_ ?_); (focus rfl); (focus decide))
    | ((with_reducible refine ixN_mk 5 ?_ ?_ ?_); (focus rfl); (focus decide))
    | ((with_reducible refine ixN_mk 6 ?_ ?_ ?_); (focus rfl); (focus decide))
    | ((with_reducible refine ixN_mk 7 ?_ ?_ ?_); (focus rfl); (focus decide))
    | ((with_reducible refine posE_nil (by rfl) ?_))
    | ((with_reducible refine posE_pos (by decide) ?_))
    | with_reducible refine vN_mod (by omega) ?_
    | with_reducible refine vN_mk ?_
    | with_reducible refine nzN_mk (by omega) ?_
    | with_reducible refine eqN_dec (by omega) ?_
    | with_reducible refine draw_rule tabOk mixOk ?_
    | with_reducible refine apN_mk (by kernel_rfl) ?_)
  all_goals (try (conv => whnf))
  all_goals refine ret0 _ rfl _ rfl (fun _ => rfl) rfl ⟨?_, rfl, rfl⟩
  all_goals (refine rv_int ?_; omega)

theorem kgroup_1 (s k v : Int) (h : 0 ≤ k) (hj : k % 8 = 1) : Con Try.prog 26 [.agg [.v (.int .i64 s), .v (.int .i64 k), .v (.int .i64 v)]] (fun rx rK rt => rx = .val (.int .i64 1) ∧ rK = [] ∧ rt = 0) := by
  refine con_of tabOk 6 Try.f26 _ Try.func26 (by kernel_rfl) rfl rfl rfl rfl (fun W => ?_)
  repeat' ((conv => whnf); first
    | with_reducible refine spB_t ?_
    | with_reducible refine spB_f ?_
    | with_reducible refine spB_not ?_
    | with_reducible refine spB_yes (by assumption) ?_
    | with_reducible refine spB_no (by assumption) ?_
    | (with_reducible refine spB_dec ?_ ?_ <;> intro _ <;> (try (exfalso; omega)))
    | (with_reducible refine spB_beq ?_ ?_ <;> intro _)
    | (with_reducible refine spB_bne ?_ ?_ <;> intro _)
    | (with_reducible refine spB_mk ?_ ?_ <;> intro _)
    | with_reducible refine wr_i64 (by omega) ?_
    | with_reducible refine wr_u64 (by omega) ?_
    | with_reducible refine wr_u8 (by omega) ?_
    | with_reducible refine wr_u32 (by omega) ?_
    | with_reducible refine wr_mk _ rfl ?_
    | ((with_reducible refine ixN_nat ?_ ?_); (focus (omega)))
    | ((with_reducible refine rowN_map ?_ ?_); (focus (omega)); intro x hx)
    | ((with_reducible refine ixN_mk 0 ?_ ?_ ?_); (focus rfl); (focus decide))
    | ((with_reducible refine ixN_mk 1 ?_ ?_ ?_); (focus rfl); (focus decide))
    | ((with_reducible refine ixN_mk 2 ?_ ?_ ?_); (focus rfl); (focus decide))
    | ((with_reducible refine ixN_mk 3 ?_ ?_ ?_); (focus rfl); (focus decide))
    | ((with_reducible refine ixN_mk 4 ?_ ?_ ?_); (focus rfl); (focus decide))
    | ((with_reducible refine ixN_mk 5 ?_ ?_ ?_); (focus rfl); (focus decide))
    | ((with_reducible refine ixN_mk 6 ?_ ?_ ?_); (focus rfl); (focus decide))
    | ((with_reducible refine ixN_mk 7 ?_ ?_ ?_); (focus rfl); (focus decide))
    | ((with_reducible refine posE_nil (by rfl) ?_))
    | ((with_reducible refine posE_pos (by decide) ?_))
    | with_reducible refine vN_mod (by omega) ?_
    | with_reducible refine vN_mk ?_
    | with_reducible refine nzN_mk (by omega) ?_
    | with_reducible refine eqN_dec (by omega) ?_
    | with_reducible refine draw_rule tabOk mixOk ?_
    | with_reducible refine apN_mk (by kernel_rfl) ?_)
  all_goals (try (conv => whnf))
  all_goals refine ret0 _ rfl _ rfl (fun _ => rfl) rfl ⟨?_, rfl, rfl⟩
  all_goals (refine rv_int ?_; omega)

theorem kgroup_2 (s k v : Int) (h : 0 ≤ k) (hj : k % 8 = 2) : Con Try.prog 26 [.agg [.v (.int .i64 s), .v (.int .i64 k), .v (.int .i64 v)]] (fun rx rK rt => rx = .val (.int .i64 2) ∧ rK = [] ∧ rt = 0) := by
  refine con_of tabOk 6 Try.f26 _ Try.func26 (by kernel_rfl) rfl rfl rfl rfl (fun W => ?_)
  repeat' ((conv => whnf); first
    | with_reducible refine spB_t ?_
    | with_reducible refine spB_f ?_
    | with_reducible refine spB_not ?_
    | with_reducible refine spB_yes (by assumption) ?_
    | with_reducible refine spB_no (by assumption) ?_
    | (with_reducible refine spB_dec ?_ ?_ <;> intro _ <;> (try (exfalso; omega)))
    | (with_reducible refine spB_beq ?_ ?_ <;> intro _)
    | (with_reducible refine spB_bne ?_ ?_ <;> intro _)
    | (with_reducible refine spB_mk ?_ ?_ <;> intro _)
    | with_reducible refine wr_i64 (by omega) ?_
    | with_reducible refine wr_u64 (by omega) ?_
    | with_reducible refine wr_u8 (by omega) ?_
    | with_reducible refine wr_u32 (by omega) ?_
    | with_reducible refine wr_mk _ rfl ?_
    | ((with_reducible refine ixN_nat ?_ ?_); (focus (omega)))
    | ((with_reducible refine rowN_map ?_ ?_); (focus (omega)); intro x hx)
    | ((with_reducible refine ixN_mk 0 ?_ ?_ ?_); (focus rfl); (focus decide))
    | ((with_reducible refine ixN_mk 1 ?_ ?_ ?_); (focus rfl); (focus decide))
    | ((with_reducible refine ixN_mk 2 ?_ ?_ ?_); (focus rfl); (focus decide))
    | ((with_reducible refine ixN_mk 3 ?_ ?_ ?_); (focus rfl); (focus decide))
    | ((with_reducible refine ixN_mk 4 ?_ ?_ ?_); (focus rfl); (focus decide))
    | ((with_reducible refine ixN_mk 5 ?_ ?_ ?_); (focus rfl); (focus decide))
    | ((with_reducible refine ixN_mk 6 ?_ ?_ ?_); (focus rfl); (focus decide))
    | ((with_reducible refine ixN_mk 7 ?_ ?_ ?_); (focus rfl); (focus decide))
    | ((with_reducible refine posE_nil (by rfl) ?_))
    | ((with_reducible refine posE_pos (by decide) ?_))
    | with_reducible refine vN_mod (by omega) ?_
    | with_reducible refine vN_mk ?_
    | with_reducible refine nzN_mk (by omega) ?_
    | with_reducible refine eqN_dec (by omega) ?_
    | with_reducible refine draw_rule tabOk mixOk ?_
    | with_reducible refine apN_mk (by kernel_rfl) ?_)
  all_goals (try (conv => whnf))
  all_goals refine ret0 _ rfl _ rfl (fun _ => rfl) rfl ⟨?_, rfl, rfl⟩
  all_goals (refine rv_int ?_; omega)

theorem kgroup_3 (s k v : Int) (h : 0 ≤ k) (hj : k % 8 = 3) : Con Try.prog 26 [.agg [.v (.int .i64 s), .v (.int .i64 k), .v (.int .i64 v)]] (fun rx rK rt => rx = .val (.int .i64 3) ∧ rK = [] ∧ rt = 0) := by
  refine con_of tabOk 6 Try.f26 _ Try.func26 (by kernel_rfl) rfl rfl rfl rfl (fun W => ?_)
  repeat' ((conv => whnf); first
    | with_reducible refine spB_t ?_
    | with_reducible refine spB_f ?_
    | with_reducible refine spB_not ?_
    | with_reducible refine spB_yes (by assumption) ?_
    | with_reducible refine spB_no (by assumption) ?_
    | (with_reducible refine spB_dec ?_ ?_ <;> intro _ <;> (try (exfalso; omega)))
    | (with_reducible refine spB_beq ?_ ?_ <;> intro _)
    | (with_reducible refine spB_bne ?_ ?_ <;> intro _)
    | (with_reducible refine spB_mk ?_ ?_ <;> intro _)
    | with_reducible refine wr_i64 (by omega) ?_
    | with_reducible refine wr_u64 (by omega) ?_
    | with_reducible refine wr_u8 (by omega) ?_
    | with_reducible refine wr_u32 (by omega) ?_
    | with_reducible refine wr_mk _ rfl ?_
    | ((with_reducible refine ixN_nat ?_ ?_); (focus (omega)))
    | ((with_reducible refine rowN_map ?_ ?_); (focus (omega)); intro x hx)
    | ((with_reducible refine ixN_mk 0 ?_ ?_ ?_); (focus rfl); (focus decide))
    | ((with_reducible refine ixN_mk 1 ?_ ?_ ?_); (focus rfl); (focus decide))
    | ((with_reducible refine ixN_mk 2 ?_ ?_ ?_); (focus rfl); (focus decide))
    | ((with_reducible refine ixN_mk 3 ?_ ?_ ?_); (focus rfl); (focus decide))
    | ((with_reducible refine ixN_mk 4 ?_ ?_ ?_); (focus rfl); (focus decide))
    | ((with_reducible refine ixN_mk 5 ?_ ?_ ?_); (focus rfl); (focus decide))
    | ((with_reducible refine ixN_mk 6 ?_ ?_ ?_); (focus rfl); (focus decide))
    | ((with_reducible refine ixN_mk 7 ?_ ?_ ?_); (focus rfl); (focus decide))
    | ((with_reducible refine posE_nil (by rfl) ?_))
    | ((with_reducible refine posE_pos (by decide) ?_))
    | with_reducible refine vN_mod (by omega) ?_
    | with_reducible refine vN_mk ?_
    | with_reducible refine nzN_mk (by omega) ?_
    | with_reducible refine eqN_dec (by omega) ?_
    | with_reducible refine draw_rule tabOk mixOk ?_
    | with_reducible refine apN_mk (by kernel_rfl) ?_)
  all_goals (try (conv => whnf))
  all_goals refine ret0 _ rfl _ rfl (fun _ => rfl) rfl ⟨?_, rfl, rfl⟩
  all_goals (refine rv_int ?_; omega)

theorem kgroup_4 (s k v : Int) (h : 0 ≤ k) (hj : k % 8 = 4) : Con Try.prog 26 [.agg [.v (.int .i64 s), .v (.int .i64 k), .v (.int .i64 v)]] (fun rx rK rt => rx = .val (.int .i64 4) ∧ rK = [] ∧ rt = 0) := by
  refine con_of tabOk 6 Try.f26 _ Try.func26 (by kernel_rfl) rfl rfl rfl rfl (fun W => ?_)
  repeat' ((conv => whnf); first
    | with_reducible refine spB_t ?_
    | with_reducible refine spB_f ?_
    | with_reducible refine spB_not ?_
    | with_reducible refine spB_yes (by assumption) ?_
    | with_reducible refine spB_no (by assumption) ?_
    | (with_reducible refine spB_dec ?_ ?_ <;> intro _ <;> (try (exfalso; omega)))
    | (with_reducible refine spB_beq ?_ ?_ <;> intro _)
    | (with_reducible refine spB_bne ?_ ?_ <;> intro _)
    | (with_reducible refine spB_mk ?_ ?_ <;> intro _)
    | with_reducible refine wr_i64 (by omega) ?_
    | with_reducible refine wr_u64 (by omega) ?_
    | with_reducible refine wr_u8 (by omega) ?_
    | with_reducible refine wr_u32 (by omega) ?_
    | with_reducible refine wr_mk _ rfl ?_
    | ((with_reducible refine ixN_nat ?_ ?_); (focus (omega)))
    | ((with_reducible refine rowN_map ?_ ?_); (focus (omega)); intro x hx)
    | ((with_reducible refine ixN_mk 0 ?_ ?_ ?_); (focus rfl); (focus decide))
    | ((with_reducible refine ixN_mk 1 ?_ ?_ ?_); (focus rfl); (focus decide))
    | ((with_reducible refine ixN_mk 2 ?_ ?_ ?_); (focus rfl); (focus decide))
    | ((with_reducible refine ixN_mk 3 ?_ ?_ ?_); (focus rfl); (focus decide))
    | ((with_reducible refine ixN_mk 4 ?_ ?_ ?_); (focus rfl); (focus decide))
    | ((with_reducible refine ixN_mk 5 ?_ ?_ ?_); (focus rfl); (focus decide))
    | ((with_reducible refine ixN_mk 6 ?_ ?_ ?_); (focus rfl); (focus decide))
    | ((with_reducible refine ixN_mk 7 ?_ ?_ ?_); (focus rfl); (focus decide))
    | ((with_reducible refine posE_nil (by rfl) ?_))
    | ((with_reducible refine posE_pos (by decide) ?_))
    | with_reducible refine vN_mod (by omega) ?_
    | with_reducible refine vN_mk ?_
    | with_reducible refine nzN_mk (by omega) ?_
    | with_reducible refine eqN_dec (by omega) ?_
    | with_reducible refine draw_rule tabOk mixOk ?_
    | with_reducible refine apN_mk (by kernel_rfl) ?_)
  all_goals (try (conv => whnf))
  all_goals refine ret0 _ rfl _ rfl (fun _ => rfl) rfl ⟨?_, rfl, rfl⟩
  all_goals (refine rv_int ?_; omega)

theorem kgroup_5 (s k v : Int) (h : 0 ≤ k) (hj : k % 8 = 5) : Con Try.prog 26 [.agg [.v (.int .i64 s), .v (.int .i64 k), .v (.int .i64 v)]] (fun rx rK rt => rx = .val (.int .i64 5) ∧ rK = [] ∧ rt = 0) := by
  refine con_of tabOk 6 Try.f26 _ Try.func26 (by kernel_rfl) rfl rfl rfl rfl (fun W => ?_)
  repeat' ((conv => whnf); first
    | with_reducible refine spB_t ?_
    | with_reducible refine spB_f ?_
    | with_reducible refine spB_not ?_
    | with_reducible refine spB_yes (by assumption) ?_
    | with_reducible refine spB_no (by assumption) ?_
    | (with_reducible refine spB_dec ?_ ?_ <;> intro _ <;> (try (exfalso; omega)))
    | (with_reducible refine spB_beq ?_ ?_ <;> intro _)
    | (with_reducible refine spB_bne ?_ ?_ <;> intro _)
    | (with_reducible refine spB_mk ?_ ?_ <;> intro _)
    | with_reducible refine wr_i64 (by omega) ?_
    | with_reducible refine wr_u64 (by omega) ?_
    | with_reducible refine wr_u8 (by omega) ?_
    | with_reducible refine wr_u32 (by omega) ?_
    | with_reducible refine wr_mk _ rfl ?_
    | ((with_reducible refine ixN_nat ?_ ?_); (focus (omega)))
    | ((with_reducible refine rowN_map ?_ ?_); (focus (omega)); intro x hx)
    | ((with_reducible refine ixN_mk 0 ?_ ?_ ?_); (focus rfl); (focus decide))
    | ((with_reducible refine ixN_mk 1 ?_ ?_ ?_); (focus rfl); (focus decide))
    | ((with_reducible refine ixN_mk 2 ?_ ?_ ?_); (focus rfl); (focus decide))
    | ((with_reducible refine ixN_mk 3 ?_ ?_ ?_); (focus rfl); (focus decide))
    | ((with_reducible refine ixN_mk 4 ?_ ?_ ?_); (focus rfl); (focus decide))
    | ((with_reducible refine ixN_mk 5 ?_ ?_ ?_); (focus rfl); (focus decide))
    | ((with_reducible refine ixN_mk 6 ?_ ?_ ?_); (focus rfl); (focus decide))
    | ((with_reducible refine ixN_mk 7 ?_ ?_ ?_); (focus rfl); (focus decide))
    | ((with_reducible refine posE_nil (by rfl) ?_))
    | ((with_reducible refine posE_pos (by decide) ?_))
    | with_reducible refine vN_mod (by omega) ?_
    | with_reducible refine vN_mk ?_
    | with_reducible refine nzN_mk (by omega) ?_
    | with_reducible refine eqN_dec (by omega) ?_
    | with_reducible refine draw_rule tabOk mixOk ?_
    | with_reducible refine apN_mk (by kernel_rfl) ?_)
  all_goals (try (conv => whnf))
  all_goals refine ret0 _ rfl _ rfl (fun _ => rfl) rfl ⟨?_, rfl, rfl⟩
  all_goals (refine rv_int ?_; omega)

theorem kgroup_6 (s k v : Int) (h : 0 ≤ k) (hj : k % 8 = 6) : Con Try.prog 26 [.agg [.v (.int .i64 s), .v (.int .i64 k), .v (.int .i64 v)]] (fun rx rK rt => rx = .val (.int .i64 6) ∧ rK = [] ∧ rt = 0) := by
  refine con_of tabOk 6 Try.f26 _ Try.func26 (by kernel_rfl) rfl rfl rfl rfl (fun W => ?_)
  repeat' ((conv => whnf); first
    | with_reducible refine spB_t ?_
    | with_reducible refine spB_f ?_
    | with_reducible refine spB_not ?_
    | with_reducible refine spB_yes (by assumption) ?_
    | with_reducible refine spB_no (by assumption) ?_
    | (with_reducible refine spB_dec ?_ ?_ <;> intro _ <;> (try (exfalso; omega)))
    | (with_reducible refine spB_beq ?_ ?_ <;> intro _)
    | (with_reducible refine spB_bne ?_ ?_ <;> intro _)
    | (with_reducible refine spB_mk ?_ ?_ <;> intro _)
    | with_reducible refine wr_i64 (by omega) ?_
    | with_reducible refine wr_u64 (by omega) ?_
    | with_reducible refine wr_u8 (by omega) ?_
    | with_reducible refine wr_u32 (by omega) ?_
    | with_reducible refine wr_mk _ rfl ?_
    | ((with_reducible refine ixN_nat ?_ ?_); (focus (omega)))
    | ((with_reducible refine rowN_map ?_ ?_); (focus (omega)); intro x hx)
    | ((with_reducible refine ixN_mk 0 ?_ ?_ ?_); (focus rfl); (focus decide))
    | ((with_reducible refine ixN_mk 1 ?_ ?_ ?_); (focus rfl); (focus decide))
    | ((with_reducible refine ixN_mk 2 ?_ ?_ ?_); (focus rfl); (focus decide))
    | ((with_reducible refine ixN_mk 3 ?_ ?_ ?_); (focus rfl); (focus decide))
    | ((with_reducible refine ixN_mk 4 ?_ ?_ ?_); (focus rfl); (focus decide))
    | ((with_reducible refine ixN_mk 5 ?_ ?_ ?_); (focus rfl); (focus decide))
    | ((with_reducible refine ixN_mk 6 ?_ ?_ ?_); (focus rfl); (focus decide))
    | ((with_reducible refine ixN_mk 7 ?_ ?_ ?_); (focus rfl); (focus decide))
    | ((with_reducible refine posE_nil (by rfl) ?_))
    | ((with_reducible refine posE_pos (by decide) ?_))
    | with_reducible refine vN_mod (by omega) ?_
    | with_reducible refine vN_mk ?_
    | with_reducible refine nzN_mk (by omega) ?_
    | with_reducible refine eqN_dec (by omega) ?_
    | with_reducible refine draw_rule tabOk mixOk ?_
    | with_reducible refine apN_mk (by kernel_rfl) ?_)
  all_goals (try (conv => whnf))
  all_goals refine ret0 _ rfl _ rfl (fun _ => rfl) rfl ⟨?_, rfl, rfl⟩
  all_goals (refine rv_int ?_; omega)

theorem kgroup_7 (s k v : Int) (h : 0 ≤ k) (hj : k % 8 = 7) : Con Try.prog 26 [.agg [.v (.int .i64 s), .v (.int .i64 k), .v (.int .i64 v)]] (fun rx rK rt => rx = .val (.int .i64 7) ∧ rK = [] ∧ rt = 0) := by
  refine con_of tabOk 6 Try.f26 _ Try.func26 (by kernel_rfl) rfl rfl rfl rfl (fun W => ?_)
  repeat' ((conv => whnf); first
    | with_reducible refine spB_t ?_
    | with_reducible refine spB_f ?_
    | with_reducible refine spB_not ?_
    | with_reducible refine spB_yes (by assumption) ?_
    | with_reducible refine spB_no (by assumption) ?_
    | (with_reducible refine spB_dec ?_ ?_ <;> intro _ <;> (try (exfalso; omega)))
    | (with_reducible refine spB_beq ?_ ?_ <;> intro _)
    | (with_reducible refine spB_bne ?_ ?_ <;> intro _)
    | (with_reducible refine spB_mk ?_ ?_ <;> intro _)
    | with_reducible refine wr_i64 (by omega) ?_
    | with_reducible refine wr_u64 (by omega) ?_
    | with_reducible refine wr_u8 (by omega) ?_
    | with_reducible refine wr_u32 (by omega) ?_
    | with_reducible refine wr_mk _ rfl ?_
    | ((with_reducible refine ixN_nat ?_ ?_); (focus (omega)))
    | ((with_reducible refine rowN_map ?_ ?_); (focus (omega)); intro x hx)
    | ((with_reducible refine ixN_mk 0 ?_ ?_ ?_); (focus rfl); (focus decide))
    | ((with_reducible refine ixN_mk 1 ?_ ?_ ?_); (focus rfl); (focus decide))
    | ((with_reducible refine ixN_mk 2 ?_ ?_ ?_); (focus rfl); (focus decide))
    | ((with_reducible refine ixN_mk 3 ?_ ?_ ?_); (focus rfl); (focus decide))
    | ((with_reducible refine ixN_mk 4 ?_ ?_ ?_); (focus rfl); (focus decide))
    | ((with_reducible refine ixN_mk 5 ?_ ?_ ?_); (focus rfl); (focus decide))
    | ((with_reducible refine ixN_mk 6 ?_ ?_ ?_); (focus rfl); (focus decide))
    | ((with_reducible refine ixN_mk 7 ?_ ?_ ?_); (focus rfl); (focus decide))
    | ((with_reducible refine posE_nil (by rfl) ?_))
    | ((with_reducible refine posE_pos (by decide) ?_))
    | with_reducible refine vN_mod (by omega) ?_
    | with_reducible refine vN_mk ?_
    | with_reducible refine nzN_mk (by omega) ?_
    | with_reducible refine eqN_dec (by omega) ?_
    | with_reducible refine draw_rule tabOk mixOk ?_
    | with_reducible refine apN_mk (by kernel_rfl) ?_)
  all_goals (try (conv => whnf))
  all_goals refine ret0 _ rfl _ rfl (fun _ => rfl) rfl ⟨?_, rfl, rfl⟩
  all_goals (refine rv_int ?_; omega)

end Go.Proofs.Ytnaldcnihekniaa
