import Derived.Test.YtnaldcnihekniaaOwn1
namespace Go.Proofs.Ytnaldcnihekniaa
open Go Go.RowKit Wx
set_option linter.unusedVariables false
set_option linter.unusedSimpArgs false
set_option maxHeartbeats 4000000
theorem mine_rec (s k v i w : Int) (h : ¬ okR s k) : Con Try.prog 15 [.agg [.v (.int .i64 s), .v (.int .i64 k), .v (.int .i64 v)], .one (.v (.int .i64 i)), .one (.v (.int .i64 w))] (fun rx rK rt => rx = .val (.bool false) ∧ rK = [] ∧ rt = 0) := by
  refine con_of tabOk 24 Try.f15 _ Try.func15 (by kernel_rfl) rfl rfl rfl rfl (fun W => ?_)
  repeat' ((conv => whnf); first
    | with_reducible refine spB_t ?_
    | with_reducible refine spB_f ?_
    | with_reducible refine spB_not ?_
    | with_reducible refine spB_yes (by assumption) ?_
    | with_reducible refine spB_no (by assumption) ?_
    | (with_reducible refine spB_dec ?_ ?_ <;> intro _ <;> (try (exfalso; omega)))
    | (with_reducible refine spB_beq ?_ ?_ <;> intro _)
    | (with_reducible refine spB_bne ?_ ?_ <;> intro _)
    | (with_reducible refine spB_mk ?_ ?_ <;> intro _)
    | with_reducible refine wr_i64 (by omega) ?_
    | with_reducible refine wr_u64 (by omega) ?_
    | with_reducible refine wr_u8 (by omega) ?_
    | with_reducible refine wr_u32 (by omega) ?_
    | with_reducible refine wr_mk _ rfl ?_
    | ((with_reducible refine ixN_nat ?_ ?_); (focus (omega)))
    | ((with_reducible refine rowN_map ?_ ?_); (focus (omega)); intro x hx)
    | ((with_reducible refine ixN_mk 0 ?_ ?_ ?_); (focus rfl); (focus decide))
    | ((with_reducible refine ixN_mk 1 ?_ ?_ ?_); (focus rfl); (focus decide))
    | ((with_reducible refine ixN_mk 2 ?_ ?_ ?_); (focus rfl); (focus decide))
    | ((with_reducible refine ixN_mk 3 ?_ ?_ ?_); (focus rfl); (focus decide))
    | ((with_reducible refine ixN_mk 4 ?_ ?_ ?_); (focus rfl); (focus decide))
    | ((with_reducible refine ixN_mk 5 ?_ ?_ ?_); (focus rfl); (focus decide))
    | ((with_reducible refine ixN_mk 6 ?_ ?_ ?_); (focus rfl); (focus decide))
    | ((with_reducible refine ixN_mk 7 ?_ ?_ ?_); (focus rfl); (focus decide))
    | ((with_reducible refine posE_nil (by rfl) ?_))
    | ((with_reducible refine posE_pos (by decide) ?_))
    | with_reducible refine vN_mod (by omega) ?_
    | with_reducible refine vN_mk ?_
    | with_reducible refine nzN_mk (by omega) ?_
    | with_reducible refine eqN_dec (by omega) ?_
    | with_reducible refine draw_rule tabOk mixOk ?_
    | with_reducible refine apN_mk (by kernel_rfl) ?_
    | ((with_reducible apply conN_mk2 ?_ (check_con _ _ _) ?_);(first | (focus exact ⟨⟨rfl, rfl, rfl, trivial⟩, trivial⟩) | (rotate_left 1; (focus exact ⟨⟨rfl, rfl, rfl, trivial⟩, trivial⟩)) | (rotate_left 2; (focus exact ⟨⟨rfl, rfl, rfl, trivial⟩, trivial⟩)) | (rotate_left 3; (focus exact ⟨⟨rfl, rfl, rfl, trivial⟩, trivial⟩))); skip)
    | ((with_reducible apply call_con2 ?_ (check_con _ _ _) ?_);(first | (focus exact ⟨⟨rfl, rfl, rfl, trivial⟩, trivial⟩) | (rotate_left 1; (focus exact ⟨⟨rfl, rfl, rfl, trivial⟩, trivial⟩)) | (rotate_left 2; (focus exact ⟨⟨rfl, rfl, rfl, trivial⟩, trivial⟩)) | (rotate_left 3; (focus exact ⟨⟨rfl, rfl, rfl, trivial⟩, trivial⟩))); rintro _ _ _ ⟨rfl, rfl, rfl⟩)
    | ((with_reducible apply conN_mk2 ?_ (share_con _ _) ?_);(first | (focus exact ⟨rfl, rfl, trivial⟩) | (rotate_left 1; (focus exact ⟨rfl, rfl, trivial⟩)) | (rotate_left 2; (focus exact ⟨rfl, rfl, trivial⟩))); skip)
    | ((with_reducible apply call_con2 ?_ (share_con _ _) ?_);(first | (focus exact ⟨rfl, rfl, trivial⟩) | (rotate_left 1; (focus exact ⟨rfl, rfl, trivial⟩)) | (rotate_left 2; (focus exact ⟨rfl, rfl, trivial⟩))); rintro _ _ _ ⟨rfl, rfl, rfl⟩))
  all_goals (try (conv => whnf))
  all_goals try (exfalso; simp_all; done)
  all_goals refine ret0 _ rfl _ rfl (fun _ => rfl) rfl ⟨?_, rfl, rfl⟩
  all_goals rfl

theorem mine_sh (s k v i w : Int) (h : ¬ okS i w) : Con Try.prog 15 [.agg [.v (.int .i64 s), .v (.int .i64 k), .v (.int .i64 v)], .one (.v (.int .i64 i)), .one (.v (.int .i64 w))] (fun rx rK rt => rx = .val (.bool false) ∧ rK = [] ∧ rt = 0) := by
  refine con_of tabOk 24 Try.f15 _ Try.func15 (by kernel_rfl) rfl rfl rfl rfl (fun W => ?_)
  unfold okS at h
  repeat' ((conv => whnf); first
    | with_reducible refine spB_t ?_
    | with_reducible refine spB_f ?_
    | with_reducible refine spB_not ?_
    | with_reducible refine spB_yes (by assumption) ?_
    | with_reducible refine spB_no (by assumption) ?_
    | (with_reducible refine spB_dec ?_ ?_ <;> intro _ <;> (try (exfalso; omega)))
    | (with_reducible refine spB_beq ?_ ?_ <;> intro _)
    | (with_reducible refine spB_bne ?_ ?_ <;> intro _)
    | (with_reducible refine spB_mk ?_ ?_ <;> intro _)
    | with_reducible refine wr_i64 (by omega) ?_
    | with_reducible refine wr_u64 (by omega) ?_
    | with_reducible refine wr_u8 (by omega) ?_
    | with_reducible refine wr_u32 (by omega) ?_
    | with_reducible refine wr_mk _ rfl ?_
    | ((with_reducible refine ixN_nat ?_ ?_); (focus (omega)))
    | ((with_reducible refine rowN_map ?_ ?_); (focus (omega)); intro x hx)
    | ((with_reducible refine ixN_mk 0 ?_ ?_ ?_); (focus rfl); (focus decide))
    | ((with_reducible refine ixN_mk 1 ?_ ?_ ?_); (focus rfl); (focus decide))
    | ((with_reducible refine ixN_mk 2 ?_ ?_ ?_); (focus rfl); (focus decide))
    | ((with_reducible refine ixN_mk 3 ?_ ?_ ?_); (focus rfl); (focus decide))
    | ((with_reducible refine ixN_mk 4 ?_ ?_ ?_); (focus rfl); (focus decide))
    | ((with_reducible refine ixN_mk 5 ?_ ?_ ?_); (focus rfl); (focus decide))
    | ((with_reducible refine ixN_mk 6 ?_ ?_ ?_); (focus rfl); (focus decide))
    | ((with_reducible refine ixN_mk 7 ?_ ?_ ?_); (focus rfl); (focus decide))
    | ((with_reducible refine posE_nil (by rfl) ?_))
    | ((with_reducible refine posE_pos (by decide) ?_))
    | with_reducible refine vN_mod (by omega) ?_
    | with_reducible refine vN_mk ?_
    | with_reducible refine nzN_mk (by omega) ?_
    | with_reducible refine eqN_dec (by omega) ?_
    | with_reducible refine draw_rule tabOk mixOk ?_
    | with_reducible refine apN_mk (by kernel_rfl) ?_
    | ((with_reducible apply conN_mk2 ?_ (check_con _ _ _) ?_);(first | (focus exact ⟨⟨rfl, rfl, rfl, trivial⟩, trivial⟩) | (rotate_left 1; (focus exact ⟨⟨rfl, rfl, rfl, trivial⟩, trivial⟩)) | (rotate_left 2; (focus exact ⟨⟨rfl, rfl, rfl, trivial⟩, trivial⟩)) | (rotate_left 3; (focus exact ⟨⟨rfl, rfl, rfl, trivial⟩, trivial⟩))); skip)
    | ((with_reducible apply call_con2 ?_ (check_con _ _ _) ?_);(first | (focus exact ⟨⟨rfl, rfl, rfl, trivial⟩, trivial⟩) | (rotate_left 1; (focus exact ⟨⟨rfl, rfl, rfl, trivial⟩, trivial⟩)) | (rotate_left 2; (focus exact ⟨⟨rfl, rfl, rfl, trivial⟩, trivial⟩)) | (rotate_left 3; (focus exact ⟨⟨rfl, rfl, rfl, trivial⟩, trivial⟩))); rintro _ _ _ ⟨rfl, rfl, rfl⟩)
    | ((with_reducible apply conN_mk2 ?_ (share_con _ _) ?_);(first | (focus exact ⟨rfl, rfl, trivial⟩) | (rotate_left 1; (focus exact ⟨rfl, rfl, trivial⟩)) | (rotate_left 2; (focus exact ⟨rfl, rfl, trivial⟩))); skip)
    | ((with_reducible apply call_con2 ?_ (share_con _ _) ?_);(first | (focus exact ⟨rfl, rfl, trivial⟩) | (rotate_left 1; (focus exact ⟨rfl, rfl, trivial⟩)) | (rotate_left 2; (focus exact ⟨rfl, rfl, trivial⟩))); rintro _ _ _ ⟨rfl, rfl, rfl⟩))
  all_goals (try (conv => whnf))
  all_goals try (exfalso; omega)
  all_goals refine ret0 _ rfl _ rfl (fun _ => rfl) rfl ⟨?_, rfl, rfl⟩
  all_goals rfl

theorem mine_1_0 (s k v i : Int) (hr : okR s k) (hi : 0 ≤ i ∧ i < 1) (hj : k % 8 = 0) : Con Try.prog 15 [.agg [.v (.int .i64 s), .v (.int .i64 k), .v (.int .i64 v)], .one (.v (.int .i64 i)), .one (.v (.int .i64 1))] (fun rx rK rt => rx = .val (.bool (decide (0 = i))) ∧ rK = [] ∧ rt = 0) := by
  refine con_of tabOk 24 Try.f15 _ Try.func15 (by kernel_rfl) rfl rfl rfl rfl (fun W => ?_)
  have hk : 0 ≤ k := hr.2.1
  repeat' ((conv => whnf); first
    | with_reducible refine spB_t ?_
    | with_reducible refine spB_f ?_
    | with_reducible refine spB_not ?_
    | with_reducible refine spB_yes (by assumption) ?_
    | with_reducible refine spB_no (by assumption) ?_
    | (with_reducible refine spB_dec ?_ ?_ <;> intro _ <;> (try (exfalso; omega)))
    | (with_reducible refine spB_beq ?_ ?_ <;> intro _)
    | (with_reducible refine spB_bne ?_ ?_ <;> intro _)
    | (with_reducible refine spB_mk ?_ ?_ <;> intro _)
    | with_reducible refine wr_i64 (by omega) ?_
    | with_reducible refine wr_u64 (by omega) ?_
    | with_reducible refine wr_u8 (by omega) ?_
    | with_reducible refine wr_u32 (by omega) ?_
    | with_reducible refine wr_mk _ rfl ?_
    | ((with_reducible refine ixN_nat ?_ ?_); (focus (omega)))
    | ((with_reducible refine rowN_map ?_ ?_); (focus (omega)); intro x hx)
    | ((with_reducible refine ixN_mk 0 ?_ ?_ ?_); (focus rfl); (focus decide))
    | ((with_reducible refine ixN_mk 1 ?_ ?_ ?_); (focus rfl); (focus decide))
    | ((with_reducible refine ixN_mk 2 ?_ ?_ ?_); (focus rfl); (focus decide))
    | ((with_reducible refine ixN_mk 3 ?_ ?_ ?_); (focus rfl); (focus decide))
    | ((with_reducible refine ixN_mk 4 ?_ ?_ ?_); (focus rfl); (focus decide))
    | ((with_reducible refine ixN_mk 5 ?_ ?_ ?_); (focus rfl); (focus decide))
    | ((with_reducible refine ixN_mk 6 ?_ ?_ ?_); (focus rfl); (focus decide))
    | ((with_reducible refine ixN_mk 7 ?_ ?_ ?_); (focus rfl); (focus decide))
    | ((with_reducible refine posE_nil (by rfl) ?_))
    | ((with_reducible refine posE_pos (by decide) ?_))
    | with_reducible refine vN_mod (by omega) ?_
    | with_reducible refine vN_mk ?_
    | with_reducible refine nzN_mk (by omega) ?_
    | with_reducible refine eqN_dec (by omega) ?_
    | with_reducible refine draw_rule tabOk mixOk ?_
    | with_reducible refine apN_mk (by kernel_rfl) ?_
    | ((with_reducible apply conN_mk2 ?_ (check_con _ _ _) ?_);(first | (focus exact ⟨⟨rfl, rfl, rfl, trivial⟩, trivial⟩) | (rotate_left 1; (focus exact ⟨⟨rfl, rfl, rfl, trivial⟩, trivial⟩)) | (rotate_left 2; (focus exact ⟨⟨rfl, rfl, rfl, trivial⟩, trivial⟩)) | (rotate_left 3; (focus exact ⟨⟨rfl, rfl, rfl, trivial⟩, trivial⟩))); skip)
    | ((with_reducible apply call_con2 ?_ (check_con _ _ _) ?_);(first | (focus exact ⟨⟨rfl, rfl, rfl, trivial⟩, trivial⟩) | (rotate_left 1; (focus exact ⟨⟨rfl, rfl, rfl, trivial⟩, trivial⟩)) | (rotate_left 2; (focus exact ⟨⟨rfl, rfl, rfl, trivial⟩, trivial⟩)) | (rotate_left 3; (focus exact ⟨⟨rfl, rfl, rfl, trivial⟩, trivial⟩))); rintro _ _ _ ⟨rfl, rfl, rfl⟩)
    | ((with_reducible apply conN_mk2 ?_ (share_con _ _) ?_);(first | (focus exact ⟨rfl, rfl, trivial⟩) | (rotate_left 1; (focus exact ⟨rfl, rfl, trivial⟩)) | (rotate_left 2; (focus exact ⟨rfl, rfl, trivial⟩))); skip)
    | ((with_reducible apply call_con2 ?_ (share_con _ _) ?_);(first | (focus exact ⟨rfl, rfl, trivial⟩) | (rotate_left 1; (focus exact ⟨rfl, rfl, trivial⟩)) | (rotate_left 2; (focus exact ⟨rfl, rfl, trivial⟩))); rintro _ _ _ ⟨rfl, rfl, rfl⟩)
    | ((with_reducible apply conN_mk2 ?_ (owners_1) ?_);(first | (focus exact ⟨rfl, trivial⟩)); skip)
    | ((with_reducible apply call_con2 ?_ (owners_1) ?_);(first | (focus exact ⟨rfl, trivial⟩)); rintro _ _ _ ⟨rfl, rfl, rfl⟩)
    | ((with_reducible apply conN_mk2 ?_ (kgroup_0 _ _ _ hk hj) ?_);(first | (focus exact ⟨⟨rfl, rfl, rfl, trivial⟩, trivial⟩) | (rotate_left 1; (focus exact ⟨⟨rfl, rfl, rfl, trivial⟩, trivial⟩)) | (rotate_left 2; (focus exact ⟨⟨rfl, rfl, rfl, trivial⟩, trivial⟩)) | (rotate_left 3; (focus exact ⟨⟨rfl, rfl, rfl, trivial⟩, trivial⟩))); skip)
    | ((with_reducible apply call_con2 ?_ (kgroup_0 _ _ _ hk hj) ?_);(first | (focus exact ⟨⟨rfl, rfl, rfl, trivial⟩, trivial⟩) | (rotate_left 1; (focus exact ⟨⟨rfl, rfl, rfl, trivial⟩, trivial⟩)) | (rotate_left 2; (focus exact ⟨⟨rfl, rfl, rfl, trivial⟩, trivial⟩)) | (rotate_left 3; (focus exact ⟨⟨rfl, rfl, rfl, trivial⟩, trivial⟩))); rintro _ _ _ ⟨rfl, rfl, rfl⟩))
  all_goals (try (conv => whnf))
  all_goals try (exfalso; first | omega | (simp_all; done))
  all_goals refine ret0 _ rfl _ rfl (fun _ => rfl) rfl ⟨?_, rfl, rfl⟩
  all_goals (refine rv_bool ?_; first | rfl | (exact bool_p (by omega)) | (simp; omega) | (simp [eq_comm]))

theorem mine_1_1 (s k v i : Int) (hr : okR s k) (hi : 0 ≤ i ∧ i < 1) (hj : k % 8 = 1) : Con Try.prog 15 [.agg [.v (.int .i64 s), .v (.int .i64 k), .v (.int .i64 v)], .one (.v (.int .i64 i)), .one (.v (.int .i64 1))] (fun rx rK rt => rx = .val (.bool (decide (0 = i))) ∧ rK = [] ∧ rt = 0) := by
  refine con_of tabOk 24 Try.f15 _ Try.func15 (by kernel_rfl) rfl rfl rfl rfl (fun W => ?_)
  have hk : 0 ≤ k := hr.2.1
  repeat' ((conv => whnf); first
    | with_reducible refine spB_t ?_
    | with_reducible refine spB_f ?_
    | with_reducible refine spB_not ?_
    | with_reducible refine spB_yes (by assumption) ?_
    | with_reducible refine spB_no (by assumption) ?_
    | (with_reducible refine spB_dec ?_ ?_ <;> intro _ <;> (try (exfalso; omega)))
    | (with_reducible refine spB_beq ?_ ?_ <;> intro _)
    | (with_reducible refine spB_bne ?_ ?_ <;> intro _)
    | (with_reducible refine spB_mk ?_ ?_ <;> intro _)
    | with_reducible refine wr_i64 (by omega) ?_
    | with_reducible refine wr_u64 (by omega) ?_
    | with_reducible refine wr_u8 (by omega) ?_
    | with_reducible refine wr_u32 (by omega) ?_
    | with_reducible refine wr_mk _ rfl ?_
    | ((with_reducible refine ixN_nat ?_ ?_); (focus (omega)))
    | ((with_reducible refine rowN_map ?_ ?_); (focus (omega)); intro x hx)
    | ((with_reducible refine ixN_mk 0 ?_ ?_ ?_); (focus rfl); (focus decide))
    | ((with_reducible refine ixN_mk 1 ?_ ?_ ?_); (focus rfl); (focus decide))
    | ((with_reducible refine ixN_mk 2 ?_ ?_ ?_); (focus rfl); (focus decide))
    | ((with_reducible refine ixN_mk 3 ?_ ?_ ?_); (focus rfl); (focus decide))
    | ((with_reducible refine ixN_mk 4 ?_ ?_ ?_); (focus rfl); (focus decide))
    | ((with_reducible refine ixN_mk 5 ?_ ?_ ?_); (focus rfl); (focus decide))
    | ((with_reducible refine ixN_mk 6 ?_ ?_ ?_); (focus rfl); (focus decide))
    | ((with_reducible refine ixN_mk 7 ?_ ?_ ?_); (focus rfl); (focus decide))
    | ((with_reducible refine posE_nil (by rfl) ?_))
    | ((with_reducible refine posE_pos (by decide) ?_))
    | with_reducible refine vN_mod (by omega) ?_
    | with_reducible refine vN_mk ?_
    | with_reducible refine nzN_mk (by omega) ?_
    | with_reducible refine eqN_dec (by omega) ?_
    | with_reducible refine draw_rule tabOk mixOk ?_
    | with_reducible refine apN_mk (by kernel_rfl) ?_
    | ((with_reducible apply conN_mk2 ?_ (check_con _ _ _) ?_);(first | (focus exact ⟨⟨rfl, rfl, rfl, trivial⟩, trivial⟩) | (rotate_left 1; (focus exact ⟨⟨rfl, rfl, rfl, trivial⟩, trivial⟩)) | (rotate_left 2; (focus exact ⟨⟨rfl, rfl, rfl, trivial⟩, trivial⟩)) | (rotate_left 3; (focus exact ⟨⟨rfl, rfl, rfl, trivial⟩, trivial⟩))); skip)
    | ((with_reducible apply call_con2 ?_ (check_con _ _ _) ?_);(first | (focus exact ⟨⟨rfl, rfl, rfl, trivial⟩, trivial⟩) | (rotate_left 1; (focus exact ⟨⟨rfl, rfl, rfl, trivial⟩, trivial⟩)) | (rotate_left 2; (focus exact ⟨⟨rfl, rfl, rfl, trivial⟩, trivial⟩)) | (rotate_left 3; (focus exact ⟨⟨rfl, rfl, rfl, trivial⟩, trivial⟩))); rintro _ _ _ ⟨rfl, rfl, rfl⟩)
    | ((with_reducible apply conN_mk2 ?_ (share_con _ _) ?_);(first | (focus exact ⟨rfl, rfl, trivial⟩) | (rotate_left 1; (focus exact ⟨rfl, rfl, trivial⟩)) | (rotate_left 2; (focus exact ⟨rfl, rfl, trivial⟩))); skip)
    | ((with_reducible apply call_con2 ?_ (share_con _ _) ?_);(first | (focus exact ⟨rfl, rfl, trivial⟩) | (rotate_left 1; (focus exact ⟨rfl, rfl, trivial⟩)) | (rotate_left 2; (focus exact ⟨rfl, rfl, trivial⟩))); rintro _ _ _ ⟨rfl, rfl, rfl⟩)
    | ((with_reducible apply conN_mk2 ?_ (owners_1) ?_);(first | (focus exact ⟨rfl, trivial⟩)); skip)
    | ((with_reducible apply call_con2 ?_ (owners_1) ?_);(first | (focus exact ⟨rfl, trivial⟩)); rintro _ _ _ ⟨rfl, rfl, rfl⟩)
    | ((with_reducible apply conN_mk2 ?_ (kgroup_1 _ _ _ hk hj) ?_);(first | (focus exact ⟨⟨rfl, rfl, rfl, trivial⟩, trivial⟩) | (rotate_left 1; (focus exact ⟨⟨rfl, rfl, rfl, trivial⟩, trivial⟩)) | (rotate_left 2; (focus exact ⟨⟨rfl, rfl, rfl, trivial⟩, trivial⟩)) | (rotate_left 3; (focus exact ⟨⟨rfl, rfl, rfl, trivial⟩, trivial⟩))); skip)
    | ((with_reducible apply call_con2 ?_ (kgroup_1 _ _ _ hk hj) ?_);(first | (focus exact ⟨⟨rfl, rfl, rfl, trivial⟩, trivial⟩) | (rotate_left 1; (focus exact ⟨⟨rfl, rfl, rfl, trivial⟩, trivial⟩)) | (rotate_left 2; (focus exact ⟨⟨rfl, rfl, rfl, trivial⟩, trivial⟩)) | (rotate_left 3; (focus exact ⟨⟨rfl, rfl, rfl, trivial⟩, trivial⟩))); rintro _ _ _ ⟨rfl, rfl, rfl⟩))
  all_goals (try (conv => whnf))
  all_goals try (exfalso; first | omega | (simp_all; done))
  all_goals refine ret0 _ rfl _ rfl (fun _ => rfl) rfl ⟨?_, rfl, rfl⟩
  all_goals (refine rv_bool ?_; first | rfl | (exact bool_p (by omega)) | (simp; omega) | (simp [eq_comm]))

theorem mine_1_2 (s k v i : Int) (hr : okR s k) (hi : 0 ≤ i ∧ i < 1) (hj : k % 8 = 2) : Con Try.prog 15 [.agg [.v (.int .i64 s), .v (.int .i64 k), .v (.int .i64 v)], .one (.v (.int .i64 i)), .one (.v (.int .i64 1))] (fun rx rK rt => rx = .val (.bool (decide (0 = i))) ∧ rK = [] ∧ rt = 0) := by
  refine con_of tabOk 24 Try.f15 _ Try.func15 (by kernel_rfl) rfl rfl rfl rfl (fun W => ?_)
  have hk : 0 ≤ k := hr.2.1
  repeat' ((conv => whnf); first
    | with_reducible refine spB_t ?_
    | with_reducible refine spB_f ?_
    | with_reducible refine spB_not ?_
    | with_reducible refine spB_yes (by assumption) ?_
    | with_reducible refine spB_no (by assumption) ?_
    | (with_reducible refine spB_dec ?_ ?_ <;> intro _ <;> (try (exfalso; omega)))
    | (with_reducible refine spB_beq ?_ ?_ <;> intro _)
    | (with_reducible refine spB_bne ?_ ?_ <;> intro _)
    | (with_reducible refine spB_mk ?_ ?_ <;> intro _)
    | with_reducible refine wr_i64 (by omega) ?_
    | with_reducible refine wr_u64 (by omega) ?_
    | with_reducible refine wr_u8 (by omega) ?_
    | with_reducible refine wr_u32 (by omega) ?_
    | with_reducible refine wr_mk _ rfl ?_
    | ((with_reducible refine ixN_nat ?_ ?_); (focus (omega)))
    | ((with_reducible refine rowN_map ?_ ?_); (focus (omega)); intro x hx)
    | ((with_reducible refine ixN_mk 0 ?_ ?_ ?_); (focus rfl); (focus decide))
    | ((with_reducible refine ixN_mk 1 ?_ ?_ ?_); (focus rfl); (focus decide))
    | ((with_reducible refine ixN_mk 2 ?_ ?_ ?_); (focus rfl); (focus decide))
    | ((with_reducible refine ixN_mk 3 ?_ ?_ ?_); (focus rfl); (focus decide))
    | ((with_reducible refine ixN_mk 4 ?_ ?_ ?_); (focus rfl); (focus decide))
    | ((with_reducible refine ixN_mk 5 ?_ ?_ ?_); (focus rfl); (focus decide))
    | ((with_reducible refine ixN_mk 6 ?_ ?_ ?_); (focus rfl); (focus decide))
    | ((with_reducible refine ixN_mk 7 ?_ ?_ ?_); (focus rfl); (focus decide))
    | ((with_reducible refine posE_nil (by rfl) ?_))
    | ((with_reducible refine posE_pos (by decide) ?_))
    | with_reducible refine vN_mod (by omega) ?_
    | with_reducible refine vN_mk ?_
    | with_reducible refine nzN_mk (by omega) ?_
    | with_reducible refine eqN_dec (by omega) ?_
    | with_reducible refine draw_rule tabOk mixOk ?_
    | with_reducible refine apN_mk (by kernel_rfl) ?_
    | ((with_reducible apply conN_mk2 ?_ (check_con _ _ _) ?_);(first | (focus exact ⟨⟨rfl, rfl, rfl, trivial⟩, trivial⟩) | (rotate_left 1; (focus exact ⟨⟨rfl, rfl, rfl, trivial⟩, trivial⟩)) | (rotate_left 2; (focus exact ⟨⟨rfl, rfl, rfl, trivial⟩, trivial⟩)) | (rotate_left 3; (focus exact ⟨⟨rfl, rfl, rfl, trivial⟩, trivial⟩))); skip)
    | ((with_reducible apply call_con2 ?_ (check_con _ _ _) ?_);(first | (focus exact ⟨⟨rfl, rfl, rfl, trivial⟩, trivial⟩) | (rotate_left 1; (focus exact ⟨⟨rfl, rfl, rfl, trivial⟩, trivial⟩)) | (rotate_left 2; (focus exact ⟨⟨rfl, rfl, rfl, trivial⟩, trivial⟩)) | (rotate_left 3; (focus exact ⟨⟨rfl, rfl, rfl, trivial⟩, trivial⟩))); rintro _ _ _ ⟨rfl, rfl, rfl⟩)
    | ((with_reducible apply conN_mk2 ?_ (share_con _ _) ?_);(first | (focus exact ⟨rfl, rfl, trivial⟩) | (rotate_left 1; (focus exact ⟨rfl, rfl, trivial⟩)) | (rotate_left 2; (focus exact ⟨rfl, rfl, trivial⟩))); skip)
    | ((with_reducible apply call_con2 ?_ (share_con _ _) ?_);(first | (focus exact ⟨rfl, rfl, trivial⟩) | (rotate_left 1; (focus exact ⟨rfl, rfl, trivial⟩)) | (rotate_left 2; (focus exact ⟨rfl, rfl, trivial⟩))); rintro _ _ _ ⟨rfl, rfl, rfl⟩)
    | ((with_reducible apply conN_mk2 ?_ (owners_1) ?_);(first | (focus exact ⟨rfl, trivial⟩)); skip)
    | ((with_reducible apply call_con2 ?_ (owners_1) ?_);(first | (focus exact ⟨rfl, trivial⟩)); rintro _ _ _ ⟨rfl, rfl, rfl⟩)
    | ((with_reducible apply conN_mk2 ?_ (kgroup_2 _ _ _ hk hj) ?_);(first | (focus exact ⟨⟨rfl, rfl, rfl, trivial⟩, trivial⟩) | (rotate_left 1; (focus exact ⟨⟨rfl, rfl, rfl, trivial⟩, trivial⟩)) | (rotate_left 2; (focus exact ⟨⟨rfl, rfl, rfl, trivial⟩, trivial⟩)) | (rotate_left 3; (focus exact ⟨⟨rfl, rfl, rfl, trivial⟩, trivial⟩))); skip)
    | ((with_reducible apply call_con2 ?_ (kgroup_2 _ _ _ hk hj) ?_);(first | (focus exact ⟨⟨rfl, rfl, rfl, trivial⟩, trivial⟩) | (rotate_left 1; (focus exact ⟨⟨rfl, rfl, rfl, trivial⟩, trivial⟩)) | (rotate_left 2; (focus exact ⟨⟨rfl, rfl, rfl, trivial⟩, trivial⟩)) | (rotate_left 3; (focus exact ⟨⟨rfl, rfl, rfl, trivial⟩, trivial⟩))); rintro _ _ _ ⟨rfl, rfl, rfl⟩))
  all_goals (try (conv => whnf))
  all_goals try (exfalso; first | omega | (simp_all; done))
  all_goals refine ret0 _ rfl _ rfl (fun _ => rfl) rfl ⟨?_, rfl, rfl⟩
  all_goals (refine rv_bool ?_; first | rfl | (exact bool_p (by omega)) | (simp; omega) | (simp [eq_comm]))

theorem mine_1_3 (s k v i : Int) (hr : okR s k) (hi : 0 ≤ i ∧ i < 1) (hj : k % 8 = 3) : Con Try.prog 15 [.agg [.v (.int .i64 s), .v (.int .i64 k), .v (.int .i64 v)], .one (.v (.int .i64 i)), .one (.v (.int .i64 1))] (fun rx rK rt => rx = .val (.bool (decide (0 = i))) ∧ rK = [] ∧ rt = 0) := by
  refine con_of tabOk 24 Try.f15 _ Try.func15 (by kernel_rfl) rfl rfl rfl rfl (fun W => ?_)
  have hk : 0 ≤ k := hr.2.1
  repeat' ((conv => whnf); first
    | with_reducible refine spB_t ?_
    | with_reducible refine spB_f ?_
    | with_reducible refine spB_not ?_
    | with_reducible refine spB_yes (by assumption) ?_
    | with_reducible refine spB_no (by assumption) ?_
    | (with_reducible refine spB_dec ?_ ?_ <;> intro _ <;> (try (exfalso; omega)))
    | (with_reducible refine spB_beq ?_ ?_ <;> intro _)
    | (with_reducible refine spB_bne ?_ ?_ <;> intro _)
    | (with_reducible refine spB_mk ?_ ?_ <;> intro _)
    | with_reducible refine wr_i64 (by omega) ?_
    | with_reducible refine wr_u64 (by omega) ?_
    | with_reducible refine wr_u8 (by omega) ?_
    | with_reducible refine wr_u32 (by omega) ?_
    | with_reducible refine wr_mk _ rfl ?_
    | ((with_reducible refine ixN_nat ?_ ?_); (focus (omega)))
    | ((with_reducible refine rowN_map ?_ ?_); (focus (omega)); intro x hx)
    | ((with_reducible refine ixN_mk 0 ?_ ?_ ?_); (focus rfl); (focus decide))
    | ((with_reducible refine ixN_mk 1 ?_ ?_ ?_); (focus rfl); (focus decide))
    | ((with_reducible refine ixN_mk 2 ?_ ?_ ?_); (focus rfl); (focus decide))
    | ((with_reducible refine ixN_mk 3 ?_ ?_ ?_); (focus rfl); (focus decide))
    | ((with_reducible refine ixN_mk 4 ?_ ?_ ?_); (focus rfl); (focus decide))
    | ((with_reducible refine ixN_mk 5 ?_ ?_ ?_); (focus rfl); (focus decide))
    | ((with_reducible refine ixN_mk 6 ?_ ?_ ?_); (focus rfl); (focus decide))
    | ((with_reducible refine ixN_mk 7 ?_ ?_ ?_); (focus rfl); (focus decide))
    | ((with_reducible refine posE_nil (by rfl) ?_))
    | ((with_reducible refine posE_pos (by decide) ?_))
    | with_reducible refine vN_mod (by omega) ?_
    | with_reducible refine vN_mk ?_
    | with_reducible refine nzN_mk (by omega) ?_
    | with_reducible refine eqN_dec (by omega) ?_
    | with_reducible refine draw_rule tabOk mixOk ?_
    | with_reducible refine apN_mk (by kernel_rfl) ?_
    | ((with_reducible apply conN_mk2 ?_ (check_con _ _ _) ?_);(first | (focus exact ⟨⟨rfl, rfl, rfl, trivial⟩, trivial⟩) | (rotate_left 1; (focus exact ⟨⟨rfl, rfl, rfl, trivial⟩, trivial⟩)) | (rotate_left 2; (focus exact ⟨⟨rfl, rfl, rfl, trivial⟩, trivial⟩)) | (rotate_left 3; (focus exact ⟨⟨rfl, rfl, rfl, trivial⟩, trivial⟩))); skip)
    | ((with_reducible apply call_con2 ?_ (check_con _ _ _) ?_);(first | (focus exact ⟨⟨rfl, rfl, rfl, trivial⟩, trivial⟩) | (rotate_left 1; (focus exact ⟨⟨rfl, rfl, rfl, trivial⟩, trivial⟩)) | (rotate_left 2; (focus exact ⟨⟨rfl, rfl, rfl, trivial⟩, trivial⟩)) | (rotate_left 3; (focus exact ⟨⟨rfl, rfl, rfl, trivial⟩, trivial⟩))); rintro _ _ _ ⟨rfl, rfl, rfl⟩)
    | ((with_reducible apply conN_mk2 ?_ (share_con _ _) ?_);(first | (focus exact ⟨rfl, rfl, trivial⟩) | (rotate_left 1; (focus exact ⟨rfl, rfl, trivial⟩)) | (rotate_left 2; (focus exact ⟨rfl, rfl, trivial⟩))); skip)
    | ((with_reducible apply call_con2 ?_ (share_con _ _) ?_);(first | (focus exact ⟨rfl, rfl, trivial⟩) | (rotate_left 1; (focus exact ⟨rfl, rfl, trivial⟩)) | (rotate_left 2; (focus exact ⟨rfl, rfl, trivial⟩))); rintro _ _ _ ⟨rfl, rfl, rfl⟩)
    | ((with_reducible apply conN_mk2 ?_ (owners_1) ?_);(first | (focus exact ⟨rfl, trivial⟩)); skip)
    | ((with_reducible apply call_con2 ?_ (owners_1) ?_);(first | (focus exact ⟨rfl, trivial⟩)); rintro _ _ _ ⟨rfl, rfl, rfl⟩)
    | ((with_reducible apply conN_mk2 ?_ (kgroup_3 _ _ _ hk hj) ?_);(first | (focus exact ⟨⟨rfl, rfl, rfl, trivial⟩, trivial⟩) | (rotate_left 1; (focus exact ⟨⟨rfl, rfl, rfl, trivial⟩, trivial⟩)) | (rotate_left 2; (focus exact ⟨⟨rfl, rfl, rfl, trivial⟩, trivial⟩)) | (rotate_left 3; (focus exact ⟨⟨rfl, rfl, rfl, trivial⟩, trivial⟩))); skip)
    | ((with_reducible apply call_con2 ?_ (kgroup_3 _ _ _ hk hj) ?_);(first | (focus exact ⟨⟨rfl, rfl, rfl, trivial⟩, trivial⟩) | (rotate_left 1; (focus exact ⟨⟨rfl, rfl, rfl, trivial⟩, trivial⟩)) | (rotate_left 2; (focus exact ⟨⟨rfl, rfl, rfl, trivial⟩, trivial⟩)) | (rotate_left 3; (focus exact ⟨⟨rfl, rfl, rfl, trivial⟩, trivial⟩))); rintro _ _ _ ⟨rfl, rfl, rfl⟩))
  all_goals (try (conv => whnf))
  all_goals try (exfalso; first | omega | (simp_all; done))
  all_goals refine ret0 _ rfl _ rfl (fun _ => rfl) rfl ⟨?_, rfl, rfl⟩
  all_goals (refine rv_bool ?_; first | rfl | (exact bool_p (by omega)) | (simp; omega) | (simp [eq_comm]))

theorem mine_1_4 (s k v i : Int) (hr : okR s k) (hi : 0 ≤ i ∧ i < 1) (hj : k % 8 = 4) : Con Try.prog 15 [.agg [.v (.int .i64 s), .v (.int .i64 k), .v (.int .i64 v)], .one (.v (.int .i64 i)), .one (.v (.int .i64 1))] (fun rx rK rt => rx = .val (.bool (decide (0 = i))) ∧ rK = [] ∧ rt = 0) := by
  refine con_of tabOk 24 Try.f15 _ Try.func15 (by kernel_rfl) rfl rfl rfl rfl (fun W => ?_)
  have hk : 0 ≤ k := hr.2.1
  repeat' ((conv => whnf); first
    | with_reducible refine spB_t ?_
    | with_reducible refine spB_f ?_
    | with_reducible refine spB_not ?_
    | with_reducible refine spB_yes (by assumption) ?_
    | with_reducible refine spB_no (by assumption) ?_
    | (with_reducible refine spB_dec ?_ ?_ <;> intro _ <;> (try (exfalso; omega)))
    | (with_reducible refine spB_beq ?_ ?_ <;> intro _)
    | (with_reducible refine spB_bne ?_ ?_ <;> intro _)
    | (with_reducible refine spB_mk ?_ ?_ <;> intro _)
    | with_reducible refine wr_i64 (by omega) ?_
    | with_reducible refine wr_u64 (by omega) ?_
    | with_reducible refine wr_u8 (by omega) ?_
    | with_reducible refine wr_u32 (by omega) ?_
    | with_reducible refine wr_mk _ rfl ?_
    | ((with_reducible refine ixN_nat ?_ ?_); (focus (omega)))
    | ((with_reducible refine rowN_map ?_ ?_); (focus (omega)); intro x hx)
    | ((with_reducible refine ixN_mk 0 ?_ ?_ ?_); (focus rfl); (focus decide))
    | ((with_reducible refine ixN_mk 1 ?_ ?_ ?_); (focus rfl); (focus decide))
    | ((with_reducible refine ixN_mk 2 ?_ ?_ ?_); (focus rfl); (focus decide))
    | ((with_reducible refine ixN_mk 3 ?_ ?_ ?_); (focus rfl); (focus decide))
    | ((with_reducible refine ixN_mk 4 ?_ ?_ ?_); (focus rfl); (focus decide))
    | ((with_reducible refine ixN_mk 5 ?_ ?_ ?_); (focus rfl); (focus decide))
    | ((with_reducible refine ixN_mk 6 ?_ ?_ ?_); (focus rfl); (focus decide))
    | ((with_reducible refine ixN_mk 7 ?_ ?_ ?_); (focus rfl); (focus decide))
    | ((with_reducible refine posE_nil (by rfl) ?_))
    | ((with_reducible refine posE_pos (by decide) ?_))
    | with_reducible refine vN_mod (by omega) ?_
    | with_reducible refine vN_mk ?_
    | with_reducible refine nzN_mk (by omega) ?_
    | with_reducible refine eqN_dec (by omega) ?_
    | with_reducible refine draw_rule tabOk mixOk ?_
    | with_reducible refine apN_mk (by kernel_rfl) ?_
    | ((with_reducible apply conN_mk2 ?_ (check_con _ _ _) ?_);(first | (focus exact ⟨⟨rfl, rfl, rfl, trivial⟩, trivial⟩) | (rotate_left 1; (focus exact ⟨⟨rfl, rfl, rfl, trivial⟩, trivial⟩)) | (rotate_left 2; (focus exact ⟨⟨rfl, rfl, rfl, trivial⟩, trivial⟩)) | (rotate_left 3; (focus exact ⟨⟨rfl, rfl, rfl, trivial⟩, trivial⟩))); skip)
    | ((with_reducible apply call_con2 ?_ (check_con _ _ _) ?_);(first | (focus exact ⟨⟨rfl, rfl, rfl, trivial⟩, trivial⟩) | (rotate_left 1; (focus exact ⟨⟨rfl, rfl, rfl, trivial⟩, trivial⟩)) | (rotate_left 2; (focus exact ⟨⟨rfl, rfl, rfl, trivial⟩, trivial⟩)) | (rotate_left 3; (focus exact ⟨⟨rfl, rfl, rfl, trivial⟩, trivial⟩))); rintro _ _ _ ⟨rfl, rfl, rfl⟩)
    | ((with_reducible apply conN_mk2 ?_ (share_con _ _) ?_);(first | (focus exact ⟨rfl, rfl, trivial⟩) | (rotate_left 1; (focus exact ⟨rfl, rfl, trivial⟩)) | (rotate_left 2; (focus exact ⟨rfl, rfl, trivial⟩))); skip)
    | ((with_reducible apply call_con2 ?_ (share_con _ _) ?_);(first | (focus exact ⟨rfl, rfl, trivial⟩) | (rotate_left 1; (focus exact ⟨rfl, rfl, trivial⟩)) | (rotate_left 2; (focus exact ⟨rfl, rfl, trivial⟩))); rintro _ _ _ ⟨rfl, rfl, rfl⟩)
    | ((with_reducible apply conN_mk2 ?_ (owners_1) ?_);(first | (focus exact ⟨rfl, trivial⟩)); skip)
    | ((with_reducible apply call_con2 ?_ (owners_1) ?_);(first | (focus exact ⟨rfl, trivial⟩)); rintro _ _ _ ⟨rfl, rfl, rfl⟩)
    | ((with_reducible apply conN_mk2 ?_ (kgroup_4 _ _ _ hk hj) ?_);(first | (focus exact ⟨⟨rfl, rfl, rfl, trivial⟩, trivial⟩) | (rotate_left 1; (focus exact ⟨⟨rfl, rfl, rfl, trivial⟩, trivial⟩)) | (rotate_left 2; (focus exact ⟨⟨rfl, rfl, rfl, trivial⟩, trivial⟩)) | (rotate_left 3; (focus exact ⟨⟨rfl, rfl, rfl, trivial⟩, trivial⟩))); skip)
    | ((with_reducible apply call_con2 ?_ (kgroup_4 _ _ _ hk hj) ?_);(first | (focus exact ⟨⟨rfl, rfl, rfl, trivial⟩, trivial⟩) | (rotate_left 1; (focus exact ⟨⟨rfl, rfl, rfl, trivial⟩, trivial⟩)) | (rotate_left 2; (focus exact ⟨⟨rfl, rfl, rfl, trivial⟩, trivial⟩)) | (rotate_left 3; (focus exact ⟨⟨rfl, rfl, rfl, trivial⟩, trivial⟩))); rintro _ _ _ ⟨rfl, rfl, rfl⟩))
  all_goals (try (conv => whnf))
  all_goals try (exfalso; first | omega | (simp_all; done))
  all_goals refine ret0 _ rfl _ rfl (fun _ => rfl) rfl ⟨?_, rfl, rfl⟩
  all_goals (refine rv_bool ?_; first | rfl | (exact bool_p (by omega)) | (simp; omega) | (simp [eq_comm]))

theorem mine_1_5 (s k v i : Int) (hr : okR s k) (hi : 0 ≤ i ∧ i < 1) (hj : k % 8 = 5) : Con Try.prog 15 [.agg [.v (.int .i64 s), .v (.int .i64 k), .v (.int .i64 v)], .one (.v (.int .i64 i)), .one (.v (.int .i64 1))] (fun rx rK rt => rx = .val (.bool (decide (0 = i))) ∧ rK = [] ∧ rt = 0) := by
  refine con_of tabOk 24 Try.f15 _ Try.func15 (by kernel_rfl) rfl rfl rfl rfl (fun W => ?_)
  have hk : 0 ≤ k := hr.2.1
  repeat' ((conv => whnf); first
    | with_reducible refine spB_t ?_
    | with_reducible refine spB_f ?_
    | with_reducible refine spB_not ?_
    | with_reducible refine spB_yes (by assumption) ?_
    | with_reducible refine spB_no (by assumption) ?_
    | (with_reducible refine spB_dec ?_ ?_ <;> intro _ <;> (try (exfalso; omega)))
    | (with_reducible refine spB_beq ?_ ?_ <;> intro _)
    | (with_reducible refine spB_bne ?_ ?_ <;> intro _)
    | (with_reducible refine spB_mk ?_ ?_ <;> intro _)
    | with_reducible refine wr_i64 (by omega) ?_
    | with_reducible refine wr_u64 (by omega) ?_
    | with_reducible refine wr_u8 (by omega) ?_
    | with_reducible refine wr_u32 (by omega) ?_
    | with_reducible refine wr_mk _ rfl ?_
    | ((with_reducible refine ixN_nat ?_ ?_); (focus (omega)))
    | ((with_reducible refine rowN_map ?_ ?_); (focus (omega)); intro x hx)
    | ((with_reducible refine ixN_mk 0 ?_ ?_ ?_); (focus rfl); (focus decide))
    | ((with_reducible refine ixN_mk 1 ?_ ?_ ?_); (focus rfl); (focus decide))
    | ((with_reducible refine ixN_mk 2 ?_ ?_ ?_); (focus rfl); (focus decide))
    | ((with_reducible refine ixN_mk 3 ?_ ?_ ?_); (focus rfl); (focus decide))
    | ((with_reducible refine ixN_mk 4 ?_ ?_ ?_); (focus rfl); (focus decide))
    | ((with_reducible refine ixN_mk 5 ?_ ?_ ?_); (focus rfl); (focus decide))
    | ((with_reducible refine ixN_mk 6 ?_ ?_ ?_); (focus rfl); (focus decide))
    | ((with_reducible refine ixN_mk 7 ?_ ?_ ?_); (focus rfl); (focus decide))
    | ((with_reducible refine posE_nil (by rfl) ?_))
    | ((with_reducible refine posE_pos (by decide) ?_))
    | with_reducible refine vN_mod (by omega) ?_
    | with_reducible refine vN_mk ?_
    | with_reducible refine nzN_mk (by omega) ?_
    | with_reducible refine eqN_dec (by omega) ?_
    | with_reducible refine draw_rule tabOk mixOk ?_
    | with_reducible refine apN_mk (by kernel_rfl) ?_
    | ((with_reducible apply conN_mk2 ?_ (check_con _ _ _) ?_);(first | (focus exact ⟨⟨rfl, rfl, rfl, trivial⟩, trivial⟩) | (rotate_left 1; (focus exact ⟨⟨rfl, rfl, rfl, trivial⟩, trivial⟩)) | (rotate_left 2; (focus exact ⟨⟨rfl, rfl, rfl, trivial⟩, trivial⟩)) | (rotate_left 3; (focus exact ⟨⟨rfl, rfl, rfl, trivial⟩, trivial⟩))); skip)
    | ((with_reducible apply call_con2 ?_ (check_con _ _ _) ?_);(first | (focus exact ⟨⟨rfl, rfl, rfl, trivial⟩, trivial⟩) | (rotate_left 1; (focus exact ⟨⟨rfl, rfl, rfl, trivial⟩, trivial⟩)) | (rotate_left 2; (focus exact ⟨⟨rfl, rfl, rfl, trivial⟩, trivial⟩)) | (rotate_left 3; (focus exact ⟨⟨rfl, rfl, rfl, trivial⟩, trivial⟩))); rintro _ _ _ ⟨rfl, rfl, rfl⟩)
    | ((with_reducible apply conN_mk2 ?_ (share_con _ _) ?_);(first | (focus exact ⟨rfl, rfl, trivial⟩) | (rotate_left 1; (focus exact ⟨rfl, rfl, trivial⟩)) | (rotate_left 2; (focus exact ⟨rfl, rfl, trivial⟩))); skip)
    | ((with_reducible apply call_con2 ?_ (share_con _ _) ?_);(first | (focus exact ⟨rfl, rfl, trivial⟩) | (rotate_left 1; (focus exact ⟨rfl, rfl, trivial⟩)) | (rotate_left 2; (focus exact ⟨rfl, rfl, trivial⟩))); rintro _ _ _ ⟨rfl, rfl, rfl⟩)
    | ((with_reducible apply conN_mk2 ?_ (owners_1) ?_);(first | (focus exact ⟨rfl, trivial⟩)); skip)
    | ((with_reducible apply call_con2 ?_ (owners_1) ?_);(first | (focus exact ⟨rfl, trivial⟩)); rintro _ _ _ ⟨rfl, rfl, rfl⟩)
    | ((with_reducible apply conN_mk2 ?_ (kgroup_5 _ _ _ hk hj) ?_);(first | (focus exact ⟨⟨rfl, rfl, rfl, trivial⟩, trivial⟩) | (rotate_left 1; (focus exact ⟨⟨rfl, rfl, rfl, trivial⟩, trivial⟩)) | (rotate_left 2; (focus exact ⟨⟨rfl, rfl, rfl, trivial⟩, trivial⟩)) | (rotate_left 3; (focus exact ⟨⟨rfl, rfl, rfl, trivial⟩, trivial⟩))); skip)
    | ((with_reducible apply call_con2 ?_ (kgroup_5 _ _ _ hk hj) ?_);(first | (focus exact ⟨⟨rfl, rfl, rfl, trivial⟩, trivial⟩) | (rotate_left 1; (focus exact ⟨⟨rfl, rfl, rfl, trivial⟩, trivial⟩)) | (rotate_left 2; (focus exact ⟨⟨rfl, rfl, rfl, trivial⟩, trivial⟩)) | (rotate_left 3; (focus exact ⟨⟨rfl, rfl, rfl, trivial⟩, trivial⟩))); rintro _ _ _ ⟨rfl, rfl, rfl⟩))
  all_goals (try (conv => whnf))
  all_goals try (exfalso; first | omega | (simp_all; done))
  all_goals refine ret0 _ rfl _ rfl (fun _ => rfl) rfl ⟨?_, rfl, rfl⟩
  all_goals (refine rv_bool ?_; first | rfl | (exact bool_p (by omega)) | (simp; omega) | (simp [eq_comm]))

theorem mine_1_6 (s k v i : Int) (hr : okR s k) (hi : 0 ≤ i ∧ i < 1) (hj : k % 8 = 6) : Con Try.prog 15 [.agg [.v (.int .i64 s), .v (.int .i64 k), .v (.int .i64 v)], .one (.v (.int .i64 i)), .one (.v (.int .i64 1))] (fun rx rK rt => rx = .val (.bool (decide (0 = i))) ∧ rK = [] ∧ rt = 0) := by
  refine con_of tabOk 24 Try.f15 _ Try.func15 (by kernel_rfl) rfl rfl rfl rfl (fun W => ?_)
  have hk : 0 ≤ k := hr.2.1
  repeat' ((conv => whnf); first
    | with_reducible refine spB_t ?_
    | with_reducible refine spB_f ?_
    | with_reducible refine spB_not ?_
    | with_reducible refine spB_yes (by assumption) ?_
    | with_reducible refine spB_no (by assumption) ?_
    | (with_reducible refine spB_dec ?_ ?_ <;> intro _ <;> (try (exfalso; omega)))
    | (with_reducible refine spB_beq ?_ ?_ <;> intro _)
    | (with_reducible refine spB_bne ?_ ?_ <;> intro _)
    | (with_reducible refine spB_mk ?_ ?_ <;> intro _)
    | with_reducible refine wr_i64 (by omega) ?_
    | with_reducible refine wr_u64 (by omega) ?_
    | with_reducible refine wr_u8 (by omega) ?_
    | with_reducible refine wr_u32 (by omega) ?_
    | with_reducible refine wr_mk _ rfl ?_
    | ((with_reducible refine ixN_nat ?_ ?_); (focus (omega)))
    | ((with_reducible refine rowN_map ?_ ?_); (focus (omega)); intro x hx)
    | ((with_reducible refine ixN_mk 0 ?_ ?_ ?_); (focus rfl); (focus decide))
    | ((with_reducible refine ixN_mk 1 ?_ ?_ ?_); (focus rfl); (focus decide))
    | ((with_reducible refine ixN_mk 2 ?_ ?_ ?_); (focus rfl); (focus decide))
    | ((with_reducible refine ixN_mk 3 ?_ ?_ ?_); (focus rfl); (focus decide))
    | ((with_reducible refine ixN_mk 4 ?_ ?_ ?_); (focus rfl); (focus decide))
    | ((with_reducible refine ixN_mk 5 ?_ ?_ ?_); (focus rfl); (focus decide))
    | ((with_reducible refine ixN_mk 6 ?_ ?_ ?_); (focus rfl); (focus decide))
    | ((with_reducible refine ixN_mk 7 ?_ ?_ ?_); (focus rfl); (focus decide))
    | ((with_reducible refine posE_nil (by rfl) ?_))
    | ((with_reducible refine posE_pos (by decide) ?_))
    | with_reducible refine vN_mod (by omega) ?_
    | with_reducible refine vN_mk ?_
    | with_reducible refine nzN_mk (by omega) ?_
    | with_reducible refine eqN_dec (by omega) ?_
    | with_reducible refine draw_rule tabOk mixOk ?_
    | with_reducible refine apN_mk (by kernel_rfl) ?_
    | ((with_reducible apply conN_mk2 ?_ (check_con _ _ _) ?_);(first | (focus exact ⟨⟨rfl, rfl, rfl, trivial⟩, trivial⟩) | (rotate_left 1; (focus exact ⟨⟨rfl, rfl, rfl, trivial⟩, trivial⟩)) | (rotate_left 2; (focus exact ⟨⟨rfl, rfl, rfl, trivial⟩, trivial⟩)) | (rotate_left 3; (focus exact ⟨⟨rfl, rfl, rfl, trivial⟩, trivial⟩))); skip)
    | ((with_reducible apply call_con2 ?_ (check_con _ _ _) ?_);(first | (focus exact ⟨⟨rfl, rfl, rfl, trivial⟩, trivial⟩) | (rotate_left 1; (focus exact ⟨⟨rfl, rfl, rfl, trivial⟩, trivial⟩)) | (rotate_left 2; (focus exact ⟨⟨rfl, rfl, rfl, trivial⟩, trivial⟩)) | (rotate_left 3; (focus exact ⟨⟨rfl, rfl, rfl, trivial⟩, trivial⟩))); rintro _ _ _ ⟨rfl, rfl, rfl⟩)
    | ((with_reducible apply conN_mk2 ?_ (share_con _ _) ?_);(first | (focus exact ⟨rfl, rfl, trivial⟩) | (rotate_left 1; (focus exact ⟨rfl, rfl, trivial⟩)) | (rotate_left 2; (focus exact ⟨rfl, rfl, trivial⟩))); skip)
    | ((with_reducible apply call_con2 ?_ (share_con _ _) ?_);(first | (focus exact ⟨rfl, rfl, trivial⟩) | (rotate_left 1; (focus exact ⟨rfl, rfl, trivial⟩)) | (rotate_left 2; (focus exact ⟨rfl, rfl, trivial⟩))); rintro _ _ _ ⟨rfl, rfl, rfl⟩)
    | ((with_reducible apply conN_mk2 ?_ (owners_1) ?_);(first | (focus exact ⟨rfl, trivial⟩)); skip)
    | ((with_reducible apply call_con2 ?_ (owners_1) ?_);(first | (focus exact ⟨rfl, trivial⟩)); rintro _ _ _ ⟨rfl, rfl, rfl⟩)
    | ((with_reducible apply conN_mk2 ?_ (kgroup_6 _ _ _ hk hj) ?_);(first | (focus exact ⟨⟨rfl, rfl, rfl, trivial⟩, trivial⟩) | (rotate_left 1; (focus exact ⟨⟨rfl, rfl, rfl, trivial⟩, trivial⟩)) | (rotate_left 2; (focus exact ⟨⟨rfl, rfl, rfl, trivial⟩, trivial⟩)) | (rotate_left 3; (focus exact ⟨⟨rfl, rfl, rfl, trivial⟩, trivial⟩))); skip)
    | ((with_reducible apply call_con2 ?_ (kgroup_6 _ _ _ hk hj) ?_);(first | (focus exact ⟨⟨rfl, rfl, rfl, trivial⟩, trivial⟩) | (rotate_left 1; (focus exact ⟨⟨rfl, rfl, rfl, trivial⟩, trivial⟩)) | (rotate_left 2; (focus exact ⟨⟨rfl, rfl, rfl, trivial⟩, trivial⟩)) | (rotate_left 3; (focus exact ⟨⟨rfl, rfl, rfl, trivial⟩, trivial⟩))); rintro _ _ _ ⟨rfl, rfl, rfl⟩))
  all_goals (try (conv => whnf))
  all_goals try (exfalso; first | omega | (simp_all; done))
  all_goals refine ret0 _ rfl _ rfl (fun _ => rfl) rfl ⟨?_, rfl, rfl⟩
  all_goals (refine rv_bool ?_; first | rfl | (exact bool_p (by omega)) | (simp; omega) | (simp [eq_comm]))

theorem mine_1_7 (s k v i : Int) (hr : okR s k) (hi : 0 ≤ i ∧ i < 1) (hj : k % 8 = 7) : Con Try.prog 15 [.agg [.v (.int .i64 s), .v (.int .i64 k), .v (.int .i64 v)], .one (.v (.int .i64 i)), .one (.v (.int .i64 1))] (fun rx rK rt => rx = .val (.bool (decide (0 = i))) ∧ rK = [] ∧ rt = 0) := by
  refine con_of tabOk 24 Try.f15 _ Try.func15 (by kernel_rfl) rfl rfl rfl rfl (fun W => ?_)
  have hk : 0 ≤ k := hr.2.1
  repeat' ((conv => whnf); first
    | with_reducible refine spB_t ?_
    | with_reducible refine spB_f ?_
    | with_reducible refine spB_not ?_
    | with_reducible refine spB_yes (by assumption) ?_
    | with_reducible refine spB_no (by assumption) ?_
    | (with_reducible refine spB_dec ?_ ?_ <;> intro _ <;> (try (exfalso; omega)))
    | (with_reducible refine spB_beq ?_ ?_ <;> intro _)
    | (with_reducible refine spB_bne ?_ ?_ <;> intro _)
    | (with_reducible refine spB_mk ?_ ?_ <;> intro _)
    | with_reducible refine wr_i64 (by omega) ?_
    | with_reducible refine wr_u64 (by omega) ?_
    | with_reducible refine wr_u8 (by omega) ?_
    | with_reducible refine wr_u32 (by omega) ?_
    | with_reducible refine wr_mk _ rfl ?_
    | ((with_reducible refine ixN_nat ?_ ?_); (focus (omega)))
    | ((with_reducible refine rowN_map ?_ ?_); (focus (omega)); intro x hx)
    | ((with_reducible refine ixN_mk 0 ?_ ?_ ?_); (focus rfl); (focus decide))
    | ((with_reducible refine ixN_mk 1 ?_ ?_ ?_); (focus rfl); (focus decide))
    | ((with_reducible refine ixN_mk 2 ?_ ?_ ?_); (focus rfl); (focus decide))
    | ((with_reducible refine ixN_mk 3 ?_ ?_ ?_); (focus rfl); (focus decide))
    | ((with_reducible refine ixN_mk 4 ?_ ?_ ?_); (focus rfl); (focus decide))
    | ((with_reducible refine ixN_mk 5 ?_ ?_ ?_); (focus rfl); (focus decide))
    | ((with_reducible refine ixN_mk 6 ?_ ?_ ?_); (focus rfl); (focus decide))
    | ((with_reducible refine ixN_mk 7 ?_ ?_ ?_); (focus rfl); (focus decide))
    | ((with_reducible refine posE_nil (by rfl) ?_))
    | ((with_reducible refine posE_pos (by decide) ?_))
    | with_reducible refine vN_mod (by omega) ?_
    | with_reducible refine vN_mk ?_
    | with_reducible refine nzN_mk (by omega) ?_
    | with_reducible refine eqN_dec (by omega) ?_
    | with_reducible refine draw_rule tabOk mixOk ?_
    | with_reducible refine apN_mk (by kernel_rfl) ?_
    | ((with_reducible apply conN_mk2 ?_ (check_con _ _ _) ?_);(first | (focus exact ⟨⟨rfl, rfl, rfl, trivial⟩, trivial⟩) | (rotate_left 1; (focus exact ⟨⟨rfl, rfl, rfl, trivial⟩, trivial⟩)) | (rotate_left 2; (focus exact ⟨⟨rfl, rfl, rfl, trivial⟩, trivial⟩)) | (rotate_left 3; (focus exact ⟨⟨rfl, rfl, rfl, trivial⟩, trivial⟩))); skip)
    | ((with_reducible apply call_con2 ?_ (check_con _ _ _) ?_);(first | (focus exact ⟨⟨rfl, rfl, rfl, trivial⟩, trivial⟩) | (rotate_left 1; (focus exact ⟨⟨rfl, rfl, rfl, trivial⟩, trivial⟩)) | (rotate_left 2; (focus exact ⟨⟨rfl, rfl, rfl, trivial⟩, trivial⟩)) | (rotate_left 3; (focus exact ⟨⟨rfl, rfl, rfl, trivial⟩, trivial⟩))); rintro _ _ _ ⟨rfl, rfl, rfl⟩)
    | ((with_reducible apply conN_mk2 ?_ (share_con _ _) ?_);(first | (focus exact ⟨rfl, rfl, trivial⟩) | (rotate_left 1; (focus exact ⟨rfl, rfl, trivial⟩)) | (rotate_left 2; (focus exact ⟨rfl, rfl, trivial⟩))); skip)
    | ((with_reducible apply call_con2 ?_ (share_con _ _) ?_);(first | (focus exact ⟨rfl, rfl, trivial⟩) | (rotate_left 1; (focus exact ⟨rfl, rfl, trivial⟩)) | (rotate_left 2; (focus exact ⟨rfl, rfl, trivial⟩))); rintro _ _ _ ⟨rfl, rfl, rfl⟩)
    | ((with_reducible apply conN_mk2 ?_ (owners_1) ?_);(first | (focus exact ⟨rfl, trivial⟩)); skip)
    | ((with_reducible apply call_con2 ?_ (owners_1) ?_);(first | (focus exact ⟨rfl, trivial⟩)); rintro _ _ _ ⟨rfl, rfl, rfl⟩)
    | ((with_reducible apply conN_mk2 ?_ (kgroup_7 _ _ _ hk hj) ?_);(first | (focus exact ⟨⟨rfl, rfl, rfl, trivial⟩, trivial⟩) | (rotate_left 1; (focus exact ⟨⟨rfl, rfl, rfl, trivial⟩, trivial⟩)) | (rotate_left 2; (focus exact ⟨⟨rfl, rfl, rfl, trivial⟩, trivial⟩)) | (rotate_left 3; (focus exact ⟨⟨rfl, rfl, rfl, trivial⟩, trivial⟩))); skip)
    | ((with_reducible apply call_con2 ?_ (kgroup_7 _ _ _ hk hj) ?_);(first | (focus exact ⟨⟨rfl, rfl, rfl, trivial⟩, trivial⟩) | (rotate_left 1; (focus exact ⟨⟨rfl, rfl, rfl, trivial⟩, trivial⟩)) | (rotate_left 2; (focus exact ⟨⟨rfl, rfl, rfl, trivial⟩, trivial⟩)) | (rotate_left 3; (focus exact ⟨⟨rfl, rfl, rfl, trivial⟩, trivial⟩))); rintro _ _ _ ⟨rfl, rfl, rfl⟩))
  all_goals (try (conv => whnf))
  all_goals try (exfalso; first | omega | (simp_all; done))
  all_goals refine ret0 _ rfl _ rfl (fun _ => rfl) rfl ⟨?_, rfl, rfl⟩
  all_goals (refine rv_bool ?_; first | rfl | (exact bool_p (by omega)) | (simp; omega) | (simp [eq_comm]))

theorem mine_2_0 (s k v i : Int) (hr : okR s k) (hi : 0 ≤ i ∧ i < 2) (hj : k % 8 = 0) : Con Try.prog 15 [.agg [.v (.int .i64 s), .v (.int .i64 k), .v (.int .i64 v)], .one (.v (.int .i64 i)), .one (.v (.int .i64 2))] (fun rx rK rt => rx = .val (.bool (decide (0 = i))) ∧ rK = [] ∧ rt = 0) := by
  refine con_of tabOk 24 Try.f15 _ Try.func15 (by kernel_rfl) rfl rfl rfl rfl (fun W => ?_)
  have hk : 0 ≤ k := hr.2.1
  repeat' ((conv => whnf); first
    | with_reducible refine spB_t ?_
    | with_reducible refine spB_f ?_
    | with_reducible refine spB_not ?_
    | with_reducible refine spB_yes (by assumption) ?_
    | with_reducible refine spB_no (by assumption) ?_
    | (with_reducible refine spB_dec ?_ ?_ <;> intro _ <;> (try (exfalso; omega)))
    | (with_reducible refine spB_beq ?_ ?_ <;> intro _)
    | (with_reducible refine spB_bne ?_ ?_ <;> intro _)
    | (with_reducible refine spB_mk ?_ ?_ <;> intro _)
    | with_reducible refine wr_i64 (by omega) ?_
    | with_reducible refine wr_u64 (by omega) ?_
    | with_reducible refine wr_u8 (by omega) ?_
    | with_reducible refine wr_u32 (by omega) ?_
    | with_reducible refine wr_mk _ rfl ?_
    | ((with_reducible refine ixN_nat ?_ ?_); (focus (omega)))
    | ((with_reducible refine rowN_map ?_ ?_); (focus (omega)); intro x hx)
    | ((with_reducible refine ixN_mk 0 ?_ ?_ ?_); (focus rfl); (focus decide))
    | ((with_reducible refine ixN_mk 1 ?_ ?_ ?_); (focus rfl); (focus decide))
    | ((with_reducible refine ixN_mk 2 ?_ ?_ ?_); (focus rfl); (focus decide))
    | ((with_reducible refine ixN_mk 3 ?_ ?_ ?_); (focus rfl); (focus decide))
    | ((with_reducible refine ixN_mk 4 ?_ ?_ ?_); (focus rfl); (focus decide))
    | ((with_reducible refine ixN_mk 5 ?_ ?_ ?_); (focus rfl); (focus decide))
    | ((with_reducible refine ixN_mk 6 ?_ ?_ ?_); (focus rfl); (focus decide))
    | ((with_reducible refine ixN_mk 7 ?_ ?_ ?_); (focus rfl); (focus decide))
    | ((with_reducible refine posE_nil (by rfl) ?_))
    | ((with_reducible refine posE_pos (by decide) ?_))
    | with_reducible refine vN_mod (by omega) ?_
    | with_reducible refine vN_mk ?_
    | with_reducible refine nzN_mk (by omega) ?_
    | with_reducible refine eqN_dec (by omega) ?_
    | with_reducible refine draw_rule tabOk mixOk ?_
    | with_reducible refine apN_mk (by kernel_rfl) ?_
    | ((with_reducible apply conN_mk2 ?_ (check_con _ _ _) ?_);(first | (focus exact ⟨⟨rfl, rfl, rfl, trivial⟩, trivial⟩) | (rotate_left 1; (focus exact ⟨⟨rfl, rfl, rfl, trivial⟩, trivial⟩)) | (rotate_left 2; (focus exact ⟨⟨rfl, rfl, rfl, trivial⟩, trivial⟩)) | (rotate_left 3; (focus exact ⟨⟨rfl, rfl, rfl, trivial⟩, trivial⟩))); skip)
    | ((with_reducible apply call_con2 ?_ (check_con _ _ _) ?_);(first | (focus exact ⟨⟨rfl, rfl, rfl, trivial⟩, trivial⟩) | (rotate_left 1; (focus exact ⟨⟨rfl, rfl, rfl, trivial⟩, trivial⟩)) | (rotate_left 2; (focus exact ⟨⟨rfl, rfl, rfl, trivial⟩, trivial⟩)) | (rotate_left 3; (focus exact ⟨⟨rfl, rfl, rfl, trivial⟩, trivial⟩))); rintro _ _ _ ⟨rfl, rfl, rfl⟩)
    | ((with_reducible apply conN_mk2 ?_ (share_con _ _) ?_);(first | (focus exact ⟨rfl, rfl, trivial⟩) | (rotate_left 1; (focus exact ⟨rfl, rfl, trivial⟩)) | (rotate_left 2; (focus exact ⟨rfl, rfl, trivial⟩))); skip)
    | ((with_reducible apply call_con2 ?_ (share_con _ _) ?_);(first | (focus exact ⟨rfl, rfl, trivial⟩) | (rotate_left 1; (focus exact ⟨rfl, rfl, trivial⟩)) | (rotate_left 2; (focus exact ⟨rfl, rfl, trivial⟩))); rintro _ _ _ ⟨rfl, rfl, rfl⟩)
    | ((with_reducible apply conN_mk2 ?_ (owners_2) ?_);(first | (focus exact ⟨rfl, trivial⟩)); skip)
    | ((with_reducible apply call_con2 ?_ (owners_2) ?_);(first | (focus exact ⟨rfl, trivial⟩)); rintro _ _ _ ⟨rfl, rfl, rfl⟩)
    | ((with_reducible apply conN_mk2 ?_ (kgroup_0 _ _ _ hk hj) ?_);(first | (focus exact ⟨⟨rfl, rfl, rfl, trivial⟩, trivial⟩) | (rotate_left 1; (focus exact ⟨⟨rfl, rfl, rfl, trivial⟩, trivial⟩)) | (rotate_left 2; (focus exact ⟨⟨rfl, rfl, rfl, trivial⟩, trivial⟩)) | (rotate_left 3; (focus exact ⟨⟨rfl, rfl, rfl, trivial⟩, trivial⟩))); skip)
    | ((with_reducible apply call_con2 ?_ (kgroup_0 _ _ _ hk hj) ?_);(first | (focus exact ⟨⟨rfl, rfl, rfl, trivial⟩, trivial⟩) | (rotate_left 1; (focus exact ⟨⟨rfl, rfl, rfl, trivial⟩, trivial⟩)) | (rotate_left 2; (focus exact ⟨⟨rfl, rfl, rfl, trivial⟩, trivial⟩)) | (rotate_left 3; (focus exact ⟨⟨rfl, rfl, rfl, trivial⟩, trivial⟩))); rintro _ _ _ ⟨rfl, rfl, rfl⟩))
  all_goals (try (conv => whnf))
  all_goals try (exfalso; first | omega | (simp_all; done))
  all_goals refine ret0 _ rfl _ rfl (fun _ => rfl) rfl ⟨?_, rfl, rfl⟩
  all_goals (refine rv_bool ?_; first | rfl | (exact bool_p (by omega)) | (simp; omega) | (simp [eq_comm]))

theorem mine_2_1 (s k v i : Int) (hr : okR s k) (hi : 0 ≤ i ∧ i < 2) (hj : k % 8 = 1) : Con Try.prog 15 [.agg [.v (.int .i64 s), .v (.int .i64 k), .v (.int .i64 v)], .one (.v (.int .i64 i)), .one (.v (.int .i64 2))] (fun rx rK rt => rx = .val (.bool (decide (0 = i))) ∧ rK = [] ∧ rt = 0) := by
  refine con_of tabOk 24 Try.f15 _ Try.func15 (by kernel_rfl) rfl rfl rfl rfl (fun W => ?_)
  have hk : 0 ≤ k := hr.2.1
  repeat' ((conv => whnf); first
    | with_reducible refine spB_t ?_
    | with_reducible refine spB_f ?_
    | with_reducible refine spB_not ?_
    | with_reducible refine spB_yes (by assumption) ?_
    | with_reducible refine spB_no (by assumption) ?_
    | (with_reducible refine spB_dec ?_ ?_ <;> intro _ <;> (try (exfalso; omega)))
    | (with_reducible refine spB_beq ?_ ?_ <;> intro _)
    | (with_reducible refine spB_bne ?_ ?_ <;> intro _)
    | (with_reducible refine spB_mk ?_ ?_ <;> intro _)
    | with_reducible refine wr_i64 (by omega) ?_
    | with_reducible refine wr_u64 (by omega) ?_
    | with_reducible refine wr_u8 (by omega) ?_
    | with_reducible refine wr_u32 (by omega) ?_
    | with_reducible refine wr_mk _ rfl ?_
    | ((with_reducible refine ixN_nat ?_ ?_); (focus (omega)))
    | ((with_reducible refine rowN_map ?_ ?_); (focus (omega)); intro x hx)
    | ((with_reducible refine ixN_mk 0 ?_ ?_ ?_); (focus rfl); (focus decide))
    | ((with_reducible refine ixN_mk 1 ?_ ?_ ?_); (focus rfl); (focus decide))
    | ((with_reducible refine ixN_mk 2 ?_ ?_ ?_); (focus rfl); (focus decide))
    | ((with_reducible refine ixN_mk 3 ?_ ?_ ?_); (focus rfl); (focus decide))
    | ((with_reducible refine ixN_mk 4 ?_ ?_ ?_); (focus rfl); (focus decide))
    | ((with_reducible refine ixN_mk 5 ?_ ?_ ?_); (focus rfl); (focus decide))
    | ((with_reducible refine ixN_mk 6 ?_ ?_ ?_); (focus rfl); (focus decide))
    | ((with_reducible refine ixN_mk 7 ?_ ?_ ?_); (focus rfl); (focus decide))
    | ((with_reducible refine posE_nil (by rfl) ?_))
    | ((with_reducible refine posE_pos (by decide) ?_))
    | with_reducible refine vN_mod (by omega) ?_
    | with_reducible refine vN_mk ?_
    | with_reducible refine nzN_mk (by omega) ?_
    | with_reducible refine eqN_dec (by omega) ?_
    | with_reducible refine draw_rule tabOk mixOk ?_
    | with_reducible refine apN_mk (by kernel_rfl) ?_
    | ((with_reducible apply conN_mk2 ?_ (check_con _ _ _) ?_);(first | (focus exact ⟨⟨rfl, rfl, rfl, trivial⟩, trivial⟩) | (rotate_left 1; (focus exact ⟨⟨rfl, rfl, rfl, trivial⟩, trivial⟩)) | (rotate_left 2; (focus exact ⟨⟨rfl, rfl, rfl, trivial⟩, trivial⟩)) | (rotate_left 3; (focus exact ⟨⟨rfl, rfl, rfl, trivial⟩, trivial⟩))); skip)
    | ((with_reducible apply call_con2 ?_ (check_con _ _ _) ?_);(first | (focus exact ⟨⟨rfl, rfl, rfl, trivial⟩, trivial⟩) | (rotate_left 1; (focus exact ⟨⟨rfl, rfl, rfl, trivial⟩, trivial⟩)) | (rotate_left 2; (focus exact ⟨⟨rfl, rfl, rfl, trivial⟩, trivial⟩)) | (rotate_left 3; (focus exact ⟨⟨rfl, rfl, rfl, trivial⟩, trivial⟩))); rintro _ _ _ ⟨rfl, rfl, rfl⟩)
    | ((with_reducible apply conN_mk2 ?_ (share_con _ _) ?_);(first | (focus exact ⟨rfl, rfl, trivial⟩) | (rotate_left 1; (focus exact ⟨rfl, rfl, trivial⟩)) | (rotate_left 2; (focus exact ⟨rfl, rfl, trivial⟩))); skip)
    | ((with_reducible apply call_con2 ?_ (share_con _ _) ?_);(first | (focus exact ⟨rfl, rfl, trivial⟩) | (rotate_left 1; (focus exact ⟨rfl, rfl, trivial⟩)) | (rotate_left 2; (focus exact ⟨rfl, rfl, trivial⟩))); rintro _ _ _ ⟨rfl, rfl, rfl⟩)
    | ((with_reducible apply conN_mk2 ?_ (owners_2) ?_);(first | (focus exact ⟨rfl, trivial⟩)); skip)
    | ((with_reducible apply call_con2 ?_ (owners_2) ?_);(first | (focus exact ⟨rfl, trivial⟩)); rintro _ _ _ ⟨rfl, rfl, rfl⟩)
    | ((with_reducible apply conN_mk2 ?_ (kgroup_1 _ _ _ hk hj) ?_);(first | (focus exact ⟨⟨rfl, rfl, rfl, trivial⟩, trivial⟩) | (rotate_left 1; (focus exact ⟨⟨rfl, rfl, rfl, trivial⟩, trivial⟩)) | (rotate_left 2; (focus exact ⟨⟨rfl, rfl, rfl, trivial⟩, trivial⟩)) | (rotate_left 3; (focus exact ⟨⟨rfl, rfl, rfl, trivial⟩, trivial⟩))); skip)
    | ((with_reducible apply call_con2 ?_ (kgroup_1 _ _ _ hk hj) ?_);(first | (focus exact ⟨⟨rfl, rfl, rfl, trivial⟩, trivial⟩) | (rotate_left 1; (focus exact ⟨⟨rfl, rfl, rfl, trivial⟩, trivial⟩)) | (rotate_left 2; (focus exact ⟨⟨rfl, rfl, rfl, trivial⟩, trivial⟩)) | (rotate_left 3; (focus exact ⟨⟨rfl, rfl, rfl, trivial⟩, trivial⟩))); rintro _ _ _ ⟨rfl, rfl, rfl⟩))
  all_goals (try (conv => whnf))
  all_goals try (exfalso; first | omega | (simp_all; done))
  all_goals refine ret0 _ rfl _ rfl (fun _ => rfl) rfl ⟨?_, rfl, rfl⟩
  all_goals (refine rv_bool ?_; first | rfl | (exact bool_p (by omega)) | (simp; omega) | (simp [eq_comm]))

theorem mine_2_2 (s k v i : Int) (hr : okR s k) (hi : 0 ≤ i ∧ i < 2) (hj : k % 8 = 2) : Con Try.prog 15 [.agg [.v (.int .i64 s), .v (.int .i64 k), .v (.int .i64 v)], .one (.v (.int .i64 i)), .one (.v (.int .i64 2))] (fun rx rK rt => rx = .val (.bool (decide (0 = i))) ∧ rK = [] ∧ rt = 0) := by
  refine con_of tabOk 24 Try.f15 _ Try.func15 (by kernel_rfl) rfl rfl rfl rfl (fun W => ?_)
  have hk : 0 ≤ k := hr.2.1
  repeat' ((conv => whnf); first
    | with_reducible refine spB_t ?_
    | with_reducible refine spB_f ?_
    | with_reducible refine spB_not ?_
    | with_reducible refine spB_yes (by assumption) ?_
    | with_reducible refine spB_no (by assumption) ?_
    | (with_reducible refine spB_dec ?_ ?_ <;> intro _ <;> (try (exfalso; omega)))
    | (with_reducible refine spB_beq ?_ ?_ <;> intro _)
    | (with_reducible refine spB_bne ?_ ?_ <;> intro _)
    | (with_reducible refine spB_mk ?_ ?_ <;> intro _)
    | with_reducible refine wr_i64 (by omega) ?_
    | with_reducible refine wr_u64 (by omega) ?_
    | with_reducible refine wr_u8 (by omega) ?_
    | with_reducible refine wr_u32 (by omega) ?_
    | with_reducible refine wr_mk _ rfl ?_
    | ((with_reducible refine ixN_nat ?_ ?_); (focus (omega)))
    | ((with_reducible refine rowN_map ?_ ?_); (focus (omega)); intro x hx)
    | ((with_reducible refine ixN_mk 0 ?_ ?_ ?_); (focus rfl); (focus decide))
    | ((with_reducible refine ixN_mk 1 ?_ ?_ ?_); (focus rfl); (focus decide))
    | ((with_reducible refine ixN_mk 2 ?_ ?_ ?_); (focus rfl); (focus decide))
    | ((with_reducible refine ixN_mk 3 ?_ ?_ ?_); (focus rfl); (focus decide))
    | ((with_reducible refine ixN_mk 4 ?_ ?_ ?_); (focus rfl); (focus decide))
    | ((with_reducible refine ixN_mk 5 ?_ ?_ ?_); (focus rfl); (focus decide))
    | ((with_reducible refine ixN_mk 6 ?_ ?_ ?_); (focus rfl); (focus decide))
    | ((with_reducible refine ixN_mk 7 ?_ ?_ ?_); (focus rfl); (focus decide))
    | ((with_reducible refine posE_nil (by rfl) ?_))
    | ((with_reducible refine posE_pos (by decide) ?_))
    | with_reducible refine vN_mod (by omega) ?_
    | with_reducible refine vN_mk ?_
    | with_reducible refine nzN_mk (by omega) ?_
    | with_reducible refine eqN_dec (by omega) ?_
    | with_reducible refine draw_rule tabOk mixOk ?_
    | with_reducible refine apN_mk (by kernel_rfl) ?_
    | ((with_reducible apply conN_mk2 ?_ (check_con _ _ _) ?_);(first | (focus exact ⟨⟨rfl, rfl, rfl, trivial⟩, trivial⟩) | (rotate_left 1; (focus exact ⟨⟨rfl, rfl, rfl, trivial⟩, trivial⟩)) | (rotate_left 2; (focus exact ⟨⟨rfl, rfl, rfl, trivial⟩, trivial⟩)) | (rotate_left 3; (focus exact ⟨⟨rfl, rfl, rfl, trivial⟩, trivial⟩))); skip)
    | ((with_reducible apply call_con2 ?_ (check_con _ _ _) ?_);(first | (focus exact ⟨⟨rfl, rfl, rfl, trivial⟩, trivial⟩) | (rotate_left 1; (focus exact ⟨⟨rfl, rfl, rfl, trivial⟩, trivial⟩)) | (rotate_left 2; (focus exact ⟨⟨rfl, rfl, rfl, trivial⟩, trivial⟩)) | (rotate_left 3; (focus exact ⟨⟨rfl, rfl, rfl, trivial⟩, trivial⟩))); rintro _ _ _ ⟨rfl, rfl, rfl⟩)
    | ((with_reducible apply conN_mk2 ?_ (share_con _ _) ?_);(first | (focus exact ⟨rfl, rfl, trivial⟩) | (rotate_left 1; (focus exact ⟨rfl, rfl, trivial⟩)) | (rotate_left 2; (focus exact ⟨rfl, rfl, trivial⟩))); skip)
    | ((with_reducible apply call_con2 ?_ (share_con _ _) ?_);(first | (focus exact ⟨rfl, rfl, trivial⟩) | (rotate_left 1; (focus exact ⟨rfl, rfl, trivial⟩)) | (rotate_left 2; (focus exact ⟨rfl, rfl, trivial⟩))); rintro _ _ _ ⟨rfl, rfl, rfl⟩)
    | ((with_reducible apply conN_mk2 ?_ (owners_2) ?_);(first | (focus exact ⟨rfl, trivial⟩)); skip)
    | ((with_reducible apply call_con2 ?_ (owners_2) ?_);(first | (focus exact ⟨rfl, trivial⟩)); rintro _ _ _ ⟨rfl, rfl, rfl⟩)
    | ((with_reducible apply conN_mk2 ?_ (kgroup_2 _ _ _ hk hj) ?_);(first | (focus exact ⟨⟨rfl, rfl, rfl, trivial⟩, trivial⟩) | (rotate_left 1; (focus exact ⟨⟨rfl, rfl, rfl, trivial⟩, trivial⟩)) | (rotate_left 2; (focus exact ⟨⟨rfl, rfl, rfl, trivial⟩, trivial⟩)) | (rotate_left 3; (focus exact ⟨⟨rfl, rfl, rfl, trivial⟩, trivial⟩))); skip)
    | ((with_reducible apply call_con2 ?_ (kgroup_2 _ _ _ hk hj) ?_);(first | (focus exact ⟨⟨rfl, rfl, rfl, trivial⟩, trivial⟩) | (rotate_left 1; (focus exact ⟨⟨rfl, rfl, rfl, trivial⟩, trivial⟩)) | (rotate_left 2; (focus exact ⟨⟨rfl, rfl, rfl, trivial⟩, trivial⟩)) | (rotate_left 3; (focus exact ⟨⟨rfl, rfl, rfl, trivial⟩, trivial⟩))); rintro _ _ _ ⟨rfl, rfl, rfl⟩))
  all_goals (try (conv => whnf))
  all_goals try (exfalso; first | omega | (simp_all; done))
  all_goals refine ret0 _ rfl _ rfl (fun _ => rfl) rfl ⟨?_, rfl, rfl⟩
  all_goals (refine rv_bool ?_; first | rfl | (exact bool_p (by omega)) | (simp; omega) | (simp [eq_comm]))

theorem mine_2_3 (s k v i : Int) (hr : okR s k) (hi : 0 ≤ i ∧ i < 2) (hj : k % 8 = 3) : Con Try.prog 15 [.agg [.v (.int .i64 s), .v (.int .i64 k), .v (.int .i64 v)], .one (.v (.int .i64 i)), .one (.v (.int .i64 2))] (fun rx rK rt => rx = .val (.bool (decide (0 = i))) ∧ rK = [] ∧ rt = 0) := by
  refine con_of tabOk 24 Try.f15 _ Try.func15 (by kernel_rfl) rfl rfl rfl rfl (fun W => ?_)
  have hk : 0 ≤ k := hr.2.1
  repeat' ((conv => whnf); first
    | with_reducible refine spB_t ?_
    | with_reducible refine spB_f ?_
    | with_reducible refine spB_not ?_
    | with_reducible refine spB_yes (by assumption) ?_
    | with_reducible refine spB_no (by assumption) ?_
    | (with_reducible refine spB_dec ?_ ?_ <;> intro _ <;> (try (exfalso; omega)))
    | (with_reducible refine spB_beq ?_ ?_ <;> intro _)
    | (with_reducible refine spB_bne ?_ ?_ <;> intro _)
    | (with_reducible refine spB_mk ?_ ?_ <;> intro _)
    | with_reducible refine wr_i64 (by omega) ?_
    | with_reducible refine wr_u64 (by omega) ?_
    | with_reducible refine wr_u8 (by omega) ?_
    | with_reducible refine wr_u32 (by omega) ?_
    | with_reducible refine wr_mk _ rfl ?_
    | ((with_reducible refine ixN_nat ?_ ?_); (focus (omega)))
    | ((with_reducible refine rowN_map ?_ ?_); (focus (omega)); intro x hx)
    | ((with_reducible refine ixN_mk 0 ?_ ?_ ?_); (focus rfl); (focus decide))
    | ((with_reducible refine ixN_mk 1 ?_ ?_ ?_); (focus rfl); (focus decide))
    | ((with_reducible refine ixN_mk 2 ?_ ?_ ?_); (focus rfl); (focus decide))
    | ((with_reducible refine ixN_mk 3 ?_ ?_ ?_); (focus rfl); (focus decide))
    | ((with_reducible refine ixN_mk 4 ?_ ?_ ?_); (focus rfl); (focus decide))
    | ((with_reducible refine ixN_mk 5 ?_ ?_ ?_); (focus rfl); (focus decide))
    | ((with_reducible refine ixN_mk 6 ?_ ?_ ?_); (focus rfl); (focus decide))
    | ((with_reducible refine ixN_mk 7 ?_ ?_ ?_); (focus rfl); (focus decide))
    | ((with_reducible refine posE_nil (by rfl) ?_))
    | ((with_reducible refine posE_pos (by decide) ?_))
    | with_reducible refine vN_mod (by omega) ?_
    | with_reducible refine vN_mk ?_
    | with_reducible refine nzN_mk (by omega) ?_
    | with_reducible refine eqN_dec (by omega) ?_
    | with_reducible refine draw_rule tabOk mixOk ?_
    | with_reducible refine apN_mk (by kernel_rfl) ?_
    | ((with_reducible apply conN_mk2 ?_ (check_con _ _ _) ?_);(first | (focus exact ⟨⟨rfl, rfl, rfl, trivial⟩, trivial⟩) | (rotate_left 1; (focus exact ⟨⟨rfl, rfl, rfl, trivial⟩, trivial⟩)) | (rotate_left 2; (focus exact ⟨⟨rfl, rfl, rfl, trivial⟩, trivial⟩)) | (rotate_left 3; (focus exact ⟨⟨rfl, rfl, rfl, trivial⟩, trivial⟩))); skip)
    | ((with_reducible apply call_con2 ?_ (check_con _ _ _) ?_);(first | (focus exact ⟨⟨rfl, rfl, rfl, trivial⟩, trivial⟩) | (rotate_left 1; (focus exact ⟨⟨rfl, rfl, rfl, trivial⟩, trivial⟩)) | (rotate_left 2; (focus exact ⟨⟨rfl, rfl, rfl, trivial⟩, trivial⟩)) | (rotate_left 3; (focus exact ⟨⟨rfl, rfl, rfl, trivial⟩, trivial⟩))); rintro _ _ _ ⟨rfl, rfl, rfl⟩)
    | ((with_reducible apply conN_mk2 ?_ (share_con _ _) ?_);(first | (focus exact ⟨rfl, rfl, trivial⟩) | (rotate_left 1; (focus exact ⟨rfl, rfl, trivial⟩)) | (rotate_left 2; (focus exact ⟨rfl, rfl, trivial⟩))); skip)
    | ((with_reducible apply call_con2 ?_ (share_con _ _) ?_);(first | (focus exact ⟨rfl, rfl, trivial⟩) | (rotate_left 1; (focus exact ⟨rfl, rfl, trivial⟩)) | (rotate_left 2; (focus exact ⟨rfl, rfl, trivial⟩))); rintro _ _ _ ⟨rfl, rfl, rfl⟩)
    | ((with_reducible apply conN_mk2 ?_ (owners_2) ?_);(first | (focus exact ⟨rfl, trivial⟩)); skip)
    | ((with_reducible apply call_con2 ?_ (owners_2) ?_);(first | (focus exact ⟨rfl, trivial⟩)); rintro _ _ _ ⟨rfl, rfl, rfl⟩)
    | ((with_reducible apply conN_mk2 ?_ (kgroup_3 _ _ _ hk hj) ?_);(first | (focus exact ⟨⟨rfl, rfl, rfl, trivial⟩, trivial⟩) | (rotate_left 1; (focus exact ⟨⟨rfl, rfl, rfl, trivial⟩, trivial⟩)) | (rotate_left 2; (focus exact ⟨⟨rfl, rfl, rfl, trivial⟩, trivial⟩)) | (rotate_left 3; (focus exact ⟨⟨rfl, rfl, rfl, trivial⟩, trivial⟩))); skip)
    | ((with_reducible apply call_con2 ?_ (kgroup_3 _ _ _ hk hj) ?_);(first | (focus exact ⟨⟨rfl, rfl, rfl, trivial⟩, trivial⟩) | (rotate_left 1; (focus exact ⟨⟨rfl, rfl, rfl, trivial⟩, trivial⟩)) | (rotate_left 2; (focus exact ⟨⟨rfl, rfl, rfl, trivial⟩, trivial⟩)) | (rotate_left 3; (focus exact ⟨⟨rfl, rfl, rfl, trivial⟩, trivial⟩))); rintro _ _ _ ⟨rfl, rfl, rfl⟩))
  all_goals (try (conv => whnf))
  all_goals try (exfalso; first | omega | (simp_all; done))
  all_goals refine ret0 _ rfl _ rfl (fun _ => rfl) rfl ⟨?_, rfl, rfl⟩
  all_goals (refine rv_bool ?_; first | rfl | (exact bool_p (by omega)) | (simp; omega) | (simp [eq_comm]))

theorem mine_2_4 (s k v i : Int) (hr : okR s k) (hi : 0 ≤ i ∧ i < 2) (hj : k % 8 = 4) : Con Try.prog 15 [.agg [.v (.int .i64 s), .v (.int .i64 k), .v (.int .i64 v)], .one (.v (.int .i64 i)), .one (.v (.int .i64 2))] (fun rx rK rt => rx = .val (.bool (decide (1 = i))) ∧ rK = [] ∧ rt = 0) := by
  refine con_of tabOk 24 Try.f15 _ Try.func15 (by kernel_rfl) rfl rfl rfl rfl (fun W => ?_)
  have hk : 0 ≤ k := hr.2.1
  repeat' ((conv => whnf); first
    | with_reducible refine spB_t ?_
    | with_reducible refine spB_f ?_
    | with_reducible refine spB_not ?_
    | with_reducible refine spB_yes (by assumption) ?_
    | with_reducible refine spB_no (by assumption) ?_
    | (with_reducible refine spB_dec ?_ ?_ <;> intro _ <;> (try (exfalso; omega)))
    | (with_reducible refine spB_beq ?_ ?_ <;> intro _)
    | (with_reducible refine spB_bne ?_ ?_ <;> intro _)
    | (with_reducible refine spB_mk ?_ ?_ <;> intro _)
    | with_reducible refine wr_i64 (by omega) ?_
    | with_reducible refine wr_u64 (by omega) ?_
    | with_reducible refine wr_u8 (by omega) ?_
    | with_reducible refine wr_u32 (by omega) ?_
    | with_reducible refine wr_mk _ rfl ?_
    | ((with_reducible refine ixN_nat ?_ ?_); (focus (omega)))
    | ((with_reducible refine rowN_map ?_ ?_); (focus (omega)); intro x hx)
    | ((with_reducible refine ixN_mk 0 ?_ ?_ ?_); (focus rfl); (focus decide))
    | ((with_reducible refine ixN_mk 1 ?_ ?_ ?_); (focus rfl); (focus decide))
    | ((with_reducible refine ixN_mk 2 ?_ ?_ ?_); (focus rfl); (focus decide))
    | ((with_reducible refine ixN_mk 3 ?_ ?_ ?_); (focus rfl); (focus decide))
    | ((with_reducible refine ixN_mk 4 ?_ ?_ ?_); (focus rfl); (focus decide))
    | ((with_reducible refine ixN_mk 5 ?_ ?_ ?_); (focus rfl); (focus decide))
    | ((with_reducible refine ixN_mk 6 ?_ ?_ ?_); (focus rfl); (focus decide))
    | ((with_reducible refine ixN_mk 7 ?_ ?_ ?_); (focus rfl); (focus decide))
    | ((with_reducible refine posE_nil (by rfl) ?_))
    | ((with_reducible refine posE_pos (by decide) ?_))
    | with_reducible refine vN_mod (by omega) ?_
    | with_reducible refine vN_mk ?_
    | with_reducible refine nzN_mk (by omega) ?_
    | with_reducible refine eqN_dec (by omega) ?_
    | with_reducible refine draw_rule tabOk mixOk ?_
    | with_reducible refine apN_mk (by kernel_rfl) ?_
    | ((with_reducible apply conN_mk2 ?_ (check_con _ _ _) ?_);(first | (focus exact ⟨⟨rfl, rfl, rfl, trivial⟩, trivial⟩) | (rotate_left 1; (focus exact ⟨⟨rfl, rfl, rfl, trivial⟩, trivial⟩)) | (rotate_left 2; (focus exact ⟨⟨rfl, rfl, rfl, trivial⟩, trivial⟩)) | (rotate_left 3; (focus exact ⟨⟨rfl, rfl, rfl, trivial⟩, trivial⟩))); skip)
    | ((with_reducible apply call_con2 ?_ (check_con _ _ _) ?_);(first | (focus exact ⟨⟨rfl, rfl, rfl, trivial⟩, trivial⟩) | (rotate_left 1; (focus exact ⟨⟨rfl, rfl, rfl, trivial⟩, trivial⟩)) | (rotate_left 2; (focus exact ⟨⟨rfl, rfl, rfl, trivial⟩, trivial⟩)) | (rotate_left 3; (focus exact ⟨⟨rfl, rfl, rfl, trivial⟩, trivial⟩))); rintro _ _ _ ⟨rfl, rfl, rfl⟩)
    | ((with_reducible apply conN_mk2 ?_ (share_con _ _) ?_);(first | (focus exact ⟨rfl, rfl, trivial⟩) | (rotate_left 1; (focus exact ⟨rfl, rfl, trivial⟩)) | (rotate_left 2; (focus exact ⟨rfl, rfl, trivial⟩))); skip)
    | ((with_reducible apply call_con2 ?_ (share_con _ _) ?_);(first | (focus exact ⟨rfl, rfl, trivial⟩) | (rotate_left 1; (focus exact ⟨rfl, rfl, trivial⟩)) | (rotate_left 2; (focus exact ⟨rfl, rfl, trivial⟩))); rintro _ _ _ ⟨rfl, rfl, rfl⟩)
    | ((with_reducible apply conN_mk2 ?_ (owners_2) ?_);(first | (focus exact ⟨rfl, trivial⟩)); skip)
    | ((with_reducible apply call_con2 ?_ (owners_2) ?_);(first | (focus exact ⟨rfl, trivial⟩)); rintro _ _ _ ⟨rfl, rfl, rfl⟩)
    | ((with_reducible apply conN_mk2 ?_ (kgroup_4 _ _ _ hk hj) ?_);(first | (focus exact ⟨⟨rfl, rfl, rfl, trivial⟩, trivial⟩) | (rotate_left 1; (focus exact ⟨⟨rfl, rfl, rfl, trivial⟩, trivial⟩)) | (rotate_left 2; (focus exact ⟨⟨rfl, rfl, rfl, trivial⟩, trivial⟩)) | (rotate_left 3; (focus exact ⟨⟨rfl, rfl, rfl, trivial⟩, trivial⟩))); skip)
    | ((with_reducible apply call_con2 ?_ (kgroup_4 _ _ _ hk hj) ?_);(first | (focus exact ⟨⟨rfl, rfl, rfl, trivial⟩, trivial⟩) | (rotate_left 1; (focus exact ⟨⟨rfl, rfl, rfl, trivial⟩, trivial⟩)) | (rotate_left 2; (focus exact ⟨⟨rfl, rfl, rfl, trivial⟩, trivial⟩)) | (rotate_left 3; (focus exact ⟨⟨rfl, rfl, rfl, trivial⟩, trivial⟩))); rintro _ _ _ ⟨rfl, rfl, rfl⟩))
  all_goals (try (conv => whnf))
  all_goals try (exfalso; first | omega | (simp_all; done))
  all_goals refine ret0 _ rfl _ rfl (fun _ => rfl) rfl ⟨?_, rfl, rfl⟩
  all_goals (refine rv_bool ?_; first | rfl | (exact bool_p (by omega)) | (simp; omega) | (simp [eq_comm]))

theorem mine_2_5 (s k v i : Int) (hr : okR s k) (hi : 0 ≤ i ∧ i < 2) (hj : k % 8 = 5) : Con Try.prog 15 [.agg [.v (.int .i64 s), .v (.int .i64 k), .v (.int .i64 v)], .one (.v (.int .i64 i)), .one (.v (.int .i64 2))] (fun rx rK rt => rx = .val (.bool (decide (1 = i))) ∧ rK = [] ∧ rt = 0) := by
  refine con_of tabOk 24 Try.f15 _ Try.func15 (by kernel_rfl) rfl rfl rfl rfl (fun W => ?_)
  have hk : 0 ≤ k := hr.2.1
  repeat' ((conv => whnf); first
    | with_reducible refine spB_t ?_
    | with_reducible refine spB_f ?_
    | with_reducible refine spB_not ?_
    | with_reducible refine spB_yes (by assumption) ?_
    | with_reducible refine spB_no (by assumption) ?_
    | (with_reducible refine spB_dec ?_ ?_ <;> intro _ <;> (try (exfalso; omega)))
    | (with_reducible refine spB_beq ?_ ?_ <;> intro _)
    | (with_reducible refine spB_bne ?_ ?_ <;> intro _)
    | (with_reducible refine spB_mk ?_ ?_ <;> intro _)
    | with_reducible refine wr_i64 (by omega) ?_
    | with_reducible refine wr_u64 (by omega) ?_
    | with_reducible refine wr_u8 (by omega) ?_
    | with_reducible refine wr_u32 (by omega) ?_
    | with_reducible refine wr_mk _ rfl ?_
    | ((with_reducible refine ixN_nat ?_ ?_); (focus (omega)))
    | ((with_reducible refine rowN_map ?_ ?_); (focus (omega)); intro x hx)
    | ((with_reducible refine ixN_mk 0 ?_ ?_ ?_); (focus rfl); (focus decide))
    | ((with_reducible refine ixN_mk 1 ?_ ?_ ?_); (focus rfl); (focus decide))
    | ((with_reducible refine ixN_mk 2 ?_ ?_ ?_); (focus rfl); (focus decide))
    | ((with_reducible refine ixN_mk 3 ?_ ?_ ?_); (focus rfl); (focus decide))
    | ((with_reducible refine ixN_mk 4 ?_ ?_ ?_); (focus rfl); (focus decide))
    | ((with_reducible refine ixN_mk 5 ?_ ?_ ?_); (focus rfl); (focus decide))
    | ((with_reducible refine ixN_mk 6 ?_ ?_ ?_); (focus rfl); (focus decide))
    | ((with_reducible refine ixN_mk 7 ?_ ?_ ?_); (focus rfl); (focus decide))
    | ((with_reducible refine posE_nil (by rfl) ?_))
    | ((with_reducible refine posE_pos (by decide) ?_))
    | with_reducible refine vN_mod (by omega) ?_
    | with_reducible refine vN_mk ?_
    | with_reducible refine nzN_mk (by omega) ?_
    | with_reducible refine eqN_dec (by omega) ?_
    | with_reducible refine draw_rule tabOk mixOk ?_
    | with_reducible refine apN_mk (by kernel_rfl) ?_
    | ((with_reducible apply conN_mk2 ?_ (check_con _ _ _) ?_);(first | (focus exact ⟨⟨rfl, rfl, rfl, trivial⟩, trivial⟩) | (rotate_left 1; (focus exact ⟨⟨rfl, rfl, rfl, trivial⟩, trivial⟩)) | (rotate_left 2; (focus exact ⟨⟨rfl, rfl, rfl, trivial⟩, trivial⟩)) | (rotate_left 3; (focus exact ⟨⟨rfl, rfl, rfl, trivial⟩, trivial⟩))); skip)
    | ((with_reducible apply call_con2 ?_ (check_con _ _ _) ?_);(first | (focus exact ⟨⟨rfl, rfl, rfl, trivial⟩, trivial⟩) | (rotate_left 1; (focus exact ⟨⟨rfl, rfl, rfl, trivial⟩, trivial⟩)) | (rotate_left 2; (focus exact ⟨⟨rfl, rfl, rfl, trivial⟩, trivial⟩)) | (rotate_left 3; (focus exact ⟨⟨rfl, rfl, rfl, trivial⟩, trivial⟩))); rintro _ _ _ ⟨rfl, rfl, rfl⟩)
    | ((with_reducible apply conN_mk2 ?_ (share_con _ _) ?_);(first | (focus exact ⟨rfl, rfl, trivial⟩) | (rotate_left 1; (focus exact ⟨rfl, rfl, trivial⟩)) | (rotate_left 2; (focus exact ⟨rfl, rfl, trivial⟩))); skip)
    | ((with_reducible apply call_con2 ?_ (share_con _ _) ?_);(first | (focus exact ⟨rfl, rfl, trivial⟩) | (rotate_left 1; (focus exact ⟨rfl, rfl, trivial⟩)) | (rotate_left 2; (focus exact ⟨rfl, rfl, trivial⟩))); rintro _ _ _ ⟨rfl, rfl, rfl⟩)
    | ((with_reducible apply conN_mk2 ?_ (owners_2) ?_);(first | (focus exact ⟨rfl, trivial⟩)); skip)
    | ((with_reducible apply call_con2 ?_ (owners_2) ?_);(first | (focus exact ⟨rfl, trivial⟩)); rintro _ _ _ ⟨rfl, rfl, rfl⟩)
    | ((with_reducible apply conN_mk2 ?_ (kgroup_5 _ _ _ hk hj) ?_);(first | (focus exact ⟨⟨rfl, rfl, rfl, trivial⟩, trivial⟩) | (rotate_left 1; (focus exact ⟨⟨rfl, rfl, rfl, trivial⟩, trivial⟩)) | (rotate_left 2; (focus exact ⟨⟨rfl, rfl, rfl, trivial⟩, trivial⟩)) | (rotate_left 3; (focus exact ⟨⟨rfl, rfl, rfl, trivial⟩, trivial⟩))); skip)
    | ((with_reducible apply call_con2 ?_ (kgroup_5 _ _ _ hk hj) ?_);(first | (focus exact ⟨⟨rfl, rfl, rfl, trivial⟩, trivial⟩) | (rotate_left 1; (focus exact ⟨⟨rfl, rfl, rfl, trivial⟩, trivial⟩)) | (rotate_left 2; (focus exact ⟨⟨rfl, rfl, rfl, trivial⟩, trivial⟩)) | (rotate_left 3; (focus exact ⟨⟨rfl, rfl, rfl, trivial⟩, trivial⟩))); rintro _ _ _ ⟨rfl, rfl, rfl⟩))
  all_goals (try (conv => whnf))
  all_goals try (exfalso; first | omega | (simp_all; done))
  all_goals refine ret0 _ rfl _ rfl (fun _ => rfl) rfl ⟨?_, rfl, rfl⟩
  all_goals (refine rv_bool ?_; first | rfl | (exact bool_p (by omega)) | (simp; omega) | (simp [eq_comm]))

theorem mine_2_6 (s k v i : Int) (hr : okR s k) (hi : 0 ≤ i ∧ i < 2) (hj : k % 8 = 6) : Con Try.prog 15 [.agg [.v (.int .i64 s), .v (.int .i64 k), .v (.int .i64 v)], .one (.v (.int .i64 i)), .one (.v (.int .i64 2))] (fun rx rK rt => rx = .val (.bool (decide (1 = i))) ∧ rK = [] ∧ rt = 0) := by
  refine con_of tabOk 24 Try.f15 _ Try.func15 (by kernel_rfl) rfl rfl rfl rfl (fun W => ?_)
  have hk : 0 ≤ k := hr.2.1
  repeat' ((conv => whnf); first
    | with_reducible refine spB_t ?_
    | with_reducible refine spB_f ?_
    | with_reducible refine spB_not ?_
    | with_reducible refine spB_yes (by assumption) ?_
    | with_reducible refine spB_no (by assumption) ?_
    | (with_reducible refine spB_dec ?_ ?_ <;> intro _ <;> (try (exfalso; omega)))
    | (with_reducible refine spB_beq ?_ ?_ <;> intro _)
    | (with_reducible refine spB_bne ?_ ?_ <;> intro _)
    | (with_reducible refine spB_mk ?_ ?_ <;> intro _)
    | with_reducible refine wr_i64 (by omega) ?_
    | with_reducible refine wr_u64 (by omega) ?_
    | with_reducible refine wr_u8 (by omega) ?_
    | with_reducible refine wr_u32 (by omega) ?_
    | with_reducible refine wr_mk _ rfl ?_
    | ((with_reducible refine ixN_nat ?_ ?_); (focus (omega)))
    | ((with_reducible refine rowN_map ?_ ?_); (focus (omega)); intro x hx)
    | ((with_reducible refine ixN_mk 0 ?_ ?_ ?_); (focus rfl); (focus decide))
    | ((with_reducible refine ixN_mk 1 ?_ ?_ ?_); (focus rfl); (focus decide))
    | ((with_reducible refine ixN_mk 2 ?_ ?_ ?_); (focus rfl); (focus decide))
    | ((with_reducible refine ixN_mk 3 ?_ ?_ ?_); (focus rfl); (focus decide))
    | ((with_reducible refine ixN_mk 4 ?_ ?_ ?_); (focus rfl); (focus decide))
    | ((with_reducible refine ixN_mk 5 ?_ ?_ ?_); (focus rfl); (focus decide))
    | ((with_reducible refine ixN_mk 6 ?_ ?_ ?_); (focus rfl); (focus decide))
    | ((with_reducible refine ixN_mk 7 ?_ ?_ ?_); (focus rfl); (focus decide))
    | ((with_reducible refine posE_nil (by rfl) ?_))
    | ((with_reducible refine posE_pos (by decide) ?_))
    | with_reducible refine vN_mod (by omega) ?_
    | with_reducible refine vN_mk ?_
    | with_reducible refine nzN_mk (by omega) ?_
    | with_reducible refine eqN_dec (by omega) ?_
    | with_reducible refine draw_rule tabOk mixOk ?_
    | with_reducible refine apN_mk (by kernel_rfl) ?_
    | ((with_reducible apply conN_mk2 ?_ (check_con _ _ _) ?_);(first | (focus exact ⟨⟨rfl, rfl, rfl, trivial⟩, trivial⟩) | (rotate_left 1; (focus exact ⟨⟨rfl, rfl, rfl, trivial⟩, trivial⟩)) | (rotate_left 2; (focus exact ⟨⟨rfl, rfl, rfl, trivial⟩, trivial⟩)) | (rotate_left 3; (focus exact ⟨⟨rfl, rfl, rfl, trivial⟩, trivial⟩))); skip)
    | ((with_reducible apply call_con2 ?_ (check_con _ _ _) ?_);(first | (focus exact ⟨⟨rfl, rfl, rfl, trivial⟩, trivial⟩) | (rotate_left 1; (focus exact ⟨⟨rfl, rfl, rfl, trivial⟩, trivial⟩)) | (rotate_left 2; (focus exact ⟨⟨rfl, rfl, rfl, trivial⟩, trivial⟩)) | (rotate_left 3; (focus exact ⟨⟨rfl, rfl, rfl, trivial⟩, trivial⟩))); rintro _ _ _ ⟨rfl, rfl, rfl⟩)
    | ((with_reducible apply conN_mk2 ?_ (share_con _ _) ?_);(first | (focus exact ⟨rfl, rfl, trivial⟩) | (rotate_left 1; (focus exact ⟨rfl, rfl, trivial⟩)) | (rotate_left 2; (focus exact ⟨rfl, rfl, trivial⟩))); skip)
    | ((with_reducible apply call_con2 ?_ (share_con _ _) ?_);(first | (focus exact ⟨rfl, rfl, trivial⟩) | (rotate_left 1; (focus exact ⟨rfl, rfl, trivial⟩)) | (rotate_left 2; (focus exact ⟨rfl, rfl, trivial⟩))); rintro _ _ _ ⟨rfl, rfl, rfl⟩)
    | ((with_reducible apply conN_mk2 ?_ (owners_2) ?_);(first | (focus exact ⟨rfl, trivial⟩)); skip)
    | ((with_reducible apply call_con2 ?_ (owners_2) ?_);(first | (focus exact ⟨rfl, trivial⟩)); rintro _ _ _ ⟨rfl, rfl, rfl⟩)
    | ((with_reducible apply conN_mk2 ?_ (kgroup_6 _ _ _ hk hj) ?_);(first | (focus exact ⟨⟨rfl, rfl, rfl, trivial⟩, trivial⟩) | (rotate_left 1; (focus exact ⟨⟨rfl, rfl, rfl, trivial⟩, trivial⟩)) | (rotate_left 2; (focus exact ⟨⟨rfl, rfl, rfl, trivial⟩, trivial⟩)) | (rotate_left 3; (focus exact ⟨⟨rfl, rfl, rfl, trivial⟩, trivial⟩))); skip)
    | ((with_reducible apply call_con2 ?_ (kgroup_6 _ _ _ hk hj) ?_);(first | (focus exact ⟨⟨rfl, rfl, rfl, trivial⟩, trivial⟩) | (rotate_left 1; (focus exact ⟨⟨rfl, rfl, rfl, trivial⟩, trivial⟩)) | (rotate_left 2; (focus exact ⟨⟨rfl, rfl, rfl, trivial⟩, trivial⟩)) | (rotate_left 3; (focus exact ⟨⟨rfl, rfl, rfl, trivial⟩, trivial⟩))); rintro _ _ _ ⟨rfl, rfl, rfl⟩))
  all_goals (try (conv => whnf))
  all_goals try (exfalso; first | omega | (simp_all; done))
  all_goals refine ret0 _ rfl _ rfl (fun _ => rfl) rfl ⟨?_, rfl, rfl⟩
  all_goals (refine rv_bool ?_; first | rfl | (exact bool_p (by omega)) | (simp; omega) | (simp [eq_comm]))

theorem mine_2_7 (s k v i : Int) (hr : okR s k) (hi : 0 ≤ i ∧ i < 2) (hj : k % 8 = 7) : Con Try.prog 15 [.agg [.v (.int .i64 s), .v (.int .i64 k), .v (.int .i64 v)], .one (.v (.int .i64 i)), .one (.v (.int .i64 2))] (fun rx rK rt => rx = .val (.bool (decide (1 = i))) ∧ rK = [] ∧ rt = 0) := by
  refine con_of tabOk 24 Try.f15 _ Try.func15 (by kernel_rfl) rfl rfl rfl rfl (fun W => ?_)
  have hk : 0 ≤ k := hr.2.1
  repeat' ((conv => whnf); first
    | with_reducible refine spB_t ?_
    | with_reducible refine spB_f ?_
    | with_reducible refine spB_not ?_
    | with_reducible refine spB_yes (by assumption) ?_
    | with_reducible refine spB_no (by assumption) ?_
    | (with_reducible refine spB_dec ?_ ?_ <;> intro _ <;> (try (exfalso; omega)))
    | (with_reducible refine spB_beq ?_ ?_ <;> intro _)
    | (with_reducible refine spB_bne ?_ ?_ <;> intro _)
    | (with_reducible refine spB_mk ?_ ?_ <;> intro _)
    | with_reducible refine wr_i64 (by omega) ?_
    | with_reducible refine wr_u64 (by omega) ?_
    | with_reducible refine wr_u8 (by omega) ?_
    | with_reducible refine wr_u32 (by omega) ?_
    | with_reducible refine wr_mk _ rfl ?_
    | ((with_reducible refine ixN_nat ?_ ?_); (focus (omega)))
    | ((with_reducible refine rowN_map ?_ ?_); (focus (omega)); intro x hx)
    | ((with_reducible refine ixN_mk 0 ?_ ?_ ?_); (focus rfl); (focus decide))
    | ((with_reducible refine ixN_mk 1 ?_ ?_ ?_); (focus rfl); (focus decide))
    | ((with_reducible refine ixN_mk 2 ?_ ?_ ?_); (focus rfl); (focus decide))
    | ((with_reducible refine ixN_mk 3 ?_ ?_ ?_); (focus rfl); (focus decide))
    | ((with_reducible refine ixN_mk 4 ?_ ?_ ?_); (focus rfl); (focus decide))
    | ((with_reducible refine ixN_mk 5 ?_ ?_ ?_); (focus rfl); (focus decide))
    | ((with_reducible refine ixN_mk 6 ?_ ?_ ?_); (focus rfl); (focus decide))
    | ((with_reducible refine ixN_mk 7 ?_ ?_ ?_); (focus rfl); (focus decide))
    | ((with_reducible refine posE_nil (by rfl) ?_))
    | ((with_reducible refine posE_pos (by decide) ?_))
    | with_reducible refine vN_mod (by omega) ?_
    | with_reducible refine vN_mk ?_
    | with_reducible refine nzN_mk (by omega) ?_
    | with_reducible refine eqN_dec (by omega) ?_
    | with_reducible refine draw_rule tabOk mixOk ?_
    | with_reducible refine apN_mk (by kernel_rfl) ?_
    | ((with_reducible apply conN_mk2 ?_ (check_con _ _ _) ?_);(first | (focus exact ⟨⟨rfl, rfl, rfl, trivial⟩, trivial⟩) | (rotate_left 1; (focus exact ⟨⟨rfl, rfl, rfl, trivial⟩, trivial⟩)) | (rotate_left 2; (focus exact ⟨⟨rfl, rfl, rfl, trivial⟩, trivial⟩)) | (rotate_left 3; (focus exact ⟨⟨rfl, rfl, rfl, trivial⟩, trivial⟩))); skip)
    | ((with_reducible apply call_con2 ?_ (check_con _ _ _) ?_);(first | (focus exact ⟨⟨rfl, rfl, rfl, trivial⟩, trivial⟩) | (rotate_left 1; (focus exact ⟨⟨rfl, rfl, rfl, trivial⟩, trivial⟩)) | (rotate_left 2; (focus exact ⟨⟨rfl, rfl, rfl, trivial⟩, trivial⟩)) | (rotate_left 3; (focus exact ⟨⟨rfl, rfl, rfl, trivial⟩, trivial⟩))); rintro _ _ _ ⟨rfl, rfl, rfl⟩)
    | ((with_reducible apply conN_mk2 ?_ (share_con _ _) ?_);(first | (focus exact ⟨rfl, rfl, trivial⟩) | (rotate_left 1; (focus exact ⟨rfl, rfl, trivial⟩)) | (rotate_left 2; (focus exact ⟨rfl, rfl, trivial⟩))); skip)
    | ((with_reducible apply call_con2 ?_ (share_con _ _) ?_);(first | (focus exact ⟨rfl, rfl, trivial⟩) | (rotate_left 1; (focus exact ⟨rfl, rfl, trivial⟩)) | (rotate_left 2; (focus exact ⟨rfl, rfl, trivial⟩))); rintro _ _ _ ⟨rfl, rfl, rfl⟩)
    | ((with_reducible apply conN_mk2 ?_ (owners_2) ?_);(first | (focus exact ⟨rfl, trivial⟩)); skip)
    | ((with_reducible apply call_con2 ?_ (owners_2) ?_);(first | (focus exact ⟨rfl, trivial⟩)); rintro _ _ _ ⟨rfl, rfl, rfl⟩)
    | ((with_reducible apply conN_mk2 ?_ (kgroup_7 _ _ _ hk hj) ?_);(first | (focus exact ⟨⟨rfl, rfl, rfl, trivial⟩, trivial⟩) | (rotate_left 1; (focus exact ⟨⟨rfl, rfl, rfl, trivial⟩, trivial⟩)) | (rotate_left 2; (focus exact ⟨⟨rfl, rfl, rfl, trivial⟩, trivial⟩)) | (rotate_left 3; (focus exact ⟨⟨rfl, rfl, rfl, trivial⟩, trivial⟩))); skip)
    | ((with_reducible apply call_con2 ?_ (kgroup_7 _ _ _ hk hj) ?_);(first | (focus exact ⟨⟨rfl, rfl, rfl, trivial⟩, trivial⟩) | (rotate_left 1; (focus exact ⟨⟨rfl, rfl, rfl, trivial⟩, trivial⟩)) | (rotate_left 2; (focus exact ⟨⟨rfl, rfl, rfl, trivial⟩, trivial⟩)) | (rotate_left 3; (focus exact ⟨⟨rfl, rfl, rfl, trivial⟩, trivial⟩))); rintro _ _ _ ⟨rfl, rfl, rfl⟩))
  all_goals (try (conv => whnf))
  all_goals try (exfalso; first | omega | (simp_all; done))
  all_goals refine ret0 _ rfl _ rfl (fun _ => rfl) rfl ⟨?_, rfl, rfl⟩
  all_goals (refine rv_bool ?_; first | rfl | (exact bool_p (by omega)) | (simp; omega) | (simp [eq_comm]))

theorem mine_3_0 (s k v i : Int) (hr : okR s k) (hi : 0 ≤ i ∧ i < 3) (hj : k % 8 = 0) : Con Try.prog 15 [.agg [.v (.int .i64 s), .v (.int .i64 k), .v (.int .i64 v)], .one (.v (.int .i64 i)), .one (.v (.int .i64 3))] (fun rx rK rt => rx = .val (.bool (decide (0 = i))) ∧ rK = [] ∧ rt = 0) := by
  refine con_of tabOk 24 Try.f15 _ Try.func15 (by kernel_rfl) rfl rfl rfl rfl (fun W => ?_)
  have hk : 0 ≤ k := hr.2.1
  repeat' ((conv => whnf); first
    | with_reducible refine spB_t ?_
    | with_reducible refine spB_f ?_
    | with_reducible refine spB_not ?_
    | with_reducible refine spB_yes (by assumption) ?_
    | with_reducible refine spB_no (by assumption) ?_
    | (with_reducible refine spB_dec ?_ ?_ <;> intro _ <;> (try (exfalso; omega)))
    | (with_reducible refine spB_beq ?_ ?_ <;> intro _)
    | (with_reducible refine spB_bne ?_ ?_ <;> intro _)
    | (with_reducible refine spB_mk ?_ ?_ <;> intro _)
    | with_reducible refine wr_i64 (by omega) ?_
    | with_reducible refine wr_u64 (by omega) ?_
    | with_reducible refine wr_u8 (by omega) ?_
    | with_reducible refine wr_u32 (by omega) ?_
    | with_reducible refine wr_mk _ rfl ?_
    | ((with_reducible refine ixN_nat ?_ ?_); (focus (omega)))
    | ((with_reducible refine rowN_map ?_ ?_); (focus (omega)); intro x hx)
    | ((with_reducible refine ixN_mk 0 ?_ ?_ ?_); (focus rfl); (focus decide))
    | ((with_reducible refine ixN_mk 1 ?_ ?_ ?_); (focus rfl); (focus decide))
    | ((with_reducible refine ixN_mk 2 ?_ ?_ ?_); (focus rfl); (focus decide))
    | ((with_reducible refine ixN_mk 3 ?_ ?_ ?_); (focus rfl); (focus decide))
    | ((with_reducible refine ixN_mk 4 ?_ ?_ ?_); (focus rfl); (focus decide))
    | ((with_reducible refine ixN_mk 5 ?_ ?_ ?_); (focus rfl); (focus decide))
    | ((with_reducible refine ixN_mk 6 ?_ ?_ ?_); (focus rfl); (focus decide))
    | ((with_reducible refine ixN_mk 7 ?_ ?_ ?_); (focus rfl); (focus decide))
    | ((with_reducible refine posE_nil (by rfl) ?_))
    | ((with_reducible refine posE_pos (by decide) ?_))
    | with_reducible refine vN_mod (by omega) ?_
    | with_reducible refine vN_mk ?_
    | with_reducible refine nzN_mk (by omega) ?_
    | with_reducible refine eqN_dec (by omega) ?_
    | with_reducible refine draw_rule tabOk mixOk ?_
    | with_reducible refine apN_mk (by kernel_rfl) ?_
    | ((with_reducible apply conN_mk2 ?_ (check_con _ _ _) ?_);(first | (focus exact ⟨⟨rfl, rfl, rfl, trivial⟩, trivial⟩) | (rotate_left 1; (focus exact ⟨⟨rfl, rfl, rfl, trivial⟩, trivial⟩)) | (rotate_left 2; (focus exact ⟨⟨rfl, rfl, rfl, trivial⟩, trivial⟩)) | (rotate_left 3; (focus exact ⟨⟨rfl, rfl, rfl, trivial⟩, trivial⟩))); skip)
    | ((with_reducible apply call_con2 ?_ (check_con _ _ _) ?_);(first | (focus exact ⟨⟨rfl, rfl, rfl, trivial⟩, trivial⟩) | (rotate_left 1; (focus exact ⟨⟨rfl, rfl, rfl, trivial⟩, trivial⟩)) | (rotate_left 2; (focus exact ⟨⟨rfl, rfl, rfl, trivial⟩, trivial⟩)) | (rotate_left 3; (focus exact ⟨⟨rfl, rfl, rfl, trivial⟩, trivial⟩))); rintro _ _ _ ⟨rfl, rfl, rfl⟩)
    | ((with_reducible apply conN_mk2 ?_ (share_con _ _) ?_);(first | (focus exact ⟨rfl, rfl, trivial⟩) | (rotate_left 1; (focus exact ⟨rfl, rfl, trivial⟩)) | (rotate_left 2; (focus exact ⟨rfl, rfl, trivial⟩))); skip)
    | ((with_reducible apply call_con2 ?_ (share_con _ _) ?_);(first | (focus exact ⟨rfl, rfl, trivial⟩) | (rotate_left 1; (focus exact ⟨rfl, rfl, trivial⟩)) | (rotate_left 2; (focus exact ⟨rfl, rfl, trivial⟩))); rintro _ _ _ ⟨rfl, rfl, rfl⟩)
    | ((with_reducible apply conN_mk2 ?_ (owners_3) ?_);(first | (focus exact ⟨rfl, trivial⟩)); skip)
    | ((with_reducible apply call_con2 ?_ (owners_3) ?_);(first | (focus exact ⟨rfl, trivial⟩)); rintro _ _ _ ⟨rfl, rfl, rfl⟩)
    | ((with_reducible apply conN_mk2 ?_ (kgroup_0 _ _ _ hk hj) ?_);(first | (focus exact ⟨⟨rfl, rfl, rfl, trivial⟩, trivial⟩) | (rotate_left 1; (focus exact ⟨⟨rfl, rfl, rfl, trivial⟩, trivial⟩)) | (rotate_left 2; (focus exact ⟨⟨rfl, rfl, rfl, trivial⟩, trivial⟩)) | (rotate_left 3; (focus exact ⟨⟨rfl, rfl, rfl, trivial⟩, trivial⟩))); skip)
    | ((with_reducible apply call_con2 ?_ (kgroup_0 _ _ _ hk hj) ?_);(first | (focus exact ⟨⟨rfl, rfl, rfl, trivial⟩, trivial⟩) | (rotate_left 1; (focus exact ⟨⟨rfl, rfl, rfl, trivial⟩, trivial⟩)) | (rotate_left 2; (focus exact ⟨⟨rfl, rfl, rfl, trivial⟩, trivial⟩)) | (rotate_left 3; (focus exact ⟨⟨rfl, rfl, rfl, trivial⟩, trivial⟩))); rintro _ _ _ ⟨rfl, rfl, rfl⟩))
  all_goals (try (conv => whnf))
  all_goals try (exfalso; first | omega | (simp_all; done))
  all_goals refine ret0 _ rfl _ rfl (fun _ => rfl) rfl ⟨?_, rfl, rfl⟩
  all_goals (refine rv_bool ?_; first | rfl | (exact bool_p (by omega)) | (simp; omega) | (simp [eq_comm]))

theorem mine_3_1 (s k v i : Int) (hr : okR s k) (hi : 0 ≤ i ∧ i < 3) (hj : k % 8 = 1) : Con Try.prog 15 [.agg [.v (.int .i64 s), .v (.int .i64 k), .v (.int .i64 v)], .one (.v (.int .i64 i)), .one (.v (.int .i64 3))] (fun rx rK rt => rx = .val (.bool (decide (0 = i))) ∧ rK = [] ∧ rt = 0) := by
  refine con_of tabOk 24 Try.f15 _ Try.func15 (by kernel_rfl) rfl rfl rfl rfl (fun W => ?_)
  have hk : 0 ≤ k := hr.2.1
  repeat' ((conv => whnf); first
    | with_reducible refine spB_t ?_
    | with_reducible refine spB_f ?_
    | with_reducible refine spB_not ?_
    | with_reducible refine spB_yes (by assumption) ?_
    | with_reducible refine spB_no (by assumption) ?_
    | (with_reducible refine spB_dec ?_ ?_ <;> intro _ <;> (try (exfalso; omega)))
    | (with_reducible refine spB_beq ?_ ?_ <;> intro _)
    | (with_reducible refine spB_bne ?_ ?_ <;> intro _)
    | (with_reducible refine spB_mk ?_ ?_ <;> intro _)
    | with_reducible refine wr_i64 (by omega) ?_
    | with_reducible refine wr_u64 (by omega) ?_
    | with_reducible refine wr_u8 (by omega) ?_
    | with_reducible refine wr_u32 (by omega) ?_
    | with_reducible refine wr_mk _ rfl ?_
    | ((with_reducible refine ixN_nat ?_ ?_); (focus (omega)))
    | ((with_reducible refine rowN_map ?_ ?_); (focus (omega)); intro x hx)
    | ((with_reducible refine ixN_mk 0 ?_ ?_ ?_); (focus rfl); (focus decide))
    | ((with_reducible refine ixN_mk 1 ?_ ?_ ?_); (focus rfl); (focus decide))
    | ((with_reducible refine ixN_mk 2 ?_ ?_ ?_); (focus rfl); (focus decide))
    | ((with_reducible refine ixN_mk 3 ?_ ?_ ?_); (focus rfl); (focus decide))
    | ((with_reducible refine ixN_mk 4 ?_ ?_ ?_); (focus rfl); (focus decide))
    | ((with_reducible refine ixN_mk 5 ?_ ?_ ?_); (focus rfl); (focus decide))
    | ((with_reducible refine ixN_mk 6 ?_ ?_ ?_); (focus rfl); (focus decide))
    | ((with_reducible refine ixN_mk 7 ?_ ?_ ?_); (focus rfl); (focus decide))
    | ((with_reducible refine posE_nil (by rfl) ?_))
    | ((with_reducible refine posE_pos (by decide) ?_))
    | with_reducible refine vN_mod (by omega) ?_
    | with_reducible refine vN_mk ?_
    | with_reducible refine nzN_mk (by omega) ?_
    | with_reducible refine eqN_dec (by omega) ?_
    | with_reducible refine draw_rule tabOk mixOk ?_
    | with_reducible refine apN_mk (by kernel_rfl) ?_
    | ((with_reducible apply conN_mk2 ?_ (check_con _ _ _) ?_);(first | (focus exact ⟨⟨rfl, rfl, rfl, trivial⟩, trivial⟩) | (rotate_left 1; (focus exact ⟨⟨rfl, rfl, rfl, trivial⟩, trivial⟩)) | (rotate_left 2; (focus exact ⟨⟨rfl, rfl, rfl, trivial⟩, trivial⟩)) | (rotate_left 3; (focus exact ⟨⟨rfl, rfl, rfl, trivial⟩, trivial⟩))); skip)
    | ((with_reducible apply call_con2 ?_ (check_con _ _ _) ?_);(first | (focus exact ⟨⟨rfl, rfl, rfl, trivial⟩, trivial⟩) | (rotate_left 1; (focus exact ⟨⟨rfl, rfl, rfl, trivial⟩, trivial⟩)) | (rotate_left 2; (focus exact ⟨⟨rfl, rfl, rfl, trivial⟩, trivial⟩)) | (rotate_left 3; (focus exact ⟨⟨rfl, rfl, rfl, trivial⟩, trivial⟩))); rintro _ _ _ ⟨rfl, rfl, rfl⟩)
    | ((with_reducible apply conN_mk2 ?_ (share_con _ _) ?_);(first | (focus exact ⟨rfl, rfl, trivial⟩) | (rotate_left 1; (focus exact ⟨rfl, rfl, trivial⟩)) | (rotate_left 2; (focus exact ⟨rfl, rfl, trivial⟩))); skip)
    | ((with_reducible apply call_con2 ?_ (share_con _ _) ?_);(first | (focus exact ⟨rfl, rfl, trivial⟩) | (rotate_left 1; (focus exact ⟨rfl, rfl, trivial⟩)) | (rotate_left 2; (focus exact ⟨rfl, rfl, trivial⟩))); rintro _ _ _ ⟨rfl, rfl, rfl⟩)
    | ((with_reducible apply conN_mk2 ?_ (owners_3) ?_);(first | (focus exact ⟨rfl, trivial⟩)); skip)
    | ((with_reducible apply call_con2 ?_ (owners_3) ?_);(first | (focus exact ⟨rfl, trivial⟩)); rintro _ _ _ ⟨rfl, rfl, rfl⟩)
    | ((with_reducible apply conN_mk2 ?_ (kgroup_1 _ _ _ hk hj) ?_);(first | (focus exact ⟨⟨rfl, rfl, rfl, trivial⟩, trivial⟩) | (rotate_left 1; (focus exact ⟨⟨rfl, rfl, rfl, trivial⟩, trivial⟩)) | (rotate_left 2; (focus exact ⟨⟨rfl, rfl, rfl, trivial⟩, trivial⟩)) | (rotate_left 3; (focus exact ⟨⟨rfl, rfl, rfl, trivial⟩, trivial⟩))); skip)
    | ((with_reducible apply call_con2 ?_ (kgroup_1 _ _ _ hk hj) ?_);(first | (focus exact ⟨⟨rfl, rfl, rfl, trivial⟩, trivial⟩) | (rotate_left 1; (focus exact ⟨⟨rfl, rfl, rfl, trivial⟩, trivial⟩)) | (rotate_left 2; (focus exact ⟨⟨rfl, rfl, rfl, trivial⟩, trivial⟩)) | (rotate_left 3; (focus exact ⟨⟨rfl, rfl, rfl, trivial⟩, trivial⟩))); rintro _ _ _ ⟨rfl, rfl, rfl⟩))
  all_goals (try (conv => whnf))
  all_goals try (exfalso; first | omega | (simp_all; done))
  all_goals refine ret0 _ rfl _ rfl (fun _ => rfl) rfl ⟨?_, rfl, rfl⟩
  all_goals (refine rv_bool ?_; first | rfl | (exact bool_p (by omega)) | (simp; omega) | (simp [eq_comm]))

theorem mine_3_2 (s k v i : Int) (hr : okR s k) (hi : 0 ≤ i ∧ i < 3) (hj : k % 8 = 2) : Con Try.prog 15 [.agg [.v (.int .i64 s), .v (.int .i64 k), .v (.int .i64 v)], .one (.v (.int .i64 i)), .one (.v (.int .i64 3))] (fun rx rK rt => rx = .val (.bool (decide (0 = i))) ∧ rK = [] ∧ rt = 0) := by
  refine con_of tabOk 24 Try.f15 _ Try.func15 (by kernel_rfl) rfl rfl rfl rfl (fun W => ?_)
  have hk : 0 ≤ k := hr.2.1
  repeat' ((conv => whnf); first
    | with_reducible refine spB_t ?_
    | with_reducible refine spB_f ?_
    | with_reducible refine spB_not ?_
    | with_reducible refine spB_yes (by assumption) ?_
    | with_reducible refine spB_no (by assumption) ?_
    | (with_reducible refine spB_dec ?_ ?_ <;> intro _ <;> (try (exfalso; omega)))
    | (with_reducible refine spB_beq ?_ ?_ <;> intro _)
    | (with_reducible refine spB_bne ?_ ?_ <;> intro _)
    | (with_reducible refine spB_mk ?_ ?_ <;> intro _)
    | with_reducible refine wr_i64 (by omega) ?_
    | with_reducible refine wr_u64 (by omega) ?_
    | with_reducible refine wr_u8 (by omega) ?_
    | with_reducible refine wr_u32 (by omega) ?_
    | with_reducible refine wr_mk _ rfl ?_
    | ((with_reducible refine ixN_nat ?_ ?_); (focus (omega)))
    | ((with_reducible refine rowN_map ?_ ?_); (focus (omega)); intro x hx)
    | ((with_reducible refine ixN_mk 0 ?_ ?_ ?_); (focus rfl); (focus decide))
    | ((with_reducible refine ixN_mk 1 ?_ ?_ ?_); (focus rfl); (focus decide))
    | ((with_reducible refine ixN_mk 2 ?_ ?_ ?_); (focus rfl); (focus decide))
    | ((with_reducible refine ixN_mk 3 ?_ ?_ ?_); (focus rfl); (focus decide))
    | ((with_reducible refine ixN_mk 4 ?_ ?_ ?_); (focus rfl); (focus decide))
    | ((with_reducible refine ixN_mk 5 ?_ ?_ ?_); (focus rfl); (focus decide))
    | ((with_reducible refine ixN_mk 6 ?_ ?_ ?_); (focus rfl); (focus decide))
    | ((with_reducible refine ixN_mk 7 ?_ ?_ ?_); (focus rfl); (focus decide))
    | ((with_reducible refine posE_nil (by rfl) ?_))
    | ((with_reducible refine posE_pos (by decide) ?_))
    | with_reducible refine vN_mod (by omega) ?_
    | with_reducible refine vN_mk ?_
    | with_reducible refine nzN_mk (by omega) ?_
    | with_reducible refine eqN_dec (by omega) ?_
    | with_reducible refine draw_rule tabOk mixOk ?_
    | with_reducible refine apN_mk (by kernel_rfl) ?_
    | ((with_reducible apply conN_mk2 ?_ (check_con _ _ _) ?_);(first | (focus exact ⟨⟨rfl, rfl, rfl, trivial⟩, trivial⟩) | (rotate_left 1; (focus exact ⟨⟨rfl, rfl, rfl, trivial⟩, trivial⟩)) | (rotate_left 2; (focus exact ⟨⟨rfl, rfl, rfl, trivial⟩, trivial⟩)) | (rotate_left 3; (focus exact ⟨⟨rfl, rfl, rfl, trivial⟩, trivial⟩))); skip)
    | ((with_reducible apply call_con2 ?_ (check_con _ _ _) ?_);(first | (focus exact ⟨⟨rfl, rfl, rfl, trivial⟩, trivial⟩) | (rotate_left 1; (focus exact ⟨⟨rfl, rfl, rfl, trivial⟩, trivial⟩)) | (rotate_left 2; (focus exact ⟨⟨rfl, rfl, rfl, trivial⟩, trivial⟩)) | (rotate_left 3; (focus exact ⟨⟨rfl, rfl, rfl, trivial⟩, trivial⟩))); rintro _ _ _ ⟨rfl, rfl, rfl⟩)
    | ((with_reducible apply conN_mk2 ?_ (share_con _ _) ?_);(first | (focus exact ⟨rfl, rfl, trivial⟩) | (rotate_left 1; (focus exact ⟨rfl, rfl, trivial⟩)) | (rotate_left 2; (focus exact ⟨rfl, rfl, trivial⟩))); skip)
    | ((with_reducible apply call_con2 ?_ (share_con _ _) ?_);(first | (focus exact ⟨rfl, rfl, trivial⟩) | (rotate_left 1; (focus exact ⟨rfl, rfl, trivial⟩)) | (rotate_left 2; (focus exact ⟨rfl, rfl, trivial⟩))); rintro _ _ _ ⟨rfl, rfl, rfl⟩)
    | ((with_reducible apply conN_mk2 ?_ (owners_3) ?_);(first | (focus exact ⟨rfl, trivial⟩)); skip)
    | ((with_reducible apply call_con2 ?_ (owners_3) ?_);(first | (focus exact ⟨rfl, trivial⟩)); rintro _ _ _ ⟨rfl, rfl, rfl⟩)
    | ((with_reducible apply conN_mk2 ?_ (kgroup_2 _ _ _ hk hj) ?_);(first | (focus exact ⟨⟨rfl, rfl, rfl, trivial⟩, trivial⟩) | (rotate_left 1; (focus exact ⟨⟨rfl, rfl, rfl, trivial⟩, trivial⟩)) | (rotate_left 2; (focus exact ⟨⟨rfl, rfl, rfl, trivial⟩, trivial⟩)) | (rotate_left 3; (focus exact ⟨⟨rfl, rfl, rfl, trivial⟩, trivial⟩))); skip)
    | ((with_reducible apply call_con2 ?_ (kgroup_2 _ _ _ hk hj) ?_);(first | (focus exact ⟨⟨rfl, rfl, rfl, trivial⟩, trivial⟩) | (rotate_left 1; (focus exact ⟨⟨rfl, rfl, rfl, trivial⟩, trivial⟩)) | (rotate_left 2; (focus exact ⟨⟨rfl, rfl, rfl, trivial⟩, trivial⟩)) | (rotate_left 3; (focus exact ⟨⟨rfl, rfl, rfl, trivial⟩, trivial⟩))); rintro _ _ _ ⟨rfl, rfl, rfl⟩))
  all_goals (try (conv => whnf))
  all_goals try (exfalso; first | omega | (simp_all; done))
  all_goals refine ret0 _ rfl _ rfl (fun _ => rfl) rfl ⟨?_, rfl, rfl⟩
  all_goals (refine rv_bool ?_; first | rfl | (exact bool_p (by omega)) | (simp; omega) | (simp [eq_comm]))

theorem mine_3_3 (s k v i : Int) (hr : okR s k) (hi : 0 ≤ i ∧ i < 3) (hj : k % 8 = 3) : Con Try.prog 15 [.agg [.v (.int .i64 s), .v (.int .i64 k), .v (.int .i64 v)], .one (.v (.int .i64 i)), .one (.v (.int .i64 3))] (fun rx rK rt => rx = .val (.bool (decide (1 = i))) ∧ rK = [] ∧ rt = 0) := by
  refine con_of tabOk 24 Try.f15 _ Try.func15 (by kernel_rfl) rfl rfl rfl rfl (fun W => ?_)
  have hk : 0 ≤ k := hr.2.1
  repeat' ((conv => whnf); first
    | with_reducible refine spB_t ?_
    | with_reducible refine spB_f ?_
    | with_reducible refine spB_not ?_
    | with_reducible refine spB_yes (by assumption) ?_
    | with_reducible refine spB_no (by assumption) ?_
    | (with_reducible refine spB_dec ?_ ?_ <;> intro _ <;> (try (exfalso; omega)))
    | (with_reducible refine spB_beq ?_ ?_ <;> intro _)
    | (with_reducible refine spB_bne ?_ ?_ <;> intro _)
    | (with_reducible refine spB_mk ?_ ?_ <;> intro _)
    | with_reducible refine wr_i64 (by omega) ?_
    | with_reducible refine wr_u64 (by omega) ?_
    | with_reducible refine wr_u8 (by omega) ?_
    | with_reducible refine wr_u32 (by omega) ?_
    | with_reducible refine wr_mk _ rfl ?_
    | ((with_reducible refine ixN_nat ?_ ?_); (focus (omega)))
    | ((with_reducible refine rowN_map ?_ ?_); (focus (omega)); intro x hx)
    | ((with_reducible refine ixN_mk 0 ?_ ?_ ?_); (focus rfl); (focus decide))
    | ((with_reducible refine ixN_mk 1 ?_ ?_ ?_); (focus rfl); (focus decide))
    | ((with_reducible refine ixN_mk 2 ?_ ?_ ?_); (focus rfl); (focus decide))
    | ((with_reducible refine ixN_mk 3 ?_ ?_ ?_); (focus rfl); (focus decide))
    | ((with_reducible refine ixN_mk 4 ?_ ?_ ?_); (focus rfl); (focus decide))
    | ((with_reducible refine ixN_mk 5 ?_ ?_ ?_); (focus rfl); (focus decide))
    | ((with_reducible refine ixN_mk 6 ?_ ?_ ?_); (focus rfl); (focus decide))
    | ((with_reducible refine ixN_mk 7 ?_ ?_ ?_); (focus rfl); (focus decide))
    | ((with_reducible refine posE_nil (by rfl) ?_))
    | ((with_reducible refine posE_pos (by decide) ?_))
    | with_reducible refine vN_mod (by omega) ?_
    | with_reducible refine vN_mk ?_
    | with_reducible refine nzN_mk (by omega) ?_
    | with_reducible refine eqN_dec (by omega) ?_
    | with_reducible refine draw_rule tabOk mixOk ?_
    | with_reducible refine apN_mk (by kernel_rfl) ?_
    | ((with_reducible apply conN_mk2 ?_ (check_con _ _ _) ?_);(first | (focus exact ⟨⟨rfl, rfl, rfl, trivial⟩, trivial⟩) | (rotate_left 1; (focus exact ⟨⟨rfl, rfl, rfl, trivial⟩, trivial⟩)) | (rotate_left 2; (focus exact ⟨⟨rfl, rfl, rfl, trivial⟩, trivial⟩)) | (rotate_left 3; (focus exact ⟨⟨rfl, rfl, rfl, trivial⟩, trivial⟩))); skip)
    | ((with_reducible apply call_con2 ?_ (check_con _ _ _) ?_);(first | (focus exact ⟨⟨rfl, rfl, rfl, trivial⟩, trivial⟩) | (rotate_left 1; (focus exact ⟨⟨rfl, rfl, rfl, trivial⟩, trivial⟩)) | (rotate_left 2; (focus exact ⟨⟨rfl, rfl, rfl, trivial⟩, trivial⟩)) | (rotate_left 3; (focus exact ⟨⟨rfl, rfl, rfl, trivial⟩, trivial⟩))); rintro _ _ _ ⟨rfl, rfl, rfl⟩)
    | ((with_reducible apply conN_mk2 ?_ (share_con _ _) ?_);(first | (focus exact ⟨rfl, rfl, trivial⟩) | (rotate_left 1; (focus exact ⟨rfl, rfl, trivial⟩)) | (rotate_left 2; (focus exact ⟨rfl, rfl, trivial⟩))); skip)
    | ((with_reducible apply call_con2 ?_ (share_con _ _) ?_);(first | (focus exact ⟨rfl, rfl, trivial⟩) | (rotate_left 1; (focus exact ⟨rfl, rfl, trivial⟩)) | (rotate_left 2; (focus exact ⟨rfl, rfl, trivial⟩))); rintro _ _ _ ⟨rfl, rfl, rfl⟩)
    | ((with_reducible apply conN_mk2 ?_ (owners_3) ?_);(first | (focus exact ⟨rfl, trivial⟩)); skip)
    | ((with_reducible apply call_con2 ?_ (owners_3) ?_);(first | (focus exact ⟨rfl, trivial⟩)); rintro _ _ _ ⟨rfl, rfl, rfl⟩)
    | ((with_reducible apply conN_mk2 ?_ (kgroup_3 _ _ _ hk hj) ?_);(first | (focus exact ⟨⟨rfl, rfl, rfl, trivial⟩, trivial⟩) | (rotate_left 1; (focus exact ⟨⟨rfl, rfl, rfl, trivial⟩, trivial⟩)) | (rotate_left 2; (focus exact ⟨⟨rfl, rfl, rfl, trivial⟩, trivial⟩)) | (rotate_left 3; (focus exact ⟨⟨rfl, rfl, rfl, trivial⟩, trivial⟩))); skip)
    | ((with_reducible apply call_con2 ?_ (kgroup_3 _ _ _ hk hj) ?_);(first | (focus exact ⟨⟨rfl, rfl, rfl, trivial⟩, trivial⟩) | (rotate_left 1; (focus exact ⟨⟨rfl, rfl, rfl, trivial⟩, trivial⟩)) | (rotate_left 2; (focus exact ⟨⟨rfl, rfl, rfl, trivial⟩, trivial⟩)) | (rotate_left 3; (focus exact ⟨⟨rfl, rfl, rfl, trivial⟩, trivial⟩))); rintro _ _ _ ⟨rfl, rfl, rfl⟩))
  all_goals (try (conv => whnf))
  all_goals try (exfalso; first | omega | (simp_all; done))
  all_goals refine ret0 _ rfl _ rfl (fun _ => rfl) rfl ⟨?_, rfl, rfl⟩
  all_goals (refine rv_bool ?_; first | rfl | (exact bool_p (by omega)) | (simp; omega) | (simp [eq_comm]))

theorem mine_3_4 (s k v i : Int) (hr : okR s k) (hi : 0 ≤ i ∧ i < 3) (hj : k % 8 = 4) : Con Try.prog 15 [.agg [.v (.int .i64 s), .v (.int .i64 k), .v (.int .i64 v)], .one (.v (.int .i64 i)), .one (.v (.int .i64 3))] (fun rx rK rt => rx = .val (.bool (decide (1 = i))) ∧ rK = [] ∧ rt = 0) := by
  refine con_of tabOk 24 Try.f15 _ Try.func15 (by kernel_rfl) rfl rfl rfl rfl (fun W => ?_)
  have hk : 0 ≤ k := hr.2.1
  repeat' ((conv => whnf); first
    | with_reducible refine spB_t ?_
    | with_reducible refine spB_f ?_
    | with_reducible refine spB_not ?_
    | with_reducible refine spB_yes (by assumption) ?_
    | with_reducible refine spB_no (by assumption) ?_
    | (with_reducible refine spB_dec ?_ ?_ <;> intro _ <;> (try (exfalso; omega)))
    | (with_reducible refine spB_beq ?_ ?_ <;> intro _)
    | (with_reducible refine spB_bne ?_ ?_ <;> intro _)
    | (with_reducible refine spB_mk ?_ ?_ <;> intro _)
    | with_reducible refine wr_i64 (by omega) ?_
    | with_reducible refine wr_u64 (by omega) ?_
    | with_reducible refine wr_u8 (by omega) ?_
    | with_reducible refine wr_u32 (by omega) ?_
    | with_reducible refine wr_mk _ rfl ?_
    | ((with_reducible refine ixN_nat ?_ ?_); (focus (omega)))
    | ((with_reducible refine rowN_map ?_ ?_); (focus (omega)); intro x hx)
    | ((with_reducible refine ixN_mk 0 ?_ ?_ ?_); (focus rfl); (focus decide))
    | ((with_reducible refine ixN_mk 1 ?_ ?_ ?_); (focus rfl); (focus decide))
    | ((with_reducible refine ixN_mk 2 ?_ ?_ ?_); (focus rfl); (focus decide))
    | ((with_reducible refine ixN_mk 3 ?_ ?_ ?_); (focus rfl); (focus decide))
    | ((with_reducible refine ixN_mk 4 ?_ ?_ ?_); (focus rfl); (focus decide))
    | ((with_reducible refine ixN_mk 5 ?_ ?_ ?_); (focus rfl); (focus decide))
    | ((with_reducible refine ixN_mk 6 ?_ ?_ ?_); (focus rfl); (focus decide))
    | ((with_reducible refine ixN_mk 7 ?_ ?_ ?_); (focus rfl); (focus decide))
    | ((with_reducible refine posE_nil (by rfl) ?_))
    | ((with_reducible refine posE_pos (by decide) ?_))
    | with_reducible refine vN_mod (by omega) ?_
    | with_reducible refine vN_mk ?_
    | with_reducible refine nzN_mk (by omega) ?_
    | with_reducible refine eqN_dec (by omega) ?_
    | with_reducible refine draw_rule tabOk mixOk ?_
    | with_reducible refine apN_mk (by kernel_rfl) ?_
    | ((with_reducible apply conN_mk2 ?_ (check_con _ _ _) ?_);(first | (focus exact ⟨⟨rfl, rfl, rfl, trivial⟩, trivial⟩) | (rotate_left 1; (focus exact ⟨⟨rfl, rfl, rfl, trivial⟩, trivial⟩)) | (rotate_left 2; (focus exact ⟨⟨rfl, rfl, rfl, trivial⟩, trivial⟩)) | (rotate_left 3; (focus exact ⟨⟨rfl, rfl, rfl, trivial⟩, trivial⟩))); skip)
    | ((with_reducible apply call_con2 ?_ (check_con _ _ _) ?_);(first | (focus exact ⟨⟨rfl, rfl, rfl, trivial⟩, trivial⟩) | (rotate_left 1; (focus exact ⟨⟨rfl, rfl, rfl, trivial⟩, trivial⟩)) | (rotate_left 2; (focus exact ⟨⟨rfl, rfl, rfl, trivial⟩, trivial⟩)) | (rotate_left 3; (focus exact ⟨⟨rfl, rfl, rfl, trivial⟩, trivial⟩))); rintro _ _ _ ⟨rfl, rfl, rfl⟩)
    | ((with_reducible apply conN_mk2 ?_ (share_con _ _) ?_);(first | (focus exact ⟨rfl, rfl, trivial⟩) | (rotate_left 1; (focus exact ⟨rfl, rfl, trivial⟩)) | (rotate_left 2; (focus exact ⟨rfl, rfl, trivial⟩))); skip)
    | ((with_reducible apply call_con2 ?_ (share_con _ _) ?_);(first | (focus exact ⟨rfl, rfl, trivial⟩) | (rotate_left 1; (focus exact ⟨rfl, rfl, trivial⟩)) | (rotate_left 2; (focus exact ⟨rfl, rfl, trivial⟩))); rintro _ _ _ ⟨rfl, rfl, rfl⟩)
    | ((with_reducible apply conN_mk2 ?_ (owners_3) ?_);(first | (focus exact ⟨rfl, trivial⟩)); skip)
    | ((with_reducible apply call_con2 ?_ (owners_3) ?_);(first | (focus exact ⟨rfl, trivial⟩)); rintro _ _ _ ⟨rfl, rfl, rfl⟩)
    | ((with_reducible apply conN_mk2 ?_ (kgroup_4 _ _ _ hk hj) ?_);(first | (focus exact ⟨⟨rfl, rfl, rfl, trivial⟩, trivial⟩) | (rotate_left 1; (focus exact ⟨⟨rfl, rfl, rfl, trivial⟩, trivial⟩)) | (rotate_left 2; (focus exact ⟨⟨rfl, rfl, rfl, trivial⟩, trivial⟩)) | (rotate_left 3; (focus exact ⟨⟨rfl, rfl, rfl, trivial⟩, trivial⟩))); skip)
    | ((with_reducible apply call_con2 ?_ (kgroup_4 _ _ _ hk hj) ?_);(first | (focus exact ⟨⟨rfl, rfl, rfl, trivial⟩, trivial⟩) | (rotate_left 1; (focus exact ⟨⟨rfl, rfl, rfl, trivial⟩, trivial⟩)) | (rotate_left 2; (focus exact ⟨⟨rfl, rfl, rfl, trivial⟩, trivial⟩)) | (rotate_left 3; (focus exact ⟨⟨rfl, rfl, rfl, trivial⟩, trivial⟩))); rintro _ _ _ ⟨rfl, rfl, rfl⟩))
  all_goals (try (conv => whnf))
  all_goals try (exfalso; first | omega | (simp_all; done))
  all_goals refine ret0 _ rfl _ rfl (fun _ => rfl) rfl ⟨?_, rfl, rfl⟩
  all_goals (refine rv_bool ?_; first | rfl | (exact bool_p (by omega)) | (simp; omega) | (simp [eq_comm]))

theorem mine_3_5 (s k v i : Int) (hr : okR s k) (hi : 0 ≤ i ∧ i < 3) (hj : k % 8 = 5) : Con Try.prog 15 [.agg [.v (.int .i64 s), .v (.int .i64 k), .v (.int .i64 v)], .one (.v (.int .i64 i)), .one (.v (.int .i64 3))] (fun rx rK rt => rx = .val (.bool (decide (1 = i))) ∧ rK = [] ∧ rt = 0) := by
  refine con_of tabOk 24 Try.f15 _ Try.func15 (by kernel_rfl) rfl rfl rfl rfl (fun W => ?_)
  have hk : 0 ≤ k := hr.2.1
  repeat' ((conv => whnf); first
    | with_reducible refine spB_t ?_
    | with_reducible refine spB_f ?_
    | with_reducible refine spB_not ?_
    | with_reducible refine spB_yes (by assumption) ?_
    | with_reducible refine spB_no (by assumption) ?_
    | (with_reducible refine spB_dec ?_ ?_ <;> intro _ <;> (try (exfalso; omega)))
    | (with_reducible refine spB_beq ?_ ?_ <;> intro _)
    | (with_reducible refine spB_bne ?_ ?_ <;> intro _)
    | (with_reducible refine spB_mk ?_ ?_ <;> intro _)
    | with_reducible refine wr_i64 (by omega) ?_
    | with_reducible refine wr_u64 (by omega) ?_
    | with_reducible refine wr_u8 (by omega) ?_
    | with_reducible refine wr_u32 (by omega) ?_
    | with_reducible refine wr_mk _ rfl ?_
    | ((with_reducible refine ixN_nat ?_ ?_); (focus (omega)))
    | ((with_reducible refine rowN_map ?_ ?_); (focus (omega)); intro x hx)
    | ((with_reducible refine ixN_mk 0 ?_ ?_ ?_); (focus rfl); (focus decide))
    | ((with_reducible refine ixN_mk 1 ?_ ?_ ?_); (focus rfl); (focus decide))
    | ((with_reducible refine ixN_mk 2 ?_ ?_ ?_); (focus rfl); (focus decide))
    | ((with_reducible refine ixN_mk 3 ?_ ?_ ?_); (focus rfl); (focus decide))
    | ((with_reducible refine ixN_mk 4 ?_ ?_ ?_); (focus rfl); (focus decide))
    | ((with_reducible refine ixN_mk 5 ?_ ?_ ?_); (focus rfl); (focus decide))
    | ((with_reducible refine ixN_mk 6 ?_ ?_ ?_); (focus rfl); (focus decide))
    | ((with_reducible refine ixN_mk 7 ?_ ?_ ?_); (focus rfl); (focus decide))
    | ((with_reducible refine posE_nil (by rfl) ?_))
    | ((with_reducible refine posE_pos (by decide) ?_))
    | with_reducible refine vN_mod (by omega) ?_
    | with_reducible refine vN_mk ?_
    | with_reducible refine nzN_mk (by omega) ?_
    | with_reducible refine eqN_dec (by omega) ?_
    | with_reducible refine draw_rule tabOk mixOk ?_
    | with_reducible refine apN_mk (by kernel_rfl) ?_
    | ((with_reducible apply conN_mk2 ?_ (check_con _ _ _) ?_);(first | (focus exact ⟨⟨rfl, rfl, rfl, trivial⟩, trivial⟩) | (rotate_left 1; (focus exact ⟨⟨rfl, rfl, rfl, trivial⟩, trivial⟩)) | (rotate_left 2; (focus exact ⟨⟨rfl, rfl, rfl, trivial⟩, trivial⟩)) | (rotate_left 3; (focus exact ⟨⟨rfl, rfl, rfl, trivial⟩, trivial⟩))); skip)
    | ((with_reducible apply call_con2 ?_ (check_con _ _ _) ?_);(first | (focus exact ⟨⟨rfl, rfl, rfl, trivial⟩, trivial⟩) | (rotate_left 1; (focus exact ⟨⟨rfl, rfl, rfl, trivial⟩, trivial⟩)) | (rotate_left 2; (focus exact ⟨⟨rfl, rfl, rfl, trivial⟩, trivial⟩)) | (rotate_left 3; (focus exact ⟨⟨rfl, rfl, rfl, trivial⟩, trivial⟩))); rintro _ _ _ ⟨rfl, rfl, rfl⟩)
    | ((with_reducible apply conN_mk2 ?_ (share_con _ _) ?_);(first | (focus exact ⟨rfl, rfl, trivial⟩) | (rotate_left 1; (focus exact ⟨rfl, rfl, trivial⟩)) | (rotate_left 2; (focus exact ⟨rfl, rfl, trivial⟩))); skip)
    | ((with_reducible apply call_con2 ?_ (share_con _ _) ?_);(first | (focus exact ⟨rfl, rfl, trivial⟩) | (rotate_left 1; (focus exact ⟨rfl, rfl, trivial⟩)) | (rotate_left 2; (focus exact ⟨rfl, rfl, trivial⟩))); rintro _ _ _ ⟨rfl, rfl, rfl⟩)
    | ((with_reducible apply conN_mk2 ?_ (owners_3) ?_);(first | (focus exact ⟨rfl, trivial⟩)); skip)
    | ((with_reducible apply call_con2 ?_ (owners_3) ?_);(first | (focus exact ⟨rfl, trivial⟩)); rintro _ _ _ ⟨rfl, rfl, rfl⟩)
    | ((with_reducible apply conN_mk2 ?_ (kgroup_5 _ _ _ hk hj) ?_);(first | (focus exact ⟨⟨rfl, rfl, rfl, trivial⟩, trivial⟩) | (rotate_left 1; (focus exact ⟨⟨rfl, rfl, rfl, trivial⟩, trivial⟩)) | (rotate_left 2; (focus exact ⟨⟨rfl, rfl, rfl, trivial⟩, trivial⟩)) | (rotate_left 3; (focus exact ⟨⟨rfl, rfl, rfl, trivial⟩, trivial⟩))); skip)
    | ((with_reducible apply call_con2 ?_ (kgroup_5 _ _ _ hk hj) ?_);(first | (focus exact ⟨⟨rfl, rfl, rfl, trivial⟩, trivial⟩) | (rotate_left 1; (focus exact ⟨⟨rfl, rfl, rfl, trivial⟩, trivial⟩)) | (rotate_left 2; (focus exact ⟨⟨rfl, rfl, rfl, trivial⟩, trivial⟩)) | (rotate_left 3; (focus exact ⟨⟨rfl, rfl, rfl, trivial⟩, trivial⟩))); rintro _ _ _ ⟨rfl, rfl, rfl⟩))
  all_goals (try (conv => whnf))
  all_goals try (exfalso; first | omega | (simp_all; done))
  all_goals refine ret0 _ rfl _ rfl (fun _ => rfl) rfl ⟨?_, rfl, rfl⟩
  all_goals (refine rv_bool ?_; first | rfl | (exact bool_p (by omega)) | (simp; omega) | (simp [eq_comm]))

theorem mine_3_6 (s k v i : Int) (hr : okR s k) (hi : 0 ≤ i ∧ i < 3) (hj : k % 8 = 6) : Con Try.prog 15 [.agg [.v (.int .i64 s), .v (.int .i64 k), .v (.int .i64 v)], .one (.v (.int .i64 i)), .one (.v (.int .i64 3))] (fun rx rK rt => rx = .val (.bool (decide (2 = i))) ∧ rK = [] ∧ rt = 0) := by
  refine con_of tabOk 24 Try.f15 _ Try.func15 (by kernel_rfl) rfl rfl rfl rfl (fun W => ?_)
  have hk : 0 ≤ k := hr.2.1
  repeat' ((conv => whnf); first
    | with_reducible refine spB_t ?_
    | with_reducible refine spB_f ?_
    | with_reducible refine spB_not ?_
    | with_reducible refine spB_yes (by assumption) ?_
    | with_reducible refine spB_no (by assumption) ?_
    | (with_reducible refine spB_dec ?_ ?_ <;> intro _ <;> (try (exfalso; omega)))
    | (with_reducible refine spB_beq ?_ ?_ <;> intro _)
    | (with_reducible refine spB_bne ?_ ?_ <;> intro _)
    | (with_reducible refine spB_mk ?_ ?_ <;> intro _)
    | with_reducible refine wr_i64 (by omega) ?_
    | with_reducible refine wr_u64 (by omega) ?_
    | with_reducible refine wr_u8 (by omega) ?_
    | with_reducible refine wr_u32 (by omega) ?_
    | with_reducible refine wr_mk _ rfl ?_
    | ((with_reducible refine ixN_nat ?_ ?_); (focus (omega)))
    | ((with_reducible refine rowN_map ?_ ?_); (focus (omega)); intro x hx)
    | ((with_reducible refine ixN_mk 0 ?_ ?_ ?_); (focus rfl); (focus decide))
    | ((with_reducible refine ixN_mk 1 ?_ ?_ ?_); (focus rfl); (focus decide))
    | ((with_reducible refine ixN_mk 2 ?_ ?_ ?_); (focus rfl); (focus decide))
    | ((with_reducible refine ixN_mk 3 ?_ ?_ ?_); (focus rfl); (focus decide))
    | ((with_reducible refine ixN_mk 4 ?_ ?_ ?_); (focus rfl); (focus decide))
    | ((with_reducible refine ixN_mk 5 ?_ ?_ ?_); (focus rfl); (focus decide))
    | ((with_reducible refine ixN_mk 6 ?_ ?_ ?_); (focus rfl); (focus decide))
    | ((with_reducible refine ixN_mk 7 ?_ ?_ ?_); (focus rfl); (focus decide))
    | ((with_reducible refine posE_nil (by rfl) ?_))
    | ((with_reducible refine posE_pos (by decide) ?_))
    | with_reducible refine vN_mod (by omega) ?_
    | with_reducible refine vN_mk ?_
    | with_reducible refine nzN_mk (by omega) ?_
    | with_reducible refine eqN_dec (by omega) ?_
    | with_reducible refine draw_rule tabOk mixOk ?_
    | with_reducible refine apN_mk (by kernel_rfl) ?_
    | ((with_reducible apply conN_mk2 ?_ (check_con _ _ _) ?_);(first | (focus exact ⟨⟨rfl, rfl, rfl, trivial⟩, trivial⟩) | (rotate_left 1; (focus exact ⟨⟨rfl, rfl, rfl, trivial⟩, trivial⟩)) | (rotate_left 2; (focus exact ⟨⟨rfl, rfl, rfl, trivial⟩, trivial⟩)) | (rotate_left 3; (focus exact ⟨⟨rfl, rfl, rfl, trivial⟩, trivial⟩))); skip)
    | ((with_reducible apply call_con2 ?_ (check_con _ _ _) ?_);(first | (focus exact ⟨⟨rfl, rfl, rfl, trivial⟩, trivial⟩) | (rotate_left 1; (focus exact ⟨⟨rfl, rfl, rfl, trivial⟩, trivial⟩)) | (rotate_left 2; (focus exact ⟨⟨rfl, rfl, rfl, trivial⟩, trivial⟩)) | (rotate_left 3; (focus exact ⟨⟨rfl, rfl, rfl, trivial⟩, trivial⟩))); rintro _ _ _ ⟨rfl, rfl, rfl⟩)
    | ((with_reducible apply conN_mk2 ?_ (share_con _ _) ?_);(first | (focus exact ⟨rfl, rfl, trivial⟩) | (rotate_left 1; (focus exact ⟨rfl, rfl, trivial⟩)) | (rotate_left 2; (focus exact ⟨rfl, rfl, trivial⟩))); skip)
    | ((with_reducible apply call_con2 ?_ (share_con _ _) ?_);(first | (focus exact ⟨rfl, rfl, trivial⟩) | (rotate_left 1; (focus exact ⟨rfl, rfl, trivial⟩)) | (rotate_left 2; (focus exact ⟨rfl, rfl, trivial⟩))); rintro _ _ _ ⟨rfl, rfl, rfl⟩)
    | ((with_reducible apply conN_mk2 ?_ (owners_3) ?_);(first | (focus exact ⟨rfl, trivial⟩)); skip)
    | ((with_reducible apply call_con2 ?_ (owners_3) ?_);(first | (focus exact ⟨rfl, trivial⟩)); rintro _ _ _ ⟨rfl, rfl, rfl⟩)
    | ((with_reducible apply conN_mk2 ?_ (kgroup_6 _ _ _ hk hj) ?_);(first | (focus exact ⟨⟨rfl, rfl, rfl, trivial⟩, trivial⟩) | (rotate_left 1; (focus exact ⟨⟨rfl, rfl, rfl, trivial⟩, trivial⟩)) | (rotate_left 2; (focus exact ⟨⟨rfl, rfl, rfl, trivial⟩, trivial⟩)) | (rotate_left 3; (focus exact ⟨⟨rfl, rfl, rfl, trivial⟩, trivial⟩))); skip)
    | ((with_reducible apply call_con2 ?_ (kgroup_6 _ _ _ hk hj) ?_);(first | (focus exact ⟨⟨rfl, rfl, rfl, trivial⟩, trivial⟩) | (rotate_left 1; (focus exact ⟨⟨rfl, rfl, rfl, trivial⟩, trivial⟩)) | (rotate_left 2; (focus exact ⟨⟨rfl, rfl, rfl, trivial⟩, trivial⟩)) | (rotate_left 3; (focus exact ⟨⟨rfl, rfl, rfl, trivial⟩, trivial⟩))); rintro _ _ _ ⟨rfl, rfl, rfl⟩))
  all_goals (try (conv => whnf))
  all_goals try (exfalso; first | omega | (simp_all; done))
  all_goals refine ret0 _ rfl _ rfl (fun _ => rfl) rfl ⟨?_, rfl, rfl⟩
  all_goals (refine rv_bool ?_; first | rfl | (exact bool_p (by omega)) | (simp; omega) | (simp [eq_comm]))

theorem mine_3_7 (s k v i : Int) (hr : okR s k) (hi : 0 ≤ i ∧ i < 3) (hj : k % 8 = 7) : Con Try.prog 15 [.agg [.v (.int .i64 s), .v (.int .i64 k), .v (.int .i64 v)], .one (.v (.int .i64 i)), .one (.v (.int .i64 3))] (fun rx rK rt => rx = .val (.bool (decide (2 = i))) ∧ rK = [] ∧ rt = 0) := by
  refine con_of tabOk 24 Try.f15 _ Try.func15 (by kernel_rfl) rfl rfl rfl rfl (fun W => ?_)
  have hk : 0 ≤ k := hr.2.1
  repeat' ((conv => whnf); first
    | with_reducible refine spB_t ?_
    | with_reducible refine spB_f ?_
    | with_reducible refine spB_not ?_
    | with_reducible refine spB_yes (by assumption) ?_
    | with_reducible refine spB_no (by assumption) ?_
    | (with_reducible refine spB_dec ?_ ?_ <;> intro _ <;> (try (exfalso; omega)))
    | (with_reducible refine spB_beq ?_ ?_ <;> intro _)
    | (with_reducible refine spB_bne ?_ ?_ <;> intro _)
    | (with_reducible refine spB_mk ?_ ?_ <;> intro _)
    | with_reducible refine wr_i64 (by omega) ?_
    | with_reducible refine wr_u64 (by omega) ?_
    | with_reducible refine wr_u8 (by omega) ?_
    | with_reducible refine wr_u32 (by omega) ?_
    | with_reducible refine wr_mk _ rfl ?_
    | ((with_reducible refine ixN_nat ?_ ?_); (focus (omega)))
    | ((with_reducible refine rowN_map ?_ ?_); (focus (omega)); intro x hx)
    | ((with_reducible refine ixN_mk 0 ?_ ?_ ?_); (focus rfl); (focus decide))
    | ((with_reducible refine ixN_mk 1 ?_ ?_ ?_); (focus rfl); (focus decide))
    | ((with_reducible refine ixN_mk 2 ?_ ?_ ?_); (focus rfl); (focus decide))
    | ((with_reducible refine ixN_mk 3 ?_ ?_ ?_); (focus rfl); (focus decide))
    | ((with_reducible refine ixN_mk 4 ?_ ?_ ?_); (focus rfl); (focus decide))
    | ((with_reducible refine ixN_mk 5 ?_ ?_ ?_); (focus rfl); (focus decide))
    | ((with_reducible refine ixN_mk 6 ?_ ?_ ?_); (focus rfl); (focus decide))
    | ((with_reducible refine ixN_mk 7 ?_ ?_ ?_); (focus rfl); (focus decide))
    | ((with_reducible refine posE_nil (by rfl) ?_))
    | ((with_reducible refine posE_pos (by decide) ?_))
    | with_reducible refine vN_mod (by omega) ?_
    | with_reducible refine vN_mk ?_
    | with_reducible refine nzN_mk (by omega) ?_
    | with_reducible refine eqN_dec (by omega) ?_
    | with_reducible refine draw_rule tabOk mixOk ?_
    | with_reducible refine apN_mk (by kernel_rfl) ?_
    | ((with_reducible apply conN_mk2 ?_ (check_con _ _ _) ?_);(first | (focus exact ⟨⟨rfl, rfl, rfl, trivial⟩, trivial⟩) | (rotate_left 1; (focus exact ⟨⟨rfl, rfl, rfl, trivial⟩, trivial⟩)) | (rotate_left 2; (focus exact ⟨⟨rfl, rfl, rfl, trivial⟩, trivial⟩)) | (rotate_left 3; (focus exact ⟨⟨rfl, rfl, rfl, trivial⟩, trivial⟩))); skip)
    | ((with_reducible apply call_con2 ?_ (check_con _ _ _) ?_);(first | (focus exact ⟨⟨rfl, rfl, rfl, trivial⟩, trivial⟩) | (rotate_left 1; (focus exact ⟨⟨rfl, rfl, rfl, trivial⟩, trivial⟩)) | (rotate_left 2; (focus exact ⟨⟨rfl, rfl, rfl, trivial⟩, trivial⟩)) | (rotate_left 3; (focus exact ⟨⟨rfl, rfl, rfl, trivial⟩, trivial⟩))); rintro _ _ _ ⟨rfl, rfl, rfl⟩)
    | ((with_reducible apply conN_mk2 ?_ (share_con _ _) ?_);(first | (focus exact ⟨rfl, rfl, trivial⟩) | (rotate_left 1; (focus exact ⟨rfl, rfl, trivial⟩)) | (rotate_left 2; (focus exact ⟨rfl, rfl, trivial⟩))); skip)
    | ((with_reducible apply call_con2 ?_ (share_con _ _) ?_);(first | (focus exact ⟨rfl, rfl, trivial⟩) | (rotate_left 1; (focus exact ⟨rfl, rfl, trivial⟩)) | (rotate_left 2; (focus exact ⟨rfl, rfl, trivial⟩))); rintro _ _ _ ⟨rfl, rfl, rfl⟩)
    | ((with_reducible apply conN_mk2 ?_ (owners_3) ?_);(first | (focus exact ⟨rfl, trivial⟩)); skip)
    | ((with_reducible apply call_con2 ?_ (owners_3) ?_);(first | (focus exact ⟨rfl, trivial⟩)); rintro _ _ _ ⟨rfl, rfl, rfl⟩)
    | ((with_reducible apply conN_mk2 ?_ (kgroup_7 _ _ _ hk hj) ?_);(first | (focus exact ⟨⟨rfl, rfl, rfl, trivial⟩, trivial⟩) | (rotate_left 1; (focus exact ⟨⟨rfl, rfl, rfl, trivial⟩, trivial⟩)) | (rotate_left 2; (focus exact ⟨⟨rfl, rfl, rfl, trivial⟩, trivial⟩)) | (rotate_left 3; (focus exact ⟨⟨rfl, rfl, rfl, trivial⟩, trivial⟩))); skip)
    | ((with_reducible apply call_con2 ?_ (kgroup_7 _ _ _ hk hj) ?_);(first | (focus exact ⟨⟨rfl, rfl, rfl, trivial⟩, trivial⟩) | (rotate_left 1; (focus exact ⟨⟨rfl, rfl, rfl, trivial⟩, trivial⟩)) | (rotate_left 2; (focus exact ⟨⟨rfl, rfl, rfl, trivial⟩, trivial⟩)) | (rotate_left 3; (focus exact ⟨⟨rfl, rfl, rfl, trivial⟩, trivial⟩))); rintro _ _ _ ⟨rfl, rfl, rfl⟩))
  all_goals (try (conv => whnf))
  all_goals try (exfalso; first | omega | (simp_all; done))
  all_goals refine ret0 _ rfl _ rfl (fun _ => rfl) rfl ⟨?_, rfl, rfl⟩
  all_goals (refine rv_bool ?_; first | rfl | (exact bool_p (by omega)) | (simp; omega) | (simp [eq_comm]))

theorem mine_con (s k v i w : Int) : Con Try.prog 15 [.agg [.v (.int .i64 s), .v (.int .i64 k), .v (.int .i64 v)], .one (.v (.int .i64 i)), .one (.v (.int .i64 w))] (fun rx rK rt => rx = .val (.bool (decide (okR s k ∧ okS i w ∧ ownP (k % 8) w = i))) ∧ rK = [] ∧ rt = 0) := by
  by_cases hr : okR s k
  · by_cases hs : okS i w
    · have hj : k % 8 = 0 ∨ k % 8 = 1 ∨ k % 8 = 2 ∨ k % 8 = 3 ∨ k % 8 = 4 ∨ k % 8 = 5 ∨ k % 8 = 6 ∨ k % 8 = 7 := by unfold okR at hr; omega
      have hw : w = 1 ∨ w = 2 ∨ w = 3 := by unfold okS at hs; omega
      have hi : 0 ≤ i ∧ i < w := hs.2
      rcases hw with rfl | rfl | rfl <;> rcases hj with hj | hj | hj | hj | hj | hj | hj | hj
      · have e : decide (okR s k ∧ okS i 1 ∧ ownP (k % 8) 1 = i) = decide ((0 : Int) = i) := by rw [hj, show ownP 0 1 = 0 from by decide]; simp [hr, hs]
        rw [e]; exact mine_1_0 s k v i hr hi hj
      · have e : decide (okR s k ∧ okS i 1 ∧ ownP (k % 8) 1 = i) = decide ((0 : Int) = i) := by rw [hj, show ownP 1 1 = 0 from by decide]; simp [hr, hs]
        rw [e]; exact mine_1_1 s k v i hr hi hj
      · have e : decide (okR s k ∧ okS i 1 ∧ ownP (k % 8) 1 = i) = decide ((0 : Int) = i) := by rw [hj, show ownP 2 1 = 0 from by decide]; simp [hr, hs]
        rw [e]; exact mine_1_2 s k v i hr hi hj
      · have e : decide (okR s k ∧ okS i 1 ∧ ownP (k % 8) 1 = i) = decide ((0 : Int) = i) := by rw [hj, show ownP 3 1 = 0 from by decide]; simp [hr, hs]
        rw [e]; exact mine_1_3 s k v i hr hi hj
      · have e : decide (okR s k ∧ okS i 1 ∧ ownP (k % 8) 1 = i) = decide ((0 : Int) = i) := by rw [hj, show ownP 4 1 = 0 from by decide]; simp [hr, hs]
        rw [e]; exact mine_1_4 s k v i hr hi hj
      · have e : decide (okR s k ∧ okS i 1 ∧ ownP (k % 8) 1 = i) = decide ((0 : Int) = i) := by rw [hj, show ownP 5 1 = 0 from by decide]; simp [hr, hs]
        rw [e]; exact mine_1_5 s k v i hr hi hj
      · have e : decide (okR s k ∧ okS i 1 ∧ ownP (k % 8) 1 = i) = decide ((0 : Int) = i) := by rw [hj, show ownP 6 1 = 0 from by decide]; simp [hr, hs]
        rw [e]; exact mine_1_6 s k v i hr hi hj
      · have e : decide (okR s k ∧ okS i 1 ∧ ownP (k % 8) 1 = i) = decide ((0 : Int) = i) := by rw [hj, show ownP 7 1 = 0 from by decide]; simp [hr, hs]
        rw [e]; exact mine_1_7 s k v i hr hi hj
      · have e : decide (okR s k ∧ okS i 2 ∧ ownP (k % 8) 2 = i) = decide ((0 : Int) = i) := by rw [hj, show ownP 0 2 = 0 from by decide]; simp [hr, hs]
        rw [e]; exact mine_2_0 s k v i hr hi hj
      · have e : decide (okR s k ∧ okS i 2 ∧ ownP (k % 8) 2 = i) = decide ((0 : Int) = i) := by rw [hj, show ownP 1 2 = 0 from by decide]; simp [hr, hs]
        rw [e]; exact mine_2_1 s k v i hr hi hj
      · have e : decide (okR s k ∧ okS i 2 ∧ ownP (k % 8) 2 = i) = decide ((0 : Int) = i) := by rw [hj, show ownP 2 2 = 0 from by decide]; simp [hr, hs]
        rw [e]; exact mine_2_2 s k v i hr hi hj
      · have e : decide (okR s k ∧ okS i 2 ∧ ownP (k % 8) 2 = i) = decide ((0 : Int) = i) := by rw [hj, show ownP 3 2 = 0 from by decide]; simp [hr, hs]
        rw [e]; exact mine_2_3 s k v i hr hi hj
      · have e : decide (okR s k ∧ okS i 2 ∧ ownP (k % 8) 2 = i) = decide ((1 : Int) = i) := by rw [hj, show ownP 4 2 = 1 from by decide]; simp [hr, hs]
        rw [e]; exact mine_2_4 s k v i hr hi hj
      · have e : decide (okR s k ∧ okS i 2 ∧ ownP (k % 8) 2 = i) = decide ((1 : Int) = i) := by rw [hj, show ownP 5 2 = 1 from by decide]; simp [hr, hs]
        rw [e]; exact mine_2_5 s k v i hr hi hj
      · have e : decide (okR s k ∧ okS i 2 ∧ ownP (k % 8) 2 = i) = decide ((1 : Int) = i) := by rw [hj, show ownP 6 2 = 1 from by decide]; simp [hr, hs]
        rw [e]; exact mine_2_6 s k v i hr hi hj
      · have e : decide (okR s k ∧ okS i 2 ∧ ownP (k % 8) 2 = i) = decide ((1 : Int) = i) := by rw [hj, show ownP 7 2 = 1 from by decide]; simp [hr, hs]
        rw [e]; exact mine_2_7 s k v i hr hi hj
      · have e : decide (okR s k ∧ okS i 3 ∧ ownP (k % 8) 3 = i) = decide ((0 : Int) = i) := by rw [hj, show ownP 0 3 = 0 from by decide]; simp [hr, hs]
        rw [e]; exact mine_3_0 s k v i hr hi hj
      · have e : decide (okR s k ∧ okS i 3 ∧ ownP (k % 8) 3 = i) = decide ((0 : Int) = i) := by rw [hj, show ownP 1 3 = 0 from by decide]; simp [hr, hs]
        rw [e]; exact mine_3_1 s k v i hr hi hj
      · have e : decide (okR s k ∧ okS i 3 ∧ ownP (k % 8) 3 = i) = decide ((0 : Int) = i) := by rw [hj, show ownP 2 3 = 0 from by decide]; simp [hr, hs]
        rw [e]; exact mine_3_2 s k v i hr hi hj
      · have e : decide (okR s k ∧ okS i 3 ∧ ownP (k % 8) 3 = i) = decide ((1 : Int) = i) := by rw [hj, show ownP 3 3 = 1 from by decide]; simp [hr, hs]
        rw [e]; exact mine_3_3 s k v i hr hi hj
      · have e : decide (okR s k ∧ okS i 3 ∧ ownP (k % 8) 3 = i) = decide ((1 : Int) = i) := by rw [hj, show ownP 4 3 = 1 from by decide]; simp [hr, hs]
        rw [e]; exact mine_3_4 s k v i hr hi hj
      · have e : decide (okR s k ∧ okS i 3 ∧ ownP (k % 8) 3 = i) = decide ((1 : Int) = i) := by rw [hj, show ownP 5 3 = 1 from by decide]; simp [hr, hs]
        rw [e]; exact mine_3_5 s k v i hr hi hj
      · have e : decide (okR s k ∧ okS i 3 ∧ ownP (k % 8) 3 = i) = decide ((2 : Int) = i) := by rw [hj, show ownP 6 3 = 2 from by decide]; simp [hr, hs]
        rw [e]; exact mine_3_6 s k v i hr hi hj
      · have e : decide (okR s k ∧ okS i 3 ∧ ownP (k % 8) 3 = i) = decide ((2 : Int) = i) := by rw [hj, show ownP 7 3 = 2 from by decide]; simp [hr, hs]
        rw [e]; exact mine_3_7 s k v i hr hi hj
    · have e : decide (okR s k ∧ okS i w ∧ ownP (k % 8) w = i) = false := by simp [hs]
      rw [e]; exact mine_sh s k v i w hs
  · have e : decide (okR s k ∧ okS i w ∧ ownP (k % 8) w = i) = false := by simp [hr]
    rw [e]; exact mine_rec s k v i w hr
theorem rmine_con (s k v i w : Int) : Con Try.prog 16 [.agg [.v (.int .i64 s), .v (.int .i64 k), .v (.int .i64 v)], .one (.v (.int .i64 i)), .one (.v (.int .i64 w))] (fun rx rK rt => rx = .val (.bool (decide (okR s k ∧ okS i w ∧ ownP (k % 8) w = i))) ∧ rK = [] ∧ rt = 0) := by
  by_cases hr : okR s k
  · by_cases hs : okS i w
    · have hg : okG (k % 8) w := by unfold okG; unfold okR at hr; unfold okS at hs; omega
      have hk0 : 0 ≤ k := hr.2.1
      refine con_of tabOk 23 Try.f16 _ Try.func16 (by kernel_rfl) rfl rfl rfl rfl (fun W => ?_)
      repeat' ((conv => whnf); first
        | with_reducible refine spB_t ?_
        | with_reducible refine spB_f ?_
        | with_reducible refine spB_not ?_
        | with_reducible refine spB_yes (by assumption) ?_
        | with_reducible refine spB_no (by assumption) ?_
        | (with_reducible refine spB_dec ?_ ?_ <;> intro _)
        | (with_reducible refine spB_beq ?_ ?_ <;> intro _)
        | (with_reducible refine spB_bne ?_ ?_ <;> intro _)
        | (with_reducible refine spB_mk ?_ ?_ <;> intro _)
        | with_reducible refine wr_i64 (by omega) ?_
        | with_reducible refine wr_u64 (by omega) ?_
        | with_reducible refine wr_u8 (by omega) ?_
        | with_reducible refine wr_u32 (by omega) ?_
        | with_reducible refine wr_mk _ rfl ?_
        | ((with_reducible refine ixN_nat ?_ ?_); (focus (omega)))
        | ((with_reducible refine rowN_map ?_ ?_); (focus (omega)); intro x hx)
        | ((with_reducible refine ixN_mk 0 ?_ ?_ ?_); (focus rfl); (focus decide))
        | ((with_reducible refine ixN_mk 1 ?_ ?_ ?_); (focus rfl); (focus decide))
        | ((with_reducible refine ixN_mk 2 ?_ ?_ ?_); (focus rfl); (focus decide))
        | ((with_reducible refine ixN_mk 3 ?_ ?_ ?_); (focus rfl); (focus decide))
        | ((with_reducible refine ixN_mk 4 ?_ ?_ ?_); (focus rfl); (focus decide))
        | ((with_reducible refine ixN_mk 5 ?_ ?_ ?_); (focus rfl); (focus decide))
        | ((with_reducible refine ixN_mk 6 ?_ ?_ ?_); (focus rfl); (focus decide))
        | ((with_reducible refine ixN_mk 7 ?_ ?_ ?_); (focus rfl); (focus decide))
        | ((with_reducible refine posE_nil (by rfl) ?_))
        | ((with_reducible refine posE_pos (by decide) ?_))
        | with_reducible refine vN_mod (by omega) ?_
        | with_reducible refine vN_mk ?_
        | with_reducible refine nzN_mk (by omega) ?_
        | with_reducible refine eqN_dec (by omega) ?_
        | with_reducible refine draw_rule tabOk mixOk ?_
        | with_reducible refine apN_mk (by kernel_rfl) ?_
        | ((with_reducible apply conN_mk2 ?_ (right_con _ _ _) ?_);(first | (focus exact ⟨⟨rfl, rfl, rfl, trivial⟩, trivial⟩) | (rotate_left 1; (focus exact ⟨⟨rfl, rfl, rfl, trivial⟩, trivial⟩)) | (rotate_left 2; (focus exact ⟨⟨rfl, rfl, rfl, trivial⟩, trivial⟩)) | (rotate_left 3; (focus exact ⟨⟨rfl, rfl, rfl, trivial⟩, trivial⟩))); skip)
        | ((with_reducible apply call_con2 ?_ (right_con _ _ _) ?_);(first | (focus exact ⟨⟨rfl, rfl, rfl, trivial⟩, trivial⟩) | (rotate_left 1; (focus exact ⟨⟨rfl, rfl, rfl, trivial⟩, trivial⟩)) | (rotate_left 2; (focus exact ⟨⟨rfl, rfl, rfl, trivial⟩, trivial⟩)) | (rotate_left 3; (focus exact ⟨⟨rfl, rfl, rfl, trivial⟩, trivial⟩))); rintro _ _ _ ⟨rfl, rfl, rfl⟩)
        | ((with_reducible apply conN_mk2 ?_ (rshare_con _ _) ?_);(first | (focus exact ⟨rfl, rfl, trivial⟩) | (rotate_left 1; (focus exact ⟨rfl, rfl, trivial⟩)) | (rotate_left 2; (focus exact ⟨rfl, rfl, trivial⟩))); skip)
        | ((with_reducible apply call_con2 ?_ (rshare_con _ _) ?_);(first | (focus exact ⟨rfl, rfl, trivial⟩) | (rotate_left 1; (focus exact ⟨rfl, rfl, trivial⟩)) | (rotate_left 2; (focus exact ⟨rfl, rfl, trivial⟩))); rintro _ _ _ ⟨rfl, rfl, rfl⟩)
        | ((with_reducible apply conN_mk2 ?_ (rgroup_con _ ?_) ?_);(first | (focus exact ⟨rfl, trivial⟩) | (rotate_left 1; (focus exact ⟨rfl, trivial⟩))); (focus omega); skip)
        | ((with_reducible apply call_con2 ?_ (rgroup_con _ ?_) ?_);(first | (focus exact ⟨rfl, trivial⟩) | (rotate_left 1; (focus exact ⟨rfl, trivial⟩))); (focus omega); rintro _ _ _ ⟨rfl, rfl, rfl⟩)
        | ((with_reducible apply conN_mk2 ?_ (rowner_con _ _ hg) ?_);(first | (focus exact ⟨rfl, rfl, trivial⟩) | (rotate_left 1; (focus exact ⟨rfl, rfl, trivial⟩)) | (rotate_left 2; (focus exact ⟨rfl, rfl, trivial⟩))); skip)
        | ((with_reducible apply call_con2 ?_ (rowner_con _ _ hg) ?_);(first | (focus exact ⟨rfl, rfl, trivial⟩) | (rotate_left 1; (focus exact ⟨rfl, rfl, trivial⟩)) | (rotate_left 2; (focus exact ⟨rfl, rfl, trivial⟩))); rintro _ _ _ ⟨rfl, rfl, rfl⟩))
      all_goals (try (conv => whnf))
      all_goals try (exfalso; simp_all; done)
      all_goals refine ret0 _ rfl _ rfl (fun _ => rfl) rfl ⟨?_, rfl, rfl⟩
      all_goals (refine rv_bool ?_; (try simp only [hr, hs, true_and]); first | rfl | (simp_all; done))
    · have e : decide (okR s k ∧ okS i w ∧ ownP (k % 8) w = i) = false := by simp [hs]
      rw [e]
      refine con_of tabOk 23 Try.f16 _ Try.func16 (by kernel_rfl) rfl rfl rfl rfl (fun W => ?_)
      repeat' ((conv => whnf); first
        | with_reducible refine spB_t ?_
        | with_reducible refine spB_f ?_
        | with_reducible refine spB_not ?_
        | with_reducible refine spB_yes (by assumption) ?_
        | with_reducible refine spB_no (by assumption) ?_
        | (with_reducible refine spB_dec ?_ ?_ <;> intro _)
        | (with_reducible refine spB_beq ?_ ?_ <;> intro _)
        | (with_reducible refine spB_bne ?_ ?_ <;> intro _)
        | (with_reducible refine spB_mk ?_ ?_ <;> intro _)
        | with_reducible refine wr_i64 (by omega) ?_
        | with_reducible refine wr_u64 (by omega) ?_
        | with_reducible refine wr_u8 (by omega) ?_
        | with_reducible refine wr_u32 (by omega) ?_
        | with_reducible refine wr_mk _ rfl ?_
        | ((with_reducible refine ixN_nat ?_ ?_); (focus (omega)))
        | ((with_reducible refine rowN_map ?_ ?_); (focus (omega)); intro x hx)
        | ((with_reducible refine ixN_mk 0 ?_ ?_ ?_); (focus rfl); (focus decide))
        | ((with_reducible refine ixN_mk 1 ?_ ?_ ?_); (focus rfl); (focus decide))
        | ((with_reducible refine ixN_mk 2 ?_ ?_ ?_); (focus rfl); (focus decide))
        | ((with_reducible refine ixN_mk 3 ?_ ?_ ?_); (focus rfl); (focus decide))
        | ((with_reducible refine ixN_mk 4 ?_ ?_ ?_); (focus rfl); (focus decide))
        | ((with_reducible refine ixN_mk 5 ?_ ?_ ?_); (focus rfl); (focus decide))
        | ((with_reducible refine ixN_mk 6 ?_ ?_ ?_); (focus rfl); (focus decide))
        | ((with_reducible refine ixN_mk 7 ?_ ?_ ?_); (focus rfl); (focus decide))
        | ((with_reducible refine posE_nil (by rfl) ?_))
        | ((with_reducible refine posE_pos (by decide) ?_))
        | with_reducible refine vN_mod (by omega) ?_
        | with_reducible refine vN_mk ?_
        | with_reducible refine nzN_mk (by omega) ?_
        | with_reducible refine eqN_dec (by omega) ?_
        | with_reducible refine draw_rule tabOk mixOk ?_
        | with_reducible refine apN_mk (by kernel_rfl) ?_
        | ((with_reducible apply conN_mk2 ?_ (right_con _ _ _) ?_);(first | (focus exact ⟨⟨rfl, rfl, rfl, trivial⟩, trivial⟩) | (rotate_left 1; (focus exact ⟨⟨rfl, rfl, rfl, trivial⟩, trivial⟩)) | (rotate_left 2; (focus exact ⟨⟨rfl, rfl, rfl, trivial⟩, trivial⟩)) | (rotate_left 3; (focus exact ⟨⟨rfl, rfl, rfl, trivial⟩, trivial⟩))); skip)
        | ((with_reducible apply call_con2 ?_ (right_con _ _ _) ?_);(first | (focus exact ⟨⟨rfl, rfl, rfl, trivial⟩, trivial⟩) | (rotate_left 1; (focus exact ⟨⟨rfl, rfl, rfl, trivial⟩, trivial⟩)) | (rotate_left 2; (focus exact ⟨⟨rfl, rfl, rfl, trivial⟩, trivial⟩)) | (rotate_left 3; (focus exact ⟨⟨rfl, rfl, rfl, trivial⟩, trivial⟩))); rintro _ _ _ ⟨rfl, rfl, rfl⟩)
        | ((with_reducible apply conN_mk2 ?_ (rshare_con _ _) ?_);(first | (focus exact ⟨rfl, rfl, trivial⟩) | (rotate_left 1; (focus exact ⟨rfl, rfl, trivial⟩)) | (rotate_left 2; (focus exact ⟨rfl, rfl, trivial⟩))); skip)
        | ((with_reducible apply call_con2 ?_ (rshare_con _ _) ?_);(first | (focus exact ⟨rfl, rfl, trivial⟩) | (rotate_left 1; (focus exact ⟨rfl, rfl, trivial⟩)) | (rotate_left 2; (focus exact ⟨rfl, rfl, trivial⟩))); rintro _ _ _ ⟨rfl, rfl, rfl⟩))
      all_goals (try (conv => whnf))
      all_goals try (exfalso; simp_all; done)
      all_goals refine ret0 _ rfl _ rfl (fun _ => rfl) rfl ⟨?_, rfl, rfl⟩
      all_goals rfl
  · have e : decide (okR s k ∧ okS i w ∧ ownP (k % 8) w = i) = false := by simp [hr]
    rw [e]
    refine con_of tabOk 23 Try.f16 _ Try.func16 (by kernel_rfl) rfl rfl rfl rfl (fun W => ?_)
    repeat' ((conv => whnf); first
      | with_reducible refine spB_t ?_
      | with_reducible refine spB_f ?_
      | with_reducible refine spB_not ?_
      | with_reducible refine spB_yes (by assumption) ?_
      | with_reducible refine spB_no (by assumption) ?_
      | (with_reducible refine spB_dec ?_ ?_ <;> intro _)
      | (with_reducible refine spB_beq ?_ ?_ <;> intro _)
      | (with_reducible refine spB_bne ?_ ?_ <;> intro _)
      | (with_reducible refine spB_mk ?_ ?_ <;> intro _)
      | with_reducible refine wr_i64 (by omega) ?_
      | with_reducible refine wr_u64 (by omega) ?_
      | with_reducible refine wr_u8 (by omega) ?_
      | with_reducible refine wr_u32 (by omega) ?_
      | with_reducible refine wr_mk _ rfl ?_
      | ((with_reducible refine ixN_nat ?_ ?_); (focus (omega)))
      | ((with_reducible refine rowN_map ?_ ?_); (focus (omega)); intro x hx)
      | ((with_reducible refine ixN_mk 0 ?_ ?_ ?_); (focus rfl); (focus decide))
      | ((with_reducible refine ixN_mk 1 ?_ ?_ ?_); (focus rfl); (focus decide))
      | ((with_reducible refine ixN_mk 2 ?_ ?_ ?_); (focus rfl); (focus decide))
      | ((with_reducible refine ixN_mk 3 ?_ ?_ ?_); (focus rfl); (focus decide))
      | ((with_reducible refine ixN_mk 4 ?_ ?_ ?_); (focus rfl); (focus decide))
      | ((with_reducible refine ixN_mk 5 ?_ ?_ ?_); (focus rfl); (focus decide))
      | ((with_reducible refine ixN_mk 6 ?_ ?_ ?_); (focus rfl); (focus decide))
      | ((with_reducible refine ixN_mk 7 ?_ ?_ ?_); (focus rfl); (focus decide))
      | ((with_reducible refine posE_nil (by rfl) ?_))
      | ((with_reducible refine posE_pos (by decide) ?_))
      | with_reducible refine vN_mod (by omega) ?_
      | with_reducible refine vN_mk ?_
      | with_reducible refine nzN_mk (by omega) ?_
      | with_reducible refine eqN_dec (by omega) ?_
      | with_reducible refine draw_rule tabOk mixOk ?_
      | with_reducible refine apN_mk (by kernel_rfl) ?_
      | ((with_reducible apply conN_mk2 ?_ (right_con _ _ _) ?_);(first | (focus exact ⟨⟨rfl, rfl, rfl, trivial⟩, trivial⟩) | (rotate_left 1; (focus exact ⟨⟨rfl, rfl, rfl, trivial⟩, trivial⟩)) | (rotate_left 2; (focus exact ⟨⟨rfl, rfl, rfl, trivial⟩, trivial⟩)) | (rotate_left 3; (focus exact ⟨⟨rfl, rfl, rfl, trivial⟩, trivial⟩))); skip)
      | ((with_reducible apply call_con2 ?_ (right_con _ _ _) ?_);(first | (focus exact ⟨⟨rfl, rfl, rfl, trivial⟩, trivial⟩) | (rotate_left 1; (focus exact ⟨⟨rfl, rfl, rfl, trivial⟩, trivial⟩)) | (rotate_left 2; (focus exact ⟨⟨rfl, rfl, rfl, trivial⟩, trivial⟩)) | (rotate_left 3; (focus exact ⟨⟨rfl, rfl, rfl, trivial⟩, trivial⟩))); rintro _ _ _ ⟨rfl, rfl, rfl⟩)
      | ((with_reducible apply conN_mk2 ?_ (rshare_con _ _) ?_);(first | (focus exact ⟨rfl, rfl, trivial⟩) | (rotate_left 1; (focus exact ⟨rfl, rfl, trivial⟩)) | (rotate_left 2; (focus exact ⟨rfl, rfl, trivial⟩))); skip)
      | ((with_reducible apply call_con2 ?_ (rshare_con _ _) ?_);(first | (focus exact ⟨rfl, rfl, trivial⟩) | (rotate_left 1; (focus exact ⟨rfl, rfl, trivial⟩)) | (rotate_left 2; (focus exact ⟨rfl, rfl, trivial⟩))); rintro _ _ _ ⟨rfl, rfl, rfl⟩))
    all_goals (try (conv => whnf))
    all_goals try (exfalso; simp_all; done)
    all_goals refine ret0 _ rfl _ rfl (fun _ => rfl) rfl ⟨?_, rfl, rfl⟩
    all_goals rfl
end Go.Proofs.Ytnaldcnihekniaa
