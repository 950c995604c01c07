import Derived.Test.YtgdkhdooekmfgaaWakes
import Derived.Test.YtgdkhdooekmfgaaWs
namespace Go.Proofs.Ytgdkhdooekmfgaa
open Go Go.RowKit Wx
set_option linter.unusedVariables false
set_option maxHeartbeats 4000000
def okH (n s : Int) : Prop := (0 ≤ n ∧ n ≤ 1099511627776) ∧ 1 ≤ s ∧ s ≤ 100
instance (n s : Int) : Decidable (okH n s) := by unfold okH; infer_instance
theorem tick_con (n : Int)  : Con Try.prog 52 [.one (.v (.int .i64 n))] (fun rx rK rt => rx = .val (.bool (decide (0 ≤ n ∧ n ≤ 1099511627776))) ∧ rK = [] ∧ rt = 0) := by
  refine con_of tabOk 9 Try.f52 _ Try.func52 (by kernel_rfl) rfl rfl rfl rfl (fun W => ?_)
  repeat' ((conv => whnf); first
    | with_reducible refine spB_t ?_
    | with_reducible refine spB_f ?_
    | with_reducible refine spB_not ?_
    | with_reducible refine spB_yes (by assumption) ?_
    | with_reducible refine spB_no (by assumption) ?_
    | (with_reducible refine spB_dec ?_ ?_ <;> intro _)
    | (with_reducible refine spB_beq ?_ ?_ <;> intro _)
    | (with_reducible refine spB_bne ?_ ?_ <;> intro _)
    | (with_reducible refine spB_mk ?_ ?_ <;> intro _)
    | with_reducible refine wr_i64 (by first | omega | (simp only [List.length_map] at *; omega)) ?_
    | with_reducible refine wr_u64 (by omega) ?_
    | with_reducible refine wr_u8 (by omega) ?_
    | with_reducible refine wr_u32 (by omega) ?_
    | with_reducible refine wr_mk _ rfl ?_
    | ((with_reducible refine ixN_nat ?_ ?_); (focus ((try simp only [List.length_map] at *); omega)))
    | ((with_reducible refine rowN_map ?_ ?_); (focus ((try simp only [List.length_map] at *); omega)); intro x hx)
    | ((with_reducible refine ixN_mk 0 ?_ ?_ ?_); (focus rfl); (focus decide))
    | ((with_reducible refine ixN_mk 1 ?_ ?_ ?_); (focus rfl); (focus decide))
    | ((with_reducible refine ixN_mk 2 ?_ ?_ ?_); (focus rfl); (focus decide))
    | ((with_reducible refine ixN_mk 3 ?_ ?_ ?_); (focus rfl); (focus decide))
    | ((with_reducible refine ixN_mk 4 ?_ ?_ ?_); (focus rfl); (focus decide))
    | ((with_reducible refine ixN_mk 5 ?_ ?_ ?_); (focus rfl); (focus decide))
    | ((with_reducible refine ixN_mk 6 ?_ ?_ ?_); (focus rfl); (focus decide))
    | ((with_reducible refine ixN_mk 7 ?_ ?_ ?_); (focus rfl); (focus decide))
    | ((with_reducible refine posE_nil (by rfl) ?_))
    | ((with_reducible refine posE_pos (by decide) ?_))
    | with_reducible refine vN_mod (by omega) ?_
    | with_reducible refine vN_mk ?_
    | with_reducible refine nzN_mk (by omega) ?_
    | with_reducible refine eqN_dec (by omega) ?_
    | with_reducible refine draw_rule tabOk mixOk ?_
    | with_reducible refine apN_mk (by kernel_rfl) ?_)
  all_goals (try (conv => whnf))
  all_goals refine ret0 _ rfl _ rfl (fun _ => rfl) rfl ⟨?_, rfl, rfl⟩
  all_goals (refine rv_bool ?_; first | (exact bool_t (by omega)) | (exact bool_f (by omega)) | (exact bool_p (by omega)) | rfl)

theorem may0_con (n s : Int)  : Con Try.prog 36 [.agg [.v (.int .i64 (n)), .v (.int .i64 (s)), .v (.slice none 0 0)]] (fun rx rK rt => rx = .val (.bool (decide (okH n s))) ∧ rK = [] ∧ rt = 0) := by
  refine con_of tabOk 64 Try.f36 _ Try.func36 (by kernel_rfl) rfl rfl rfl rfl (fun W => ?_)
  repeat' ((conv => whnf); first
    | with_reducible refine spB_t ?_
    | with_reducible refine spB_f ?_
    | with_reducible refine spB_not ?_
    | with_reducible refine spB_yes (by assumption) ?_
    | with_reducible refine spB_no (by assumption) ?_
    | (with_reducible refine spB_dec ?_ ?_ <;> intro _)
    | (with_reducible refine spB_beq ?_ ?_ <;> intro _)
    | (with_reducible refine spB_bne ?_ ?_ <;> intro _)
    | (with_reducible refine spB_mk ?_ ?_ <;> intro _)
    | with_reducible refine wr_i64 (by first | omega | (simp only [List.length_map] at *; omega)) ?_
    | with_reducible refine wr_u64 (by omega) ?_
    | with_reducible refine wr_u8 (by omega) ?_
    | with_reducible refine wr_u32 (by omega) ?_
    | with_reducible refine wr_mk _ rfl ?_
    | ((with_reducible refine ixN_nat ?_ ?_); (focus ((try simp only [List.length_map] at *); omega)))
    | ((with_reducible refine rowN_map ?_ ?_); (focus ((try simp only [List.length_map] at *); omega)); intro x hx)
    | ((with_reducible refine ixN_mk 0 ?_ ?_ ?_); (focus rfl); (focus decide))
    | ((with_reducible refine ixN_mk 1 ?_ ?_ ?_); (focus rfl); (focus decide))
    | ((with_reducible refine ixN_mk 2 ?_ ?_ ?_); (focus rfl); (focus decide))
    | ((with_reducible refine ixN_mk 3 ?_ ?_ ?_); (focus rfl); (focus decide))
    | ((with_reducible refine ixN_mk 4 ?_ ?_ ?_); (focus rfl); (focus decide))
    | ((with_reducible refine ixN_mk 5 ?_ ?_ ?_); (focus rfl); (focus decide))
    | ((with_reducible refine ixN_mk 6 ?_ ?_ ?_); (focus rfl); (focus decide))
    | ((with_reducible refine ixN_mk 7 ?_ ?_ ?_); (focus rfl); (focus decide))
    | ((with_reducible refine posE_nil (by rfl) ?_))
    | ((with_reducible refine posE_pos (by decide) ?_))
    | with_reducible refine vN_mod (by omega) ?_
    | with_reducible refine vN_mk ?_
    | with_reducible refine nzN_mk (by omega) ?_
    | with_reducible refine eqN_dec (by omega) ?_
    | with_reducible refine draw_rule tabOk mixOk ?_
    | with_reducible refine apN_mk (by kernel_rfl) ?_
    | ((with_reducible apply conN_mk2 ?_ (tick_con _) ?_);(first | (focus exact ⟨rfl, trivial⟩) | (rotate_left 1; (focus exact ⟨rfl, trivial⟩))); skip)
    | ((with_reducible apply call_con2 ?_ (tick_con _) ?_);(first | (focus exact ⟨rfl, trivial⟩) | (rotate_left 1; (focus exact ⟨rfl, trivial⟩))); rintro _ _ _ ⟨rfl, rfl, rfl⟩))
  all_goals (try (conv => whnf))
  all_goals try (refine loop_unroll tabOk 1 ?_)
  repeat' ((conv => whnf); first
    | with_reducible refine spB_t ?_
    | with_reducible refine spB_f ?_
    | with_reducible refine spB_not ?_
    | with_reducible refine spB_yes (by assumption) ?_
    | with_reducible refine spB_no (by assumption) ?_
    | (with_reducible refine spB_dec ?_ ?_ <;> intro _)
    | (with_reducible refine spB_beq ?_ ?_ <;> intro _)
    | (with_reducible refine spB_bne ?_ ?_ <;> intro _)
    | (with_reducible refine spB_mk ?_ ?_ <;> intro _)
    | with_reducible refine wr_i64 (by first | omega | (simp only [List.length_map] at *; omega)) ?_
    | with_reducible refine wr_u64 (by omega) ?_
    | with_reducible refine wr_u8 (by omega) ?_
    | with_reducible refine wr_u32 (by omega) ?_
    | with_reducible refine wr_mk _ rfl ?_
    | ((with_reducible refine ixN_nat ?_ ?_); (focus ((try simp only [List.length_map] at *); omega)))
    | ((with_reducible refine rowN_map ?_ ?_); (focus ((try simp only [List.length_map] at *); omega)); intro x hx)
    | ((with_reducible refine ixN_mk 0 ?_ ?_ ?_); (focus rfl); (focus decide))
    | ((with_reducible refine ixN_mk 1 ?_ ?_ ?_); (focus rfl); (focus decide))
    | ((with_reducible refine ixN_mk 2 ?_ ?_ ?_); (focus rfl); (focus decide))
    | ((with_reducible refine ixN_mk 3 ?_ ?_ ?_); (focus rfl); (focus decide))
    | ((with_reducible refine ixN_mk 4 ?_ ?_ ?_); (focus rfl); (focus decide))
    | ((with_reducible refine ixN_mk 5 ?_ ?_ ?_); (focus rfl); (focus decide))
    | ((with_reducible refine ixN_mk 6 ?_ ?_ ?_); (focus rfl); (focus decide))
    | ((with_reducible refine ixN_mk 7 ?_ ?_ ?_); (focus rfl); (focus decide))
    | ((with_reducible refine posE_nil (by rfl) ?_))
    | ((with_reducible refine posE_pos (by decide) ?_))
    | with_reducible refine vN_mod (by omega) ?_
    | with_reducible refine vN_mk ?_
    | with_reducible refine nzN_mk (by omega) ?_
    | with_reducible refine eqN_dec (by omega) ?_
    | with_reducible refine draw_rule tabOk mixOk ?_
    | with_reducible refine apN_mk (by kernel_rfl) ?_
    | ((with_reducible apply conN_mk2 ?_ (tick_con _) ?_);(first | (focus exact ⟨rfl, trivial⟩) | (rotate_left 1; (focus exact ⟨rfl, trivial⟩))); skip)
    | ((with_reducible apply call_con2 ?_ (tick_con _) ?_);(first | (focus exact ⟨rfl, trivial⟩) | (rotate_left 1; (focus exact ⟨rfl, trivial⟩))); rintro _ _ _ ⟨rfl, rfl, rfl⟩))
  all_goals (try (conv => whnf))
  all_goals try (show False; omega)
  all_goals refine ret0 _ rfl _ rfl (fun _ => rfl) rfl ⟨?_, rfl, rfl⟩
  all_goals (refine rv_bool ?_; first | (exact bool_t (by unfold okH; omega)) | (exact bool_f (by unfold okH; omega)))

theorem right0_con (n s : Int)  : Con Try.prog 16 [.agg [.v (.int .i64 (n)), .v (.int .i64 (s)), .v (.slice none 0 0)]] (fun rx rK rt => rx = .val (.bool (decide (okH n s))) ∧ rK = [] ∧ rt = 0) := by
  refine con_of tabOk 83 Try.f16 _ Try.func16 (by kernel_rfl) rfl rfl rfl rfl (fun W => ?_)
  repeat' ((conv => whnf); first
    | with_reducible refine spB_t ?_
    | with_reducible refine spB_f ?_
    | with_reducible refine spB_not ?_
    | with_reducible refine spB_yes (by assumption) ?_
    | with_reducible refine spB_no (by assumption) ?_
    | (with_reducible refine spB_dec ?_ ?_ <;> intro _)
    | (with_reducible refine spB_beq ?_ ?_ <;> intro _)
    | (with_reducible refine spB_bne ?_ ?_ <;> intro _)
    | (with_reducible refine spB_mk ?_ ?_ <;> intro _)
    | with_reducible refine wr_i64 (by first | omega | (simp only [List.length_map] at *; omega)) ?_
    | with_reducible refine wr_u64 (by omega) ?_
    | with_reducible refine wr_u8 (by omega) ?_
    | with_reducible refine wr_u32 (by omega) ?_
    | with_reducible refine wr_mk _ rfl ?_
    | ((with_reducible refine ixN_nat ?_ ?_); (focus ((try simp only [List.length_map] at *); omega)))
    | ((with_reducible refine rowN_map ?_ ?_); (focus ((try simp only [List.length_map] at *); omega)); intro x hx)
    | ((with_reducible refine ixN_mk 0 ?_ ?_ ?_); (focus rfl); (focus decide))
    | ((with_reducible refine ixN_mk 1 ?_ ?_ ?_); (focus rfl); (focus decide))
    | ((with_reducible refine ixN_mk 2 ?_ ?_ ?_); (focus rfl); (focus decide))
    | ((with_reducible refine ixN_mk 3 ?_ ?_ ?_); (focus rfl); (focus decide))
    | ((with_reducible refine ixN_mk 4 ?_ ?_ ?_); (focus rfl); (focus decide))
    | ((with_reducible refine ixN_mk 5 ?_ ?_ ?_); (focus rfl); (focus decide))
    | ((with_reducible refine ixN_mk 6 ?_ ?_ ?_); (focus rfl); (focus decide))
    | ((with_reducible refine ixN_mk 7 ?_ ?_ ?_); (focus rfl); (focus decide))
    | ((with_reducible refine posE_nil (by rfl) ?_))
    | ((with_reducible refine posE_pos (by decide) ?_))
    | with_reducible refine vN_mod (by omega) ?_
    | with_reducible refine vN_mk ?_
    | with_reducible refine nzN_mk (by omega) ?_
    | with_reducible refine eqN_dec (by omega) ?_
    | with_reducible refine draw_rule tabOk mixOk ?_
    | with_reducible refine apN_mk (by kernel_rfl) ?_
    | ((with_reducible apply conN_mk2 ?_ (tick_con _) ?_);(first | (focus exact ⟨rfl, trivial⟩) | (rotate_left 1; (focus exact ⟨rfl, trivial⟩))); skip)
    | ((with_reducible apply call_con2 ?_ (tick_con _) ?_);(first | (focus exact ⟨rfl, trivial⟩) | (rotate_left 1; (focus exact ⟨rfl, trivial⟩))); rintro _ _ _ ⟨rfl, rfl, rfl⟩))
  all_goals (try (conv => whnf))
  all_goals try (refine loop_unroll tabOk 1 ?_)
  repeat' ((conv => whnf); first
    | with_reducible refine spB_t ?_
    | with_reducible refine spB_f ?_
    | with_reducible refine spB_not ?_
    | with_reducible refine spB_yes (by assumption) ?_
    | with_reducible refine spB_no (by assumption) ?_
    | (with_reducible refine spB_dec ?_ ?_ <;> intro _)
    | (with_reducible refine spB_beq ?_ ?_ <;> intro _)
    | (with_reducible refine spB_bne ?_ ?_ <;> intro _)
    | (with_reducible refine spB_mk ?_ ?_ <;> intro _)
    | with_reducible refine wr_i64 (by first | omega | (simp only [List.length_map] at *; omega)) ?_
    | with_reducible refine wr_u64 (by omega) ?_
    | with_reducible refine wr_u8 (by omega) ?_
    | with_reducible refine wr_u32 (by omega) ?_
    | with_reducible refine wr_mk _ rfl ?_
    | ((with_reducible refine ixN_nat ?_ ?_); (focus ((try simp only [List.length_map] at *); omega)))
    | ((with_reducible refine rowN_map ?_ ?_); (focus ((try simp only [List.length_map] at *); omega)); intro x hx)
    | ((with_reducible refine ixN_mk 0 ?_ ?_ ?_); (focus rfl); (focus decide))
    | ((with_reducible refine ixN_mk 1 ?_ ?_ ?_); (focus rfl); (focus decide))
    | ((with_reducible refine ixN_mk 2 ?_ ?_ ?_); (focus rfl); (focus decide))
    | ((with_reducible refine ixN_mk 3 ?_ ?_ ?_); (focus rfl); (focus decide))
    | ((with_reducible refine ixN_mk 4 ?_ ?_ ?_); (focus rfl); (focus decide))
    | ((with_reducible refine ixN_mk 5 ?_ ?_ ?_); (focus rfl); (focus decide))
    | ((with_reducible refine ixN_mk 6 ?_ ?_ ?_); (focus rfl); (focus decide))
    | ((with_reducible refine ixN_mk 7 ?_ ?_ ?_); (focus rfl); (focus decide))
    | ((with_reducible refine posE_nil (by rfl) ?_))
    | ((with_reducible refine posE_pos (by decide) ?_))
    | with_reducible refine vN_mod (by omega) ?_
    | with_reducible refine vN_mk ?_
    | with_reducible refine nzN_mk (by omega) ?_
    | with_reducible refine eqN_dec (by omega) ?_
    | with_reducible refine draw_rule tabOk mixOk ?_
    | with_reducible refine apN_mk (by kernel_rfl) ?_
    | ((with_reducible apply conN_mk2 ?_ (tick_con _) ?_);(first | (focus exact ⟨rfl, trivial⟩) | (rotate_left 1; (focus exact ⟨rfl, trivial⟩))); skip)
    | ((with_reducible apply call_con2 ?_ (tick_con _) ?_);(first | (focus exact ⟨rfl, trivial⟩) | (rotate_left 1; (focus exact ⟨rfl, trivial⟩))); rintro _ _ _ ⟨rfl, rfl, rfl⟩))
  all_goals (try (conv => whnf))
  all_goals try (show False; omega)
  all_goals refine ret0 _ rfl _ rfl (fun _ => rfl) rfl ⟨?_, rfl, rfl⟩
  all_goals (refine rv_bool ?_; first | (exact bool_t (by unfold okH; omega)) | (exact bool_f (by unfold okH; omega)))

theorem same0_con (n s n2 s2 : Int)  : Con Try.prog 14 [.agg [.v (.int .i64 (n)), .v (.int .i64 (s)), .v (.slice none 0 0)], .agg [.v (.int .i64 (n2)), .v (.int .i64 (s2)), .v (.slice none 0 0)]] (fun rx rK rt => rx = .val (.bool (decide (n = n2 ∧ s = s2))) ∧ rK = [] ∧ rt = 0) := by
  refine con_of tabOk 45 Try.f14 _ Try.func14 (by kernel_rfl) rfl rfl rfl rfl (fun W => ?_)
  repeat' ((conv => whnf); first
    | with_reducible refine spB_t ?_
    | with_reducible refine spB_f ?_
    | with_reducible refine spB_not ?_
    | with_reducible refine spB_yes (by assumption) ?_
    | with_reducible refine spB_no (by assumption) ?_
    | (with_reducible refine spB_dec ?_ ?_ <;> intro _)
    | (with_reducible refine spB_beq ?_ ?_ <;> intro _)
    | (with_reducible refine spB_bne ?_ ?_ <;> intro _)
    | (with_reducible refine spB_mk ?_ ?_ <;> intro _)
    | with_reducible refine wr_i64 (by first | omega | (simp only [List.length_map] at *; omega)) ?_
    | with_reducible refine wr_u64 (by omega) ?_
    | with_reducible refine wr_u8 (by omega) ?_
    | with_reducible refine wr_u32 (by omega) ?_
    | with_reducible refine wr_mk _ rfl ?_
    | ((with_reducible refine ixN_nat ?_ ?_); (focus ((try simp only [List.length_map] at *); omega)))
    | ((with_reducible refine rowN_map ?_ ?_); (focus ((try simp only [List.length_map] at *); omega)); intro x hx)
    | ((with_reducible refine ixN_mk 0 ?_ ?_ ?_); (focus rfl); (focus decide))
    | ((with_reducible refine ixN_mk 1 ?_ ?_ ?_); (focus rfl); (focus decide))
    | ((with_reducible refine ixN_mk 2 ?_ ?_ ?_); (focus rfl); (focus decide))
    | ((with_reducible refine ixN_mk 3 ?_ ?_ ?_); (focus rfl); (focus decide))
    | ((with_reducible refine ixN_mk 4 ?_ ?_ ?_); (focus rfl); (focus decide))
    | ((with_reducible refine ixN_mk 5 ?_ ?_ ?_); (focus rfl); (focus decide))
    | ((with_reducible refine ixN_mk 6 ?_ ?_ ?_); (focus rfl); (focus decide))
    | ((with_reducible refine ixN_mk 7 ?_ ?_ ?_); (focus rfl); (focus decide))
    | ((with_reducible refine posE_nil (by rfl) ?_))
    | ((with_reducible refine posE_pos (by decide) ?_))
    | with_reducible refine vN_mod (by omega) ?_
    | with_reducible refine vN_mk ?_
    | with_reducible refine nzN_mk (by omega) ?_
    | with_reducible refine eqN_dec (by omega) ?_
    | with_reducible refine draw_rule tabOk mixOk ?_
    | with_reducible refine apN_mk (by kernel_rfl) ?_)
  all_goals (try (conv => whnf))
  all_goals try (refine loop_unroll tabOk 1 ?_)
  repeat' ((conv => whnf); first
    | with_reducible refine spB_t ?_
    | with_reducible refine spB_f ?_
    | with_reducible refine spB_not ?_
    | with_reducible refine spB_yes (by assumption) ?_
    | with_reducible refine spB_no (by assumption) ?_
    | (with_reducible refine spB_dec ?_ ?_ <;> intro _)
    | (with_reducible refine spB_beq ?_ ?_ <;> intro _)
    | (with_reducible refine spB_bne ?_ ?_ <;> intro _)
    | (with_reducible refine spB_mk ?_ ?_ <;> intro _)
    | with_reducible refine wr_i64 (by first | omega | (simp only [List.length_map] at *; omega)) ?_
    | with_reducible refine wr_u64 (by omega) ?_
    | with_reducible refine wr_u8 (by omega) ?_
    | with_reducible refine wr_u32 (by omega) ?_
    | with_reducible refine wr_mk _ rfl ?_
    | ((with_reducible refine ixN_nat ?_ ?_); (focus ((try simp only [List.length_map] at *); omega)))
    | ((with_reducible refine rowN_map ?_ ?_); (focus ((try simp only [List.length_map] at *); omega)); intro x hx)
    | ((with_reducible refine ixN_mk 0 ?_ ?_ ?_); (focus rfl); (focus decide))
    | ((with_reducible refine ixN_mk 1 ?_ ?_ ?_); (focus rfl); (focus decide))
    | ((with_reducible refine ixN_mk 2 ?_ ?_ ?_); (focus rfl); (focus decide))
    | ((with_reducible refine ixN_mk 3 ?_ ?_ ?_); (focus rfl); (focus decide))
    | ((with_reducible refine ixN_mk 4 ?_ ?_ ?_); (focus rfl); (focus decide))
    | ((with_reducible refine ixN_mk 5 ?_ ?_ ?_); (focus rfl); (focus decide))
    | ((with_reducible refine ixN_mk 6 ?_ ?_ ?_); (focus rfl); (focus decide))
    | ((with_reducible refine ixN_mk 7 ?_ ?_ ?_); (focus rfl); (focus decide))
    | ((with_reducible refine posE_nil (by rfl) ?_))
    | ((with_reducible refine posE_pos (by decide) ?_))
    | with_reducible refine vN_mod (by omega) ?_
    | with_reducible refine vN_mk ?_
    | with_reducible refine nzN_mk (by omega) ?_
    | with_reducible refine eqN_dec (by omega) ?_
    | with_reducible refine draw_rule tabOk mixOk ?_
    | with_reducible refine apN_mk (by kernel_rfl) ?_)
  all_goals (try (conv => whnf))
  all_goals try (show False; omega)
  all_goals refine ret0 _ rfl _ rfl (fun _ => rfl) rfl ⟨?_, rfl, rfl⟩
  all_goals (refine rv_bool ?_; first | (exact bool_t (by omega)) | (exact bool_f (by omega)))

theorem new_con (n s : Int)  : Con Try.prog 23 [.one (.v (.int .i64 n)), .one (.v (.int .i64 s))] (fun rx rK rt => rx = .tup [.agg [.v (.int .i64 (if okH n s then n else 0)), .v (.int .i64 (if okH n s then s else 0)), .v (.slice none 0 0)], .one (.v (.int .i64 (if okH n s then 0 else 2)))] ∧ rK = [] ∧ rt = 0) := by
  refine con_of tabOk 15 Try.f23 _ Try.func23 (by kernel_rfl) rfl rfl rfl rfl (fun W => ?_)
  repeat' ((conv => whnf); first
    | with_reducible refine spB_t ?_
    | with_reducible refine spB_f ?_
    | with_reducible refine spB_not ?_
    | with_reducible refine spB_yes (by assumption) ?_
    | with_reducible refine spB_no (by assumption) ?_
    | (with_reducible refine spB_dec ?_ ?_ <;> intro _)
    | (with_reducible refine spB_beq ?_ ?_ <;> intro _)
    | (with_reducible refine spB_bne ?_ ?_ <;> intro _)
    | (with_reducible refine spB_mk ?_ ?_ <;> intro _)
    | with_reducible refine wr_i64 (by first | omega | (simp only [List.length_map] at *; omega)) ?_
    | with_reducible refine wr_u64 (by omega) ?_
    | with_reducible refine wr_u8 (by omega) ?_
    | with_reducible refine wr_u32 (by omega) ?_
    | with_reducible refine wr_mk _ rfl ?_
    | ((with_reducible refine ixN_nat ?_ ?_); (focus ((try simp only [List.length_map] at *); omega)))
    | ((with_reducible refine rowN_map ?_ ?_); (focus ((try simp only [List.length_map] at *); omega)); intro x hx)
    | ((with_reducible refine ixN_mk 0 ?_ ?_ ?_); (focus rfl); (focus decide))
    | ((with_reducible refine ixN_mk 1 ?_ ?_ ?_); (focus rfl); (focus decide))
    | ((with_reducible refine ixN_mk 2 ?_ ?_ ?_); (focus rfl); (focus decide))
    | ((with_reducible refine ixN_mk 3 ?_ ?_ ?_); (focus rfl); (focus decide))
    | ((with_reducible refine ixN_mk 4 ?_ ?_ ?_); (focus rfl); (focus decide))
    | ((with_reducible refine ixN_mk 5 ?_ ?_ ?_); (focus rfl); (focus decide))
    | ((with_reducible refine ixN_mk 6 ?_ ?_ ?_); (focus rfl); (focus decide))
    | ((with_reducible refine ixN_mk 7 ?_ ?_ ?_); (focus rfl); (focus decide))
    | ((with_reducible refine posE_nil (by rfl) ?_))
    | ((with_reducible refine posE_pos (by decide) ?_))
    | with_reducible refine vN_mod (by omega) ?_
    | with_reducible refine vN_mk ?_
    | with_reducible refine nzN_mk (by omega) ?_
    | with_reducible refine eqN_dec (by omega) ?_
    | with_reducible refine draw_rule tabOk mixOk ?_
    | with_reducible refine apN_mk (by kernel_rfl) ?_
    | ((with_reducible apply conN_mk2 ?_ (may0_con _ _) ?_);(first | (focus exact ⟨⟨rfl, rfl, (.inl rfl), trivial⟩, trivial⟩) | (rotate_left 1; (focus exact ⟨⟨rfl, rfl, (.inl rfl), trivial⟩, trivial⟩)) | (rotate_left 2; (focus exact ⟨⟨rfl, rfl, (.inl rfl), trivial⟩, trivial⟩))); skip)
    | ((with_reducible apply call_con2 ?_ (may0_con _ _) ?_);(first | (focus exact ⟨⟨rfl, rfl, (.inl rfl), trivial⟩, trivial⟩) | (rotate_left 1; (focus exact ⟨⟨rfl, rfl, (.inl rfl), trivial⟩, trivial⟩)) | (rotate_left 2; (focus exact ⟨⟨rfl, rfl, (.inl rfl), trivial⟩, trivial⟩))); rintro _ _ _ ⟨rfl, rfl, rfl⟩))
  all_goals (try (conv => whnf))
  all_goals refine ret0 _ rfl _ rfl (fun _ => rfl) rfl ⟨?_, rfl, rfl⟩
  all_goals (first
    | (have hk : okH n s := by assumption
       simp only [if_pos hk]; rfl)
    | (have hk : ¬ okH n s := by assumption
       simp only [if_neg hk]; rfl))

end Go.Proofs.Ytgdkhdooekmfgaa
