import Derived.Test.YtffaedlhinogkaaNews0
import Derived.Test.YtffaedlhinogkaaRows
namespace Go.Proofs.Ytffaedlhinogkaa
open Go Go.RowKit Wx
set_option linter.unusedVariables false
set_option maxHeartbeats 4000000
theorem news_con (l : List Bg) (m : List (Int × Int)) (hl : l.length ≤ 9223372036854775807) (hm : m.length ≤ 9223372036854775807) (hwm : ∀ z ∈ m, (0 ≤ z.1 ∧ z.1 ≤ 18446744073709551615) ∧ (0 ≤ z.2 ∧ z.2 ≤ 18446744073709551615)) : Con Try.prog 5 [.one (.ro false 3 (l.map fun x : Bg => [RT.v (.int .u64 x.e), RT.v (.int .i64 x.t), RT.v (.int .i64 x.a)])), .one (.ro false 2 (m.map fun x : Int × Int => [RT.v (.int .u64 x.1), RT.v (.int .u64 x.2)]))] (fun rx rK rt => rx = .val (.bool true) ∧ rK = [] ∧ rt = 0) := by
  refine con_of tabOk 106 Try.f5 _ Try.func5 (by kernel_rfl) rfl rfl rfl rfl (fun W => ?_)
  repeat' ((conv => whnf); first
    | with_reducible refine spB_t ?_
    | with_reducible refine spB_f ?_
    | with_reducible refine spB_not ?_
    | with_reducible refine spB_yes (by assumption) ?_
    | with_reducible refine spB_no (by assumption) ?_
    | (with_reducible refine spB_dec ?_ ?_ <;> intro _)
    | (with_reducible refine spB_beq ?_ ?_ <;> intro _)
    | (with_reducible refine spB_bne ?_ ?_ <;> intro _)
    | (with_reducible refine spB_mk ?_ ?_ <;> intro _)
    | with_reducible refine wr_i64 (by first | omega | (simp only [List.length_map] at *; omega)) ?_
    | with_reducible refine wr_u64 (by omega) ?_
    | with_reducible refine wr_u8 (by omega) ?_
    | with_reducible refine wr_u32 (by omega) ?_
    | with_reducible refine wr_mk _ rfl ?_
    | ((with_reducible refine ixN_nat ?_ ?_); (focus ((try simp only [List.length_map] at *); omega)))
    | ((with_reducible refine rowN_map ?_ ?_); (focus ((try simp only [List.length_map] at *); omega)); intro x hx)
    | ((with_reducible refine ixN_mk 0 ?_ ?_ ?_); (focus rfl); (focus decide))
    | ((with_reducible refine ixN_mk 1 ?_ ?_ ?_); (focus rfl); (focus decide))
    | ((with_reducible refine ixN_mk 2 ?_ ?_ ?_); (focus rfl); (focus decide))
    | ((with_reducible refine ixN_mk 3 ?_ ?_ ?_); (focus rfl); (focus decide))
    | ((with_reducible refine ixN_mk 4 ?_ ?_ ?_); (focus rfl); (focus decide))
    | ((with_reducible refine ixN_mk 5 ?_ ?_ ?_); (focus rfl); (focus decide))
    | ((with_reducible refine ixN_mk 6 ?_ ?_ ?_); (focus rfl); (focus decide))
    | ((with_reducible refine ixN_mk 7 ?_ ?_ ?_); (focus rfl); (focus decide))
    | with_reducible refine vN_mod (by omega) ?_
    | with_reducible refine vN_mk ?_
    | with_reducible refine nzN_mk (by omega) ?_
    | with_reducible refine eqN_dec (by omega) ?_
    | with_reducible refine draw_rule tabOk mixOk ?_
    | with_reducible refine apN_mk (by kernel_rfl) ?_
    | ((with_reducible apply conN_mk2 ?_ (wakes_con) ?_);(first | (focus exact trivial)); skip)
    | ((with_reducible apply call_con2 ?_ (wakes_con) ?_);(first | (focus exact trivial)); rintro _ _ _ ⟨rfl, rfl, rfl⟩)
    | ((with_reducible apply conN_mk2 ?_ (new_con _ _ _) ?_);(first | (focus exact ⟨rfl, rfl, rfl, trivial⟩) | (rotate_left 1; (focus exact ⟨rfl, rfl, rfl, trivial⟩)) | (rotate_left 2; (focus exact ⟨rfl, rfl, rfl, trivial⟩)) | (rotate_left 3; (focus exact ⟨rfl, rfl, rfl, trivial⟩))); skip)
    | ((with_reducible apply call_con2 ?_ (new_con _ _ _) ?_);(first | (focus exact ⟨rfl, rfl, rfl, trivial⟩) | (rotate_left 1; (focus exact ⟨rfl, rfl, rfl, trivial⟩)) | (rotate_left 2; (focus exact ⟨rfl, rfl, rfl, trivial⟩)) | (rotate_left 3; (focus exact ⟨rfl, rfl, rfl, trivial⟩))); rintro _ _ _ ⟨rfl, rfl, rfl⟩)
    | ((with_reducible apply conN_mk2 ?_ (right0_con _ _ _ _ _) ?_);(first | (focus exact ⟨⟨rfl, rfl, rfl, rfl, rfl, (.inl rfl), trivial⟩, trivial⟩) | (rotate_left 1; (focus exact ⟨⟨rfl, rfl, rfl, rfl, rfl, (.inl rfl), trivial⟩, trivial⟩)) | (rotate_left 2; (focus exact ⟨⟨rfl, rfl, rfl, rfl, rfl, (.inl rfl), trivial⟩, trivial⟩)) | (rotate_left 3; (focus exact ⟨⟨rfl, rfl, rfl, rfl, rfl, (.inl rfl), trivial⟩, trivial⟩)) | (rotate_left 4; (focus exact ⟨⟨rfl, rfl, rfl, rfl, rfl, (.inl rfl), trivial⟩, trivial⟩)) | (rotate_left 5; (focus exact ⟨⟨rfl, rfl, rfl, rfl, rfl, (.inl rfl), trivial⟩, trivial⟩))); skip)
    | ((with_reducible apply call_con2 ?_ (right0_con _ _ _ _ _) ?_);(first | (focus exact ⟨⟨rfl, rfl, rfl, rfl, rfl, (.inl rfl), trivial⟩, trivial⟩) | (rotate_left 1; (focus exact ⟨⟨rfl, rfl, rfl, rfl, rfl, (.inl rfl), trivial⟩, trivial⟩)) | (rotate_left 2; (focus exact ⟨⟨rfl, rfl, rfl, rfl, rfl, (.inl rfl), trivial⟩, trivial⟩)) | (rotate_left 3; (focus exact ⟨⟨rfl, rfl, rfl, rfl, rfl, (.inl rfl), trivial⟩, trivial⟩)) | (rotate_left 4; (focus exact ⟨⟨rfl, rfl, rfl, rfl, rfl, (.inl rfl), trivial⟩, trivial⟩)) | (rotate_left 5; (focus exact ⟨⟨rfl, rfl, rfl, rfl, rfl, (.inl rfl), trivial⟩, trivial⟩))); rintro _ _ _ ⟨rfl, rfl, rfl⟩)
    | ((with_reducible apply conN_mk2 ?_ (same0_con _ _ _ _ _ _ _ _ _ _) ?_);(first | (focus exact ⟨⟨rfl, rfl, rfl, rfl, rfl, (.inl rfl), trivial⟩, ⟨rfl, rfl, rfl, rfl, rfl, (.inl rfl), trivial⟩, trivial⟩) | (rotate_left 1; (focus exact ⟨⟨rfl, rfl, rfl, rfl, rfl, (.inl rfl), trivial⟩, ⟨rfl, rfl, rfl, rfl, rfl, (.inl rfl), trivial⟩, trivial⟩)) | (rotate_left 2; (focus exact ⟨⟨rfl, rfl, rfl, rfl, rfl, (.inl rfl), trivial⟩, ⟨rfl, rfl, rfl, rfl, rfl, (.inl rfl), trivial⟩, trivial⟩)) | (rotate_left 3; (focus exact ⟨⟨rfl, rfl, rfl, rfl, rfl, (.inl rfl), trivial⟩, ⟨rfl, rfl, rfl, rfl, rfl, (.inl rfl), trivial⟩, trivial⟩)) | (rotate_left 4; (focus exact ⟨⟨rfl, rfl, rfl, rfl, rfl, (.inl rfl), trivial⟩, ⟨rfl, rfl, rfl, rfl, rfl, (.inl rfl), trivial⟩, trivial⟩)) | (rotate_left 5; (focus exact ⟨⟨rfl, rfl, rfl, rfl, rfl, (.inl rfl), trivial⟩, ⟨rfl, rfl, rfl, rfl, rfl, (.inl rfl), trivial⟩, trivial⟩)) | (rotate_left 6; (focus exact ⟨⟨rfl, rfl, rfl, rfl, rfl, (.inl rfl), trivial⟩, ⟨rfl, rfl, rfl, rfl, rfl, (.inl rfl), trivial⟩, trivial⟩)) | (rotate_left 7; (focus exact ⟨⟨rfl, rfl, rfl, rfl, rfl, (.inl rfl), trivial⟩, ⟨rfl, rfl, rfl, rfl, rfl, (.inl rfl), trivial⟩, trivial⟩)) | (rotate_left 8; (focus exact ⟨⟨rfl, rfl, rfl, rfl, rfl, (.inl rfl), trivial⟩, ⟨rfl, rfl, rfl, rfl, rfl, (.inl rfl), trivial⟩, trivial⟩)) | (rotate_left 9; (focus exact ⟨⟨rfl, rfl, rfl, rfl, rfl, (.inl rfl), trivial⟩, ⟨rfl, rfl, rfl, rfl, rfl, (.inl rfl), trivial⟩, trivial⟩)) | (rotate_left 10; (focus exact ⟨⟨rfl, rfl, rfl, rfl, rfl, (.inl rfl), trivial⟩, ⟨rfl, rfl, rfl, rfl, rfl, (.inl rfl), trivial⟩, trivial⟩))); skip)
    | ((with_reducible apply call_con2 ?_ (same0_con _ _ _ _ _ _ _ _ _ _) ?_);(first | (focus exact ⟨⟨rfl, rfl, rfl, rfl, rfl, (.inl rfl), trivial⟩, ⟨rfl, rfl, rfl, rfl, rfl, (.inl rfl), trivial⟩, trivial⟩) | (rotate_left 1; (focus exact ⟨⟨rfl, rfl, rfl, rfl, rfl, (.inl rfl), trivial⟩, ⟨rfl, rfl, rfl, rfl, rfl, (.inl rfl), trivial⟩, trivial⟩)) | (rotate_left 2; (focus exact ⟨⟨rfl, rfl, rfl, rfl, rfl, (.inl rfl), trivial⟩, ⟨rfl, rfl, rfl, rfl, rfl, (.inl rfl), trivial⟩, trivial⟩)) | (rotate_left 3; (focus exact ⟨⟨rfl, rfl, rfl, rfl, rfl, (.inl rfl), trivial⟩, ⟨rfl, rfl, rfl, rfl, rfl, (.inl rfl), trivial⟩, trivial⟩)) | (rotate_left 4; (focus exact ⟨⟨rfl, rfl, rfl, rfl, rfl, (.inl rfl), trivial⟩, ⟨rfl, rfl, rfl, rfl, rfl, (.inl rfl), trivial⟩, trivial⟩)) | (rotate_left 5; (focus exact ⟨⟨rfl, rfl, rfl, rfl, rfl, (.inl rfl), trivial⟩, ⟨rfl, rfl, rfl, rfl, rfl, (.inl rfl), trivial⟩, trivial⟩)) | (rotate_left 6; (focus exact ⟨⟨rfl, rfl, rfl, rfl, rfl, (.inl rfl), trivial⟩, ⟨rfl, rfl, rfl, rfl, rfl, (.inl rfl), trivial⟩, trivial⟩)) | (rotate_left 7; (focus exact ⟨⟨rfl, rfl, rfl, rfl, rfl, (.inl rfl), trivial⟩, ⟨rfl, rfl, rfl, rfl, rfl, (.inl rfl), trivial⟩, trivial⟩)) | (rotate_left 8; (focus exact ⟨⟨rfl, rfl, rfl, rfl, rfl, (.inl rfl), trivial⟩, ⟨rfl, rfl, rfl, rfl, rfl, (.inl rfl), trivial⟩, trivial⟩)) | (rotate_left 9; (focus exact ⟨⟨rfl, rfl, rfl, rfl, rfl, (.inl rfl), trivial⟩, ⟨rfl, rfl, rfl, rfl, rfl, (.inl rfl), trivial⟩, trivial⟩)) | (rotate_left 10; (focus exact ⟨⟨rfl, rfl, rfl, rfl, rfl, (.inl rfl), trivial⟩, ⟨rfl, rfl, rfl, rfl, rfl, (.inl rfl), trivial⟩, trivial⟩))); rintro _ _ _ ⟨rfl, rfl, rfl⟩)
    | ((with_reducible apply conN_mk2 ?_ (num_con _ _ ?_ ?_) ?_);(first | (focus exact ⟨rfl, rfl, trivial⟩) | (rotate_left 1; (focus exact ⟨rfl, rfl, trivial⟩)) | (rotate_left 2; (focus exact ⟨rfl, rfl, trivial⟩))); (focus omega); (focus omega); skip)
    | ((with_reducible apply call_con2 ?_ (num_con _ _ ?_ ?_) ?_);(first | (focus exact ⟨rfl, rfl, trivial⟩) | (rotate_left 1; (focus exact ⟨rfl, rfl, trivial⟩)) | (rotate_left 2; (focus exact ⟨rfl, rfl, trivial⟩))); (focus omega); (focus omega); rintro _ _ _ ⟨rfl, rfl, rfl⟩)
    | ((with_reducible apply conN_mk2 ?_ (rnum_con _ _ ?_ ?_) ?_);(first | (focus exact ⟨rfl, rfl, trivial⟩) | (rotate_left 1; (focus exact ⟨rfl, rfl, trivial⟩)) | (rotate_left 2; (focus exact ⟨rfl, rfl, trivial⟩))); (focus omega); (focus omega); skip)
    | ((with_reducible apply call_con2 ?_ (rnum_con _ _ ?_ ?_) ?_);(first | (focus exact ⟨rfl, rfl, trivial⟩) | (rotate_left 1; (focus exact ⟨rfl, rfl, trivial⟩)) | (rotate_left 2; (focus exact ⟨rfl, rfl, trivial⟩))); (focus omega); (focus omega); rintro _ _ _ ⟨rfl, rfl, rfl⟩)
    | ((with_reducible apply conN_mk2 ?_ (spl_con _ ?_) ?_);(first | (focus exact ⟨rfl, trivial⟩) | (rotate_left 1; (focus exact ⟨rfl, trivial⟩))); (focus omega); skip)
    | ((with_reducible apply call_con2 ?_ (spl_con _ ?_) ?_);(first | (focus exact ⟨rfl, trivial⟩) | (rotate_left 1; (focus exact ⟨rfl, trivial⟩))); (focus omega); rintro _ _ _ ⟨rfl, rfl, rfl⟩)
    | ((with_reducible apply conN_mk2 ?_ (rspl_con _ ?_) ?_);(first | (focus exact ⟨rfl, trivial⟩) | (rotate_left 1; (focus exact ⟨rfl, trivial⟩))); (focus omega); skip)
    | ((with_reducible apply call_con2 ?_ (rspl_con _ ?_) ?_);(first | (focus exact ⟨rfl, trivial⟩) | (rotate_left 1; (focus exact ⟨rfl, trivial⟩))); (focus omega); rintro _ _ _ ⟨rfl, rfl, rfl⟩))
  all_goals (try (conv => whnf))
  refine loop_rule tabOk (fun i : Nat => ⟨[(20, .val (.int .i64 (i : Int))), (19, .val (.int .i64 ((l.map fun x : Bg => [RT.v (.int .u64 x.e), RT.v (.int .i64 x.t), RT.v (.int .i64 x.a)]).length : Nat))), (18, .c (.ro false 3 (l.map fun x : Bg => [RT.v (.int .u64 x.e), RT.v (.int .i64 x.t), RT.v (.int .i64 x.a)]))), (1, .c (.ro false 2 (m.map fun x : Int × Int => [RT.v (.int .u64 x.1), RT.v (.int .u64 x.2)])))], [], 0⟩) (fun i => i ≤ l.length) (fun i => l.length - i) 0 (Nat.zero_le _) (Wk.stp (l := []) ⟨rfl, List.nodup_nil, rfl, Nat.zero_le _, ⟨rfl, rfl, rfl, rfl, trivial⟩, trivial⟩) ?_
  intro i hi
  dsimp only
  repeat' ((conv => whnf); first
    | with_reducible refine spB_t ?_
    | with_reducible refine spB_f ?_
    | with_reducible refine spB_not ?_
    | with_reducible refine spB_yes (by assumption) ?_
    | with_reducible refine spB_no (by assumption) ?_
    | (with_reducible refine spB_dec ?_ ?_ <;> intro _)
    | (with_reducible refine spB_beq ?_ ?_ <;> intro _)
    | (with_reducible refine spB_bne ?_ ?_ <;> intro _)
    | (with_reducible refine spB_mk ?_ ?_ <;> intro _)
    | with_reducible refine wr_i64 (by first | omega | (simp only [List.length_map] at *; omega)) ?_
    | with_reducible refine wr_u64 (by omega) ?_
    | with_reducible refine wr_u8 (by omega) ?_
    | with_reducible refine wr_u32 (by omega) ?_
    | with_reducible refine wr_mk _ rfl ?_
    | ((with_reducible refine ixN_nat ?_ ?_); (focus ((try simp only [List.length_map] at *); omega)))
    | ((with_reducible refine rowN_map ?_ ?_); (focus ((try simp only [List.length_map] at *); omega)); intro x hx)
    | ((with_reducible refine ixN_mk 0 ?_ ?_ ?_); (focus rfl); (focus decide))
    | ((with_reducible refine ixN_mk 1 ?_ ?_ ?_); (focus rfl); (focus decide))
    | ((with_reducible refine ixN_mk 2 ?_ ?_ ?_); (focus rfl); (focus decide))
    | ((with_reducible refine ixN_mk 3 ?_ ?_ ?_); (focus rfl); (focus decide))
    | ((with_reducible refine ixN_mk 4 ?_ ?_ ?_); (focus rfl); (focus decide))
    | ((with_reducible refine ixN_mk 5 ?_ ?_ ?_); (focus rfl); (focus decide))
    | ((with_reducible refine ixN_mk 6 ?_ ?_ ?_); (focus rfl); (focus decide))
    | ((with_reducible refine ixN_mk 7 ?_ ?_ ?_); (focus rfl); (focus decide))
    | with_reducible refine vN_mod (by omega) ?_
    | with_reducible refine vN_mk ?_
    | with_reducible refine nzN_mk (by omega) ?_
    | with_reducible refine eqN_dec (by omega) ?_
    | with_reducible refine draw_rule tabOk mixOk ?_
    | with_reducible refine apN_mk (by kernel_rfl) ?_
    | ((with_reducible apply conN_mk2 ?_ (wakes_con) ?_);(first | (focus exact trivial)); skip)
    | ((with_reducible apply call_con2 ?_ (wakes_con) ?_);(first | (focus exact trivial)); rintro _ _ _ ⟨rfl, rfl, rfl⟩)
    | ((with_reducible apply conN_mk2 ?_ (new_con _ _ _) ?_);(first | (focus exact ⟨rfl, rfl, rfl, trivial⟩) | (rotate_left 1; (focus exact ⟨rfl, rfl, rfl, trivial⟩)) | (rotate_left 2; (focus exact ⟨rfl, rfl, rfl, trivial⟩)) | (rotate_left 3; (focus exact ⟨rfl, rfl, rfl, trivial⟩))); skip)
    | ((with_reducible apply call_con2 ?_ (new_con _ _ _) ?_);(first | (focus exact ⟨rfl, rfl, rfl, trivial⟩) | (rotate_left 1; (focus exact ⟨rfl, rfl, rfl, trivial⟩)) | (rotate_left 2; (focus exact ⟨rfl, rfl, rfl, trivial⟩)) | (rotate_left 3; (focus exact ⟨rfl, rfl, rfl, trivial⟩))); rintro _ _ _ ⟨rfl, rfl, rfl⟩)
    | ((with_reducible apply conN_mk2 ?_ (right0_con _ _ _ _ _) ?_);(first | (focus exact ⟨⟨rfl, rfl, rfl, rfl, rfl, (.inl rfl), trivial⟩, trivial⟩) | (rotate_left 1; (focus exact ⟨⟨rfl, rfl, rfl, rfl, rfl, (.inl rfl), trivial⟩, trivial⟩)) | (rotate_left 2; (focus exact ⟨⟨rfl, rfl, rfl, rfl, rfl, (.inl rfl), trivial⟩, trivial⟩)) | (rotate_left 3; (focus exact ⟨⟨rfl, rfl, rfl, rfl, rfl, (.inl rfl), trivial⟩, trivial⟩)) | (rotate_left 4; (focus exact ⟨⟨rfl, rfl, rfl, rfl, rfl, (.inl rfl), trivial⟩, trivial⟩)) | (rotate_left 5; (focus exact ⟨⟨rfl, rfl, rfl, rfl, rfl, (.inl rfl), trivial⟩, trivial⟩))); skip)
    | ((with_reducible apply call_con2 ?_ (right0_con _ _ _ _ _) ?_);(first | (focus exact ⟨⟨rfl, rfl, rfl, rfl, rfl, (.inl rfl), trivial⟩, trivial⟩) | (rotate_left 1; (focus exact ⟨⟨rfl, rfl, rfl, rfl, rfl, (.inl rfl), trivial⟩, trivial⟩)) | (rotate_left 2; (focus exact ⟨⟨rfl, rfl, rfl, rfl, rfl, (.inl rfl), trivial⟩, trivial⟩)) | (rotate_left 3; (focus exact ⟨⟨rfl, rfl, rfl, rfl, rfl, (.inl rfl), trivial⟩, trivial⟩)) | (rotate_left 4; (focus exact ⟨⟨rfl, rfl, rfl, rfl, rfl, (.inl rfl), trivial⟩, trivial⟩)) | (rotate_left 5; (focus exact ⟨⟨rfl, rfl, rfl, rfl, rfl, (.inl rfl), trivial⟩, trivial⟩))); rintro _ _ _ ⟨rfl, rfl, rfl⟩)
    | ((with_reducible apply conN_mk2 ?_ (same0_con _ _ _ _ _ _ _ _ _ _) ?_);(first | (focus exact ⟨⟨rfl, rfl, rfl, rfl, rfl, (.inl rfl), trivial⟩, ⟨rfl, rfl, rfl, rfl, rfl, (.inl rfl), trivial⟩, trivial⟩) | (rotate_left 1; (focus exact ⟨⟨rfl, rfl, rfl, rfl, rfl, (.inl rfl), trivial⟩, ⟨rfl, rfl, rfl, rfl, rfl, (.inl rfl), trivial⟩, trivial⟩)) | (rotate_left 2; (focus exact ⟨⟨rfl, rfl, rfl, rfl, rfl, (.inl rfl), trivial⟩, ⟨rfl, rfl, rfl, rfl, rfl, (.inl rfl), trivial⟩, trivial⟩)) | (rotate_left 3; (focus exact ⟨⟨rfl, rfl, rfl, rfl, rfl, (.inl rfl), trivial⟩, ⟨rfl, rfl, rfl, rfl, rfl, (.inl rfl), trivial⟩, trivial⟩)) | (rotate_left 4; (focus exact ⟨⟨rfl, rfl, rfl, rfl, rfl, (.inl rfl), trivial⟩, ⟨rfl, rfl, rfl, rfl, rfl, (.inl rfl), trivial⟩, trivial⟩)) | (rotate_left 5; (focus exact ⟨⟨rfl, rfl, rfl, rfl, rfl, (.inl rfl), trivial⟩, ⟨rfl, rfl, rfl, rfl, rfl, (.inl rfl), trivial⟩, trivial⟩)) | (rotate_left 6; (focus exact ⟨⟨rfl, rfl, rfl, rfl, rfl, (.inl rfl), trivial⟩, ⟨rfl, rfl, rfl, rfl, rfl, (.inl rfl), trivial⟩, trivial⟩)) | (rotate_left 7; (focus exact ⟨⟨rfl, rfl, rfl, rfl, rfl, (.inl rfl), trivial⟩, ⟨rfl, rfl, rfl, rfl, rfl, (.inl rfl), trivial⟩, trivial⟩)) | (rotate_left 8; (focus exact ⟨⟨rfl, rfl, rfl, rfl, rfl, (.inl rfl), trivial⟩, ⟨rfl, rfl, rfl, rfl, rfl, (.inl rfl), trivial⟩, trivial⟩)) | (rotate_left 9; (focus exact ⟨⟨rfl, rfl, rfl, rfl, rfl, (.inl rfl), trivial⟩, ⟨rfl, rfl, rfl, rfl, rfl, (.inl rfl), trivial⟩, trivial⟩)) | (rotate_left 10; (focus exact ⟨⟨rfl, rfl, rfl, rfl, rfl, (.inl rfl), trivial⟩, ⟨rfl, rfl, rfl, rfl, rfl, (.inl rfl), trivial⟩, trivial⟩))); skip)
    | ((with_reducible apply call_con2 ?_ (same0_con _ _ _ _ _ _ _ _ _ _) ?_);(first | (focus exact ⟨⟨rfl, rfl, rfl, rfl, rfl, (.inl rfl), trivial⟩, ⟨rfl, rfl, rfl, rfl, rfl, (.inl rfl), trivial⟩, trivial⟩) | (rotate_left 1; (focus exact ⟨⟨rfl, rfl, rfl, rfl, rfl, (.inl rfl), trivial⟩, ⟨rfl, rfl, rfl, rfl, rfl, (.inl rfl), trivial⟩, trivial⟩)) | (rotate_left 2; (focus exact ⟨⟨rfl, rfl, rfl, rfl, rfl, (.inl rfl), trivial⟩, ⟨rfl, rfl, rfl, rfl, rfl, (.inl rfl), trivial⟩, trivial⟩)) | (rotate_left 3; (focus exact ⟨⟨rfl, rfl, rfl, rfl, rfl, (.inl rfl), trivial⟩, ⟨rfl, rfl, rfl, rfl, rfl, (.inl rfl), trivial⟩, trivial⟩)) | (rotate_left 4; (focus exact ⟨⟨rfl, rfl, rfl, rfl, rfl, (.inl rfl), trivial⟩, ⟨rfl, rfl, rfl, rfl, rfl, (.inl rfl), trivial⟩, trivial⟩)) | (rotate_left 5; (focus exact ⟨⟨rfl, rfl, rfl, rfl, rfl, (.inl rfl), trivial⟩, ⟨rfl, rfl, rfl, rfl, rfl, (.inl rfl), trivial⟩, trivial⟩)) | (rotate_left 6; (focus exact ⟨⟨rfl, rfl, rfl, rfl, rfl, (.inl rfl), trivial⟩, ⟨rfl, rfl, rfl, rfl, rfl, (.inl rfl), trivial⟩, trivial⟩)) | (rotate_left 7; (focus exact ⟨⟨rfl, rfl, rfl, rfl, rfl, (.inl rfl), trivial⟩, ⟨rfl, rfl, rfl, rfl, rfl, (.inl rfl), trivial⟩, trivial⟩)) | (rotate_left 8; (focus exact ⟨⟨rfl, rfl, rfl, rfl, rfl, (.inl rfl), trivial⟩, ⟨rfl, rfl, rfl, rfl, rfl, (.inl rfl), trivial⟩, trivial⟩)) | (rotate_left 9; (focus exact ⟨⟨rfl, rfl, rfl, rfl, rfl, (.inl rfl), trivial⟩, ⟨rfl, rfl, rfl, rfl, rfl, (.inl rfl), trivial⟩, trivial⟩)) | (rotate_left 10; (focus exact ⟨⟨rfl, rfl, rfl, rfl, rfl, (.inl rfl), trivial⟩, ⟨rfl, rfl, rfl, rfl, rfl, (.inl rfl), trivial⟩, trivial⟩))); rintro _ _ _ ⟨rfl, rfl, rfl⟩)
    | ((with_reducible apply conN_mk2 ?_ (num_con _ _ ?_ ?_) ?_);(first | (focus exact ⟨rfl, rfl, trivial⟩) | (rotate_left 1; (focus exact ⟨rfl, rfl, trivial⟩)) | (rotate_left 2; (focus exact ⟨rfl, rfl, trivial⟩))); (focus omega); (focus omega); skip)
    | ((with_reducible apply call_con2 ?_ (num_con _ _ ?_ ?_) ?_);(first | (focus exact ⟨rfl, rfl, trivial⟩) | (rotate_left 1; (focus exact ⟨rfl, rfl, trivial⟩)) | (rotate_left 2; (focus exact ⟨rfl, rfl, trivial⟩))); (focus omega); (focus omega); rintro _ _ _ ⟨rfl, rfl, rfl⟩)
    | ((with_reducible apply conN_mk2 ?_ (rnum_con _ _ ?_ ?_) ?_);(first | (focus exact ⟨rfl, rfl, trivial⟩) | (rotate_left 1; (focus exact ⟨rfl, rfl, trivial⟩)) | (rotate_left 2; (focus exact ⟨rfl, rfl, trivial⟩))); (focus omega); (focus omega); skip)
    | ((with_reducible apply call_con2 ?_ (rnum_con _ _ ?_ ?_) ?_);(first | (focus exact ⟨rfl, rfl, trivial⟩) | (rotate_left 1; (focus exact ⟨rfl, rfl, trivial⟩)) | (rotate_left 2; (focus exact ⟨rfl, rfl, trivial⟩))); (focus omega); (focus omega); rintro _ _ _ ⟨rfl, rfl, rfl⟩)
    | ((with_reducible apply conN_mk2 ?_ (spl_con _ ?_) ?_);(first | (focus exact ⟨rfl, trivial⟩) | (rotate_left 1; (focus exact ⟨rfl, trivial⟩))); (focus omega); skip)
    | ((with_reducible apply call_con2 ?_ (spl_con _ ?_) ?_);(first | (focus exact ⟨rfl, trivial⟩) | (rotate_left 1; (focus exact ⟨rfl, trivial⟩))); (focus omega); rintro _ _ _ ⟨rfl, rfl, rfl⟩)
    | ((with_reducible apply conN_mk2 ?_ (rspl_con _ ?_) ?_);(first | (focus exact ⟨rfl, trivial⟩) | (rotate_left 1; (focus exact ⟨rfl, trivial⟩))); (focus omega); skip)
    | ((with_reducible apply call_con2 ?_ (rspl_con _ ?_) ?_);(first | (focus exact ⟨rfl, trivial⟩) | (rotate_left 1; (focus exact ⟨rfl, trivial⟩))); (focus omega); rintro _ _ _ ⟨rfl, rfl, rfl⟩))
  all_goals (try (conv => whnf))
  all_goals try (first
    | (refine ⟨⟨i + 1, by simp only [List.length_map] at *; omega, by simp only [List.length_map] at *; omega, (Wk.stp (l := []) ⟨rfl, List.nodup_nil, rfl, Nat.zero_le _, ⟨rfl, rfl, rfl, rfl, trivial⟩, trivial⟩)⟩⟩)
    | (exfalso; by_cases hk : okN x.e x.t x.a <;> simp_all [okC]; done))
  all_goals
    (refine loop_rule tabOk (fun i : Nat => ⟨[(65, .val (.int .i64 (i : Int))), (64, .val (.int .i64 ((m.map fun x : Int × Int => [RT.v (.int .u64 x.1), RT.v (.int .u64 x.2)]).length : Nat))), (63, .c (.ro false 2 (m.map fun x : Int × Int => [RT.v (.int .u64 x.1), RT.v (.int .u64 x.2)])))], [], 0⟩) (fun i => i ≤ m.length) (fun i => m.length - i) 0 (Nat.zero_le _) (Wk.stp (l := []) ⟨rfl, List.nodup_nil, rfl, Nat.zero_le _, ⟨rfl, rfl, rfl, trivial⟩, trivial⟩) ?_
     intro j hj
     dsimp only)
  repeat' ((conv => whnf); first
    | with_reducible refine spB_t ?_
    | with_reducible refine spB_f ?_
    | with_reducible refine spB_not ?_
    | with_reducible refine spB_yes (by assumption) ?_
    | with_reducible refine spB_no (by assumption) ?_
    | (with_reducible refine spB_dec ?_ ?_ <;> intro _)
    | (with_reducible refine spB_beq ?_ ?_ <;> intro _)
    | (with_reducible refine spB_bne ?_ ?_ <;> intro _)
    | (with_reducible refine spB_mk ?_ ?_ <;> intro _)
    | with_reducible refine wr_i64 (by first | omega | (simp only [List.length_map] at *; omega)) ?_
    | with_reducible refine wr_u64 (by omega) ?_
    | with_reducible refine wr_u8 (by omega) ?_
    | with_reducible refine wr_u32 (by omega) ?_
    | with_reducible refine wr_mk _ rfl ?_
    | ((with_reducible refine ixN_nat ?_ ?_); (focus ((try simp only [List.length_map] at *); omega)))
    | ((with_reducible refine rowN_map ?_ ?_); (focus ((try simp only [List.length_map] at *); omega)); intro x hx; first | have hxx := hwm x (List.mem_of_getElem? hx) | skip)
    | ((with_reducible refine ixN_mk 0 ?_ ?_ ?_); (focus rfl); (focus decide))
    | ((with_reducible refine ixN_mk 1 ?_ ?_ ?_); (focus rfl); (focus decide))
    | ((with_reducible refine ixN_mk 2 ?_ ?_ ?_); (focus rfl); (focus decide))
    | ((with_reducible refine ixN_mk 3 ?_ ?_ ?_); (focus rfl); (focus decide))
    | ((with_reducible refine ixN_mk 4 ?_ ?_ ?_); (focus rfl); (focus decide))
    | ((with_reducible refine ixN_mk 5 ?_ ?_ ?_); (focus rfl); (focus decide))
    | ((with_reducible refine ixN_mk 6 ?_ ?_ ?_); (focus rfl); (focus decide))
    | ((with_reducible refine ixN_mk 7 ?_ ?_ ?_); (focus rfl); (focus decide))
    | with_reducible refine vN_mod (by omega) ?_
    | with_reducible refine vN_mk ?_
    | with_reducible refine nzN_mk (by omega) ?_
    | with_reducible refine eqN_dec (by omega) ?_
    | with_reducible refine draw_rule tabOk mixOk ?_
    | with_reducible refine apN_mk (by kernel_rfl) ?_
    | ((with_reducible apply conN_mk2 ?_ (wakes_con) ?_);(first | (focus exact trivial)); skip)
    | ((with_reducible apply call_con2 ?_ (wakes_con) ?_);(first | (focus exact trivial)); rintro _ _ _ ⟨rfl, rfl, rfl⟩)
    | ((with_reducible apply conN_mk2 ?_ (new_con _ _ _) ?_);(first | (focus exact ⟨rfl, rfl, rfl, trivial⟩) | (rotate_left 1; (focus exact ⟨rfl, rfl, rfl, trivial⟩)) | (rotate_left 2; (focus exact ⟨rfl, rfl, rfl, trivial⟩)) | (rotate_left 3; (focus exact ⟨rfl, rfl, rfl, trivial⟩))); skip)
    | ((with_reducible apply call_con2 ?_ (new_con _ _ _) ?_);(first | (focus exact ⟨rfl, rfl, rfl, trivial⟩) | (rotate_left 1; (focus exact ⟨rfl, rfl, rfl, trivial⟩)) | (rotate_left 2; (focus exact ⟨rfl, rfl, rfl, trivial⟩)) | (rotate_left 3; (focus exact ⟨rfl, rfl, rfl, trivial⟩))); rintro _ _ _ ⟨rfl, rfl, rfl⟩)
    | ((with_reducible apply conN_mk2 ?_ (right0_con _ _ _ _ _) ?_);(first | (focus exact ⟨⟨rfl, rfl, rfl, rfl, rfl, (.inl rfl), trivial⟩, trivial⟩) | (rotate_left 1; (focus exact ⟨⟨rfl, rfl, rfl, rfl, rfl, (.inl rfl), trivial⟩, trivial⟩)) | (rotate_left 2; (focus exact ⟨⟨rfl, rfl, rfl, rfl, rfl, (.inl rfl), trivial⟩, trivial⟩)) | (rotate_left 3; (focus exact ⟨⟨rfl, rfl, rfl, rfl, rfl, (.inl rfl), trivial⟩, trivial⟩)) | (rotate_left 4; (focus exact ⟨⟨rfl, rfl, rfl, rfl, rfl, (.inl rfl), trivial⟩, trivial⟩)) | (rotate_left 5; (focus exact ⟨⟨rfl, rfl, rfl, rfl, rfl, (.inl rfl), trivial⟩, trivial⟩))); skip)
    | ((with_reducible apply call_con2 ?_ (right0_con _ _ _ _ _) ?_);(first | (focus exact ⟨⟨rfl, rfl, rfl, rfl, rfl, (.inl rfl), trivial⟩, trivial⟩) | (rotate_left 1; (focus exact ⟨⟨rfl, rfl, rfl, rfl, rfl, (.inl rfl), trivial⟩, trivial⟩)) | (rotate_left 2; (focus exact ⟨⟨rfl, rfl, rfl, rfl, rfl, (.inl rfl), trivial⟩, trivial⟩)) | (rotate_left 3; (focus exact ⟨⟨rfl, rfl, rfl, rfl, rfl, (.inl rfl), trivial⟩, trivial⟩)) | (rotate_left 4; (focus exact ⟨⟨rfl, rfl, rfl, rfl, rfl, (.inl rfl), trivial⟩, trivial⟩)) | (rotate_left 5; (focus exact ⟨⟨rfl, rfl, rfl, rfl, rfl, (.inl rfl), trivial⟩, trivial⟩))); rintro _ _ _ ⟨rfl, rfl, rfl⟩)
    | ((with_reducible apply conN_mk2 ?_ (same0_con _ _ _ _ _ _ _ _ _ _) ?_);(first | (focus exact ⟨⟨rfl, rfl, rfl, rfl, rfl, (.inl rfl), trivial⟩, ⟨rfl, rfl, rfl, rfl, rfl, (.inl rfl), trivial⟩, trivial⟩) | (rotate_left 1; (focus exact ⟨⟨rfl, rfl, rfl, rfl, rfl, (.inl rfl), trivial⟩, ⟨rfl, rfl, rfl, rfl, rfl, (.inl rfl), trivial⟩, trivial⟩)) | (rotate_left 2; (focus exact ⟨⟨rfl, rfl, rfl, rfl, rfl, (.inl rfl), trivial⟩, ⟨rfl, rfl, rfl, rfl, rfl, (.inl rfl), trivial⟩, trivial⟩)) | (rotate_left 3; (focus exact ⟨⟨rfl, rfl, rfl, rfl, rfl, (.inl rfl), trivial⟩, ⟨rfl, rfl, rfl, rfl, rfl, (.inl rfl), trivial⟩, trivial⟩)) | (rotate_left 4; (focus exact ⟨⟨rfl, rfl, rfl, rfl, rfl, (.inl rfl), trivial⟩, ⟨rfl, rfl, rfl, rfl, rfl, (.inl rfl), trivial⟩, trivial⟩)) | (rotate_left 5; (focus exact ⟨⟨rfl, rfl, rfl, rfl, rfl, (.inl rfl), trivial⟩, ⟨rfl, rfl, rfl, rfl, rfl, (.inl rfl), trivial⟩, trivial⟩)) | (rotate_left 6; (focus exact ⟨⟨rfl, rfl, rfl, rfl, rfl, (.inl rfl), trivial⟩, ⟨rfl, rfl, rfl, rfl, rfl, (.inl rfl), trivial⟩, trivial⟩)) | (rotate_left 7; (focus exact ⟨⟨rfl, rfl, rfl, rfl, rfl, (.inl rfl), trivial⟩, ⟨rfl, rfl, rfl, rfl, rfl, (.inl rfl), trivial⟩, trivial⟩)) | (rotate_left 8; (focus exact ⟨⟨rfl, rfl, rfl, rfl, rfl, (.inl rfl), trivial⟩, ⟨rfl, rfl, rfl, rfl, rfl, (.inl rfl), trivial⟩, trivial⟩)) | (rotate_left 9; (focus exact ⟨⟨rfl, rfl, rfl, rfl, rfl, (.inl rfl), trivial⟩, ⟨rfl, rfl, rfl, rfl, rfl, (.inl rfl), trivial⟩, trivial⟩)) | (rotate_left 10; (focus exact ⟨⟨rfl, rfl, rfl, rfl, rfl, (.inl rfl), trivial⟩, ⟨rfl, rfl, rfl, rfl, rfl, (.inl rfl), trivial⟩, trivial⟩))); skip)
    | ((with_reducible apply call_con2 ?_ (same0_con _ _ _ _ _ _ _ _ _ _) ?_);(first | (focus exact ⟨⟨rfl, rfl, rfl, rfl, rfl, (.inl rfl), trivial⟩, ⟨rfl, rfl, rfl, rfl, rfl, (.inl rfl), trivial⟩, trivial⟩) | (rotate_left 1; (focus exact ⟨⟨rfl, rfl, rfl, rfl, rfl, (.inl rfl), trivial⟩, ⟨rfl, rfl, rfl, rfl, rfl, (.inl rfl), trivial⟩, trivial⟩)) | (rotate_left 2; (focus exact ⟨⟨rfl, rfl, rfl, rfl, rfl, (.inl rfl), trivial⟩, ⟨rfl, rfl, rfl, rfl, rfl, (.inl rfl), trivial⟩, trivial⟩)) | (rotate_left 3; (focus exact ⟨⟨rfl, rfl, rfl, rfl, rfl, (.inl rfl), trivial⟩, ⟨rfl, rfl, rfl, rfl, rfl, (.inl rfl), trivial⟩, trivial⟩)) | (rotate_left 4; (focus exact ⟨⟨rfl, rfl, rfl, rfl, rfl, (.inl rfl), trivial⟩, ⟨rfl, rfl, rfl, rfl, rfl, (.inl rfl), trivial⟩, trivial⟩)) | (rotate_left 5; (focus exact ⟨⟨rfl, rfl, rfl, rfl, rfl, (.inl rfl), trivial⟩, ⟨rfl, rfl, rfl, rfl, rfl, (.inl rfl), trivial⟩, trivial⟩)) | (rotate_left 6; (focus exact ⟨⟨rfl, rfl, rfl, rfl, rfl, (.inl rfl), trivial⟩, ⟨rfl, rfl, rfl, rfl, rfl, (.inl rfl), trivial⟩, trivial⟩)) | (rotate_left 7; (focus exact ⟨⟨rfl, rfl, rfl, rfl, rfl, (.inl rfl), trivial⟩, ⟨rfl, rfl, rfl, rfl, rfl, (.inl rfl), trivial⟩, trivial⟩)) | (rotate_left 8; (focus exact ⟨⟨rfl, rfl, rfl, rfl, rfl, (.inl rfl), trivial⟩, ⟨rfl, rfl, rfl, rfl, rfl, (.inl rfl), trivial⟩, trivial⟩)) | (rotate_left 9; (focus exact ⟨⟨rfl, rfl, rfl, rfl, rfl, (.inl rfl), trivial⟩, ⟨rfl, rfl, rfl, rfl, rfl, (.inl rfl), trivial⟩, trivial⟩)) | (rotate_left 10; (focus exact ⟨⟨rfl, rfl, rfl, rfl, rfl, (.inl rfl), trivial⟩, ⟨rfl, rfl, rfl, rfl, rfl, (.inl rfl), trivial⟩, trivial⟩))); rintro _ _ _ ⟨rfl, rfl, rfl⟩)
    | ((with_reducible apply conN_mk2 ?_ (num_con _ _ ?_ ?_) ?_);(first | (focus exact ⟨rfl, rfl, trivial⟩) | (rotate_left 1; (focus exact ⟨rfl, rfl, trivial⟩)) | (rotate_left 2; (focus exact ⟨rfl, rfl, trivial⟩))); (focus omega); (focus omega); skip)
    | ((with_reducible apply call_con2 ?_ (num_con _ _ ?_ ?_) ?_);(first | (focus exact ⟨rfl, rfl, trivial⟩) | (rotate_left 1; (focus exact ⟨rfl, rfl, trivial⟩)) | (rotate_left 2; (focus exact ⟨rfl, rfl, trivial⟩))); (focus omega); (focus omega); rintro _ _ _ ⟨rfl, rfl, rfl⟩)
    | ((with_reducible apply conN_mk2 ?_ (rnum_con _ _ ?_ ?_) ?_);(first | (focus exact ⟨rfl, rfl, trivial⟩) | (rotate_left 1; (focus exact ⟨rfl, rfl, trivial⟩)) | (rotate_left 2; (focus exact ⟨rfl, rfl, trivial⟩))); (focus omega); (focus omega); skip)
    | ((with_reducible apply call_con2 ?_ (rnum_con _ _ ?_ ?_) ?_);(first | (focus exact ⟨rfl, rfl, trivial⟩) | (rotate_left 1; (focus exact ⟨rfl, rfl, trivial⟩)) | (rotate_left 2; (focus exact ⟨rfl, rfl, trivial⟩))); (focus omega); (focus omega); rintro _ _ _ ⟨rfl, rfl, rfl⟩)
    | ((with_reducible apply conN_mk2 ?_ (spl_con _ ?_) ?_);(first | (focus exact ⟨rfl, trivial⟩) | (rotate_left 1; (focus exact ⟨rfl, trivial⟩))); (focus omega); skip)
    | ((with_reducible apply call_con2 ?_ (spl_con _ ?_) ?_);(first | (focus exact ⟨rfl, trivial⟩) | (rotate_left 1; (focus exact ⟨rfl, trivial⟩))); (focus omega); rintro _ _ _ ⟨rfl, rfl, rfl⟩)
    | ((with_reducible apply conN_mk2 ?_ (rspl_con _ ?_) ?_);(first | (focus exact ⟨rfl, trivial⟩) | (rotate_left 1; (focus exact ⟨rfl, trivial⟩))); (focus omega); skip)
    | ((with_reducible apply call_con2 ?_ (rspl_con _ ?_) ?_);(first | (focus exact ⟨rfl, trivial⟩) | (rotate_left 1; (focus exact ⟨rfl, trivial⟩))); (focus omega); rintro _ _ _ ⟨rfl, rfl, rfl⟩))
  all_goals (try (conv => whnf))
  all_goals first
    | (refine ⟨⟨j + 1, by simp only [List.length_map] at *; omega, by simp only [List.length_map] at *; omega, (Wk.stp (l := []) ⟨rfl, List.nodup_nil, rfl, Nat.zero_le _, ⟨rfl, rfl, rfl, trivial⟩, trivial⟩)⟩⟩)
    | exact ret0 _ rfl _ rfl (fun _ => rfl) rfl ⟨rfl, rfl, rfl⟩
    | (exfalso; simp_all; done)
    | trace_state

namespace coordNews
theorem main (avs : List A0) (h : All2 FitA [(.sl (.st (.cons 22 1 (.int .u64) (.cons 3 1 (.int .i64) (.cons 3 1 (.int .i64) .nil)))) 56 3), (.sl (.arr 2 (.int .u64) 22 1) 59 2)] avs) : Con Try.prog 5 avs (fun x K t => x = .val (.bool true) ∧ K = [] ∧ t = 0) := by
  match avs, h with
  | [a0, a1], ⟨h0, h1, _⟩ =>
  obtain ⟨r, ⟨rows, hr, hl, hrows⟩, rfl⟩ := h0
  simp only [List.cons.injEq, and_true] at hr
  subst hr
  obtain ⟨l, rfl, _⟩ := rows_map (e := (.st (.cons 22 1 (.int .u64) (.cons 3 1 (.int .i64) (.cons 3 1 (.int .i64) .nil))))) (fun x : Bg => [RT.v (.int .u64 x.e), RT.v (.int .i64 x.t), RT.v (.int .i64 x.a)]) (fun _ => True) (fun row hrow => by
    obtain ⟨a1, r1, rfl, _, ⟨z1, rfl, w1⟩, a2, r2, rfl, _, ⟨z2, rfl, w2⟩, a3, r3, rfl, _, ⟨z3, rfl, w3⟩, rfl⟩ := hrow
    exact ⟨⟨z1, z2, z3⟩, rfl, trivial⟩) rows hrows
  obtain ⟨r, ⟨rows, hr, hm, hrows⟩, rfl⟩ := h1
  simp only [List.cons.injEq, and_true] at hr
  subst hr
  obtain ⟨m, rfl, hwm⟩ := rows_map (e := (.arr 2 (.int .u64) 22 1)) (fun x : Int × Int => [RT.v (.int .u64 x.1), RT.v (.int .u64 x.2)]) (fun z => (0 ≤ z.1 ∧ z.1 ≤ 18446744073709551615) ∧ (0 ≤ z.2 ∧ z.2 ≤ 18446744073709551615)) (fun row hrow => by
    obtain ⟨rs, rfl, hn, hrs⟩ := hrow
    obtain ⟨c, d, rfl⟩ := len2 hn
    obtain ⟨⟨z1, rfl, w1⟩, _⟩ := hrs c (by simp)
    obtain ⟨⟨z2, rfl, w2⟩, _⟩ := hrs d (by simp)
    exact ⟨(z1, z2), rfl, wf_u64 w1, wf_u64 w2⟩) rows hrows
  exact news_con l m (by simpa [maxLen] using hl) (by simpa [maxLen] using hm) hwm
end coordNews
end Go.Proofs.Ytffaedlhinogkaa
