import Derived.Test.YtoiadndmbppobaaOp0
import Derived.Test.YtoiadndmbppobaaRows
namespace Go.Proofs.Ytoiadndmbppobaa
open Go Go.RowKit Wx
set_option linter.unusedVariables false
set_option maxHeartbeats 4000000
theorem opens_con (l m : List Int) (hl : l.length ≤ 9223372036854775807) (hm : m.length ≤ 9223372036854775807) : Con Try.prog 5 [.one (.ro false 1 (l.map fun z => [RT.v (.int .u32 z)])), .one (.ro false 1 (m.map fun z => [RT.v (.int .i64 z)]))] (fun rx rK rt => rx = .val (.bool true) ∧ rK = [] ∧ rt = 0) := by
  refine con_of tabOk 116 Try.f5 _ Try.func5 (by kernel_rfl) rfl rfl rfl rfl (fun W => ?_)
  repeat' ((conv => whnf); first
    | with_reducible refine spB_t ?_
    | with_reducible refine spB_f ?_
    | with_reducible refine spB_not ?_
    | with_reducible refine spB_yes (by assumption) ?_
    | with_reducible refine spB_no (by assumption) ?_
    | (with_reducible refine spB_dec ?_ ?_ <;> intro _ <;> (try (exfalso; omega)))
    | (with_reducible refine spB_beq ?_ ?_ <;> intro _)
    | (with_reducible refine spB_bne ?_ ?_ <;> intro _)
    | (with_reducible refine spB_mk ?_ ?_ <;> intro _)
    | with_reducible refine wr_i64 (by first | omega | (simp only [List.length_map] at *; omega)) ?_
    | with_reducible refine wr_u64 (by omega) ?_
    | with_reducible refine wr_u8 (by omega) ?_
    | with_reducible refine wr_u32 (by omega) ?_
    | with_reducible refine wr_mk _ rfl ?_
    | ((with_reducible refine ixN_nat ?_ ?_); (focus ((try simp only [List.length_map] at *); omega)))
    | ((with_reducible refine rowN_map ?_ ?_); (focus ((try simp only [List.length_map] at *); omega)); intro x hx)
    | ((with_reducible refine ixN_mk 0 ?_ ?_ ?_); (focus rfl); (focus decide))
    | ((with_reducible refine ixN_mk 1 ?_ ?_ ?_); (focus rfl); (focus decide))
    | ((with_reducible refine ixN_mk 2 ?_ ?_ ?_); (focus rfl); (focus decide))
    | ((with_reducible refine ixN_mk 3 ?_ ?_ ?_); (focus rfl); (focus decide))
    | ((with_reducible refine ixN_mk 4 ?_ ?_ ?_); (focus rfl); (focus decide))
    | ((with_reducible refine ixN_mk 5 ?_ ?_ ?_); (focus rfl); (focus decide))
    | ((with_reducible refine ixN_mk 6 ?_ ?_ ?_); (focus rfl); (focus decide))
    | ((with_reducible refine ixN_mk 7 ?_ ?_ ?_); (focus rfl); (focus decide))
    | ((with_reducible refine posE_nil (by rfl) ?_))
    | ((with_reducible refine posE_pos (by decide) ?_))
    | with_reducible refine vN_mod (by omega) ?_
    | with_reducible refine vN_mk ?_
    | with_reducible refine nzN_mk (by omega) ?_
    | with_reducible refine eqN_dec (by omega) ?_
    | with_reducible refine draw_rule tabOk mixOk ?_
    | with_reducible refine apN_mk (by kernel_rfl) ?_
    | ((with_reducible apply conN_mk2 ?_ (wakes_con) ?_);(first | (focus exact trivial)); skip)
    | ((with_reducible apply call_con2 ?_ (wakes_con) ?_);(first | (focus exact trivial)); rintro _ _ _ ⟨rfl, rfl, rfl⟩)
    | ((with_reducible apply conN_mk2 ?_ (open_con _) ?_);(first | (focus exact ⟨rfl, trivial⟩) | (rotate_left 1; (focus exact ⟨rfl, trivial⟩))); skip)
    | ((with_reducible apply call_con2 ?_ (open_con _) ?_);(first | (focus exact ⟨rfl, trivial⟩) | (rotate_left 1; (focus exact ⟨rfl, trivial⟩))); rintro _ _ _ ⟨rfl, rfl, rfl⟩)
    | ((with_reducible apply conN_mk2 ?_ (listen_con _ _) ?_);(first | (focus exact ⟨rfl, rfl, trivial⟩) | (rotate_left 1; (focus exact ⟨rfl, rfl, trivial⟩)) | (rotate_left 2; (focus exact ⟨rfl, rfl, trivial⟩))); skip)
    | ((with_reducible apply call_con2 ?_ (listen_con _ _) ?_);(first | (focus exact ⟨rfl, rfl, trivial⟩) | (rotate_left 1; (focus exact ⟨rfl, rfl, trivial⟩)) | (rotate_left 2; (focus exact ⟨rfl, rfl, trivial⟩))); rintro _ _ _ ⟨rfl, rfl, rfl⟩)
    | ((with_reducible apply conN_mk2 ?_ (sames_con _ _ _ _ _ _) ?_);(first | (focus exact ⟨⟨rfl, rfl, (.inl rfl), rfl, rfl, trivial⟩, ⟨rfl, rfl, (.inl rfl), rfl, rfl, trivial⟩, trivial⟩) | (rotate_left 1; (focus exact ⟨⟨rfl, rfl, (.inl rfl), rfl, rfl, trivial⟩, ⟨rfl, rfl, (.inl rfl), rfl, rfl, trivial⟩, trivial⟩)) | (rotate_left 2; (focus exact ⟨⟨rfl, rfl, (.inl rfl), rfl, rfl, trivial⟩, ⟨rfl, rfl, (.inl rfl), rfl, rfl, trivial⟩, trivial⟩)) | (rotate_left 3; (focus exact ⟨⟨rfl, rfl, (.inl rfl), rfl, rfl, trivial⟩, ⟨rfl, rfl, (.inl rfl), rfl, rfl, trivial⟩, trivial⟩)) | (rotate_left 4; (focus exact ⟨⟨rfl, rfl, (.inl rfl), rfl, rfl, trivial⟩, ⟨rfl, rfl, (.inl rfl), rfl, rfl, trivial⟩, trivial⟩)) | (rotate_left 5; (focus exact ⟨⟨rfl, rfl, (.inl rfl), rfl, rfl, trivial⟩, ⟨rfl, rfl, (.inl rfl), rfl, rfl, trivial⟩, trivial⟩)) | (rotate_left 6; (focus exact ⟨⟨rfl, rfl, (.inl rfl), rfl, rfl, trivial⟩, ⟨rfl, rfl, (.inl rfl), rfl, rfl, trivial⟩, trivial⟩))); skip)
    | ((with_reducible apply call_con2 ?_ (sames_con _ _ _ _ _ _) ?_);(first | (focus exact ⟨⟨rfl, rfl, (.inl rfl), rfl, rfl, trivial⟩, ⟨rfl, rfl, (.inl rfl), rfl, rfl, trivial⟩, trivial⟩) | (rotate_left 1; (focus exact ⟨⟨rfl, rfl, (.inl rfl), rfl, rfl, trivial⟩, ⟨rfl, rfl, (.inl rfl), rfl, rfl, trivial⟩, trivial⟩)) | (rotate_left 2; (focus exact ⟨⟨rfl, rfl, (.inl rfl), rfl, rfl, trivial⟩, ⟨rfl, rfl, (.inl rfl), rfl, rfl, trivial⟩, trivial⟩)) | (rotate_left 3; (focus exact ⟨⟨rfl, rfl, (.inl rfl), rfl, rfl, trivial⟩, ⟨rfl, rfl, (.inl rfl), rfl, rfl, trivial⟩, trivial⟩)) | (rotate_left 4; (focus exact ⟨⟨rfl, rfl, (.inl rfl), rfl, rfl, trivial⟩, ⟨rfl, rfl, (.inl rfl), rfl, rfl, trivial⟩, trivial⟩)) | (rotate_left 5; (focus exact ⟨⟨rfl, rfl, (.inl rfl), rfl, rfl, trivial⟩, ⟨rfl, rfl, (.inl rfl), rfl, rfl, trivial⟩, trivial⟩)) | (rotate_left 6; (focus exact ⟨⟨rfl, rfl, (.inl rfl), rfl, rfl, trivial⟩, ⟨rfl, rfl, (.inl rfl), rfl, rfl, trivial⟩, trivial⟩))); rintro _ _ _ ⟨rfl, rfl, rfl⟩)
    | ((with_reducible apply conN_mk2 ?_ (samer_con _ _ _ _ _ _) ?_);(first | (focus exact ⟨⟨rfl, rfl, (.inl rfl), rfl, trivial⟩, ⟨rfl, rfl, (.inl rfl), rfl, trivial⟩, trivial⟩) | (rotate_left 1; (focus exact ⟨⟨rfl, rfl, (.inl rfl), rfl, trivial⟩, ⟨rfl, rfl, (.inl rfl), rfl, trivial⟩, trivial⟩)) | (rotate_left 2; (focus exact ⟨⟨rfl, rfl, (.inl rfl), rfl, trivial⟩, ⟨rfl, rfl, (.inl rfl), rfl, trivial⟩, trivial⟩)) | (rotate_left 3; (focus exact ⟨⟨rfl, rfl, (.inl rfl), rfl, trivial⟩, ⟨rfl, rfl, (.inl rfl), rfl, trivial⟩, trivial⟩)) | (rotate_left 4; (focus exact ⟨⟨rfl, rfl, (.inl rfl), rfl, trivial⟩, ⟨rfl, rfl, (.inl rfl), rfl, trivial⟩, trivial⟩)) | (rotate_left 5; (focus exact ⟨⟨rfl, rfl, (.inl rfl), rfl, trivial⟩, ⟨rfl, rfl, (.inl rfl), rfl, trivial⟩, trivial⟩)) | (rotate_left 6; (focus exact ⟨⟨rfl, rfl, (.inl rfl), rfl, trivial⟩, ⟨rfl, rfl, (.inl rfl), rfl, trivial⟩, trivial⟩))); skip)
    | ((with_reducible apply call_con2 ?_ (samer_con _ _ _ _ _ _) ?_);(first | (focus exact ⟨⟨rfl, rfl, (.inl rfl), rfl, trivial⟩, ⟨rfl, rfl, (.inl rfl), rfl, trivial⟩, trivial⟩) | (rotate_left 1; (focus exact ⟨⟨rfl, rfl, (.inl rfl), rfl, trivial⟩, ⟨rfl, rfl, (.inl rfl), rfl, trivial⟩, trivial⟩)) | (rotate_left 2; (focus exact ⟨⟨rfl, rfl, (.inl rfl), rfl, trivial⟩, ⟨rfl, rfl, (.inl rfl), rfl, trivial⟩, trivial⟩)) | (rotate_left 3; (focus exact ⟨⟨rfl, rfl, (.inl rfl), rfl, trivial⟩, ⟨rfl, rfl, (.inl rfl), rfl, trivial⟩, trivial⟩)) | (rotate_left 4; (focus exact ⟨⟨rfl, rfl, (.inl rfl), rfl, trivial⟩, ⟨rfl, rfl, (.inl rfl), rfl, trivial⟩, trivial⟩)) | (rotate_left 5; (focus exact ⟨⟨rfl, rfl, (.inl rfl), rfl, trivial⟩, ⟨rfl, rfl, (.inl rfl), rfl, trivial⟩, trivial⟩)) | (rotate_left 6; (focus exact ⟨⟨rfl, rfl, (.inl rfl), rfl, trivial⟩, ⟨rfl, rfl, (.inl rfl), rfl, trivial⟩, trivial⟩))); rintro _ _ _ ⟨rfl, rfl, rfl⟩))
  all_goals (try (conv => whnf))
  refine loop_rule tabOk (fun i : Nat => ⟨[(19, .val (.int .i64 (i : Int))), (18, .val (.int .i64 ((l.map fun z => [RT.v (.int .u32 z)]).length : Nat))), (17, .c (.ro false 1 (l.map fun z => [RT.v (.int .u32 z)]))), (1, .c (.ro false 1 (m.map fun z => [RT.v (.int .i64 z)])))], [], 0⟩) (fun i => i ≤ l.length) (fun i => l.length - i) 0 (Nat.zero_le _) (Wk.stp (l := []) ⟨rfl, List.nodup_nil, rfl, Nat.zero_le _, ⟨rfl, rfl, rfl, rfl, trivial⟩, trivial⟩) ?_
  intro i hi
  dsimp only
  repeat' ((conv => whnf); first
    | with_reducible refine spB_t ?_
    | with_reducible refine spB_f ?_
    | with_reducible refine spB_not ?_
    | with_reducible refine spB_yes (by assumption) ?_
    | with_reducible refine spB_no (by assumption) ?_
    | (with_reducible refine spB_dec ?_ ?_ <;> intro _ <;> (try (exfalso; omega)))
    | (with_reducible refine spB_beq ?_ ?_ <;> intro _)
    | (with_reducible refine spB_bne ?_ ?_ <;> intro _)
    | (with_reducible refine spB_mk ?_ ?_ <;> intro _)
    | with_reducible refine wr_i64 (by first | omega | (simp only [List.length_map] at *; omega)) ?_
    | with_reducible refine wr_u64 (by omega) ?_
    | with_reducible refine wr_u8 (by omega) ?_
    | with_reducible refine wr_u32 (by omega) ?_
    | with_reducible refine wr_mk _ rfl ?_
    | ((with_reducible refine ixN_nat ?_ ?_); (focus ((try simp only [List.length_map] at *); omega)))
    | ((with_reducible refine rowN_map ?_ ?_); (focus ((try simp only [List.length_map] at *); omega)); intro x hx)
    | ((with_reducible refine ixN_mk 0 ?_ ?_ ?_); (focus rfl); (focus decide))
    | ((with_reducible refine ixN_mk 1 ?_ ?_ ?_); (focus rfl); (focus decide))
    | ((with_reducible refine ixN_mk 2 ?_ ?_ ?_); (focus rfl); (focus decide))
    | ((with_reducible refine ixN_mk 3 ?_ ?_ ?_); (focus rfl); (focus decide))
    | ((with_reducible refine ixN_mk 4 ?_ ?_ ?_); (focus rfl); (focus decide))
    | ((with_reducible refine ixN_mk 5 ?_ ?_ ?_); (focus rfl); (focus decide))
    | ((with_reducible refine ixN_mk 6 ?_ ?_ ?_); (focus rfl); (focus decide))
    | ((with_reducible refine ixN_mk 7 ?_ ?_ ?_); (focus rfl); (focus decide))
    | ((with_reducible refine posE_nil (by rfl) ?_))
    | ((with_reducible refine posE_pos (by decide) ?_))
    | with_reducible refine vN_mod (by omega) ?_
    | with_reducible refine vN_mk ?_
    | with_reducible refine nzN_mk (by omega) ?_
    | with_reducible refine eqN_dec (by omega) ?_
    | with_reducible refine draw_rule tabOk mixOk ?_
    | with_reducible refine apN_mk (by kernel_rfl) ?_
    | ((with_reducible apply conN_mk2 ?_ (wakes_con) ?_);(first | (focus exact trivial)); skip)
    | ((with_reducible apply call_con2 ?_ (wakes_con) ?_);(first | (focus exact trivial)); rintro _ _ _ ⟨rfl, rfl, rfl⟩)
    | ((with_reducible apply conN_mk2 ?_ (open_con _) ?_);(first | (focus exact ⟨rfl, trivial⟩) | (rotate_left 1; (focus exact ⟨rfl, trivial⟩))); skip)
    | ((with_reducible apply call_con2 ?_ (open_con _) ?_);(first | (focus exact ⟨rfl, trivial⟩) | (rotate_left 1; (focus exact ⟨rfl, trivial⟩))); rintro _ _ _ ⟨rfl, rfl, rfl⟩)
    | ((with_reducible apply conN_mk2 ?_ (listen_con _ _) ?_);(first | (focus exact ⟨rfl, rfl, trivial⟩) | (rotate_left 1; (focus exact ⟨rfl, rfl, trivial⟩)) | (rotate_left 2; (focus exact ⟨rfl, rfl, trivial⟩))); skip)
    | ((with_reducible apply call_con2 ?_ (listen_con _ _) ?_);(first | (focus exact ⟨rfl, rfl, trivial⟩) | (rotate_left 1; (focus exact ⟨rfl, rfl, trivial⟩)) | (rotate_left 2; (focus exact ⟨rfl, rfl, trivial⟩))); rintro _ _ _ ⟨rfl, rfl, rfl⟩)
    | ((with_reducible apply conN_mk2 ?_ (sames_con _ _ _ _ _ _) ?_);(first | (focus exact ⟨⟨rfl, rfl, (.inl rfl), rfl, rfl, trivial⟩, ⟨rfl, rfl, (.inl rfl), rfl, rfl, trivial⟩, trivial⟩) | (rotate_left 1; (focus exact ⟨⟨rfl, rfl, (.inl rfl), rfl, rfl, trivial⟩, ⟨rfl, rfl, (.inl rfl), rfl, rfl, trivial⟩, trivial⟩)) | (rotate_left 2; (focus exact ⟨⟨rfl, rfl, (.inl rfl), rfl, rfl, trivial⟩, ⟨rfl, rfl, (.inl rfl), rfl, rfl, trivial⟩, trivial⟩)) | (rotate_left 3; (focus exact ⟨⟨rfl, rfl, (.inl rfl), rfl, rfl, trivial⟩, ⟨rfl, rfl, (.inl rfl), rfl, rfl, trivial⟩, trivial⟩)) | (rotate_left 4; (focus exact ⟨⟨rfl, rfl, (.inl rfl), rfl, rfl, trivial⟩, ⟨rfl, rfl, (.inl rfl), rfl, rfl, trivial⟩, trivial⟩)) | (rotate_left 5; (focus exact ⟨⟨rfl, rfl, (.inl rfl), rfl, rfl, trivial⟩, ⟨rfl, rfl, (.inl rfl), rfl, rfl, trivial⟩, trivial⟩)) | (rotate_left 6; (focus exact ⟨⟨rfl, rfl, (.inl rfl), rfl, rfl, trivial⟩, ⟨rfl, rfl, (.inl rfl), rfl, rfl, trivial⟩, trivial⟩))); skip)
    | ((with_reducible apply call_con2 ?_ (sames_con _ _ _ _ _ _) ?_);(first | (focus exact ⟨⟨rfl, rfl, (.inl rfl), rfl, rfl, trivial⟩, ⟨rfl, rfl, (.inl rfl), rfl, rfl, trivial⟩, trivial⟩) | (rotate_left 1; (focus exact ⟨⟨rfl, rfl, (.inl rfl), rfl, rfl, trivial⟩, ⟨rfl, rfl, (.inl rfl), rfl, rfl, trivial⟩, trivial⟩)) | (rotate_left 2; (focus exact ⟨⟨rfl, rfl, (.inl rfl), rfl, rfl, trivial⟩, ⟨rfl, rfl, (.inl rfl), rfl, rfl, trivial⟩, trivial⟩)) | (rotate_left 3; (focus exact ⟨⟨rfl, rfl, (.inl rfl), rfl, rfl, trivial⟩, ⟨rfl, rfl, (.inl rfl), rfl, rfl, trivial⟩, trivial⟩)) | (rotate_left 4; (focus exact ⟨⟨rfl, rfl, (.inl rfl), rfl, rfl, trivial⟩, ⟨rfl, rfl, (.inl rfl), rfl, rfl, trivial⟩, trivial⟩)) | (rotate_left 5; (focus exact ⟨⟨rfl, rfl, (.inl rfl), rfl, rfl, trivial⟩, ⟨rfl, rfl, (.inl rfl), rfl, rfl, trivial⟩, trivial⟩)) | (rotate_left 6; (focus exact ⟨⟨rfl, rfl, (.inl rfl), rfl, rfl, trivial⟩, ⟨rfl, rfl, (.inl rfl), rfl, rfl, trivial⟩, trivial⟩))); rintro _ _ _ ⟨rfl, rfl, rfl⟩)
    | ((with_reducible apply conN_mk2 ?_ (samer_con _ _ _ _ _ _) ?_);(first | (focus exact ⟨⟨rfl, rfl, (.inl rfl), rfl, trivial⟩, ⟨rfl, rfl, (.inl rfl), rfl, trivial⟩, trivial⟩) | (rotate_left 1; (focus exact ⟨⟨rfl, rfl, (.inl rfl), rfl, trivial⟩, ⟨rfl, rfl, (.inl rfl), rfl, trivial⟩, trivial⟩)) | (rotate_left 2; (focus exact ⟨⟨rfl, rfl, (.inl rfl), rfl, trivial⟩, ⟨rfl, rfl, (.inl rfl), rfl, trivial⟩, trivial⟩)) | (rotate_left 3; (focus exact ⟨⟨rfl, rfl, (.inl rfl), rfl, trivial⟩, ⟨rfl, rfl, (.inl rfl), rfl, trivial⟩, trivial⟩)) | (rotate_left 4; (focus exact ⟨⟨rfl, rfl, (.inl rfl), rfl, trivial⟩, ⟨rfl, rfl, (.inl rfl), rfl, trivial⟩, trivial⟩)) | (rotate_left 5; (focus exact ⟨⟨rfl, rfl, (.inl rfl), rfl, trivial⟩, ⟨rfl, rfl, (.inl rfl), rfl, trivial⟩, trivial⟩)) | (rotate_left 6; (focus exact ⟨⟨rfl, rfl, (.inl rfl), rfl, trivial⟩, ⟨rfl, rfl, (.inl rfl), rfl, trivial⟩, trivial⟩))); skip)
    | ((with_reducible apply call_con2 ?_ (samer_con _ _ _ _ _ _) ?_);(first | (focus exact ⟨⟨rfl, rfl, (.inl rfl), rfl, trivial⟩, ⟨rfl, rfl, (.inl rfl), rfl, trivial⟩, trivial⟩) | (rotate_left 1; (focus exact ⟨⟨rfl, rfl, (.inl rfl), rfl, trivial⟩, ⟨rfl, rfl, (.inl rfl), rfl, trivial⟩, trivial⟩)) | (rotate_left 2; (focus exact ⟨⟨rfl, rfl, (.inl rfl), rfl, trivial⟩, ⟨rfl, rfl, (.inl rfl), rfl, trivial⟩, trivial⟩)) | (rotate_left 3; (focus exact ⟨⟨rfl, rfl, (.inl rfl), rfl, trivial⟩, ⟨rfl, rfl, (.inl rfl), rfl, trivial⟩, trivial⟩)) | (rotate_left 4; (focus exact ⟨⟨rfl, rfl, (.inl rfl), rfl, trivial⟩, ⟨rfl, rfl, (.inl rfl), rfl, trivial⟩, trivial⟩)) | (rotate_left 5; (focus exact ⟨⟨rfl, rfl, (.inl rfl), rfl, trivial⟩, ⟨rfl, rfl, (.inl rfl), rfl, trivial⟩, trivial⟩)) | (rotate_left 6; (focus exact ⟨⟨rfl, rfl, (.inl rfl), rfl, trivial⟩, ⟨rfl, rfl, (.inl rfl), rfl, trivial⟩, trivial⟩))); rintro _ _ _ ⟨rfl, rfl, rfl⟩))
  all_goals (try (conv => whnf))
  all_goals try (exfalso; omega)
  all_goals try (first
    | exact ret0 _ rfl _ rfl (fun _ => rfl) rfl ⟨rfl, rfl, rfl⟩
    | (exfalso; by_cases hk : okS x <;> simp_all [okS] <;> omega))
  all_goals first
    | (refine loop_rule tabOk (fun k : Nat => ⟨[(65, .val (.int .i64 (k : Int))), (64, .val (.int .i64 ((m.map fun z => [RT.v (.int .i64 z)]).length : Nat))), (63, .c (.ro false 1 (m.map fun z => [RT.v (.int .i64 z)]))), (7, .val (.bool (decide (x ≤ 2147483647)))), (6, .val (.int .u32 x)), (19, .val (.int .i64 (i : Int))), (18, .val (.int .i64 ((l.map fun z => [RT.v (.int .u32 z)]).length : Nat))), (17, .c (.ro false 1 (l.map fun z => [RT.v (.int .u32 z)]))), (1, .c (.ro false 1 (m.map fun z => [RT.v (.int .i64 z)])))], [], 0⟩) (fun k => k ≤ m.length) (fun k => m.length - k) 0 (Nat.zero_le _) (Wk.stp (l := []) ⟨rfl, List.nodup_nil, rfl, Nat.zero_le _, ⟨rfl, rfl, rfl, rfl, rfl, rfl, rfl, rfl, rfl, trivial⟩, trivial⟩) ?_)
    | (refine loop_rule tabOk (fun k : Nat => ⟨[(65, .val (.int .i64 (k : Int))), (64, .val (.int .i64 ((m.map fun z => [RT.v (.int .i64 z)]).length : Nat))), (63, .c (.ro false 1 (m.map fun z => [RT.v (.int .i64 z)]))), (7, .val (.bool false)), (6, .val (.int .u32 x)), (19, .val (.int .i64 (i : Int))), (18, .val (.int .i64 ((l.map fun z => [RT.v (.int .u32 z)]).length : Nat))), (17, .c (.ro false 1 (l.map fun z => [RT.v (.int .u32 z)]))), (1, .c (.ro false 1 (m.map fun z => [RT.v (.int .i64 z)])))], [], 0⟩) (fun k => k ≤ m.length) (fun k => m.length - k) 0 (Nat.zero_le _) (Wk.stp (l := []) ⟨rfl, List.nodup_nil, rfl, Nat.zero_le _, ⟨rfl, rfl, rfl, rfl, rfl, rfl, rfl, rfl, rfl, trivial⟩, trivial⟩) ?_)
    | (trace_state; sorry)
  all_goals (intro k hk; dsimp only)
  repeat' ((conv => whnf); first
    | with_reducible refine spB_t ?_
    | with_reducible refine spB_f ?_
    | with_reducible refine spB_not ?_
    | with_reducible refine spB_yes (by assumption) ?_
    | with_reducible refine spB_no (by assumption) ?_
    | (with_reducible refine spB_dec ?_ ?_ <;> intro _ <;> (try (exfalso; omega)))
    | (with_reducible refine spB_beq ?_ ?_ <;> intro _)
    | (with_reducible refine spB_bne ?_ ?_ <;> intro _)
    | (with_reducible refine spB_mk ?_ ?_ <;> intro _)
    | with_reducible refine wr_i64 (by first | omega | (simp only [List.length_map] at *; omega)) ?_
    | with_reducible refine wr_u64 (by omega) ?_
    | with_reducible refine wr_u8 (by omega) ?_
    | with_reducible refine wr_u32 (by omega) ?_
    | with_reducible refine wr_mk _ rfl ?_
    | ((with_reducible refine ixN_nat ?_ ?_); (focus ((try simp only [List.length_map] at *); omega)))
    | ((with_reducible refine rowN_map ?_ ?_); (focus ((try simp only [List.length_map] at *); omega)); intro y hy)
    | ((with_reducible refine ixN_mk 0 ?_ ?_ ?_); (focus rfl); (focus decide))
    | ((with_reducible refine ixN_mk 1 ?_ ?_ ?_); (focus rfl); (focus decide))
    | ((with_reducible refine ixN_mk 2 ?_ ?_ ?_); (focus rfl); (focus decide))
    | ((with_reducible refine ixN_mk 3 ?_ ?_ ?_); (focus rfl); (focus decide))
    | ((with_reducible refine ixN_mk 4 ?_ ?_ ?_); (focus rfl); (focus decide))
    | ((with_reducible refine ixN_mk 5 ?_ ?_ ?_); (focus rfl); (focus decide))
    | ((with_reducible refine ixN_mk 6 ?_ ?_ ?_); (focus rfl); (focus decide))
    | ((with_reducible refine ixN_mk 7 ?_ ?_ ?_); (focus rfl); (focus decide))
    | ((with_reducible refine posE_nil (by rfl) ?_))
    | ((with_reducible refine posE_pos (by decide) ?_))
    | with_reducible refine vN_mod (by omega) ?_
    | with_reducible refine vN_mk ?_
    | with_reducible refine nzN_mk (by omega) ?_
    | with_reducible refine eqN_dec (by omega) ?_
    | with_reducible refine draw_rule tabOk mixOk ?_
    | with_reducible refine apN_mk (by kernel_rfl) ?_
    | ((with_reducible apply conN_mk2 ?_ (wakes_con) ?_);(first | (focus exact trivial)); skip)
    | ((with_reducible apply call_con2 ?_ (wakes_con) ?_);(first | (focus exact trivial)); rintro _ _ _ ⟨rfl, rfl, rfl⟩)
    | ((with_reducible apply conN_mk2 ?_ (open_con _) ?_);(first | (focus exact ⟨rfl, trivial⟩) | (rotate_left 1; (focus exact ⟨rfl, trivial⟩))); skip)
    | ((with_reducible apply call_con2 ?_ (open_con _) ?_);(first | (focus exact ⟨rfl, trivial⟩) | (rotate_left 1; (focus exact ⟨rfl, trivial⟩))); rintro _ _ _ ⟨rfl, rfl, rfl⟩)
    | ((with_reducible apply conN_mk2 ?_ (listen_con _ _) ?_);(first | (focus exact ⟨rfl, rfl, trivial⟩) | (rotate_left 1; (focus exact ⟨rfl, rfl, trivial⟩)) | (rotate_left 2; (focus exact ⟨rfl, rfl, trivial⟩))); skip)
    | ((with_reducible apply call_con2 ?_ (listen_con _ _) ?_);(first | (focus exact ⟨rfl, rfl, trivial⟩) | (rotate_left 1; (focus exact ⟨rfl, rfl, trivial⟩)) | (rotate_left 2; (focus exact ⟨rfl, rfl, trivial⟩))); rintro _ _ _ ⟨rfl, rfl, rfl⟩)
    | ((with_reducible apply conN_mk2 ?_ (sames_con _ _ _ _ _ _) ?_);(first | (focus exact ⟨⟨rfl, rfl, (.inl rfl), rfl, rfl, trivial⟩, ⟨rfl, rfl, (.inl rfl), rfl, rfl, trivial⟩, trivial⟩) | (rotate_left 1; (focus exact ⟨⟨rfl, rfl, (.inl rfl), rfl, rfl, trivial⟩, ⟨rfl, rfl, (.inl rfl), rfl, rfl, trivial⟩, trivial⟩)) | (rotate_left 2; (focus exact ⟨⟨rfl, rfl, (.inl rfl), rfl, rfl, trivial⟩, ⟨rfl, rfl, (.inl rfl), rfl, rfl, trivial⟩, trivial⟩)) | (rotate_left 3; (focus exact ⟨⟨rfl, rfl, (.inl rfl), rfl, rfl, trivial⟩, ⟨rfl, rfl, (.inl rfl), rfl, rfl, trivial⟩, trivial⟩)) | (rotate_left 4; (focus exact ⟨⟨rfl, rfl, (.inl rfl), rfl, rfl, trivial⟩, ⟨rfl, rfl, (.inl rfl), rfl, rfl, trivial⟩, trivial⟩)) | (rotate_left 5; (focus exact ⟨⟨rfl, rfl, (.inl rfl), rfl, rfl, trivial⟩, ⟨rfl, rfl, (.inl rfl), rfl, rfl, trivial⟩, trivial⟩)) | (rotate_left 6; (focus exact ⟨⟨rfl, rfl, (.inl rfl), rfl, rfl, trivial⟩, ⟨rfl, rfl, (.inl rfl), rfl, rfl, trivial⟩, trivial⟩))); skip)
    | ((with_reducible apply call_con2 ?_ (sames_con _ _ _ _ _ _) ?_);(first | (focus exact ⟨⟨rfl, rfl, (.inl rfl), rfl, rfl, trivial⟩, ⟨rfl, rfl, (.inl rfl), rfl, rfl, trivial⟩, trivial⟩) | (rotate_left 1; (focus exact ⟨⟨rfl, rfl, (.inl rfl), rfl, rfl, trivial⟩, ⟨rfl, rfl, (.inl rfl), rfl, rfl, trivial⟩, trivial⟩)) | (rotate_left 2; (focus exact ⟨⟨rfl, rfl, (.inl rfl), rfl, rfl, trivial⟩, ⟨rfl, rfl, (.inl rfl), rfl, rfl, trivial⟩, trivial⟩)) | (rotate_left 3; (focus exact ⟨⟨rfl, rfl, (.inl rfl), rfl, rfl, trivial⟩, ⟨rfl, rfl, (.inl rfl), rfl, rfl, trivial⟩, trivial⟩)) | (rotate_left 4; (focus exact ⟨⟨rfl, rfl, (.inl rfl), rfl, rfl, trivial⟩, ⟨rfl, rfl, (.inl rfl), rfl, rfl, trivial⟩, trivial⟩)) | (rotate_left 5; (focus exact ⟨⟨rfl, rfl, (.inl rfl), rfl, rfl, trivial⟩, ⟨rfl, rfl, (.inl rfl), rfl, rfl, trivial⟩, trivial⟩)) | (rotate_left 6; (focus exact ⟨⟨rfl, rfl, (.inl rfl), rfl, rfl, trivial⟩, ⟨rfl, rfl, (.inl rfl), rfl, rfl, trivial⟩, trivial⟩))); rintro _ _ _ ⟨rfl, rfl, rfl⟩)
    | ((with_reducible apply conN_mk2 ?_ (samer_con _ _ _ _ _ _) ?_);(first | (focus exact ⟨⟨rfl, rfl, (.inl rfl), rfl, trivial⟩, ⟨rfl, rfl, (.inl rfl), rfl, trivial⟩, trivial⟩) | (rotate_left 1; (focus exact ⟨⟨rfl, rfl, (.inl rfl), rfl, trivial⟩, ⟨rfl, rfl, (.inl rfl), rfl, trivial⟩, trivial⟩)) | (rotate_left 2; (focus exact ⟨⟨rfl, rfl, (.inl rfl), rfl, trivial⟩, ⟨rfl, rfl, (.inl rfl), rfl, trivial⟩, trivial⟩)) | (rotate_left 3; (focus exact ⟨⟨rfl, rfl, (.inl rfl), rfl, trivial⟩, ⟨rfl, rfl, (.inl rfl), rfl, trivial⟩, trivial⟩)) | (rotate_left 4; (focus exact ⟨⟨rfl, rfl, (.inl rfl), rfl, trivial⟩, ⟨rfl, rfl, (.inl rfl), rfl, trivial⟩, trivial⟩)) | (rotate_left 5; (focus exact ⟨⟨rfl, rfl, (.inl rfl), rfl, trivial⟩, ⟨rfl, rfl, (.inl rfl), rfl, trivial⟩, trivial⟩)) | (rotate_left 6; (focus exact ⟨⟨rfl, rfl, (.inl rfl), rfl, trivial⟩, ⟨rfl, rfl, (.inl rfl), rfl, trivial⟩, trivial⟩))); skip)
    | ((with_reducible apply call_con2 ?_ (samer_con _ _ _ _ _ _) ?_);(first | (focus exact ⟨⟨rfl, rfl, (.inl rfl), rfl, trivial⟩, ⟨rfl, rfl, (.inl rfl), rfl, trivial⟩, trivial⟩) | (rotate_left 1; (focus exact ⟨⟨rfl, rfl, (.inl rfl), rfl, trivial⟩, ⟨rfl, rfl, (.inl rfl), rfl, trivial⟩, trivial⟩)) | (rotate_left 2; (focus exact ⟨⟨rfl, rfl, (.inl rfl), rfl, trivial⟩, ⟨rfl, rfl, (.inl rfl), rfl, trivial⟩, trivial⟩)) | (rotate_left 3; (focus exact ⟨⟨rfl, rfl, (.inl rfl), rfl, trivial⟩, ⟨rfl, rfl, (.inl rfl), rfl, trivial⟩, trivial⟩)) | (rotate_left 4; (focus exact ⟨⟨rfl, rfl, (.inl rfl), rfl, trivial⟩, ⟨rfl, rfl, (.inl rfl), rfl, trivial⟩, trivial⟩)) | (rotate_left 5; (focus exact ⟨⟨rfl, rfl, (.inl rfl), rfl, trivial⟩, ⟨rfl, rfl, (.inl rfl), rfl, trivial⟩, trivial⟩)) | (rotate_left 6; (focus exact ⟨⟨rfl, rfl, (.inl rfl), rfl, trivial⟩, ⟨rfl, rfl, (.inl rfl), rfl, trivial⟩, trivial⟩))); rintro _ _ _ ⟨rfl, rfl, rfl⟩))
  all_goals (try (conv => whnf))
  all_goals try (exfalso; omega)
  all_goals first
    | (refine ⟨⟨k + 1, by simp only [List.length_map] at *; omega, by simp only [List.length_map] at *; omega, (Wk.stp (l := []) ⟨rfl, List.nodup_nil, rfl, Nat.zero_le _, ⟨rfl, rfl, rfl, rfl, rfl, rfl, rfl, rfl, rfl, trivial⟩, trivial⟩)⟩⟩)
    | (refine ⟨⟨i + 1, by simp only [List.length_map] at *; omega, by simp only [List.length_map] at *; omega, (Wk.stp (l := []) ⟨rfl, List.nodup_nil, rfl, Nat.zero_le _, ⟨rfl, rfl, rfl, rfl, trivial⟩, trivial⟩)⟩⟩)
    | (exfalso; by_cases hk : okR x y <;> simp_all [okR] <;> omega)
    | (trace_state; sorry)

end Go.Proofs.Ytoiadndmbppobaa
