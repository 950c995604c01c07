import Derived.Test.YtgdkhdooekmfgaaNews0
import Derived.Test.YtgdkhdooekmfgaaRows
namespace Go.Proofs.Ytgdkhdooekmfgaa
open Go Go.RowKit Wx
set_option linter.unusedVariables false
set_option maxHeartbeats 4000000
theorem news_con (l : List (Int × Int)) (hl : l.length ≤ 9223372036854775807) : Con Try.prog 5 [.one (.ro false 2 (l.map fun x : Int × Int => [RT.v (.int .i64 x.1), RT.v (.int .i64 x.2)]))] (fun rx rK rt => rx = .val (.bool true) ∧ rK = [] ∧ rt = 0) := by
  refine con_of tabOk 51 Try.f5 _ Try.func5 (by kernel_rfl) rfl rfl rfl rfl (fun W => ?_)
  repeat' ((conv => whnf); first
    | with_reducible refine spB_t ?_
    | with_reducible refine spB_f ?_
    | with_reducible refine spB_not ?_
    | with_reducible refine spB_yes (by assumption) ?_
    | with_reducible refine spB_no (by assumption) ?_
    | (with_reducible refine spB_dec ?_ ?_ <;> intro _)
    | (with_reducible refine spB_beq ?_ ?_ <;> intro _)
    | (with_reducible refine spB_bne ?_ ?_ <;> intro _)
    | (with_reducible refine spB_mk ?_ ?_ <;> intro _)
    | with_reducible refine wr_i64 (by first | omega | (simp only [List.length_map] at *; omega)) ?_
    | with_reducible refine wr_u64 (by omega) ?_
    | with_reducible refine wr_u8 (by omega) ?_
    | with_reducible refine wr_u32 (by omega) ?_
    | with_reducible refine wr_mk _ rfl ?_
    | ((with_reducible refine ixN_nat ?_ ?_); (focus ((try simp only [List.length_map] at *); omega)))
    | ((with_reducible refine rowN_map ?_ ?_); (focus ((try simp only [List.length_map] at *); omega)); intro x hx)
    | ((with_reducible refine ixN_mk 0 ?_ ?_ ?_); (focus rfl); (focus decide))
    | ((with_reducible refine ixN_mk 1 ?_ ?_ ?_); (focus rfl); (focus decide))
    | ((with_reducible refine ixN_mk 2 ?_ ?_ ?_); (focus rfl); (focus decide))
    | ((with_reducible refine ixN_mk 3 ?_ ?_ ?_); (focus rfl); (focus decide))
    | ((with_reducible refine ixN_mk 4 ?_ ?_ ?_); (focus rfl); (focus decide))
    | ((with_reducible refine ixN_mk 5 ?_ ?_ ?_); (focus rfl); (focus decide))
    | ((with_reducible refine ixN_mk 6 ?_ ?_ ?_); (focus rfl); (focus decide))
    | ((with_reducible refine ixN_mk 7 ?_ ?_ ?_); (focus rfl); (focus decide))
    | ((with_reducible refine posE_nil (by rfl) ?_))
    | ((with_reducible refine posE_pos (by decide) ?_))
    | with_reducible refine vN_mod (by omega) ?_
    | with_reducible refine vN_mk ?_
    | with_reducible refine nzN_mk (by omega) ?_
    | with_reducible refine eqN_dec (by omega) ?_
    | with_reducible refine draw_rule tabOk mixOk ?_
    | with_reducible refine apN_mk (by kernel_rfl) ?_
    | ((with_reducible apply conN_mk2 ?_ (wakes_con) ?_);(first | (focus exact trivial)); skip)
    | ((with_reducible apply call_con2 ?_ (wakes_con) ?_);(first | (focus exact trivial)); rintro _ _ _ ⟨rfl, rfl, rfl⟩)
    | ((with_reducible apply conN_mk2 ?_ (new_con _ _) ?_);(first | (focus exact ⟨rfl, rfl, trivial⟩) | (rotate_left 1; (focus exact ⟨rfl, rfl, trivial⟩)) | (rotate_left 2; (focus exact ⟨rfl, rfl, trivial⟩))); skip)
    | ((with_reducible apply call_con2 ?_ (new_con _ _) ?_);(first | (focus exact ⟨rfl, rfl, trivial⟩) | (rotate_left 1; (focus exact ⟨rfl, rfl, trivial⟩)) | (rotate_left 2; (focus exact ⟨rfl, rfl, trivial⟩))); rintro _ _ _ ⟨rfl, rfl, rfl⟩)
    | ((with_reducible apply conN_mk2 ?_ (right0_con _ _) ?_);(first | (focus exact ⟨⟨rfl, rfl, (.inl rfl), trivial⟩, trivial⟩) | (rotate_left 1; (focus exact ⟨⟨rfl, rfl, (.inl rfl), trivial⟩, trivial⟩)) | (rotate_left 2; (focus exact ⟨⟨rfl, rfl, (.inl rfl), trivial⟩, trivial⟩))); skip)
    | ((with_reducible apply call_con2 ?_ (right0_con _ _) ?_);(first | (focus exact ⟨⟨rfl, rfl, (.inl rfl), trivial⟩, trivial⟩) | (rotate_left 1; (focus exact ⟨⟨rfl, rfl, (.inl rfl), trivial⟩, trivial⟩)) | (rotate_left 2; (focus exact ⟨⟨rfl, rfl, (.inl rfl), trivial⟩, trivial⟩))); rintro _ _ _ ⟨rfl, rfl, rfl⟩)
    | ((with_reducible apply conN_mk2 ?_ (same0_con _ _ _ _) ?_);(first | (focus exact ⟨⟨rfl, rfl, (.inl rfl), trivial⟩, ⟨rfl, rfl, (.inl rfl), trivial⟩, trivial⟩) | (rotate_left 1; (focus exact ⟨⟨rfl, rfl, (.inl rfl), trivial⟩, ⟨rfl, rfl, (.inl rfl), trivial⟩, trivial⟩)) | (rotate_left 2; (focus exact ⟨⟨rfl, rfl, (.inl rfl), trivial⟩, ⟨rfl, rfl, (.inl rfl), trivial⟩, trivial⟩)) | (rotate_left 3; (focus exact ⟨⟨rfl, rfl, (.inl rfl), trivial⟩, ⟨rfl, rfl, (.inl rfl), trivial⟩, trivial⟩)) | (rotate_left 4; (focus exact ⟨⟨rfl, rfl, (.inl rfl), trivial⟩, ⟨rfl, rfl, (.inl rfl), trivial⟩, trivial⟩))); skip)
    | ((with_reducible apply call_con2 ?_ (same0_con _ _ _ _) ?_);(first | (focus exact ⟨⟨rfl, rfl, (.inl rfl), trivial⟩, ⟨rfl, rfl, (.inl rfl), trivial⟩, trivial⟩) | (rotate_left 1; (focus exact ⟨⟨rfl, rfl, (.inl rfl), trivial⟩, ⟨rfl, rfl, (.inl rfl), trivial⟩, trivial⟩)) | (rotate_left 2; (focus exact ⟨⟨rfl, rfl, (.inl rfl), trivial⟩, ⟨rfl, rfl, (.inl rfl), trivial⟩, trivial⟩)) | (rotate_left 3; (focus exact ⟨⟨rfl, rfl, (.inl rfl), trivial⟩, ⟨rfl, rfl, (.inl rfl), trivial⟩, trivial⟩)) | (rotate_left 4; (focus exact ⟨⟨rfl, rfl, (.inl rfl), trivial⟩, ⟨rfl, rfl, (.inl rfl), trivial⟩, trivial⟩))); rintro _ _ _ ⟨rfl, rfl, rfl⟩))
  all_goals (try (conv => whnf))
  refine loop_rule tabOk (fun i : Nat => ⟨[(12, .val (.int .i64 (i : Int))), (11, .val (.int .i64 ((l.map fun x : Int × Int => [RT.v (.int .i64 x.1), RT.v (.int .i64 x.2)]).length : Nat))), (10, .c (.ro false 2 (l.map fun x : Int × Int => [RT.v (.int .i64 x.1), RT.v (.int .i64 x.2)])))], [], 0⟩) (fun i => i ≤ l.length) (fun i => l.length - i) 0 (Nat.zero_le _) (Wk.stp (l := []) ⟨rfl, List.nodup_nil, rfl, Nat.zero_le _, ⟨rfl, rfl, rfl, trivial⟩, trivial⟩) ?_
  intro i hi
  dsimp only
  repeat' ((conv => whnf); first
    | with_reducible refine spB_t ?_
    | with_reducible refine spB_f ?_
    | with_reducible refine spB_not ?_
    | with_reducible refine spB_yes (by assumption) ?_
    | with_reducible refine spB_no (by assumption) ?_
    | (with_reducible refine spB_dec ?_ ?_ <;> intro _)
    | (with_reducible refine spB_beq ?_ ?_ <;> intro _)
    | (with_reducible refine spB_bne ?_ ?_ <;> intro _)
    | (with_reducible refine spB_mk ?_ ?_ <;> intro _)
    | with_reducible refine wr_i64 (by first | omega | (simp only [List.length_map] at *; omega)) ?_
    | with_reducible refine wr_u64 (by omega) ?_
    | with_reducible refine wr_u8 (by omega) ?_
    | with_reducible refine wr_u32 (by omega) ?_
    | with_reducible refine wr_mk _ rfl ?_
    | ((with_reducible refine ixN_nat ?_ ?_); (focus ((try simp only [List.length_map] at *); omega)))
    | ((with_reducible refine rowN_map ?_ ?_); (focus ((try simp only [List.length_map] at *); omega)); intro x hx)
    | ((with_reducible refine ixN_mk 0 ?_ ?_ ?_); (focus rfl); (focus decide))
    | ((with_reducible refine ixN_mk 1 ?_ ?_ ?_); (focus rfl); (focus decide))
    | ((with_reducible refine ixN_mk 2 ?_ ?_ ?_); (focus rfl); (focus decide))
    | ((with_reducible refine ixN_mk 3 ?_ ?_ ?_); (focus rfl); (focus decide))
    | ((with_reducible refine ixN_mk 4 ?_ ?_ ?_); (focus rfl); (focus decide))
    | ((with_reducible refine ixN_mk 5 ?_ ?_ ?_); (focus rfl); (focus decide))
    | ((with_reducible refine ixN_mk 6 ?_ ?_ ?_); (focus rfl); (focus decide))
    | ((with_reducible refine ixN_mk 7 ?_ ?_ ?_); (focus rfl); (focus decide))
    | ((with_reducible refine posE_nil (by rfl) ?_))
    | ((with_reducible refine posE_pos (by decide) ?_))
    | with_reducible refine vN_mod (by omega) ?_
    | with_reducible refine vN_mk ?_
    | with_reducible refine nzN_mk (by omega) ?_
    | with_reducible refine eqN_dec (by omega) ?_
    | with_reducible refine draw_rule tabOk mixOk ?_
    | with_reducible refine apN_mk (by kernel_rfl) ?_
    | ((with_reducible apply conN_mk2 ?_ (wakes_con) ?_);(first | (focus exact trivial)); skip)
    | ((with_reducible apply call_con2 ?_ (wakes_con) ?_);(first | (focus exact trivial)); rintro _ _ _ ⟨rfl, rfl, rfl⟩)
    | ((with_reducible apply conN_mk2 ?_ (new_con _ _) ?_);(first | (focus exact ⟨rfl, rfl, trivial⟩) | (rotate_left 1; (focus exact ⟨rfl, rfl, trivial⟩)) | (rotate_left 2; (focus exact ⟨rfl, rfl, trivial⟩))); skip)
    | ((with_reducible apply call_con2 ?_ (new_con _ _) ?_);(first | (focus exact ⟨rfl, rfl, trivial⟩) | (rotate_left 1; (focus exact ⟨rfl, rfl, trivial⟩)) | (rotate_left 2; (focus exact ⟨rfl, rfl, trivial⟩))); rintro _ _ _ ⟨rfl, rfl, rfl⟩)
    | ((with_reducible apply conN_mk2 ?_ (right0_con _ _) ?_);(first | (focus exact ⟨⟨rfl, rfl, (.inl rfl), trivial⟩, trivial⟩) | (rotate_left 1; (focus exact ⟨⟨rfl, rfl, (.inl rfl), trivial⟩, trivial⟩)) | (rotate_left 2; (focus exact ⟨⟨rfl, rfl, (.inl rfl), trivial⟩, trivial⟩))); skip)
    | ((with_reducible apply call_con2 ?_ (right0_con _ _) ?_);(first | (focus exact ⟨⟨rfl, rfl, (.inl rfl), trivial⟩, trivial⟩) | (rotate_left 1; (focus exact ⟨⟨rfl, rfl, (.inl rfl), trivial⟩, trivial⟩)) | (rotate_left 2; (focus exact ⟨⟨rfl, rfl, (.inl rfl), trivial⟩, trivial⟩))); rintro _ _ _ ⟨rfl, rfl, rfl⟩)
    | ((with_reducible apply conN_mk2 ?_ (same0_con _ _ _ _) ?_);(first | (focus exact ⟨⟨rfl, rfl, (.inl rfl), trivial⟩, ⟨rfl, rfl, (.inl rfl), trivial⟩, trivial⟩) | (rotate_left 1; (focus exact ⟨⟨rfl, rfl, (.inl rfl), trivial⟩, ⟨rfl, rfl, (.inl rfl), trivial⟩, trivial⟩)) | (rotate_left 2; (focus exact ⟨⟨rfl, rfl, (.inl rfl), trivial⟩, ⟨rfl, rfl, (.inl rfl), trivial⟩, trivial⟩)) | (rotate_left 3; (focus exact ⟨⟨rfl, rfl, (.inl rfl), trivial⟩, ⟨rfl, rfl, (.inl rfl), trivial⟩, trivial⟩)) | (rotate_left 4; (focus exact ⟨⟨rfl, rfl, (.inl rfl), trivial⟩, ⟨rfl, rfl, (.inl rfl), trivial⟩, trivial⟩))); skip)
    | ((with_reducible apply call_con2 ?_ (same0_con _ _ _ _) ?_);(first | (focus exact ⟨⟨rfl, rfl, (.inl rfl), trivial⟩, ⟨rfl, rfl, (.inl rfl), trivial⟩, trivial⟩) | (rotate_left 1; (focus exact ⟨⟨rfl, rfl, (.inl rfl), trivial⟩, ⟨rfl, rfl, (.inl rfl), trivial⟩, trivial⟩)) | (rotate_left 2; (focus exact ⟨⟨rfl, rfl, (.inl rfl), trivial⟩, ⟨rfl, rfl, (.inl rfl), trivial⟩, trivial⟩)) | (rotate_left 3; (focus exact ⟨⟨rfl, rfl, (.inl rfl), trivial⟩, ⟨rfl, rfl, (.inl rfl), trivial⟩, trivial⟩)) | (rotate_left 4; (focus exact ⟨⟨rfl, rfl, (.inl rfl), trivial⟩, ⟨rfl, rfl, (.inl rfl), trivial⟩, trivial⟩))); rintro _ _ _ ⟨rfl, rfl, rfl⟩))
  all_goals (try (conv => whnf))
  all_goals first
    | (refine ⟨⟨i + 1, by simp only [List.length_map] at *; omega, by simp only [List.length_map] at *; omega, (Wk.stp (l := []) ⟨rfl, List.nodup_nil, rfl, Nat.zero_le _, ⟨rfl, rfl, rfl, trivial⟩, trivial⟩)⟩⟩)
    | (refine ret0 _ rfl _ rfl (fun _ => rfl) rfl ⟨rfl, rfl, rfl⟩)
    | (exfalso; by_cases hk : okH x.1 x.2 <;> simp_all <;> done)
    | (trace_state; sorry)

namespace heartNews
theorem main (avs : List A0) (h : All2 FitA [(.sl (.arr 2 (.int .i64) 2 1) 47 2)] avs) : Con Try.prog 5 avs (fun x K t => x = .val (.bool true) ∧ K = [] ∧ t = 0) := by
  obtain ⟨a0, rfl, h0⟩ : ∃ a0, avs = [a0] ∧ FitA (.sl (.arr 2 (.int .i64) 2 1) 47 2) a0 := by
    cases avs with
    | nil => exact h.elim
    | cons a0 r => cases r with
      | nil => exact ⟨a0, rfl, h.1⟩
      | cons => exact h.2.elim
  clear h
  obtain ⟨r, ⟨rows, hr, hl, hrows⟩, rfl⟩ := h0
  simp only [List.cons.injEq, and_true] at hr
  subst hr
  obtain ⟨l, rfl, _⟩ := rows_map (e := (.arr 2 (.int .i64) 2 1)) (fun x : Int × Int => [RT.v (.int .i64 x.1), RT.v (.int .i64 x.2)]) (fun _ => True) (fun row hrow => by
    obtain ⟨rs, rfl, hn, hrs⟩ := hrow
    obtain ⟨c, d, rfl⟩ := len2 hn
    obtain ⟨⟨z1, rfl, w1⟩, _⟩ := hrs c (by simp)
    obtain ⟨⟨z2, rfl, w2⟩, _⟩ := hrs d (by simp)
    exact ⟨(z1, z2), rfl, trivial⟩) rows hrows
  exact news_con l (by simpa [maxLen] using hl)
end heartNews
end Go.Proofs.Ytgdkhdooekmfgaa
