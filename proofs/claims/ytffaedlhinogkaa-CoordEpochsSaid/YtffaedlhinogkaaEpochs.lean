import Derived.Test.YtffaedlhinogkaaNum
import Derived.Test.YtffaedlhinogkaaWakes
import Derived.Test.YtffaedlhinogkaaRows
namespace Go.Proofs.Ytffaedlhinogkaa
open Go Go.RowKit Wx
set_option linter.unusedVariables false
set_option maxHeartbeats 4000000
theorem numP_b (e c : Int) : 0 ≤ numP e c ∧ numP e c ≤ 18446744073709551615 := by unfold numP; split <;> omega
theorem epochs_math {a b p q : Int} (ha : 1 ≤ a ∧ a ≤ 2147483647) (hb : 1 ≤ b ∧ b ≤ 2147483647) (hp : 1 ≤ p ∧ p ≤ 2147483647) (hq : 1 ≤ q ∧ q ≤ 2147483647) :
    numP a p = a * 2147483648 + p ∧ numP b q = b * 2147483648 + q ∧ splE (numP a p) = a ∧ splC (numP a p) = p := by
  have h1 : numP a p = a * 2147483648 + p := by unfold numP; rw [if_pos ⟨ha, hp⟩]
  have h2 : numP b q = b * 2147483648 + q := by unfold numP; rw [if_pos ⟨hb, hq⟩]
  refine ⟨h1, h2, ?_, ?_⟩
  · rw [h1]; unfold splE; split <;> omega
  · rw [h1]; unfold splC; split <;> omega
theorem epochs_con (e0 e1 : Int) (l m : List Int) (h0 : 0 ≤ e0) (h1 : 0 ≤ e1) (hl : l.length ≤ 9223372036854775807) (hm : m.length ≤ 9223372036854775807) (hwl : ∀ z ∈ l, (Lit.int .u64 z).wf = true) (hwm : ∀ z ∈ m, (Lit.int .u64 z).wf = true) : Con Try.prog 8 [.agg [.v (.int .u64 e0), .v (.int .u64 e1)], .one (.ro false 1 (l.map fun z => [RT.v (.int .u64 z)])), .one (.ro false 1 (m.map fun z => [RT.v (.int .u64 z)]))] (fun x K t => x = .val (.bool true) ∧ K = [] ∧ t = 0) := by
  refine con_of tabOk 108 Try.f8 _ Try.func8 (by kernel_rfl) rfl rfl rfl rfl (fun W => ?_)
  repeat' ((conv => whnf); first
    | with_reducible refine spB_t ?_
    | with_reducible refine spB_f ?_
    | with_reducible refine spB_not ?_
    | with_reducible refine spB_yes (by assumption) ?_
    | with_reducible refine spB_no (by assumption) ?_
    | (with_reducible refine spB_dec ?_ ?_ <;> intro _)
    | (with_reducible refine spB_beq ?_ ?_ <;> intro _)
    | (with_reducible refine spB_bne ?_ ?_ <;> intro _)
    | (with_reducible refine spB_mk ?_ ?_ <;> intro _)
    | with_reducible refine wr_i64 (by first | omega | (simp only [List.length_map] at *; omega)) ?_
    | with_reducible refine wr_u64 (by omega) ?_
    | with_reducible refine wr_u8 (by omega) ?_
    | with_reducible refine wr_u32 (by omega) ?_
    | with_reducible refine wr_mk _ rfl ?_
    | ((with_reducible refine ixN_nat ?_ ?_); (focus ((try simp only [List.length_map] at *); omega)))
    | ((with_reducible refine rowN_map ?_ ?_); (focus ((try simp only [List.length_map] at *); omega)); intro x hx)
    | ((with_reducible refine ixN_mk 0 ?_ ?_ ?_); (focus rfl); (focus decide))
    | ((with_reducible refine ixN_mk 1 ?_ ?_ ?_); (focus rfl); (focus decide))
    | ((with_reducible refine ixN_mk 2 ?_ ?_ ?_); (focus rfl); (focus decide))
    | ((with_reducible refine ixN_mk 3 ?_ ?_ ?_); (focus rfl); (focus decide))
    | ((with_reducible refine ixN_mk 4 ?_ ?_ ?_); (focus rfl); (focus decide))
    | ((with_reducible refine ixN_mk 5 ?_ ?_ ?_); (focus rfl); (focus decide))
    | ((with_reducible refine ixN_mk 6 ?_ ?_ ?_); (focus rfl); (focus decide))
    | ((with_reducible refine ixN_mk 7 ?_ ?_ ?_); (focus rfl); (focus decide))
    | with_reducible refine vN_mod (by omega) ?_
    | with_reducible refine vN_mk ?_
    | with_reducible refine nzN_mk (by omega) ?_
    | with_reducible refine eqN_dec (by omega) ?_
    | with_reducible refine draw_rule tabOk mixOk ?_
    | with_reducible refine apN_mk (by kernel_rfl) ?_
    | ((with_reducible apply conN_mk2 ?_ (wakes_con) ?_);(first | (focus exact trivial)); skip)
    | ((with_reducible apply call_con2 ?_ (wakes_con) ?_);(first | (focus exact trivial)); rintro _ _ _ ⟨rfl, rfl, rfl⟩)
    | ((with_reducible apply conN_mk2 ?_ (num_con _ _ ?_ ?_) ?_);(first | (focus exact ⟨rfl, rfl, trivial⟩) | (rotate_left 1; (focus exact ⟨rfl, rfl, trivial⟩)) | (rotate_left 2; (focus exact ⟨rfl, rfl, trivial⟩))); (focus omega); (focus omega); skip)
    | ((with_reducible apply call_con2 ?_ (num_con _ _ ?_ ?_) ?_);(first | (focus exact ⟨rfl, rfl, trivial⟩) | (rotate_left 1; (focus exact ⟨rfl, rfl, trivial⟩)) | (rotate_left 2; (focus exact ⟨rfl, rfl, trivial⟩))); (focus omega); (focus omega); rintro _ _ _ ⟨rfl, rfl, rfl⟩)
    | ((with_reducible apply conN_mk2 ?_ (spl_con _ (numP_b _ _)) ?_);(first | (focus exact ⟨rfl, trivial⟩) | (rotate_left 1; (focus exact ⟨rfl, trivial⟩)) | (rotate_left 2; (focus exact ⟨rfl, trivial⟩)) | (rotate_left 3; (focus exact ⟨rfl, trivial⟩))); skip)
    | ((with_reducible apply call_con2 ?_ (spl_con _ (numP_b _ _)) ?_);(first | (focus exact ⟨rfl, trivial⟩) | (rotate_left 1; (focus exact ⟨rfl, trivial⟩)) | (rotate_left 2; (focus exact ⟨rfl, trivial⟩)) | (rotate_left 3; (focus exact ⟨rfl, trivial⟩))); rintro _ _ _ ⟨rfl, rfl, rfl⟩))
  all_goals (try (conv => whnf))
  have ha : 1 ≤ 1 + e0 % 2147483647 ∧ 1 + e0 % 2147483647 ≤ 2147483647 := by omega
  have hb : 1 ≤ 1 + e1 % 2147483647 ∧ 1 + e1 % 2147483647 ≤ 2147483647 := by omega
  generalize 1 + e0 % 2147483647 = a at *
  generalize 1 + e1 % 2147483647 = b at *

  refine loop_rule tabOk (fun i : Nat => ⟨[(31, .val (.int .i64 (i : Int))), (30, .val (.int .i64 ((l.map fun z => [RT.v (.int .u64 z)]).length : Nat))), (29, .c (.ro false 1 (l.map fun z => [RT.v (.int .u64 z)]))), (2, .c (.ro false 1 (m.map fun z => [RT.v (.int .u64 z)]))), (7, .val (.int .u64 a)), (8, .val (.int .u64 b))], [], 0⟩) (fun i => i ≤ l.length) (fun i => l.length - i) 0 (Nat.zero_le _) (Wk.stp (l := []) ⟨rfl, List.nodup_nil, rfl, Nat.zero_le _, ⟨rfl, rfl, rfl, rfl, rfl, rfl, trivial⟩, trivial⟩) ?_
  intro i hi
  dsimp only
  repeat' ((conv => whnf); first
    | with_reducible refine spB_t ?_
    | with_reducible refine spB_f ?_
    | with_reducible refine spB_not ?_
    | with_reducible refine spB_yes (by assumption) ?_
    | with_reducible refine spB_no (by assumption) ?_
    | (with_reducible refine spB_dec ?_ ?_ <;> intro _)
    | (with_reducible refine spB_beq ?_ ?_ <;> intro _)
    | (with_reducible refine spB_bne ?_ ?_ <;> intro _)
    | (with_reducible refine spB_mk ?_ ?_ <;> intro _)
    | with_reducible refine wr_i64 (by first | omega | (simp only [List.length_map] at *; omega)) ?_
    | with_reducible refine wr_u64 (by omega) ?_
    | with_reducible refine wr_u8 (by omega) ?_
    | with_reducible refine wr_u32 (by omega) ?_
    | with_reducible refine wr_mk _ rfl ?_
    | ((with_reducible refine ixN_nat ?_ ?_); (focus ((try simp only [List.length_map] at *); omega)))
    | ((with_reducible refine rowN_map ?_ ?_); (focus ((try simp only [List.length_map] at *); omega)); intro x hx; first | have hxx := wf_u64 (hwl x (List.mem_of_getElem? hx)) | skip)
    | ((with_reducible refine ixN_mk 0 ?_ ?_ ?_); (focus rfl); (focus decide))
    | ((with_reducible refine ixN_mk 1 ?_ ?_ ?_); (focus rfl); (focus decide))
    | ((with_reducible refine ixN_mk 2 ?_ ?_ ?_); (focus rfl); (focus decide))
    | ((with_reducible refine ixN_mk 3 ?_ ?_ ?_); (focus rfl); (focus decide))
    | ((with_reducible refine ixN_mk 4 ?_ ?_ ?_); (focus rfl); (focus decide))
    | ((with_reducible refine ixN_mk 5 ?_ ?_ ?_); (focus rfl); (focus decide))
    | ((with_reducible refine ixN_mk 6 ?_ ?_ ?_); (focus rfl); (focus decide))
    | ((with_reducible refine ixN_mk 7 ?_ ?_ ?_); (focus rfl); (focus decide))
    | with_reducible refine vN_mod (by omega) ?_
    | with_reducible refine vN_mk ?_
    | with_reducible refine nzN_mk (by omega) ?_
    | with_reducible refine eqN_dec (by omega) ?_
    | with_reducible refine draw_rule tabOk mixOk ?_
    | with_reducible refine apN_mk (by kernel_rfl) ?_
    | ((with_reducible apply conN_mk2 ?_ (wakes_con) ?_);(first | (focus exact trivial)); skip)
    | ((with_reducible apply call_con2 ?_ (wakes_con) ?_);(first | (focus exact trivial)); rintro _ _ _ ⟨rfl, rfl, rfl⟩)
    | ((with_reducible apply conN_mk2 ?_ (num_con _ _ ?_ ?_) ?_);(first | (focus exact ⟨rfl, rfl, trivial⟩) | (rotate_left 1; (focus exact ⟨rfl, rfl, trivial⟩)) | (rotate_left 2; (focus exact ⟨rfl, rfl, trivial⟩))); (focus omega); (focus omega); skip)
    | ((with_reducible apply call_con2 ?_ (num_con _ _ ?_ ?_) ?_);(first | (focus exact ⟨rfl, rfl, trivial⟩) | (rotate_left 1; (focus exact ⟨rfl, rfl, trivial⟩)) | (rotate_left 2; (focus exact ⟨rfl, rfl, trivial⟩))); (focus omega); (focus omega); rintro _ _ _ ⟨rfl, rfl, rfl⟩)
    | ((with_reducible apply conN_mk2 ?_ (spl_con _ (numP_b _ _)) ?_);(first | (focus exact ⟨rfl, trivial⟩) | (rotate_left 1; (focus exact ⟨rfl, trivial⟩)) | (rotate_left 2; (focus exact ⟨rfl, trivial⟩)) | (rotate_left 3; (focus exact ⟨rfl, trivial⟩))); skip)
    | ((with_reducible apply call_con2 ?_ (spl_con _ (numP_b _ _)) ?_);(first | (focus exact ⟨rfl, trivial⟩) | (rotate_left 1; (focus exact ⟨rfl, trivial⟩)) | (rotate_left 2; (focus exact ⟨rfl, trivial⟩)) | (rotate_left 3; (focus exact ⟨rfl, trivial⟩))); rintro _ _ _ ⟨rfl, rfl, rfl⟩))
  all_goals (try (conv => whnf))
  · refine loop_rule tabOk (fun k : Nat => ⟨[(38, .val (.int .i64 (k : Int))), (37, .val (.int .i64 ((m.map fun z => [RT.v (.int .u64 z)]).length : Nat))), (36, .c (.ro false 1 (m.map fun z => [RT.v (.int .u64 z)]))), (9, .val (.int .i64 (i : Int))), (10, .val (.int .u64 x)), (31, .val (.int .i64 (i : Int))), (30, .val (.int .i64 ((l.map fun z => [RT.v (.int .u64 z)]).length : Nat))), (29, .c (.ro false 1 (l.map fun z => [RT.v (.int .u64 z)]))), (2, .c (.ro false 1 (m.map fun z => [RT.v (.int .u64 z)]))), (7, .val (.int .u64 a)), (8, .val (.int .u64 b))], [], 0⟩) (fun k => k ≤ m.length) (fun k => m.length - k) 0 (Nat.zero_le _) (Wk.stp (l := []) ⟨rfl, List.nodup_nil, rfl, Nat.zero_le _, ⟨rfl, rfl, rfl, rfl, rfl, rfl, rfl, rfl, rfl, rfl, rfl, trivial⟩, trivial⟩) ?_
    intro k hk
    dsimp only
    repeat' ((conv => whnf); first
      | with_reducible refine spB_t ?_
      | with_reducible refine spB_f ?_
      | with_reducible refine spB_not ?_
      | with_reducible refine spB_yes (by assumption) ?_
      | with_reducible refine spB_no (by assumption) ?_
      | (with_reducible refine spB_dec ?_ ?_ <;> intro _)
      | (with_reducible refine spB_beq ?_ ?_ <;> intro _)
      | (with_reducible refine spB_bne ?_ ?_ <;> intro _)
      | (with_reducible refine spB_mk ?_ ?_ <;> intro _)
      | with_reducible refine wr_i64 (by first | omega | (simp only [List.length_map] at *; omega)) ?_
      | with_reducible refine wr_u64 (by omega) ?_
      | with_reducible refine wr_u8 (by omega) ?_
      | with_reducible refine wr_u32 (by omega) ?_
      | with_reducible refine wr_mk _ rfl ?_
      | ((with_reducible refine ixN_nat ?_ ?_); (focus ((try simp only [List.length_map] at *); omega)))
      | ((with_reducible refine rowN_map ?_ ?_); (focus ((try simp only [List.length_map] at *); omega)); intro y hy; first | have hxx := wf_u64 (hwm y (List.mem_of_getElem? hy)) | skip)
      | ((with_reducible refine ixN_mk 0 ?_ ?_ ?_); (focus rfl); (focus decide))
      | ((with_reducible refine ixN_mk 1 ?_ ?_ ?_); (focus rfl); (focus decide))
      | ((with_reducible refine ixN_mk 2 ?_ ?_ ?_); (focus rfl); (focus decide))
      | ((with_reducible refine ixN_mk 3 ?_ ?_ ?_); (focus rfl); (focus decide))
      | ((with_reducible refine ixN_mk 4 ?_ ?_ ?_); (focus rfl); (focus decide))
      | ((with_reducible refine ixN_mk 5 ?_ ?_ ?_); (focus rfl); (focus decide))
      | ((with_reducible refine ixN_mk 6 ?_ ?_ ?_); (focus rfl); (focus decide))
      | ((with_reducible refine ixN_mk 7 ?_ ?_ ?_); (focus rfl); (focus decide))
      | with_reducible refine vN_mod (by omega) ?_
      | with_reducible refine vN_mk ?_
      | with_reducible refine nzN_mk (by omega) ?_
      | with_reducible refine eqN_dec (by omega) ?_
      | with_reducible refine draw_rule tabOk mixOk ?_
      | with_reducible refine apN_mk (by kernel_rfl) ?_
      | ((with_reducible apply conN_mk2 ?_ (wakes_con) ?_);(first | (focus exact trivial)); skip)
      | ((with_reducible apply call_con2 ?_ (wakes_con) ?_);(first | (focus exact trivial)); rintro _ _ _ ⟨rfl, rfl, rfl⟩)
      | ((with_reducible apply conN_mk2 ?_ (num_con _ _ ?_ ?_) ?_);(first | (focus exact ⟨rfl, rfl, trivial⟩) | (rotate_left 1; (focus exact ⟨rfl, rfl, trivial⟩)) | (rotate_left 2; (focus exact ⟨rfl, rfl, trivial⟩))); (focus omega); (focus omega); skip)
      | ((with_reducible apply call_con2 ?_ (num_con _ _ ?_ ?_) ?_);(first | (focus exact ⟨rfl, rfl, trivial⟩) | (rotate_left 1; (focus exact ⟨rfl, rfl, trivial⟩)) | (rotate_left 2; (focus exact ⟨rfl, rfl, trivial⟩))); (focus omega); (focus omega); rintro _ _ _ ⟨rfl, rfl, rfl⟩)
      | ((with_reducible apply conN_mk2 ?_ (spl_con _ (numP_b _ _)) ?_);(first | (focus exact ⟨rfl, trivial⟩) | (rotate_left 1; (focus exact ⟨rfl, trivial⟩)) | (rotate_left 2; (focus exact ⟨rfl, trivial⟩)) | (rotate_left 3; (focus exact ⟨rfl, trivial⟩))); skip)
      | ((with_reducible apply call_con2 ?_ (spl_con _ (numP_b _ _)) ?_);(first | (focus exact ⟨rfl, trivial⟩) | (rotate_left 1; (focus exact ⟨rfl, trivial⟩)) | (rotate_left 2; (focus exact ⟨rfl, trivial⟩)) | (rotate_left 3; (focus exact ⟨rfl, trivial⟩))); rintro _ _ _ ⟨rfl, rfl, rfl⟩))
    all_goals (try (conv => whnf))
    all_goals first
      | (refine ⟨⟨k + 1, by simp only [List.length_map] at *; omega, by simp only [List.length_map] at *; omega, (Wk.stp (l := []) ⟨rfl, List.nodup_nil, rfl, Nat.zero_le _, ⟨rfl, rfl, rfl, rfl, rfl, rfl, rfl, rfl, rfl, rfl, rfl, trivial⟩, trivial⟩)⟩⟩)
      | (refine ⟨⟨i + 1, by simp only [List.length_map] at *; omega, by simp only [List.length_map] at *; omega, (Wk.stp (l := []) ⟨rfl, List.nodup_nil, rfl, Nat.zero_le _, ⟨rfl, rfl, rfl, rfl, rfl, rfl, trivial⟩, trivial⟩)⟩⟩)
      | (exfalso
         obtain ⟨m1, m2, m3, m4⟩ := epochs_math ha hb (p := 1 + x % 2147483647) (q := 1 + y % 2147483647) (by omega) (by omega)
         (try simp only [decide_eq_decide, Classical.not_iff] at *)
         omega)

  · exact ret0 _ rfl _ rfl (fun _ => rfl) rfl ⟨rfl, rfl, rfl⟩

namespace coordEpochs
theorem main (avs : List A0) (h : All2 FitA [(.arr 2 (.int .u64) 22 1), (.sl (.int .u64) 22 1), (.sl (.int .u64) 22 1)] avs) : Con Try.prog 8 avs (fun x K t => x = .val (.bool true) ∧ K = [] ∧ t = 0) := by
  match avs, h with
  | [a0, a1, a2], ⟨h0, h1, h2, _⟩ =>
  obtain ⟨zs, rfl, hz, hw⟩ := fit_iarr h0
  obtain ⟨e0, e1, rfl⟩ := len2 hz
  obtain ⟨l, rfl, hl, hwl⟩ := fit_ints h1
  obtain ⟨m, rfl, hm, hwm⟩ := fit_ints h2
  exact epochs_con e0 e1 l m (wf_u64 (hw e0 (by simp))).1 (wf_u64 (hw e1 (by simp))).1 hl hm hwl hwm
end coordEpochs
end Go.Proofs.Ytffaedlhinogkaa
