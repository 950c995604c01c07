import Derived.Test.YtibjpohankaoeaaRr0
namespace Go.Proofs.Ytibjpohankaoeaa
open Go Go.RowKit Wx
set_option linter.unusedVariables false
set_option linter.unusedSimpArgs false
set_option maxHeartbeats 4000000
theorem fit_at {t a b n : Int} {c : Int × Int} {c1 s1 : Int} {l acc : List Int} {i : Nat} (ht : tagP t n a b) (hf : fitP t a c) (hq : ((c1, s1), acc) = fs t a b c (l.take i)) : fitP t a (c1, s1) := by
  have := fit_fs ht (l.take i) hf; rw [← hq] at this; exact this
theorem acc_at {t a b : Int} {c : Int × Int} {c1 s1 : Int} {l acc : List Int} {i : Nat} (hl : l.length ≤ 40) (hq : ((c1, s1), acc) = fs t a b c (l.take i)) : acc.length ≤ 40 := by
  have := fs_len (t := t) (a := a) (b := b) (l.take i) (c := c)
  rw [← hq, List.length_take] at this; dsimp only at this; omega
theorem rrun_good (t w a b c s : Int) (ins : List Int) (l : List Int) (hi : ins.length ≤ 9223372036854775807) (hc : c ≤ 9223372036854775807) (hok : okO t w ins a b = true) (hf : fitP t a (c, s)) (hl : l.length ≤ 40) : Con Try.prog 21 [.agg [.v (.int .i64 t), .v (.int .i64 w), .ro false 1 (ins.map eI), .v (.int .i64 a), .v (.int .i64 b)], .agg [.v (.int .i64 c), .v (.int .i64 s)], .one (.ro false 1 (l.map eI))] (fun rx rK rt => ((∃ j, j < l.length ∧ (fs t a b (c, s) (l.take j)).1.1 = 9223372036854775807) ∧ rx = .tup [.agg [.v (.int .i64 0), .v (.int .i64 0)], .one (.v (.slice none 0 0)), .one (.v (.int .i64 6))] ∧ rK = [] ∧ rt = 0) ∨ ((∀ j, j < l.length → (fs t a b (c, s) (l.take j)).1.1 ≠ 9223372036854775807) ∧ rx = .tup [.agg [.v (.int .i64 (fs t a b (c, s) (l)).1.1), .v (.int .i64 (fs t a b (c, s) (l)).1.2)], .one (.ro true 1 ((fs t a b (c, s) (l)).2.map eI)), .one (.v (.int .i64 0))] ∧ rK = [] ∧ rt = 0)) := by
  have ht := okO_tag hok
  have c1 := rright_con t w a b ins hi; rw [hok] at c1
  have c2 := rfits_con t w a b c s ins (fun h => by unfold tagP at ht; omega); rw [decide_eq_true hf] at c2
  refine con_of tabOk 58 Try.f21 _ Try.func21 (by kernel_rfl) rfl rfl rfl rfl (fun W => ?_)
  repeat' ((conv => whnf); first
    | with_reducible refine spB_t ?_
    | ((with_reducible apply spB_cong); (focus (simp only [beq_self_eq_true, bne_self_eq_false, Bool.true_bne, Bool.false_bne, Bool.bne_true, Bool.bne_false, Bool.true_beq, Bool.false_beq, Bool.not_true, Bool.not_false, Bool.not_not, Int.reduceBEq, Int.reduceBNe, Int.reduceLE, Int.reduceLT, Int.reduceEq, decide_true, decide_false]; rfl)))
    | with_reducible refine spB_yes (by decide) ?_
    | with_reducible refine spB_no (by decide) ?_
    | with_reducible refine spB_f ?_
    | with_reducible refine spB_not ?_
    | with_reducible refine spB_yes (by assumption) ?_
    | with_reducible refine spB_no (by assumption) ?_
    | (with_reducible refine spB_dec ?_ ?_ <;> intro _ <;> (try (exfalso; first | contradiction | omega | (rename_i hz; with_reducible exact absurd rfl hz))))
    | (with_reducible refine spB_beq ?_ ?_ <;> intro _ <;> (try (exfalso; first | contradiction | omega | (rename_i hz; with_reducible exact absurd rfl hz))))
    | (with_reducible refine spB_bne ?_ ?_ <;> intro _ <;> (try (exfalso; first | contradiction | omega | (rename_i hz; with_reducible exact absurd rfl hz))))
    | (with_reducible refine spB_mk ?_ ?_ <;> intro _ <;> (try (exfalso; first | contradiction | omega | (rename_i hz; with_reducible exact absurd rfl hz))))
    | ((with_reducible refine posE_pos ?_ ?_); (focus ((try simp only [List.length_replicate, List.length_map, List.length_append, List.length_nil, List.length_cons, maxLen] at *); omega)))
    | ((with_reducible refine posE_nil ?_ ?_); (focus rfl))
    | ((with_reducible apply rowN_mk); (focus rfl))
    | ((with_reducible refine ixN_mk 0 ?_ ?_ ?_); (focus rfl); (focus (exact Nat.le_of_ble_eq_true rfl)))
    | ((with_reducible refine ixN_mk 1 ?_ ?_ ?_); (focus rfl); (focus (exact Nat.le_of_ble_eq_true rfl)))
    | ((with_reducible refine ixN_mk 2 ?_ ?_ ?_); (focus rfl); (focus (exact Nat.le_of_ble_eq_true rfl)))
    | ((with_reducible refine ixN_mk 3 ?_ ?_ ?_); (focus rfl); (focus (exact Nat.le_of_ble_eq_true rfl)))
    | ((with_reducible refine ixN_mk 4 ?_ ?_ ?_); (focus rfl); (focus (exact Nat.le_of_ble_eq_true rfl)))
    | ((with_reducible refine ixN_mk 5 ?_ ?_ ?_); (focus rfl); (focus (exact Nat.le_of_ble_eq_true rfl)))
    | ((with_reducible refine ixN_mk 6 ?_ ?_ ?_); (focus rfl); (focus (exact Nat.le_of_ble_eq_true rfl)))
    | ((with_reducible refine ixN_mk 7 ?_ ?_ ?_); (focus rfl); (focus (exact Nat.le_of_ble_eq_true rfl)))
    | ((with_reducible refine eqN_mk2 ?_ ?_); (focus rfl))
    | ((with_reducible refine posN_mk2 ?_ ?_); (focus (first | decide | ((try simp only [List.length_replicate, List.length_map, List.length_append, List.length_nil, List.length_cons, maxLen] at *); omega))))
    | ((with_reducible refine apdN.mk ?_ ?_ ?_ ?_ ?_ ?_); (focus (first | rfl | (simp; done))); (focus (first | exact one_all (by rfl) | exact one_map (fun _ => rfl) | exact one_map2 (fun _ => rfl))); (focus ((try simp only [List.length_replicate, List.length_map, List.length_append, List.length_nil, List.length_cons, maxLen] at *); omega)); (focus ((try simp only [List.length_replicate, List.length_map, List.length_append, List.length_nil, List.length_cons, maxLen] at *); omega)); (focus ((try simp only [List.length_replicate, List.length_map, List.length_append, List.length_nil, List.length_cons, maxLen] at *); omega)))
    | ((with_reducible refine cpyN.mk ?_ ?_ ?_ ?_); (focus (first | rfl | (simp; done))); (focus (first | exact one_all (by rfl) | exact one_map (fun _ => rfl) | exact one_map2 (fun _ => rfl))); (focus ((try simp only [List.length_replicate, List.length_map, List.length_append, List.length_nil, List.length_cons, maxLen] at *); omega)))
    | with_reducible refine wr_i64 (by first | omega | (simp only [List.length_map] at *; omega)) ?_
    | with_reducible refine wr_u64 (by omega) ?_
    | with_reducible refine wr_u8 (by omega) ?_
    | with_reducible refine wr_u32 (by omega) ?_
    | with_reducible refine wr_mk _ rfl ?_
    | ((with_reducible refine ixN_nat ?_ ?_); (focus ((try simp only [List.length_map] at *); omega)))
    | ((with_reducible refine rowN_map ?_ ?_); (focus ((try simp only [List.length_map] at *); omega)); intro x hx)
    | ((with_reducible refine ixN_mk 0 ?_ ?_ ?_); (focus rfl); (focus decide))
    | ((with_reducible refine ixN_mk 1 ?_ ?_ ?_); (focus rfl); (focus decide))
    | ((with_reducible refine ixN_mk 2 ?_ ?_ ?_); (focus rfl); (focus decide))
    | ((with_reducible refine ixN_mk 3 ?_ ?_ ?_); (focus rfl); (focus decide))
    | ((with_reducible refine ixN_mk 4 ?_ ?_ ?_); (focus rfl); (focus decide))
    | ((with_reducible refine ixN_mk 5 ?_ ?_ ?_); (focus rfl); (focus decide))
    | ((with_reducible refine ixN_mk 6 ?_ ?_ ?_); (focus rfl); (focus decide))
    | ((with_reducible refine ixN_mk 7 ?_ ?_ ?_); (focus rfl); (focus decide))
    | ((with_reducible refine posE_nil (by rfl) ?_))
    | ((with_reducible refine posE_pos (by decide) ?_))
    | with_reducible refine vN_mod (by omega) ?_
    | with_reducible refine vN_mk ?_
    | with_reducible refine nzN_mk (by omega) ?_
    | with_reducible refine eqN_dec (by omega) ?_
    | with_reducible refine draw_rule tabOk mixOk ?_
    | with_reducible refine apN_mk (by kernel_rfl) ?_
    | ((with_reducible apply conN_mk2 ?_ (c1) ?_);(first | (focus exact ⟨⟨rfl, rfl, rfl, rfl, rfl, trivial⟩, trivial⟩)); skip)
    | ((with_reducible apply call_con2 ?_ (c1) ?_);(first | (focus exact ⟨⟨rfl, rfl, rfl, rfl, rfl, trivial⟩, trivial⟩)); rintro _ _ _ ⟨rfl, rfl, rfl⟩)
    | ((with_reducible apply conN_mk2 ?_ (c2) ?_);(first | (focus exact ⟨⟨rfl, rfl, rfl, rfl, rfl, trivial⟩, ⟨rfl, rfl, trivial⟩, trivial⟩)); skip)
    | ((with_reducible apply call_con2 ?_ (c2) ?_);(first | (focus exact ⟨⟨rfl, rfl, rfl, rfl, rfl, trivial⟩, ⟨rfl, rfl, trivial⟩, trivial⟩)); rintro _ _ _ ⟨rfl, rfl, rfl⟩)
    | ((with_reducible apply conN_mk2 ?_ (c3) ?_);(first | (focus exact ⟨⟨rfl, rfl, rfl, rfl, rfl, trivial⟩, ⟨rfl, rfl, trivial⟩, rfl, trivial⟩)); skip)
    | ((with_reducible apply call_con2 ?_ (c3) ?_);(first | (focus exact ⟨⟨rfl, rfl, rfl, rfl, rfl, trivial⟩, ⟨rfl, rfl, trivial⟩, rfl, trivial⟩)); rintro _ _ _ ⟨rfl, rfl, rfl⟩))
  all_goals (try (conv => whnf))
  all_goals try (exfalso; (try simp only [List.length_map] at *); omega)
  all_goals (refine loop_rule tabOk (fun q : Nat × Int × Int × List Int => ⟨[(35, .val (.int .i64 (q.1 : Int))), (34, .val (.int .i64 ((l.map eI).length : Nat))), (33, .c (.ro false 1 (l.map eI))), (9, .c (.gsl 3 (q.2.2.2.map cI))), (6, .c (.own 2 0 0)), (4, .c (.own 1 0 0)), (3, .c (.own 0 0 0))], [(0, some ⟨[[.v (.int .i64 t), .v (.int .i64 w), .ro false 1 (ins.map eI), .v (.int .i64 a), .v (.int .i64 b)]], 5, 27, true⟩), (1, some ⟨[[.v (.int .i64 q.2.1), .v (.int .i64 q.2.2.1)]], 2, 29, true⟩), (2, some ⟨[[.v (.int .i64 0), .v (.int .i64 0)]], 2, 29, true⟩), (3, gB 1 2 (q.2.2.2.map cI))], 4⟩) (fun q => q.1 ≤ l.length ∧ ((q.2.1, q.2.2.1), q.2.2.2) = fs t a b (c, s) (l.take q.1) ∧ q.2.1 ≤ 9223372036854775807 ∧ ∀ j, j < q.1 → (fs t a b (c, s) (l.take j)).1.1 ≠ 9223372036854775807) (fun q => l.length - q.1) (0, c, s, []) ⟨Nat.zero_le _, rfl, hc, fun j hj => absurd hj (Nat.not_lt_zero _)⟩ (Stp.trans (Stp.nilg 9 77 rfl (Nat.zero_le _)) (Wk.stp (l := [0, 1, 2, 77]) ⟨rfl, by decide, rfl, Nat.zero_le _, ⟨rfl, rfl, rfl, rfl, rfl, rfl, rfl, trivial⟩, ⟨fun b hb => by cases hb; rfl, fun b hb => by cases hb; rfl, fun b hb => by cases hb; rfl, fun b hb => (by cases hb), trivial⟩⟩)) ?_)
  all_goals rintro ⟨i, c1, s1, acc⟩ ⟨hi2, hq, hb1, hno⟩
  all_goals dsimp only at hi2 hq hb1 hno ⊢
  all_goals have hf1 := fit_at ht hf hq
  all_goals have hal := acc_at hl hq
  repeat' ((conv => whnf); first
    | with_reducible refine spB_t ?_
    | ((with_reducible apply spB_cong); (focus (simp only [beq_self_eq_true, bne_self_eq_false, Bool.true_bne, Bool.false_bne, Bool.bne_true, Bool.bne_false, Bool.true_beq, Bool.false_beq, Bool.not_true, Bool.not_false, Bool.not_not, Int.reduceBEq, Int.reduceBNe, Int.reduceLE, Int.reduceLT, Int.reduceEq, decide_true, decide_false]; rfl)))
    | with_reducible refine spB_yes (by decide) ?_
    | with_reducible refine spB_no (by decide) ?_
    | with_reducible refine spB_f ?_
    | with_reducible refine spB_not ?_
    | with_reducible refine spB_yes (by assumption) ?_
    | with_reducible refine spB_no (by assumption) ?_
    | (with_reducible refine spB_dec ?_ ?_ <;> intro _ <;> (try (exfalso; first | contradiction | omega | (rename_i hz; with_reducible exact absurd rfl hz))))
    | (with_reducible refine spB_beq ?_ ?_ <;> intro _ <;> (try (exfalso; first | contradiction | omega | (rename_i hz; with_reducible exact absurd rfl hz))))
    | (with_reducible refine spB_bne ?_ ?_ <;> intro _ <;> (try (exfalso; first | contradiction | omega | (rename_i hz; with_reducible exact absurd rfl hz))))
    | (with_reducible refine spB_mk ?_ ?_ <;> intro _ <;> (try (exfalso; first | contradiction | omega | (rename_i hz; with_reducible exact absurd rfl hz))))
    | ((with_reducible refine posE_pos ?_ ?_); (focus ((try simp only [List.length_replicate, List.length_map, List.length_append, List.length_nil, List.length_cons, maxLen] at *); omega)))
    | ((with_reducible refine posE_nil ?_ ?_); (focus rfl))
    | ((with_reducible apply rowN_mk); (focus rfl))
    | ((with_reducible refine ixN_mk 0 ?_ ?_ ?_); (focus rfl); (focus (exact Nat.le_of_ble_eq_true rfl)))
    | ((with_reducible refine ixN_mk 1 ?_ ?_ ?_); (focus rfl); (focus (exact Nat.le_of_ble_eq_true rfl)))
    | ((with_reducible refine ixN_mk 2 ?_ ?_ ?_); (focus rfl); (focus (exact Nat.le_of_ble_eq_true rfl)))
    | ((with_reducible refine ixN_mk 3 ?_ ?_ ?_); (focus rfl); (focus (exact Nat.le_of_ble_eq_true rfl)))
    | ((with_reducible refine ixN_mk 4 ?_ ?_ ?_); (focus rfl); (focus (exact Nat.le_of_ble_eq_true rfl)))
    | ((with_reducible refine ixN_mk 5 ?_ ?_ ?_); (focus rfl); (focus (exact Nat.le_of_ble_eq_true rfl)))
    | ((with_reducible refine ixN_mk 6 ?_ ?_ ?_); (focus rfl); (focus (exact Nat.le_of_ble_eq_true rfl)))
    | ((with_reducible refine ixN_mk 7 ?_ ?_ ?_); (focus rfl); (focus (exact Nat.le_of_ble_eq_true rfl)))
    | ((with_reducible refine eqN_mk2 ?_ ?_); (focus rfl))
    | ((with_reducible refine posN_mk2 ?_ ?_); (focus (first | decide | ((try simp only [List.length_replicate, List.length_map, List.length_append, List.length_nil, List.length_cons, maxLen] at *); omega))))
    | ((with_reducible refine apdN.mk ?_ ?_ ?_ ?_ ?_ ?_); (focus (first | rfl | (simp; done))); (focus (first | exact one_all (by rfl) | exact one_map (fun _ => rfl) | exact one_map2 (fun _ => rfl))); (focus ((try simp only [List.length_replicate, List.length_map, List.length_append, List.length_nil, List.length_cons, maxLen] at *); omega)); (focus ((try simp only [List.length_replicate, List.length_map, List.length_append, List.length_nil, List.length_cons, maxLen] at *); omega)); (focus ((try simp only [List.length_replicate, List.length_map, List.length_append, List.length_nil, List.length_cons, maxLen] at *); omega)))
    | ((with_reducible refine cpyN.mk ?_ ?_ ?_ ?_); (focus (first | rfl | (simp; done))); (focus (first | exact one_all (by rfl) | exact one_map (fun _ => rfl) | exact one_map2 (fun _ => rfl))); (focus ((try simp only [List.length_replicate, List.length_map, List.length_append, List.length_nil, List.length_cons, maxLen] at *); omega)))
    | with_reducible refine wr_i64 (by first | omega | (simp only [List.length_map] at *; omega)) ?_
    | with_reducible refine wr_u64 (by omega) ?_
    | with_reducible refine wr_u8 (by omega) ?_
    | with_reducible refine wr_u32 (by omega) ?_
    | with_reducible refine wr_mk _ rfl ?_
    | ((with_reducible refine ixN_nat ?_ ?_); (focus ((try simp only [List.length_map] at *); omega)))
    | ((with_reducible refine rowN_map ?_ ?_); (focus ((try simp only [List.length_map] at *); omega)); intro x hx; obtain ⟨hm, c3⟩ | ⟨hm, hst, c3⟩ | ⟨hm, y, hst, c3⟩ := rdo_any t w a b c1 s1 x ins hi hb1 hok hf1)
    | ((with_reducible refine ixN_mk 0 ?_ ?_ ?_); (focus rfl); (focus decide))
    | ((with_reducible refine ixN_mk 1 ?_ ?_ ?_); (focus rfl); (focus decide))
    | ((with_reducible refine ixN_mk 2 ?_ ?_ ?_); (focus rfl); (focus decide))
    | ((with_reducible refine ixN_mk 3 ?_ ?_ ?_); (focus rfl); (focus decide))
    | ((with_reducible refine ixN_mk 4 ?_ ?_ ?_); (focus rfl); (focus decide))
    | ((with_reducible refine ixN_mk 5 ?_ ?_ ?_); (focus rfl); (focus decide))
    | ((with_reducible refine ixN_mk 6 ?_ ?_ ?_); (focus rfl); (focus decide))
    | ((with_reducible refine ixN_mk 7 ?_ ?_ ?_); (focus rfl); (focus decide))
    | ((with_reducible refine posE_nil (by rfl) ?_))
    | ((with_reducible refine posE_pos (by decide) ?_))
    | with_reducible refine vN_mod (by omega) ?_
    | with_reducible refine vN_mk ?_
    | with_reducible refine nzN_mk (by omega) ?_
    | with_reducible refine eqN_dec (by omega) ?_
    | with_reducible refine draw_rule tabOk mixOk ?_
    | with_reducible refine apN_mk (by kernel_rfl) ?_
    | ((with_reducible apply conN_mk2 ?_ (c1) ?_);(first | (focus exact ⟨⟨rfl, rfl, rfl, rfl, rfl, trivial⟩, trivial⟩)); skip)
    | ((with_reducible apply call_con2 ?_ (c1) ?_);(first | (focus exact ⟨⟨rfl, rfl, rfl, rfl, rfl, trivial⟩, trivial⟩)); rintro _ _ _ ⟨rfl, rfl, rfl⟩)
    | ((with_reducible apply conN_mk2 ?_ (c2) ?_);(first | (focus exact ⟨⟨rfl, rfl, rfl, rfl, rfl, trivial⟩, ⟨rfl, rfl, trivial⟩, trivial⟩)); skip)
    | ((with_reducible apply call_con2 ?_ (c2) ?_);(first | (focus exact ⟨⟨rfl, rfl, rfl, rfl, rfl, trivial⟩, ⟨rfl, rfl, trivial⟩, trivial⟩)); rintro _ _ _ ⟨rfl, rfl, rfl⟩)
    | ((with_reducible apply conN_mk2 ?_ (c3) ?_);(first | (focus exact ⟨⟨rfl, rfl, rfl, rfl, rfl, trivial⟩, ⟨rfl, rfl, trivial⟩, rfl, trivial⟩)); skip)
    | ((with_reducible apply call_con2 ?_ (c3) ?_);(first | (focus exact ⟨⟨rfl, rfl, rfl, rfl, rfl, trivial⟩, ⟨rfl, rfl, trivial⟩, rfl, trivial⟩)); rintro _ _ _ ⟨rfl, rfl, rfl⟩))
  all_goals (try (conv => whnf))
  all_goals first
    | (refine ⟨⟨(i + 1, (stp t a b (c1, s1) x).1.1, (stp t a b (c1, s1) x).1.2, acc), ⟨by (try simp only [List.length_map] at *); omega, ?_, ?_, ?_⟩, by (try simp only [List.length_map] at *); (try dsimp only); omega, (Wk.stp (l := [0, 1, 2, 3]) ⟨rfl, by decide, rfl, Nat.zero_le _, ⟨rfl, rfl, rfl, rfl, rfl, rfl, rfl, trivial⟩, ⟨fun b hb => by cases hb; rfl, fun b hb => by cases hb; rfl, fun b hb => by cases hb; rfl, (gB_sub rfl rfl (ren_map fun _ => rfl)), trivial⟩⟩)⟩⟩
       · dsimp only; rw [fs_step hx, ← hq]; dsimp only; rw [hst]; (try rfl); (try (rw [List.append_nil]; done))
       · exact fit_le ht hf1 hb1 hm
       · exact no_step hno hq hm)
    | (refine ⟨⟨(i + 1, (stp t a b (c1, s1) x).1.1, (stp t a b (c1, s1) x).1.2, acc ++ [y]), ⟨by (try simp only [List.length_map] at *); omega, ?_, ?_, ?_⟩, by (try simp only [List.length_map] at *); (try dsimp only); omega, (Wk.stp (l := [0, 1, 2, 3]) ⟨rfl, by decide, rfl, Nat.zero_le _, ⟨rfl, rfl, rfl, (by rw [List.map_append]; rfl), rfl, rfl, rfl, trivial⟩, ⟨fun b hb => by cases hb; rfl, fun b hb => by cases hb; rfl, fun b hb => by cases hb; rfl, (gB_sub' rfl (by rw [List.map_append]; rfl) (ren_map fun _ => rfl)), trivial⟩⟩)⟩⟩
       · dsimp only; rw [fs_step hx, ← hq]; dsimp only; rw [hst]; (try rfl); (try (rw [List.append_nil]; done))
       · exact fit_le ht hf1 hb1 hm
       · exact no_step hno hq hm)
    | (refine ⟨⟨(i + 1, (stp t a b (c1, s1) x).1.1, (stp t a b (c1, s1) x).1.2, acc ++ [y]), ⟨by (try simp only [List.length_map] at *); omega, ?_, ?_, ?_⟩, by (try simp only [List.length_map] at *); (try dsimp only); omega, (Wk.stp (l := [0, 1, 2, 4]) ⟨rfl, by decide, rfl, Nat.zero_le _, ⟨rfl, rfl, rfl, (by rw [List.map_append]; rfl), rfl, rfl, rfl, trivial⟩, ⟨fun b hb => by cases hb; rfl, fun b hb => by cases hb; rfl, fun b hb => by cases hb; rfl, (gB_sub' rfl (by rw [List.map_append]; rfl) (ren_map fun _ => rfl)), trivial⟩⟩)⟩⟩
       · dsimp only; rw [fs_step hx, ← hq]; dsimp only; rw [hst]; (try rfl); (try (rw [List.append_nil]; done))
       · exact fit_le ht hf1 hb1 hm
       · exact no_step hno hq hm)
    | (refine ⟨⟨(i + 1, (stp t a b (c1, s1) x).1.1, (stp t a b (c1, s1) x).1.2, acc ++ [y]), ⟨by (try simp only [List.length_map] at *); omega, ?_, ?_, ?_⟩, by (try simp only [List.length_map] at *); (try dsimp only); omega, (Wk.stp (l := [0, 1, 2, 5]) ⟨rfl, by decide, rfl, Nat.zero_le _, ⟨rfl, rfl, rfl, (by rw [List.map_append]; rfl), rfl, rfl, rfl, trivial⟩, ⟨fun b hb => by cases hb; rfl, fun b hb => by cases hb; rfl, fun b hb => by cases hb; rfl, (gB_sub' rfl (by rw [List.map_append]; rfl) (ren_map fun _ => rfl)), trivial⟩⟩)⟩⟩
       · dsimp only; rw [fs_step hx, ← hq]; dsimp only; rw [hst]; (try rfl); (try (rw [List.append_nil]; done))
       · exact fit_le ht hf1 hb1 hm
       · exact no_step hno hq hm)
    | (refine ⟨⟨(i + 1, (stp t a b (c1, s1) x).1.1, (stp t a b (c1, s1) x).1.2, acc ++ [y]), ⟨by (try simp only [List.length_map] at *); omega, ?_, ?_, ?_⟩, by (try simp only [List.length_map] at *); (try dsimp only); omega, (Wk.stp (l := [0, 1, 2, 6]) ⟨rfl, by decide, rfl, Nat.zero_le _, ⟨rfl, rfl, rfl, (by rw [List.map_append]; rfl), rfl, rfl, rfl, trivial⟩, ⟨fun b hb => by cases hb; rfl, fun b hb => by cases hb; rfl, fun b hb => by cases hb; rfl, (gB_sub' rfl (by rw [List.map_append]; rfl) (ren_map fun _ => rfl)), trivial⟩⟩)⟩⟩
       · dsimp only; rw [fs_step hx, ← hq]; dsimp only; rw [hst]; (try rfl); (try (rw [List.append_nil]; done))
       · exact fit_le ht hf1 hb1 hm
       · exact no_step hno hq hm)
    | (refine ⟨⟨(i + 1, (stp t a b (c1, s1) x).1.1, (stp t a b (c1, s1) x).1.2, acc ++ [y]), ⟨by (try simp only [List.length_map] at *); omega, ?_, ?_, ?_⟩, by (try simp only [List.length_map] at *); (try dsimp only); omega, (Wk.stp (l := [0, 1, 2, 7]) ⟨rfl, by decide, rfl, Nat.zero_le _, ⟨rfl, rfl, rfl, (by rw [List.map_append]; rfl), rfl, rfl, rfl, trivial⟩, ⟨fun b hb => by cases hb; rfl, fun b hb => by cases hb; rfl, fun b hb => by cases hb; rfl, (gB_sub' rfl (by rw [List.map_append]; rfl) (ren_map fun _ => rfl)), trivial⟩⟩)⟩⟩
       · dsimp only; rw [fs_step hx, ← hq]; dsimp only; rw [hst]; (try rfl); (try (rw [List.append_nil]; done))
       · exact fit_le ht hf1 hb1 hm
       · exact no_step hno hq hm)
    | (refine ⟨⟨(i + 1, (stp t a b (c1, s1) x).1.1, (stp t a b (c1, s1) x).1.2, acc ++ [y]), ⟨by (try simp only [List.length_map] at *); omega, ?_, ?_, ?_⟩, by (try simp only [List.length_map] at *); (try dsimp only); omega, (Wk.stp (l := [0, 1, 2, 8]) ⟨rfl, by decide, rfl, Nat.zero_le _, ⟨rfl, rfl, rfl, (by rw [List.map_append]; rfl), rfl, rfl, rfl, trivial⟩, ⟨fun b hb => by cases hb; rfl, fun b hb => by cases hb; rfl, fun b hb => by cases hb; rfl, (gB_sub' rfl (by rw [List.map_append]; rfl) (ren_map fun _ => rfl)), trivial⟩⟩)⟩⟩
       · dsimp only; rw [fs_step hx, ← hq]; dsimp only; rw [hst]; (try rfl); (try (rw [List.append_nil]; done))
       · exact fit_le ht hf1 hb1 hm
       · exact no_step hno hq hm)
    | (refine ret0 _ rfl _ rfl (fun _ => rfl) rfl (.inl ⟨⟨i, by (try simp only [List.length_map] at *); omega, by rw [← hq]; exact hm⟩, rfl, rfl, rfl⟩))
    | (have hend : i = l.length := by (try simp only [List.length_map] at *); omega
       subst hend
       rw [List.take_length] at hq
       refine ret_stp (Stp.fzg 7 3 (acc.map cI) rfl 1 2 rfl (acc.map eI) (by simp only [List.map_map]; rfl) (Nat.zero_le _)) ?_
       refine ret0 _ rfl _ rfl (fun _ => rfl) rfl (.inr ⟨hno, ?_, rfl, rfl⟩)
       rw [← hq]; rfl)
    | (trace_state; sorry)
end Go.Proofs.Ytibjpohankaoeaa
