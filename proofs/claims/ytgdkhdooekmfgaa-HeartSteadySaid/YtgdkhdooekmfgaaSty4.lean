import Derived.Test.YtgdkhdooekmfgaaSty3
import Derived.Test.YtgdkhdooekmfgaaWakes
namespace Go.Proofs.Ytgdkhdooekmfgaa
open Go Go.RowKit Wx
set_option linter.unusedVariables false
set_option linter.unusedSimpArgs false
set_option maxHeartbeats 4000000
theorem eq1_con (w : Int) : Con Try.prog 25 [.one (.ro false 1 [[.v (.int .i64 w)]]), .one (.ro false 1 [eN w])] (fun rx rK rt => rx = .val (.bool true) ∧ rK = [] ∧ rt = 0) := by
  refine con_of tabOk 26 Try.f25 _ Try.func25 (by kernel_rfl) rfl rfl rfl rfl (fun W => ?_)
  repeat' ((conv => whnf); first
    | with_reducible refine spB_t ?_
    | ((with_reducible apply spB_cong); (focus (simp only [beq_self_eq_true, bne_self_eq_false, Bool.true_bne, Bool.false_bne, Bool.bne_true, Bool.bne_false, Bool.true_beq, Bool.false_beq, Bool.not_true, Bool.not_false, Bool.not_not, Int.reduceBEq, Int.reduceBNe, Int.reduceLE, Int.reduceLT, Int.reduceEq, decide_true, decide_false, List.length_cons, List.length_nil]; rfl)))
    | with_reducible refine spB_yes (by decide) ?_
    | with_reducible refine spB_no (by decide) ?_
    | with_reducible refine spB_f ?_
    | with_reducible refine spB_not ?_
    | with_reducible refine spB_yes (by assumption) ?_
    | with_reducible refine spB_no (by assumption) ?_
    | (with_reducible refine spB_dec ?_ ?_ <;> intro _ <;> (try (exfalso; first | contradiction | omega | (rename_i hz; with_reducible exact absurd rfl hz))))
    | (with_reducible refine spB_beq ?_ ?_ <;> intro _ <;> (try (exfalso; first | contradiction | omega | (rename_i hz; with_reducible exact absurd rfl hz))))
    | (with_reducible refine spB_bne ?_ ?_ <;> intro _ <;> (try (exfalso; first | contradiction | omega | (rename_i hz; with_reducible exact absurd rfl hz))))
    | (with_reducible refine spB_mk ?_ ?_ <;> intro _ <;> (try (exfalso; first | contradiction | omega | (rename_i hz; with_reducible exact absurd rfl hz))))
    | ((with_reducible apply rowN_mk); (focus rfl))
    | ((with_reducible refine ixN_mk 0 ?_ ?_ ?_); (focus rfl); (focus (exact Nat.le_of_ble_eq_true rfl)))
    | ((with_reducible refine ixN_mk 1 ?_ ?_ ?_); (focus rfl); (focus (exact Nat.le_of_ble_eq_true rfl)))
    | ((with_reducible refine ixN_mk 2 ?_ ?_ ?_); (focus rfl); (focus (exact Nat.le_of_ble_eq_true rfl)))
    | ((with_reducible refine ixN_mk 3 ?_ ?_ ?_); (focus rfl); (focus (exact Nat.le_of_ble_eq_true rfl)))
    | ((with_reducible refine ixN_mk 4 ?_ ?_ ?_); (focus rfl); (focus (exact Nat.le_of_ble_eq_true rfl)))
    | ((with_reducible refine ixN_mk 5 ?_ ?_ ?_); (focus rfl); (focus (exact Nat.le_of_ble_eq_true rfl)))
    | ((with_reducible refine ixN_mk 6 ?_ ?_ ?_); (focus rfl); (focus (exact Nat.le_of_ble_eq_true rfl)))
    | ((with_reducible refine ixN_mk 7 ?_ ?_ ?_); (focus rfl); (focus (exact Nat.le_of_ble_eq_true rfl)))
    | ((with_reducible refine eqN_mk2 ?_ ?_); (focus rfl))
    | ((with_reducible refine posN_mk2 ?_ ?_); (focus (first | decide | ((try simp only [List.length_replicate, List.length_map, List.length_append, List.length_nil, List.length_cons, maxLen] at *); omega))))
    | ((with_reducible refine apdN.mk ?_ ?_ ?_ ?_ ?_ ?_); (focus (first | rfl | (simp; done))); (focus (first | exact one_all (by rfl) | exact one_map (fun _ => rfl) | exact one_map2 (fun _ => rfl))); (focus ((try simp only [List.length_replicate, List.length_map, List.length_append, List.length_nil, List.length_cons, maxLen] at *); omega)); (focus ((try simp only [List.length_replicate, List.length_map, List.length_append, List.length_nil, List.length_cons, maxLen] at *); omega)); (focus ((try simp only [List.length_replicate, List.length_map, List.length_append, List.length_nil, List.length_cons, maxLen] at *); omega)))
    | ((with_reducible refine cpyN.mk ?_ ?_ ?_ ?_); (focus (first | rfl | (simp; done))); (focus (first | exact one_all (by rfl) | exact one_map (fun _ => rfl) | exact one_map2 (fun _ => rfl))); (focus ((try simp only [List.length_replicate, List.length_map, List.length_append, List.length_nil, List.length_cons, maxLen] at *); omega)))
    | with_reducible refine wr_i64 (by first | omega | (simp only [List.length_map] at *; omega)) ?_
    | with_reducible refine wr_u64 (by omega) ?_
    | with_reducible refine wr_u8 (by omega) ?_
    | with_reducible refine wr_u32 (by omega) ?_
    | with_reducible refine wr_mk _ rfl ?_
    | ((with_reducible refine ixN_nat ?_ ?_); (focus ((try simp only [List.length_map] at *); omega)))
    | ((with_reducible refine rowN_map ?_ ?_); (focus ((try simp only [List.length_map] at *); omega)); intro x hx)
    | ((with_reducible refine ixN_mk 0 ?_ ?_ ?_); (focus rfl); (focus decide))
    | ((with_reducible refine ixN_mk 1 ?_ ?_ ?_); (focus rfl); (focus decide))
    | ((with_reducible refine ixN_mk 2 ?_ ?_ ?_); (focus rfl); (focus decide))
    | ((with_reducible refine ixN_mk 3 ?_ ?_ ?_); (focus rfl); (focus decide))
    | ((with_reducible refine ixN_mk 4 ?_ ?_ ?_); (focus rfl); (focus decide))
    | ((with_reducible refine ixN_mk 5 ?_ ?_ ?_); (focus rfl); (focus decide))
    | ((with_reducible refine ixN_mk 6 ?_ ?_ ?_); (focus rfl); (focus decide))
    | ((with_reducible refine ixN_mk 7 ?_ ?_ ?_); (focus rfl); (focus decide))
    | ((with_reducible refine posE_nil (by rfl) ?_))
    | ((with_reducible refine posE_pos (by decide) ?_))
    | with_reducible refine vN_mod (by omega) ?_
    | with_reducible refine vN_mk ?_
    | with_reducible refine nzN_mk (by omega) ?_
    | with_reducible refine eqN_dec (by omega) ?_
    | with_reducible refine draw_rule tabOk mixOk ?_
    | with_reducible refine apN_mk (by kernel_rfl) ?_)
  all_goals (try (conv => whnf))
  refine loop_unroll tabOk 3 ?_
  repeat' ((conv => whnf); first
    | with_reducible refine spB_t ?_
    | ((with_reducible apply spB_cong); (focus (simp only [beq_self_eq_true, bne_self_eq_false, Bool.true_bne, Bool.false_bne, Bool.bne_true, Bool.bne_false, Bool.true_beq, Bool.false_beq, Bool.not_true, Bool.not_false, Bool.not_not, Int.reduceBEq, Int.reduceBNe, Int.reduceLE, Int.reduceLT, Int.reduceEq, decide_true, decide_false]; rfl)))
    | with_reducible refine spB_yes (by decide) ?_
    | with_reducible refine spB_no (by decide) ?_
    | with_reducible refine spB_f ?_
    | with_reducible refine spB_not ?_
    | with_reducible refine spB_yes (by assumption) ?_
    | with_reducible refine spB_no (by assumption) ?_
    | (with_reducible refine spB_dec ?_ ?_ <;> intro _ <;> (try (exfalso; first | contradiction | omega | (simp only [List.length_cons, List.length_nil] at *; omega))))
    | (with_reducible refine spB_beq ?_ ?_ <;> intro _ <;> (try (exfalso; first | contradiction | omega | (simp only [List.length_cons, List.length_nil] at *; omega))))
    | (with_reducible refine spB_bne ?_ ?_ <;> intro _ <;> (try (exfalso; first | contradiction | omega | (simp only [List.length_cons, List.length_nil] at *; omega))))
    | (with_reducible refine spB_mk ?_ ?_ <;> intro _ <;> (try (exfalso; first | contradiction | omega | (simp only [List.length_cons, List.length_nil] at *; omega))))
    | ((with_reducible apply rowN_mk); (focus rfl))
    | ((with_reducible refine ixN_mk 0 ?_ ?_ ?_); (focus rfl); (focus (exact Nat.le_of_ble_eq_true rfl)))
    | ((with_reducible refine ixN_mk 1 ?_ ?_ ?_); (focus rfl); (focus (exact Nat.le_of_ble_eq_true rfl)))
    | ((with_reducible refine ixN_mk 2 ?_ ?_ ?_); (focus rfl); (focus (exact Nat.le_of_ble_eq_true rfl)))
    | ((with_reducible refine ixN_mk 3 ?_ ?_ ?_); (focus rfl); (focus (exact Nat.le_of_ble_eq_true rfl)))
    | ((with_reducible refine ixN_mk 4 ?_ ?_ ?_); (focus rfl); (focus (exact Nat.le_of_ble_eq_true rfl)))
    | ((with_reducible refine ixN_mk 5 ?_ ?_ ?_); (focus rfl); (focus (exact Nat.le_of_ble_eq_true rfl)))
    | ((with_reducible refine ixN_mk 6 ?_ ?_ ?_); (focus rfl); (focus (exact Nat.le_of_ble_eq_true rfl)))
    | ((with_reducible refine ixN_mk 7 ?_ ?_ ?_); (focus rfl); (focus (exact Nat.le_of_ble_eq_true rfl)))
    | ((with_reducible refine eqN_mk2 ?_ ?_); (focus rfl))
    | ((with_reducible refine posN_mk2 ?_ ?_); (focus (first | decide | ((try simp only [List.length_replicate, List.length_map, List.length_append, List.length_nil, List.length_cons, maxLen] at *); omega))))
    | ((with_reducible refine apdN.mk ?_ ?_ ?_ ?_ ?_ ?_); (focus (first | rfl | (simp; done))); (focus (first | exact one_all (by rfl) | exact one_map (fun _ => rfl) | exact one_map2 (fun _ => rfl))); (focus ((try simp only [List.length_replicate, List.length_map, List.length_append, List.length_nil, List.length_cons, maxLen] at *); omega)); (focus ((try simp only [List.length_replicate, List.length_map, List.length_append, List.length_nil, List.length_cons, maxLen] at *); omega)); (focus ((try simp only [List.length_replicate, List.length_map, List.length_append, List.length_nil, List.length_cons, maxLen] at *); omega)))
    | ((with_reducible refine cpyN.mk ?_ ?_ ?_ ?_); (focus (first | rfl | (simp; done))); (focus (first | exact one_all (by rfl) | exact one_map (fun _ => rfl) | exact one_map2 (fun _ => rfl))); (focus ((try simp only [List.length_replicate, List.length_map, List.length_append, List.length_nil, List.length_cons, maxLen] at *); omega)))
    | with_reducible refine wr_i64 (by first | omega | (simp only [List.length_map] at *; omega)) ?_
    | with_reducible refine wr_u64 (by omega) ?_
    | with_reducible refine wr_u8 (by omega) ?_
    | with_reducible refine wr_u32 (by omega) ?_
    | with_reducible refine wr_mk _ rfl ?_
    | ((with_reducible refine ixN_nat ?_ ?_); (focus ((try simp only [List.length_map] at *); omega)))
    | ((with_reducible refine rowN_map ?_ ?_); (focus ((try simp only [List.length_map] at *); omega)); intro x hx)
    | ((with_reducible refine ixN_mk 0 ?_ ?_ ?_); (focus rfl); (focus decide))
    | ((with_reducible refine ixN_mk 1 ?_ ?_ ?_); (focus rfl); (focus decide))
    | ((with_reducible refine ixN_mk 2 ?_ ?_ ?_); (focus rfl); (focus decide))
    | ((with_reducible refine ixN_mk 3 ?_ ?_ ?_); (focus rfl); (focus decide))
    | ((with_reducible refine ixN_mk 4 ?_ ?_ ?_); (focus rfl); (focus decide))
    | ((with_reducible refine ixN_mk 5 ?_ ?_ ?_); (focus rfl); (focus decide))
    | ((with_reducible refine ixN_mk 6 ?_ ?_ ?_); (focus rfl); (focus decide))
    | ((with_reducible refine ixN_mk 7 ?_ ?_ ?_); (focus rfl); (focus decide))
    | ((with_reducible refine posE_nil (by rfl) ?_))
    | ((with_reducible refine posE_pos (by decide) ?_))
    | with_reducible refine vN_mod (by omega) ?_
    | with_reducible refine vN_mk ?_
    | with_reducible refine nzN_mk (by omega) ?_
    | with_reducible refine eqN_dec (by omega) ?_
    | with_reducible refine draw_rule tabOk mixOk ?_
    | with_reducible refine apN_mk (by kernel_rfl) ?_)
  all_goals (try (conv => whnf))
  all_goals first | (show Nat.ble _ _ = true; rfl) | (refine ret0 _ rfl _ rfl (fun _ => rfl) rfl ⟨?_, rfl, rfl⟩; rfl) | (trace_state; sorry)
theorem steady_con (sp0 w0 : Int) (ws : List Int) (hl : ws.length ≤ 9223372036854775807) : Con Try.prog 6 [.one (.v (.int .i64 sp0)), .one (.v (.int .i64 w0)), .one (.ro false 1 (ws.map eN))] (fun rx rK rt => rx = .val (.bool true) ∧ rK = [] ∧ rt = 0) := by
  refine con_of tabOk 141 Try.f6 _ Try.func6 (by kernel_rfl) rfl rfl rfl rfl (fun W => ?_)
  repeat' ((conv => whnf); first
    | with_reducible refine spB_t ?_
    | ((with_reducible apply spB_cong); (focus (simp only [beq_self_eq_true, bne_self_eq_false, Bool.true_bne, Bool.false_bne, Bool.bne_true, Bool.bne_false, Bool.true_beq, Bool.false_beq, Bool.not_true, Bool.not_false, Bool.not_not, Int.reduceBEq, Int.reduceBNe, Int.reduceLE, Int.reduceLT, Int.reduceEq, decide_true, decide_false]; rfl)))
    | with_reducible refine spB_yes (by decide) ?_
    | with_reducible refine spB_no (by decide) ?_
    | with_reducible refine spB_f ?_
    | with_reducible refine spB_not ?_
    | with_reducible refine spB_yes (by assumption) ?_
    | with_reducible refine spB_no (by assumption) ?_
    | (with_reducible refine spB_dec ?_ ?_ <;> intro _ <;> (try (exfalso; first | contradiction | omega | (rename_i hz; with_reducible exact absurd rfl hz))))
    | (with_reducible refine spB_beq ?_ ?_ <;> intro _ <;> (try (exfalso; first | contradiction | omega | (rename_i hz; with_reducible exact absurd rfl hz))))
    | (with_reducible refine spB_bne ?_ ?_ <;> intro _ <;> (try (exfalso; first | contradiction | omega | (rename_i hz; with_reducible exact absurd rfl hz))))
    | (with_reducible refine spB_mk ?_ ?_ <;> intro _ <;> (try (exfalso; first | contradiction | omega | (rename_i hz; with_reducible exact absurd rfl hz))))
    | ((with_reducible refine vN_tm0 ?_ ?_ ?_); (focus (first | omega | exact wrap_u64_nn _)); (focus omega); intro rr hr1 hr2)
    | ((with_reducible refine vN_tm ?_ ?_); (focus omega); intro rr hr1 hr2)
    | ((with_reducible apply rowN_mk); (focus rfl))
    | ((with_reducible refine ixN_mk 0 ?_ ?_ ?_); (focus rfl); (focus (exact Nat.le_of_ble_eq_true rfl)))
    | ((with_reducible refine ixN_mk 1 ?_ ?_ ?_); (focus rfl); (focus (exact Nat.le_of_ble_eq_true rfl)))
    | ((with_reducible refine ixN_mk 2 ?_ ?_ ?_); (focus rfl); (focus (exact Nat.le_of_ble_eq_true rfl)))
    | ((with_reducible refine ixN_mk 3 ?_ ?_ ?_); (focus rfl); (focus (exact Nat.le_of_ble_eq_true rfl)))
    | ((with_reducible refine ixN_mk 4 ?_ ?_ ?_); (focus rfl); (focus (exact Nat.le_of_ble_eq_true rfl)))
    | ((with_reducible refine ixN_mk 5 ?_ ?_ ?_); (focus rfl); (focus (exact Nat.le_of_ble_eq_true rfl)))
    | ((with_reducible refine ixN_mk 6 ?_ ?_ ?_); (focus rfl); (focus (exact Nat.le_of_ble_eq_true rfl)))
    | ((with_reducible refine ixN_mk 7 ?_ ?_ ?_); (focus rfl); (focus (exact Nat.le_of_ble_eq_true rfl)))
    | ((with_reducible refine eqN_mk2 ?_ ?_); (focus rfl))
    | ((with_reducible refine posN_mk2 ?_ ?_); (focus (first | decide | ((try simp only [List.length_replicate, List.length_map, List.length_append, List.length_nil, List.length_cons, maxLen] at *); omega))))
    | ((with_reducible refine apdN.mk ?_ ?_ ?_ ?_ ?_ ?_); (focus (first | rfl | (simp; done))); (focus (first | exact one_all (by rfl) | exact one_map (fun _ => rfl) | exact one_map2 (fun _ => rfl))); (focus ((try simp only [List.length_replicate, List.length_map, List.length_append, List.length_nil, List.length_cons, maxLen] at *); omega)); (focus ((try simp only [List.length_replicate, List.length_map, List.length_append, List.length_nil, List.length_cons, maxLen] at *); omega)); (focus ((try simp only [List.length_replicate, List.length_map, List.length_append, List.length_nil, List.length_cons, maxLen] at *); omega)))
    | ((with_reducible refine cpyN.mk ?_ ?_ ?_ ?_); (focus (first | rfl | (simp; done))); (focus (first | exact one_all (by rfl) | exact one_map (fun _ => rfl) | exact one_map2 (fun _ => rfl))); (focus ((try simp only [List.length_replicate, List.length_map, List.length_append, List.length_nil, List.length_cons, maxLen] at *); omega)))
    | with_reducible refine wr_i64 (by first | omega | (simp only [List.length_map] at *; omega)) ?_
    | with_reducible refine wr_u64 (by omega) ?_
    | with_reducible refine wr_u8 (by omega) ?_
    | with_reducible refine wr_u32 (by omega) ?_
    | with_reducible refine wr_mk _ rfl ?_
    | ((with_reducible refine ixN_nat ?_ ?_); (focus ((try simp only [List.length_map] at *); omega)))
    | ((with_reducible refine rowN_map ?_ ?_); (focus ((try simp only [List.length_map] at *); omega)); intro x hx)
    | ((with_reducible refine ixN_mk 0 ?_ ?_ ?_); (focus rfl); (focus decide))
    | ((with_reducible refine ixN_mk 1 ?_ ?_ ?_); (focus rfl); (focus decide))
    | ((with_reducible refine ixN_mk 2 ?_ ?_ ?_); (focus rfl); (focus decide))
    | ((with_reducible refine ixN_mk 3 ?_ ?_ ?_); (focus rfl); (focus decide))
    | ((with_reducible refine ixN_mk 4 ?_ ?_ ?_); (focus rfl); (focus decide))
    | ((with_reducible refine ixN_mk 5 ?_ ?_ ?_); (focus rfl); (focus decide))
    | ((with_reducible refine ixN_mk 6 ?_ ?_ ?_); (focus rfl); (focus decide))
    | ((with_reducible refine ixN_mk 7 ?_ ?_ ?_); (focus rfl); (focus decide))
    | ((with_reducible refine posE_nil (by rfl) ?_))
    | ((with_reducible refine posE_pos (by decide) ?_))
    | with_reducible refine vN_mod (by omega) ?_
    | with_reducible refine vN_mk ?_
    | with_reducible refine nzN_mk (by omega) ?_
    | with_reducible refine eqN_dec (by omega) ?_
    | with_reducible refine draw_rule tabOk mixOk ?_
    | with_reducible refine apN_mk (by kernel_rfl) ?_
    | ((with_reducible apply conN_mk2 ?_ (wakes_con) ?_);(first | (focus exact trivial)); skip)
    | ((with_reducible apply call_con2 ?_ (wakes_con) ?_);(first | (focus exact trivial)); rintro _ _ _ ⟨rfl, rfl, rfl⟩)
    | ((with_reducible apply conN_mk2 ?_ (new_con _ ?_) ?_);(first | (focus exact ⟨rfl, rfl, trivial⟩) | (rotate_left 1; (focus exact ⟨rfl, rfl, trivial⟩))); (focus omega); skip)
    | ((with_reducible apply call_con2 ?_ (new_con _ ?_) ?_);(first | (focus exact ⟨rfl, rfl, trivial⟩) | (rotate_left 1; (focus exact ⟨rfl, rfl, trivial⟩))); (focus omega); rintro _ _ _ ⟨rfl, rfl, rfl⟩))
  all_goals (try (conv => whnf))
  rename_i ra ha1 ha2 rb hb1 hb2
  have hsp : 1 ≤ 1 + rb ∧ 1 + rb ≤ 100 := by omega
  have hw : 1 ≤ 1 + rr ∧ 1 + rr ≤ 4 := by omega
  generalize 1 + rb = sp at *
  generalize 1 + rr = wk at *
  refine loop_rule tabOk (fun q : Nat × Option (Int × Int × Bool) => ⟨[(41, .val (.int .i64 (q.1 : Int))), (40, .val (.int .i64 ((ws.map eN).length : Nat))), (39, .c (.ro false 1 (ws.map eN))), (9, match q.2 with | none => .val (.bool true) | some r => .val (.bool r.2.2)), (7, .c (.own 0 0 0)), (1, .val (.int .i64 wk)), (0, .val (.int .i64 sp))], [(0, match q.2 with | none => some ⟨[[.v (.int .i64 0), .v (.int .i64 sp), .v (.slice none 0 0)]], 3, 24, true⟩ | some r => some ⟨[[.v (.int .i64 r.1), .v (.int .i64 sp), .osl 1 0 1 (some 1)]], 3, 24, true⟩), (1, match q.2 with | none => none | some r => some ⟨[cP ⟨wk, r.2.1, r.2.2⟩], 3, 37, false⟩)], 2⟩) (fun q => q.1 ≤ ws.length ∧ q.1 ≤ 30 ∧ match q.2 with | none => True | some r => 0 ≤ r.2.1 ∧ r.2.1 ≤ r.1 ∧ r.1 ≤ 200 * (q.1 : Int) ∧ (r.2.2 = false → r.1 < r.2.1 + sp)) (fun q => 30 - q.1) (0, none) ⟨Nat.zero_le _, Nat.zero_le _, trivial⟩ (Wk.stp (l := [0, 77]) ⟨rfl, by decide, rfl, Nat.zero_le _, ⟨rfl, rfl, rfl, rfl, rfl, rfl, rfl, trivial⟩, ⟨fun b hb => by cases hb; rfl, fun b hb => (by cases hb), trivial⟩⟩) ?_
  rintro ⟨i, _ | ⟨now, hd, d⟩⟩ ⟨hi1, hi2, hi3⟩ <;> dsimp only at hi1 hi2 hi3 ⊢
  · have hk : okH 0 sp ([] : List Pu) = true := ok0 hsp
    have hk2 : okH 0 sp ([⟨wk, 0, false⟩] : List Pu) = true := okH_one (by omega) hsp hw (by omega) (fun _ => by omega)
    repeat' ((conv => whnf); first
      | with_reducible refine spB_t ?_
      | ((with_reducible apply spB_cong); (focus (simp only [beq_self_eq_true, bne_self_eq_false, Bool.true_bne, Bool.false_bne, Bool.bne_true, Bool.bne_false, Bool.true_beq, Bool.false_beq, Bool.not_true, Bool.not_false, Bool.not_not, Int.reduceBEq, Int.reduceBNe, Int.reduceLE, Int.reduceLT, Int.reduceEq, decide_true, decide_false]; rfl)))
      | with_reducible refine spB_yes (by decide) ?_
      | with_reducible refine spB_no (by decide) ?_
      | with_reducible refine spB_f ?_
      | with_reducible refine spB_not ?_
      | with_reducible refine spB_yes (by assumption) ?_
      | with_reducible refine spB_no (by assumption) ?_
      | (with_reducible refine spB_dec ?_ ?_ <;> intro _ <;> (try (exfalso; first | contradiction | omega | (rename_i hz; with_reducible exact absurd rfl hz))))
      | (with_reducible refine spB_beq ?_ ?_ <;> intro _ <;> (try (exfalso; first | contradiction | omega | (rename_i hz; with_reducible exact absurd rfl hz))))
      | (with_reducible refine spB_bne ?_ ?_ <;> intro _ <;> (try (exfalso; first | contradiction | omega | (rename_i hz; with_reducible exact absurd rfl hz))))
      | (with_reducible refine spB_mk ?_ ?_ <;> intro _ <;> (try (exfalso; first | contradiction | omega | (rename_i hz; with_reducible exact absurd rfl hz))))
      | ((with_reducible refine vN_tm0 ?_ ?_ ?_); (focus (first | omega | exact wrap_u64_nn _)); (focus omega); intro rr hr1 hr2; (try (by_cases hws : rr < sp)))
      | ((with_reducible refine vN_tm ?_ ?_); (focus omega); intro rr hr1 hr2)
      | ((with_reducible apply rowN_mk); (focus rfl))
      | ((with_reducible refine ixN_mk 0 ?_ ?_ ?_); (focus rfl); (focus (exact Nat.le_of_ble_eq_true rfl)))
      | ((with_reducible refine ixN_mk 1 ?_ ?_ ?_); (focus rfl); (focus (exact Nat.le_of_ble_eq_true rfl)))
      | ((with_reducible refine ixN_mk 2 ?_ ?_ ?_); (focus rfl); (focus (exact Nat.le_of_ble_eq_true rfl)))
      | ((with_reducible refine ixN_mk 3 ?_ ?_ ?_); (focus rfl); (focus (exact Nat.le_of_ble_eq_true rfl)))
      | ((with_reducible refine ixN_mk 4 ?_ ?_ ?_); (focus rfl); (focus (exact Nat.le_of_ble_eq_true rfl)))
      | ((with_reducible refine ixN_mk 5 ?_ ?_ ?_); (focus rfl); (focus (exact Nat.le_of_ble_eq_true rfl)))
      | ((with_reducible refine ixN_mk 6 ?_ ?_ ?_); (focus rfl); (focus (exact Nat.le_of_ble_eq_true rfl)))
      | ((with_reducible refine ixN_mk 7 ?_ ?_ ?_); (focus rfl); (focus (exact Nat.le_of_ble_eq_true rfl)))
      | ((with_reducible refine eqN_mk2 ?_ ?_); (focus rfl))
      | ((with_reducible refine posN_mk2 ?_ ?_); (focus (first | decide | ((try simp only [List.length_replicate, List.length_map, List.length_append, List.length_nil, List.length_cons, maxLen] at *); omega))))
      | ((with_reducible refine apdN.mk ?_ ?_ ?_ ?_ ?_ ?_); (focus (first | rfl | (simp; done))); (focus (first | exact one_all (by rfl) | exact one_map (fun _ => rfl) | exact one_map2 (fun _ => rfl))); (focus ((try simp only [List.length_replicate, List.length_map, List.length_append, List.length_nil, List.length_cons, maxLen] at *); omega)); (focus ((try simp only [List.length_replicate, List.length_map, List.length_append, List.length_nil, List.length_cons, maxLen] at *); omega)); (focus ((try simp only [List.length_replicate, List.length_map, List.length_append, List.length_nil, List.length_cons, maxLen] at *); omega)))
      | ((with_reducible refine cpyN.mk ?_ ?_ ?_ ?_); (focus (first | rfl | (simp; done))); (focus (first | exact one_all (by rfl) | exact one_map (fun _ => rfl) | exact one_map2 (fun _ => rfl))); (focus ((try simp only [List.length_replicate, List.length_map, List.length_append, List.length_nil, List.length_cons, maxLen] at *); omega)))
      | with_reducible refine wr_i64 (by first | omega | (simp only [List.length_map] at *; omega)) ?_
      | with_reducible refine wr_u64 (by omega) ?_
      | with_reducible refine wr_u8 (by omega) ?_
      | with_reducible refine wr_u32 (by omega) ?_
      | with_reducible refine wr_mk _ rfl ?_
      | ((with_reducible refine ixN_nat ?_ ?_); (focus ((try simp only [List.length_map] at *); omega)))
      | ((with_reducible refine rowN_map ?_ ?_); (focus ((try simp only [List.length_map] at *); omega)); intro x hx)
      | ((with_reducible refine ixN_mk 0 ?_ ?_ ?_); (focus rfl); (focus decide))
      | ((with_reducible refine ixN_mk 1 ?_ ?_ ?_); (focus rfl); (focus decide))
      | ((with_reducible refine ixN_mk 2 ?_ ?_ ?_); (focus rfl); (focus decide))
      | ((with_reducible refine ixN_mk 3 ?_ ?_ ?_); (focus rfl); (focus decide))
      | ((with_reducible refine ixN_mk 4 ?_ ?_ ?_); (focus rfl); (focus decide))
      | ((with_reducible refine ixN_mk 5 ?_ ?_ ?_); (focus rfl); (focus decide))
      | ((with_reducible refine ixN_mk 6 ?_ ?_ ?_); (focus rfl); (focus decide))
      | ((with_reducible refine ixN_mk 7 ?_ ?_ ?_); (focus rfl); (focus decide))
      | ((with_reducible refine posE_nil (by rfl) ?_))
      | ((with_reducible refine posE_pos (by decide) ?_))
      | with_reducible refine vN_mod (by omega) ?_
      | with_reducible refine vN_mk ?_
      | with_reducible refine nzN_mk (by omega) ?_
      | with_reducible refine eqN_dec (by omega) ?_
      | with_reducible refine draw_rule tabOk mixOk ?_
      | with_reducible refine apN_mk (by kernel_rfl) ?_
      | ((with_reducible apply conN_mk2 ?_ (hear0_con _ _ _ hw hk) ?_);(first | (focus exact ⟨⟨rfl, rfl, .inr ⟨3, rfl⟩, trivial⟩, rfl, trivial⟩) | (rotate_left 1; (focus exact ⟨⟨rfl, rfl, .inr ⟨3, rfl⟩, trivial⟩, rfl, trivial⟩)) | (rotate_left 2; (focus exact ⟨⟨rfl, rfl, .inr ⟨3, rfl⟩, trivial⟩, rfl, trivial⟩)) | (rotate_left 3; (focus exact ⟨⟨rfl, rfl, .inr ⟨3, rfl⟩, trivial⟩, rfl, trivial⟩))); skip)
      | ((with_reducible apply call_con2 ?_ (hear0_con _ _ _ hw hk) ?_);(first | (focus exact ⟨⟨rfl, rfl, .inr ⟨3, rfl⟩, trivial⟩, rfl, trivial⟩) | (rotate_left 1; (focus exact ⟨⟨rfl, rfl, .inr ⟨3, rfl⟩, trivial⟩, rfl, trivial⟩)) | (rotate_left 2; (focus exact ⟨⟨rfl, rfl, .inr ⟨3, rfl⟩, trivial⟩, rfl, trivial⟩)) | (rotate_left 3; (focus exact ⟨⟨rfl, rfl, .inr ⟨3, rfl⟩, trivial⟩, rfl, trivial⟩))); rintro _ _ _ ⟨rfl, rfl, rfl⟩)
      | ((with_reducible apply conN_mk2 ?_ (alive_up _ _ _ _ hk2) ?_);(first | (focus exact ⟨⟨rfl, rfl, (by first | exact ⟨[eP ⟨_, _, _⟩], rfl, rfl, rfl⟩), trivial⟩, trivial⟩) | (rotate_left 1; (focus exact ⟨⟨rfl, rfl, (by first | exact ⟨[eP ⟨_, _, _⟩], rfl, rfl, rfl⟩), trivial⟩, trivial⟩)) | (rotate_left 2; (focus exact ⟨⟨rfl, rfl, (by first | exact ⟨[eP ⟨_, _, _⟩], rfl, rfl, rfl⟩), trivial⟩, trivial⟩)) | (rotate_left 3; (focus exact ⟨⟨rfl, rfl, (by first | exact ⟨[eP ⟨_, _, _⟩], rfl, rfl, rfl⟩), trivial⟩, trivial⟩)) | (rotate_left 4; (focus exact ⟨⟨rfl, rfl, (by first | exact ⟨[eP ⟨_, _, _⟩], rfl, rfl, rfl⟩), trivial⟩, trivial⟩))); skip)
      | ((with_reducible apply call_con2 ?_ (alive_up _ _ _ _ hk2) ?_);(first | (focus exact ⟨⟨rfl, rfl, (by first | exact ⟨[eP ⟨_, _, _⟩], rfl, rfl, rfl⟩), trivial⟩, trivial⟩) | (rotate_left 1; (focus exact ⟨⟨rfl, rfl, (by first | exact ⟨[eP ⟨_, _, _⟩], rfl, rfl, rfl⟩), trivial⟩, trivial⟩)) | (rotate_left 2; (focus exact ⟨⟨rfl, rfl, (by first | exact ⟨[eP ⟨_, _, _⟩], rfl, rfl, rfl⟩), trivial⟩, trivial⟩)) | (rotate_left 3; (focus exact ⟨⟨rfl, rfl, (by first | exact ⟨[eP ⟨_, _, _⟩], rfl, rfl, rfl⟩), trivial⟩, trivial⟩)) | (rotate_left 4; (focus exact ⟨⟨rfl, rfl, (by first | exact ⟨[eP ⟨_, _, _⟩], rfl, rfl, rfl⟩), trivial⟩, trivial⟩))); rintro _ _ _ ⟨rfl, rfl, rfl⟩)
      | ((with_reducible apply conN_mk2 ?_ (eq1_con _) ?_);(first | (focus exact ⟨(by first | rfl | exact ⟨[eN _], rfl, rfl, rfl⟩), ⟨[eN _], rfl, rfl, rfl⟩, trivial⟩) | (rotate_left 1; (focus exact ⟨(by first | rfl | exact ⟨[eN _], rfl, rfl, rfl⟩), ⟨[eN _], rfl, rfl, rfl⟩, trivial⟩))); skip)
      | ((with_reducible apply call_con2 ?_ (eq1_con _) ?_);(first | (focus exact ⟨(by first | rfl | exact ⟨[eN _], rfl, rfl, rfl⟩), ⟨[eN _], rfl, rfl, rfl⟩, trivial⟩) | (rotate_left 1; (focus exact ⟨(by first | rfl | exact ⟨[eN _], rfl, rfl, rfl⟩), ⟨[eN _], rfl, rfl, rfl⟩, trivial⟩))); rintro _ _ _ ⟨rfl, rfl, rfl⟩)
      | ((with_reducible apply conN_mk2 ?_ (pass_fine _ _ _ _ hk2 ?_ ?_) ?_);(first | (focus exact ⟨⟨rfl, rfl, (by first | exact ⟨[eP ⟨_, _, _⟩], rfl, rfl, rfl⟩), trivial⟩, rfl, trivial⟩) | (rotate_left 1; (focus exact ⟨⟨rfl, rfl, (by first | exact ⟨[eP ⟨_, _, _⟩], rfl, rfl, rfl⟩), trivial⟩, rfl, trivial⟩)) | (rotate_left 2; (focus exact ⟨⟨rfl, rfl, (by first | exact ⟨[eP ⟨_, _, _⟩], rfl, rfl, rfl⟩), trivial⟩, rfl, trivial⟩)) | (rotate_left 3; (focus exact ⟨⟨rfl, rfl, (by first | exact ⟨[eP ⟨_, _, _⟩], rfl, rfl, rfl⟩), trivial⟩, rfl, trivial⟩)) | (rotate_left 4; (focus exact ⟨⟨rfl, rfl, (by first | exact ⟨[eP ⟨_, _, _⟩], rfl, rfl, rfl⟩), trivial⟩, rfl, trivial⟩))); (focus omega); (focus omega); skip)
      | ((with_reducible apply call_con2 ?_ (pass_fine _ _ _ _ hk2 ?_ ?_) ?_);(first | (focus exact ⟨⟨rfl, rfl, (by first | exact ⟨[eP ⟨_, _, _⟩], rfl, rfl, rfl⟩), trivial⟩, rfl, trivial⟩) | (rotate_left 1; (focus exact ⟨⟨rfl, rfl, (by first | exact ⟨[eP ⟨_, _, _⟩], rfl, rfl, rfl⟩), trivial⟩, rfl, trivial⟩)) | (rotate_left 2; (focus exact ⟨⟨rfl, rfl, (by first | exact ⟨[eP ⟨_, _, _⟩], rfl, rfl, rfl⟩), trivial⟩, rfl, trivial⟩)) | (rotate_left 3; (focus exact ⟨⟨rfl, rfl, (by first | exact ⟨[eP ⟨_, _, _⟩], rfl, rfl, rfl⟩), trivial⟩, rfl, trivial⟩)) | (rotate_left 4; (focus exact ⟨⟨rfl, rfl, (by first | exact ⟨[eP ⟨_, _, _⟩], rfl, rfl, rfl⟩), trivial⟩, rfl, trivial⟩))); (focus omega); (focus omega); rintro _ _ _ ⟨rfl, rfl, rfl⟩)
      | ((with_reducible apply conN_mk2 ?_ (pass_late _ _ _ _ hk2 ?_ ?_) ?_);(first | (focus exact ⟨⟨rfl, rfl, (by first | exact ⟨[eP ⟨_, _, _⟩], rfl, rfl, rfl⟩), trivial⟩, rfl, trivial⟩) | (rotate_left 1; (focus exact ⟨⟨rfl, rfl, (by first | exact ⟨[eP ⟨_, _, _⟩], rfl, rfl, rfl⟩), trivial⟩, rfl, trivial⟩)) | (rotate_left 2; (focus exact ⟨⟨rfl, rfl, (by first | exact ⟨[eP ⟨_, _, _⟩], rfl, rfl, rfl⟩), trivial⟩, rfl, trivial⟩)) | (rotate_left 3; (focus exact ⟨⟨rfl, rfl, (by first | exact ⟨[eP ⟨_, _, _⟩], rfl, rfl, rfl⟩), trivial⟩, rfl, trivial⟩)) | (rotate_left 4; (focus exact ⟨⟨rfl, rfl, (by first | exact ⟨[eP ⟨_, _, _⟩], rfl, rfl, rfl⟩), trivial⟩, rfl, trivial⟩))); (focus omega); (focus omega); skip)
      | ((with_reducible apply call_con2 ?_ (pass_late _ _ _ _ hk2 ?_ ?_) ?_);(first | (focus exact ⟨⟨rfl, rfl, (by first | exact ⟨[eP ⟨_, _, _⟩], rfl, rfl, rfl⟩), trivial⟩, rfl, trivial⟩) | (rotate_left 1; (focus exact ⟨⟨rfl, rfl, (by first | exact ⟨[eP ⟨_, _, _⟩], rfl, rfl, rfl⟩), trivial⟩, rfl, trivial⟩)) | (rotate_left 2; (focus exact ⟨⟨rfl, rfl, (by first | exact ⟨[eP ⟨_, _, _⟩], rfl, rfl, rfl⟩), trivial⟩, rfl, trivial⟩)) | (rotate_left 3; (focus exact ⟨⟨rfl, rfl, (by first | exact ⟨[eP ⟨_, _, _⟩], rfl, rfl, rfl⟩), trivial⟩, rfl, trivial⟩)) | (rotate_left 4; (focus exact ⟨⟨rfl, rfl, (by first | exact ⟨[eP ⟨_, _, _⟩], rfl, rfl, rfl⟩), trivial⟩, rfl, trivial⟩))); (focus omega); (focus omega); rintro _ _ _ ⟨rfl, rfl, rfl⟩)
      | ((with_reducible apply conN_mk2 ?_ (alive_up2 _ _ _ _ ?_ ?_ ?_ ?_ ?_) ?_);(first | (focus exact ⟨⟨rfl, rfl, (by first | exact ⟨[eP ⟨_, _, _⟩], rfl, rfl, rfl⟩), trivial⟩, trivial⟩) | (rotate_left 1; (focus exact ⟨⟨rfl, rfl, (by first | exact ⟨[eP ⟨_, _, _⟩], rfl, rfl, rfl⟩), trivial⟩, trivial⟩)) | (rotate_left 2; (focus exact ⟨⟨rfl, rfl, (by first | exact ⟨[eP ⟨_, _, _⟩], rfl, rfl, rfl⟩), trivial⟩, trivial⟩)) | (rotate_left 3; (focus exact ⟨⟨rfl, rfl, (by first | exact ⟨[eP ⟨_, _, _⟩], rfl, rfl, rfl⟩), trivial⟩, trivial⟩)) | (rotate_left 4; (focus exact ⟨⟨rfl, rfl, (by first | exact ⟨[eP ⟨_, _, _⟩], rfl, rfl, rfl⟩), trivial⟩, trivial⟩))); (focus omega); (focus omega); (focus omega); (focus omega); (focus omega); skip)
      | ((with_reducible apply call_con2 ?_ (alive_up2 _ _ _ _ ?_ ?_ ?_ ?_ ?_) ?_);(first | (focus exact ⟨⟨rfl, rfl, (by first | exact ⟨[eP ⟨_, _, _⟩], rfl, rfl, rfl⟩), trivial⟩, trivial⟩) | (rotate_left 1; (focus exact ⟨⟨rfl, rfl, (by first | exact ⟨[eP ⟨_, _, _⟩], rfl, rfl, rfl⟩), trivial⟩, trivial⟩)) | (rotate_left 2; (focus exact ⟨⟨rfl, rfl, (by first | exact ⟨[eP ⟨_, _, _⟩], rfl, rfl, rfl⟩), trivial⟩, trivial⟩)) | (rotate_left 3; (focus exact ⟨⟨rfl, rfl, (by first | exact ⟨[eP ⟨_, _, _⟩], rfl, rfl, rfl⟩), trivial⟩, trivial⟩)) | (rotate_left 4; (focus exact ⟨⟨rfl, rfl, (by first | exact ⟨[eP ⟨_, _, _⟩], rfl, rfl, rfl⟩), trivial⟩, trivial⟩))); (focus omega); (focus omega); (focus omega); (focus omega); (focus omega); rintro _ _ _ ⟨rfl, rfl, rfl⟩)
      | ((with_reducible apply conN_mk2 ?_ (alive_dn2 _ _ _ _ ?_ ?_ ?_ ?_) ?_);(first | (focus exact ⟨⟨rfl, rfl, (by first | exact ⟨[eP ⟨_, _, _⟩], rfl, rfl, rfl⟩), trivial⟩, trivial⟩) | (rotate_left 1; (focus exact ⟨⟨rfl, rfl, (by first | exact ⟨[eP ⟨_, _, _⟩], rfl, rfl, rfl⟩), trivial⟩, trivial⟩)) | (rotate_left 2; (focus exact ⟨⟨rfl, rfl, (by first | exact ⟨[eP ⟨_, _, _⟩], rfl, rfl, rfl⟩), trivial⟩, trivial⟩)) | (rotate_left 3; (focus exact ⟨⟨rfl, rfl, (by first | exact ⟨[eP ⟨_, _, _⟩], rfl, rfl, rfl⟩), trivial⟩, trivial⟩)) | (rotate_left 4; (focus exact ⟨⟨rfl, rfl, (by first | exact ⟨[eP ⟨_, _, _⟩], rfl, rfl, rfl⟩), trivial⟩, trivial⟩))); (focus omega); (focus omega); (focus omega); (focus omega); skip)
      | ((with_reducible apply call_con2 ?_ (alive_dn2 _ _ _ _ ?_ ?_ ?_ ?_) ?_);(first | (focus exact ⟨⟨rfl, rfl, (by first | exact ⟨[eP ⟨_, _, _⟩], rfl, rfl, rfl⟩), trivial⟩, trivial⟩) | (rotate_left 1; (focus exact ⟨⟨rfl, rfl, (by first | exact ⟨[eP ⟨_, _, _⟩], rfl, rfl, rfl⟩), trivial⟩, trivial⟩)) | (rotate_left 2; (focus exact ⟨⟨rfl, rfl, (by first | exact ⟨[eP ⟨_, _, _⟩], rfl, rfl, rfl⟩), trivial⟩, trivial⟩)) | (rotate_left 3; (focus exact ⟨⟨rfl, rfl, (by first | exact ⟨[eP ⟨_, _, _⟩], rfl, rfl, rfl⟩), trivial⟩, trivial⟩)) | (rotate_left 4; (focus exact ⟨⟨rfl, rfl, (by first | exact ⟨[eP ⟨_, _, _⟩], rfl, rfl, rfl⟩), trivial⟩, trivial⟩))); (focus omega); (focus omega); (focus omega); (focus omega); rintro _ _ _ ⟨rfl, rfl, rfl⟩)
      | ((with_reducible apply conN_mk2 ?_ (pass_down2 _ _ _ _ ?_ ?_ ?_ ?_ ?_) ?_);(first | (focus exact ⟨⟨rfl, rfl, (by first | exact ⟨[eP ⟨_, _, _⟩], rfl, rfl, rfl⟩), trivial⟩, rfl, trivial⟩) | (rotate_left 1; (focus exact ⟨⟨rfl, rfl, (by first | exact ⟨[eP ⟨_, _, _⟩], rfl, rfl, rfl⟩), trivial⟩, rfl, trivial⟩)) | (rotate_left 2; (focus exact ⟨⟨rfl, rfl, (by first | exact ⟨[eP ⟨_, _, _⟩], rfl, rfl, rfl⟩), trivial⟩, rfl, trivial⟩)) | (rotate_left 3; (focus exact ⟨⟨rfl, rfl, (by first | exact ⟨[eP ⟨_, _, _⟩], rfl, rfl, rfl⟩), trivial⟩, rfl, trivial⟩)) | (rotate_left 4; (focus exact ⟨⟨rfl, rfl, (by first | exact ⟨[eP ⟨_, _, _⟩], rfl, rfl, rfl⟩), trivial⟩, rfl, trivial⟩))); (focus omega); (focus omega); (focus omega); (focus omega); (focus omega); skip)
      | ((with_reducible apply call_con2 ?_ (pass_down2 _ _ _ _ ?_ ?_ ?_ ?_ ?_) ?_);(first | (focus exact ⟨⟨rfl, rfl, (by first | exact ⟨[eP ⟨_, _, _⟩], rfl, rfl, rfl⟩), trivial⟩, rfl, trivial⟩) | (rotate_left 1; (focus exact ⟨⟨rfl, rfl, (by first | exact ⟨[eP ⟨_, _, _⟩], rfl, rfl, rfl⟩), trivial⟩, rfl, trivial⟩)) | (rotate_left 2; (focus exact ⟨⟨rfl, rfl, (by first | exact ⟨[eP ⟨_, _, _⟩], rfl, rfl, rfl⟩), trivial⟩, rfl, trivial⟩)) | (rotate_left 3; (focus exact ⟨⟨rfl, rfl, (by first | exact ⟨[eP ⟨_, _, _⟩], rfl, rfl, rfl⟩), trivial⟩, rfl, trivial⟩)) | (rotate_left 4; (focus exact ⟨⟨rfl, rfl, (by first | exact ⟨[eP ⟨_, _, _⟩], rfl, rfl, rfl⟩), trivial⟩, rfl, trivial⟩))); (focus omega); (focus omega); (focus omega); (focus omega); (focus omega); rintro _ _ _ ⟨rfl, rfl, rfl⟩)
      | ((with_reducible apply conN_mk2 ?_ (pass_up2 _ _ _ _ ?_ ?_ ?_ ?_ ?_ ?_) ?_);(first | (focus exact ⟨⟨rfl, rfl, (by first | exact ⟨[eP ⟨_, _, _⟩], rfl, rfl, rfl⟩), trivial⟩, rfl, trivial⟩) | (rotate_left 1; (focus exact ⟨⟨rfl, rfl, (by first | exact ⟨[eP ⟨_, _, _⟩], rfl, rfl, rfl⟩), trivial⟩, rfl, trivial⟩)) | (rotate_left 2; (focus exact ⟨⟨rfl, rfl, (by first | exact ⟨[eP ⟨_, _, _⟩], rfl, rfl, rfl⟩), trivial⟩, rfl, trivial⟩)) | (rotate_left 3; (focus exact ⟨⟨rfl, rfl, (by first | exact ⟨[eP ⟨_, _, _⟩], rfl, rfl, rfl⟩), trivial⟩, rfl, trivial⟩)) | (rotate_left 4; (focus exact ⟨⟨rfl, rfl, (by first | exact ⟨[eP ⟨_, _, _⟩], rfl, rfl, rfl⟩), trivial⟩, rfl, trivial⟩))); (focus omega); (focus omega); (focus omega); (focus omega); (focus omega); (focus omega); skip)
      | ((with_reducible apply call_con2 ?_ (pass_up2 _ _ _ _ ?_ ?_ ?_ ?_ ?_ ?_) ?_);(first | (focus exact ⟨⟨rfl, rfl, (by first | exact ⟨[eP ⟨_, _, _⟩], rfl, rfl, rfl⟩), trivial⟩, rfl, trivial⟩) | (rotate_left 1; (focus exact ⟨⟨rfl, rfl, (by first | exact ⟨[eP ⟨_, _, _⟩], rfl, rfl, rfl⟩), trivial⟩, rfl, trivial⟩)) | (rotate_left 2; (focus exact ⟨⟨rfl, rfl, (by first | exact ⟨[eP ⟨_, _, _⟩], rfl, rfl, rfl⟩), trivial⟩, rfl, trivial⟩)) | (rotate_left 3; (focus exact ⟨⟨rfl, rfl, (by first | exact ⟨[eP ⟨_, _, _⟩], rfl, rfl, rfl⟩), trivial⟩, rfl, trivial⟩)) | (rotate_left 4; (focus exact ⟨⟨rfl, rfl, (by first | exact ⟨[eP ⟨_, _, _⟩], rfl, rfl, rfl⟩), trivial⟩, rfl, trivial⟩))); (focus omega); (focus omega); (focus omega); (focus omega); (focus omega); (focus omega); rintro _ _ _ ⟨rfl, rfl, rfl⟩))
    all_goals (try (conv => whnf))
    all_goals first
      | (show Nat.ble _ _ = true; rfl)
      | (refine ret0 _ rfl _ rfl (fun _ => rfl) rfl ⟨?_, rfl, rfl⟩; rfl)
      | (exfalso; have hws' := hws; simp only [List.length_nil, List.length_cons] at *; simp_all; done)
      | (exfalso; have hws' := hws; simp only [List.length_nil, List.length_cons] at *; simp_all; omega)
      | (have hd0 : decide (rr ≥ sp) = false := decide_eq_false (by omega)
         rw [hd0]
         refine ⟨⟨(i + 1, some (0 + rr, 0, false)), ⟨by (try simp only [List.length_map] at *); (try dsimp only); omega, by (try dsimp only); omega, by (try dsimp only); refine ⟨?_, ?_, ?_, ?_⟩ <;> first | omega | (intro hh; first | omega | contradiction)⟩, by (try dsimp only); omega, (Wk.stp (l := [0, 5]) ⟨rfl, by decide, rfl, Nat.zero_le _, ⟨rfl, rfl, rfl, rfl, rfl, rfl, rfl, trivial⟩, ⟨fun b hb => by cases hb; rfl, fun b hb => by cases hb; rfl, trivial⟩⟩)⟩⟩)
      | (have hd0 : decide (rr ≥ sp) = true := decide_eq_true (by omega)
         rw [hd0]
         refine ⟨⟨(i + 1, some (0 + rr, 0, true)), ⟨by (try simp only [List.length_map] at *); (try dsimp only); omega, by (try dsimp only); omega, by (try dsimp only); refine ⟨?_, ?_, ?_, ?_⟩ <;> first | omega | (intro hh; first | omega | contradiction)⟩, by (try dsimp only); omega, (Wk.stp (l := [0, 5]) ⟨rfl, by decide, rfl, Nat.zero_le _, ⟨rfl, rfl, rfl, rfl, rfl, rfl, rfl, trivial⟩, ⟨fun b hb => by cases hb; rfl, fun b hb => by cases hb; rfl, trivial⟩⟩)⟩⟩)
      | (have hd0 : decide (rr ≥ sp) = false := decide_eq_false (by omega)
         rw [hd0]; refine ⟨⟨(i + 1, some (0 + rr, 0, false)), ⟨?_, ?_, ?_⟩, ?_, ?_⟩⟩; trace_state; all_goals sorry)
  · have hk : okH now sp ([⟨wk, hd, d⟩] : List Pu) = true := okH_one (by omega) hsp hw (by omega) hi3.2.2.2
    have hk2 : okH now sp ([⟨wk, now, false⟩] : List Pu) = true := okH_one (by omega) hsp hw (by omega) (fun _ => by omega)
    repeat' ((conv => whnf); first
      | with_reducible refine spB_t ?_
      | ((with_reducible apply spB_cong); (focus (simp only [beq_self_eq_true, bne_self_eq_false, Bool.true_bne, Bool.false_bne, Bool.bne_true, Bool.bne_false, Bool.true_beq, Bool.false_beq, Bool.not_true, Bool.not_false, Bool.not_not, Int.reduceBEq, Int.reduceBNe, Int.reduceLE, Int.reduceLT, Int.reduceEq, decide_true, decide_false]; rfl)))
      | with_reducible refine spB_yes (by decide) ?_
      | with_reducible refine spB_no (by decide) ?_
      | with_reducible refine spB_f ?_
      | with_reducible refine spB_not ?_
      | with_reducible refine spB_yes (by assumption) ?_
      | with_reducible refine spB_no (by assumption) ?_
      | (with_reducible refine spB_dec ?_ ?_ <;> intro _ <;> (try (exfalso; first | contradiction | omega | (rename_i hz; with_reducible exact absurd rfl hz))))
      | (with_reducible refine spB_beq ?_ ?_ <;> intro _ <;> (try (exfalso; first | contradiction | omega | (rename_i hz; with_reducible exact absurd rfl hz))))
      | (with_reducible refine spB_bne ?_ ?_ <;> intro _ <;> (try (exfalso; first | contradiction | omega | (rename_i hz; with_reducible exact absurd rfl hz))))
      | (with_reducible refine spB_mk ?_ ?_ <;> intro _ <;> (try (exfalso; first | contradiction | omega | (rename_i hz; with_reducible exact absurd rfl hz))))
      | ((with_reducible refine vN_tm0 ?_ ?_ ?_); (focus (first | omega | exact wrap_u64_nn _)); (focus omega); intro rr hr1 hr2; (try (by_cases hws : rr < sp)))
      | ((with_reducible refine vN_tm ?_ ?_); (focus omega); intro rr hr1 hr2)
      | ((with_reducible apply rowN_mk); (focus rfl))
      | ((with_reducible refine ixN_mk 0 ?_ ?_ ?_); (focus rfl); (focus (exact Nat.le_of_ble_eq_true rfl)))
      | ((with_reducible refine ixN_mk 1 ?_ ?_ ?_); (focus rfl); (focus (exact Nat.le_of_ble_eq_true rfl)))
      | ((with_reducible refine ixN_mk 2 ?_ ?_ ?_); (focus rfl); (focus (exact Nat.le_of_ble_eq_true rfl)))
      | ((with_reducible refine ixN_mk 3 ?_ ?_ ?_); (focus rfl); (focus (exact Nat.le_of_ble_eq_true rfl)))
      | ((with_reducible refine ixN_mk 4 ?_ ?_ ?_); (focus rfl); (focus (exact Nat.le_of_ble_eq_true rfl)))
      | ((with_reducible refine ixN_mk 5 ?_ ?_ ?_); (focus rfl); (focus (exact Nat.le_of_ble_eq_true rfl)))
      | ((with_reducible refine ixN_mk 6 ?_ ?_ ?_); (focus rfl); (focus (exact Nat.le_of_ble_eq_true rfl)))
      | ((with_reducible refine ixN_mk 7 ?_ ?_ ?_); (focus rfl); (focus (exact Nat.le_of_ble_eq_true rfl)))
      | ((with_reducible refine eqN_mk2 ?_ ?_); (focus rfl))
      | ((with_reducible refine posN_mk2 ?_ ?_); (focus (first | decide | ((try simp only [List.length_replicate, List.length_map, List.length_append, List.length_nil, List.length_cons, maxLen] at *); omega))))
      | ((with_reducible refine apdN.mk ?_ ?_ ?_ ?_ ?_ ?_); (focus (first | rfl | (simp; done))); (focus (first | exact one_all (by rfl) | exact one_map (fun _ => rfl) | exact one_map2 (fun _ => rfl))); (focus ((try simp only [List.length_replicate, List.length_map, List.length_append, List.length_nil, List.length_cons, maxLen] at *); omega)); (focus ((try simp only [List.length_replicate, List.length_map, List.length_append, List.length_nil, List.length_cons, maxLen] at *); omega)); (focus ((try simp only [List.length_replicate, List.length_map, List.length_append, List.length_nil, List.length_cons, maxLen] at *); omega)))
      | ((with_reducible refine cpyN.mk ?_ ?_ ?_ ?_); (focus (first | rfl | (simp; done))); (focus (first | exact one_all (by rfl) | exact one_map (fun _ => rfl) | exact one_map2 (fun _ => rfl))); (focus ((try simp only [List.length_replicate, List.length_map, List.length_append, List.length_nil, List.length_cons, maxLen] at *); omega)))
      | with_reducible refine wr_i64 (by first | omega | (simp only [List.length_map] at *; omega)) ?_
      | with_reducible refine wr_u64 (by omega) ?_
      | with_reducible refine wr_u8 (by omega) ?_
      | with_reducible refine wr_u32 (by omega) ?_
      | with_reducible refine wr_mk _ rfl ?_
      | ((with_reducible refine ixN_nat ?_ ?_); (focus ((try simp only [List.length_map] at *); omega)))
      | ((with_reducible refine rowN_map ?_ ?_); (focus ((try simp only [List.length_map] at *); omega)); intro x hx)
      | ((with_reducible refine ixN_mk 0 ?_ ?_ ?_); (focus rfl); (focus decide))
      | ((with_reducible refine ixN_mk 1 ?_ ?_ ?_); (focus rfl); (focus decide))
      | ((with_reducible refine ixN_mk 2 ?_ ?_ ?_); (focus rfl); (focus decide))
      | ((with_reducible refine ixN_mk 3 ?_ ?_ ?_); (focus rfl); (focus decide))
      | ((with_reducible refine ixN_mk 4 ?_ ?_ ?_); (focus rfl); (focus decide))
      | ((with_reducible refine ixN_mk 5 ?_ ?_ ?_); (focus rfl); (focus decide))
      | ((with_reducible refine ixN_mk 6 ?_ ?_ ?_); (focus rfl); (focus decide))
      | ((with_reducible refine ixN_mk 7 ?_ ?_ ?_); (focus rfl); (focus decide))
      | ((with_reducible refine posE_nil (by rfl) ?_))
      | ((with_reducible refine posE_pos (by decide) ?_))
      | with_reducible refine vN_mod (by omega) ?_
      | with_reducible refine vN_mk ?_
      | with_reducible refine nzN_mk (by omega) ?_
      | with_reducible refine eqN_dec (by omega) ?_
      | with_reducible refine draw_rule tabOk mixOk ?_
      | with_reducible refine apN_mk (by kernel_rfl) ?_
      | ((with_reducible apply conN_mk2 ?_ (hear1_con _ _ _ _ _ hw hk) ?_);(first | (focus exact ⟨⟨rfl, rfl, (by first | exact ⟨[eP ⟨_, _, _⟩], rfl, rfl, rfl⟩), trivial⟩, rfl, trivial⟩) | (rotate_left 1; (focus exact ⟨⟨rfl, rfl, (by first | exact ⟨[eP ⟨_, _, _⟩], rfl, rfl, rfl⟩), trivial⟩, rfl, trivial⟩)) | (rotate_left 2; (focus exact ⟨⟨rfl, rfl, (by first | exact ⟨[eP ⟨_, _, _⟩], rfl, rfl, rfl⟩), trivial⟩, rfl, trivial⟩)) | (rotate_left 3; (focus exact ⟨⟨rfl, rfl, (by first | exact ⟨[eP ⟨_, _, _⟩], rfl, rfl, rfl⟩), trivial⟩, rfl, trivial⟩)) | (rotate_left 4; (focus exact ⟨⟨rfl, rfl, (by first | exact ⟨[eP ⟨_, _, _⟩], rfl, rfl, rfl⟩), trivial⟩, rfl, trivial⟩)) | (rotate_left 5; (focus exact ⟨⟨rfl, rfl, (by first | exact ⟨[eP ⟨_, _, _⟩], rfl, rfl, rfl⟩), trivial⟩, rfl, trivial⟩))); skip)
      | ((with_reducible apply call_con2 ?_ (hear1_con _ _ _ _ _ hw hk) ?_);(first | (focus exact ⟨⟨rfl, rfl, (by first | exact ⟨[eP ⟨_, _, _⟩], rfl, rfl, rfl⟩), trivial⟩, rfl, trivial⟩) | (rotate_left 1; (focus exact ⟨⟨rfl, rfl, (by first | exact ⟨[eP ⟨_, _, _⟩], rfl, rfl, rfl⟩), trivial⟩, rfl, trivial⟩)) | (rotate_left 2; (focus exact ⟨⟨rfl, rfl, (by first | exact ⟨[eP ⟨_, _, _⟩], rfl, rfl, rfl⟩), trivial⟩, rfl, trivial⟩)) | (rotate_left 3; (focus exact ⟨⟨rfl, rfl, (by first | exact ⟨[eP ⟨_, _, _⟩], rfl, rfl, rfl⟩), trivial⟩, rfl, trivial⟩)) | (rotate_left 4; (focus exact ⟨⟨rfl, rfl, (by first | exact ⟨[eP ⟨_, _, _⟩], rfl, rfl, rfl⟩), trivial⟩, rfl, trivial⟩)) | (rotate_left 5; (focus exact ⟨⟨rfl, rfl, (by first | exact ⟨[eP ⟨_, _, _⟩], rfl, rfl, rfl⟩), trivial⟩, rfl, trivial⟩))); rintro _ _ _ ⟨rfl, rfl, rfl⟩)
      | ((with_reducible apply conN_mk2 ?_ (alive_up _ _ _ _ hk2) ?_);(first | (focus exact ⟨⟨rfl, rfl, (by first | exact ⟨[eP ⟨_, _, _⟩], rfl, rfl, rfl⟩), trivial⟩, trivial⟩) | (rotate_left 1; (focus exact ⟨⟨rfl, rfl, (by first | exact ⟨[eP ⟨_, _, _⟩], rfl, rfl, rfl⟩), trivial⟩, trivial⟩)) | (rotate_left 2; (focus exact ⟨⟨rfl, rfl, (by first | exact ⟨[eP ⟨_, _, _⟩], rfl, rfl, rfl⟩), trivial⟩, trivial⟩)) | (rotate_left 3; (focus exact ⟨⟨rfl, rfl, (by first | exact ⟨[eP ⟨_, _, _⟩], rfl, rfl, rfl⟩), trivial⟩, trivial⟩)) | (rotate_left 4; (focus exact ⟨⟨rfl, rfl, (by first | exact ⟨[eP ⟨_, _, _⟩], rfl, rfl, rfl⟩), trivial⟩, trivial⟩))); skip)
      | ((with_reducible apply call_con2 ?_ (alive_up _ _ _ _ hk2) ?_);(first | (focus exact ⟨⟨rfl, rfl, (by first | exact ⟨[eP ⟨_, _, _⟩], rfl, rfl, rfl⟩), trivial⟩, trivial⟩) | (rotate_left 1; (focus exact ⟨⟨rfl, rfl, (by first | exact ⟨[eP ⟨_, _, _⟩], rfl, rfl, rfl⟩), trivial⟩, trivial⟩)) | (rotate_left 2; (focus exact ⟨⟨rfl, rfl, (by first | exact ⟨[eP ⟨_, _, _⟩], rfl, rfl, rfl⟩), trivial⟩, trivial⟩)) | (rotate_left 3; (focus exact ⟨⟨rfl, rfl, (by first | exact ⟨[eP ⟨_, _, _⟩], rfl, rfl, rfl⟩), trivial⟩, trivial⟩)) | (rotate_left 4; (focus exact ⟨⟨rfl, rfl, (by first | exact ⟨[eP ⟨_, _, _⟩], rfl, rfl, rfl⟩), trivial⟩, trivial⟩))); rintro _ _ _ ⟨rfl, rfl, rfl⟩)
      | ((with_reducible apply conN_mk2 ?_ (eq1_con _) ?_);(first | (focus exact ⟨(by first | rfl | exact ⟨[eN _], rfl, rfl, rfl⟩), ⟨[eN _], rfl, rfl, rfl⟩, trivial⟩) | (rotate_left 1; (focus exact ⟨(by first | rfl | exact ⟨[eN _], rfl, rfl, rfl⟩), ⟨[eN _], rfl, rfl, rfl⟩, trivial⟩))); skip)
      | ((with_reducible apply call_con2 ?_ (eq1_con _) ?_);(first | (focus exact ⟨(by first | rfl | exact ⟨[eN _], rfl, rfl, rfl⟩), ⟨[eN _], rfl, rfl, rfl⟩, trivial⟩) | (rotate_left 1; (focus exact ⟨(by first | rfl | exact ⟨[eN _], rfl, rfl, rfl⟩), ⟨[eN _], rfl, rfl, rfl⟩, trivial⟩))); rintro _ _ _ ⟨rfl, rfl, rfl⟩)
      | ((with_reducible apply conN_mk2 ?_ (pass_fine _ _ _ _ hk2 ?_ ?_) ?_);(first | (focus exact ⟨⟨rfl, rfl, (by first | exact ⟨[eP ⟨_, _, _⟩], rfl, rfl, rfl⟩), trivial⟩, rfl, trivial⟩) | (rotate_left 1; (focus exact ⟨⟨rfl, rfl, (by first | exact ⟨[eP ⟨_, _, _⟩], rfl, rfl, rfl⟩), trivial⟩, rfl, trivial⟩)) | (rotate_left 2; (focus exact ⟨⟨rfl, rfl, (by first | exact ⟨[eP ⟨_, _, _⟩], rfl, rfl, rfl⟩), trivial⟩, rfl, trivial⟩)) | (rotate_left 3; (focus exact ⟨⟨rfl, rfl, (by first | exact ⟨[eP ⟨_, _, _⟩], rfl, rfl, rfl⟩), trivial⟩, rfl, trivial⟩)) | (rotate_left 4; (focus exact ⟨⟨rfl, rfl, (by first | exact ⟨[eP ⟨_, _, _⟩], rfl, rfl, rfl⟩), trivial⟩, rfl, trivial⟩))); (focus omega); (focus omega); skip)
      | ((with_reducible apply call_con2 ?_ (pass_fine _ _ _ _ hk2 ?_ ?_) ?_);(first | (focus exact ⟨⟨rfl, rfl, (by first | exact ⟨[eP ⟨_, _, _⟩], rfl, rfl, rfl⟩), trivial⟩, rfl, trivial⟩) | (rotate_left 1; (focus exact ⟨⟨rfl, rfl, (by first | exact ⟨[eP ⟨_, _, _⟩], rfl, rfl, rfl⟩), trivial⟩, rfl, trivial⟩)) | (rotate_left 2; (focus exact ⟨⟨rfl, rfl, (by first | exact ⟨[eP ⟨_, _, _⟩], rfl, rfl, rfl⟩), trivial⟩, rfl, trivial⟩)) | (rotate_left 3; (focus exact ⟨⟨rfl, rfl, (by first | exact ⟨[eP ⟨_, _, _⟩], rfl, rfl, rfl⟩), trivial⟩, rfl, trivial⟩)) | (rotate_left 4; (focus exact ⟨⟨rfl, rfl, (by first | exact ⟨[eP ⟨_, _, _⟩], rfl, rfl, rfl⟩), trivial⟩, rfl, trivial⟩))); (focus omega); (focus omega); rintro _ _ _ ⟨rfl, rfl, rfl⟩)
      | ((with_reducible apply conN_mk2 ?_ (pass_late _ _ _ _ hk2 ?_ ?_) ?_);(first | (focus exact ⟨⟨rfl, rfl, (by first | exact ⟨[eP ⟨_, _, _⟩], rfl, rfl, rfl⟩), trivial⟩, rfl, trivial⟩) | (rotate_left 1; (focus exact ⟨⟨rfl, rfl, (by first | exact ⟨[eP ⟨_, _, _⟩], rfl, rfl, rfl⟩), trivial⟩, rfl, trivial⟩)) | (rotate_left 2; (focus exact ⟨⟨rfl, rfl, (by first | exact ⟨[eP ⟨_, _, _⟩], rfl, rfl, rfl⟩), trivial⟩, rfl, trivial⟩)) | (rotate_left 3; (focus exact ⟨⟨rfl, rfl, (by first | exact ⟨[eP ⟨_, _, _⟩], rfl, rfl, rfl⟩), trivial⟩, rfl, trivial⟩)) | (rotate_left 4; (focus exact ⟨⟨rfl, rfl, (by first | exact ⟨[eP ⟨_, _, _⟩], rfl, rfl, rfl⟩), trivial⟩, rfl, trivial⟩))); (focus omega); (focus omega); skip)
      | ((with_reducible apply call_con2 ?_ (pass_late _ _ _ _ hk2 ?_ ?_) ?_);(first | (focus exact ⟨⟨rfl, rfl, (by first | exact ⟨[eP ⟨_, _, _⟩], rfl, rfl, rfl⟩), trivial⟩, rfl, trivial⟩) | (rotate_left 1; (focus exact ⟨⟨rfl, rfl, (by first | exact ⟨[eP ⟨_, _, _⟩], rfl, rfl, rfl⟩), trivial⟩, rfl, trivial⟩)) | (rotate_left 2; (focus exact ⟨⟨rfl, rfl, (by first | exact ⟨[eP ⟨_, _, _⟩], rfl, rfl, rfl⟩), trivial⟩, rfl, trivial⟩)) | (rotate_left 3; (focus exact ⟨⟨rfl, rfl, (by first | exact ⟨[eP ⟨_, _, _⟩], rfl, rfl, rfl⟩), trivial⟩, rfl, trivial⟩)) | (rotate_left 4; (focus exact ⟨⟨rfl, rfl, (by first | exact ⟨[eP ⟨_, _, _⟩], rfl, rfl, rfl⟩), trivial⟩, rfl, trivial⟩))); (focus omega); (focus omega); rintro _ _ _ ⟨rfl, rfl, rfl⟩)
      | ((with_reducible apply conN_mk2 ?_ (alive_up2 _ _ _ _ ?_ ?_ ?_ ?_ ?_) ?_);(first | (focus exact ⟨⟨rfl, rfl, (by first | exact ⟨[eP ⟨_, _, _⟩], rfl, rfl, rfl⟩), trivial⟩, trivial⟩) | (rotate_left 1; (focus exact ⟨⟨rfl, rfl, (by first | exact ⟨[eP ⟨_, _, _⟩], rfl, rfl, rfl⟩), trivial⟩, trivial⟩)) | (rotate_left 2; (focus exact ⟨⟨rfl, rfl, (by first | exact ⟨[eP ⟨_, _, _⟩], rfl, rfl, rfl⟩), trivial⟩, trivial⟩)) | (rotate_left 3; (focus exact ⟨⟨rfl, rfl, (by first | exact ⟨[eP ⟨_, _, _⟩], rfl, rfl, rfl⟩), trivial⟩, trivial⟩)) | (rotate_left 4; (focus exact ⟨⟨rfl, rfl, (by first | exact ⟨[eP ⟨_, _, _⟩], rfl, rfl, rfl⟩), trivial⟩, trivial⟩))); (focus omega); (focus omega); (focus omega); (focus omega); (focus omega); skip)
      | ((with_reducible apply call_con2 ?_ (alive_up2 _ _ _ _ ?_ ?_ ?_ ?_ ?_) ?_);(first | (focus exact ⟨⟨rfl, rfl, (by first | exact ⟨[eP ⟨_, _, _⟩], rfl, rfl, rfl⟩), trivial⟩, trivial⟩) | (rotate_left 1; (focus exact ⟨⟨rfl, rfl, (by first | exact ⟨[eP ⟨_, _, _⟩], rfl, rfl, rfl⟩), trivial⟩, trivial⟩)) | (rotate_left 2; (focus exact ⟨⟨rfl, rfl, (by first | exact ⟨[eP ⟨_, _, _⟩], rfl, rfl, rfl⟩), trivial⟩, trivial⟩)) | (rotate_left 3; (focus exact ⟨⟨rfl, rfl, (by first | exact ⟨[eP ⟨_, _, _⟩], rfl, rfl, rfl⟩), trivial⟩, trivial⟩)) | (rotate_left 4; (focus exact ⟨⟨rfl, rfl, (by first | exact ⟨[eP ⟨_, _, _⟩], rfl, rfl, rfl⟩), trivial⟩, trivial⟩))); (focus omega); (focus omega); (focus omega); (focus omega); (focus omega); rintro _ _ _ ⟨rfl, rfl, rfl⟩)
      | ((with_reducible apply conN_mk2 ?_ (alive_dn2 _ _ _ _ ?_ ?_ ?_ ?_) ?_);(first | (focus exact ⟨⟨rfl, rfl, (by first | exact ⟨[eP ⟨_, _, _⟩], rfl, rfl, rfl⟩), trivial⟩, trivial⟩) | (rotate_left 1; (focus exact ⟨⟨rfl, rfl, (by first | exact ⟨[eP ⟨_, _, _⟩], rfl, rfl, rfl⟩), trivial⟩, trivial⟩)) | (rotate_left 2; (focus exact ⟨⟨rfl, rfl, (by first | exact ⟨[eP ⟨_, _, _⟩], rfl, rfl, rfl⟩), trivial⟩, trivial⟩)) | (rotate_left 3; (focus exact ⟨⟨rfl, rfl, (by first | exact ⟨[eP ⟨_, _, _⟩], rfl, rfl, rfl⟩), trivial⟩, trivial⟩)) | (rotate_left 4; (focus exact ⟨⟨rfl, rfl, (by first | exact ⟨[eP ⟨_, _, _⟩], rfl, rfl, rfl⟩), trivial⟩, trivial⟩))); (focus omega); (focus omega); (focus omega); (focus omega); skip)
      | ((with_reducible apply call_con2 ?_ (alive_dn2 _ _ _ _ ?_ ?_ ?_ ?_) ?_);(first | (focus exact ⟨⟨rfl, rfl, (by first | exact ⟨[eP ⟨_, _, _⟩], rfl, rfl, rfl⟩), trivial⟩, trivial⟩) | (rotate_left 1; (focus exact ⟨⟨rfl, rfl, (by first | exact ⟨[eP ⟨_, _, _⟩], rfl, rfl, rfl⟩), trivial⟩, trivial⟩)) | (rotate_left 2; (focus exact ⟨⟨rfl, rfl, (by first | exact ⟨[eP ⟨_, _, _⟩], rfl, rfl, rfl⟩), trivial⟩, trivial⟩)) | (rotate_left 3; (focus exact ⟨⟨rfl, rfl, (by first | exact ⟨[eP ⟨_, _, _⟩], rfl, rfl, rfl⟩), trivial⟩, trivial⟩)) | (rotate_left 4; (focus exact ⟨⟨rfl, rfl, (by first | exact ⟨[eP ⟨_, _, _⟩], rfl, rfl, rfl⟩), trivial⟩, trivial⟩))); (focus omega); (focus omega); (focus omega); (focus omega); rintro _ _ _ ⟨rfl, rfl, rfl⟩)
      | ((with_reducible apply conN_mk2 ?_ (pass_down2 _ _ _ _ ?_ ?_ ?_ ?_ ?_) ?_);(first | (focus exact ⟨⟨rfl, rfl, (by first | exact ⟨[eP ⟨_, _, _⟩], rfl, rfl, rfl⟩), trivial⟩, rfl, trivial⟩) | (rotate_left 1; (focus exact ⟨⟨rfl, rfl, (by first | exact ⟨[eP ⟨_, _, _⟩], rfl, rfl, rfl⟩), trivial⟩, rfl, trivial⟩)) | (rotate_left 2; (focus exact ⟨⟨rfl, rfl, (by first | exact ⟨[eP ⟨_, _, _⟩], rfl, rfl, rfl⟩), trivial⟩, rfl, trivial⟩)) | (rotate_left 3; (focus exact ⟨⟨rfl, rfl, (by first | exact ⟨[eP ⟨_, _, _⟩], rfl, rfl, rfl⟩), trivial⟩, rfl, trivial⟩)) | (rotate_left 4; (focus exact ⟨⟨rfl, rfl, (by first | exact ⟨[eP ⟨_, _, _⟩], rfl, rfl, rfl⟩), trivial⟩, rfl, trivial⟩))); (focus omega); (focus omega); (focus omega); (focus omega); (focus omega); skip)
      | ((with_reducible apply call_con2 ?_ (pass_down2 _ _ _ _ ?_ ?_ ?_ ?_ ?_) ?_);(first | (focus exact ⟨⟨rfl, rfl, (by first | exact ⟨[eP ⟨_, _, _⟩], rfl, rfl, rfl⟩), trivial⟩, rfl, trivial⟩) | (rotate_left 1; (focus exact ⟨⟨rfl, rfl, (by first | exact ⟨[eP ⟨_, _, _⟩], rfl, rfl, rfl⟩), trivial⟩, rfl, trivial⟩)) | (rotate_left 2; (focus exact ⟨⟨rfl, rfl, (by first | exact ⟨[eP ⟨_, _, _⟩], rfl, rfl, rfl⟩), trivial⟩, rfl, trivial⟩)) | (rotate_left 3; (focus exact ⟨⟨rfl, rfl, (by first | exact ⟨[eP ⟨_, _, _⟩], rfl, rfl, rfl⟩), trivial⟩, rfl, trivial⟩)) | (rotate_left 4; (focus exact ⟨⟨rfl, rfl, (by first | exact ⟨[eP ⟨_, _, _⟩], rfl, rfl, rfl⟩), trivial⟩, rfl, trivial⟩))); (focus omega); (focus omega); (focus omega); (focus omega); (focus omega); rintro _ _ _ ⟨rfl, rfl, rfl⟩)
      | ((with_reducible apply conN_mk2 ?_ (pass_up2 _ _ _ _ ?_ ?_ ?_ ?_ ?_ ?_) ?_);(first | (focus exact ⟨⟨rfl, rfl, (by first | exact ⟨[eP ⟨_, _, _⟩], rfl, rfl, rfl⟩), trivial⟩, rfl, trivial⟩) | (rotate_left 1; (focus exact ⟨⟨rfl, rfl, (by first | exact ⟨[eP ⟨_, _, _⟩], rfl, rfl, rfl⟩), trivial⟩, rfl, trivial⟩)) | (rotate_left 2; (focus exact ⟨⟨rfl, rfl, (by first | exact ⟨[eP ⟨_, _, _⟩], rfl, rfl, rfl⟩), trivial⟩, rfl, trivial⟩)) | (rotate_left 3; (focus exact ⟨⟨rfl, rfl, (by first | exact ⟨[eP ⟨_, _, _⟩], rfl, rfl, rfl⟩), trivial⟩, rfl, trivial⟩)) | (rotate_left 4; (focus exact ⟨⟨rfl, rfl, (by first | exact ⟨[eP ⟨_, _, _⟩], rfl, rfl, rfl⟩), trivial⟩, rfl, trivial⟩))); (focus omega); (focus omega); (focus omega); (focus omega); (focus omega); (focus omega); skip)
      | ((with_reducible apply call_con2 ?_ (pass_up2 _ _ _ _ ?_ ?_ ?_ ?_ ?_ ?_) ?_);(first | (focus exact ⟨⟨rfl, rfl, (by first | exact ⟨[eP ⟨_, _, _⟩], rfl, rfl, rfl⟩), trivial⟩, rfl, trivial⟩) | (rotate_left 1; (focus exact ⟨⟨rfl, rfl, (by first | exact ⟨[eP ⟨_, _, _⟩], rfl, rfl, rfl⟩), trivial⟩, rfl, trivial⟩)) | (rotate_left 2; (focus exact ⟨⟨rfl, rfl, (by first | exact ⟨[eP ⟨_, _, _⟩], rfl, rfl, rfl⟩), trivial⟩, rfl, trivial⟩)) | (rotate_left 3; (focus exact ⟨⟨rfl, rfl, (by first | exact ⟨[eP ⟨_, _, _⟩], rfl, rfl, rfl⟩), trivial⟩, rfl, trivial⟩)) | (rotate_left 4; (focus exact ⟨⟨rfl, rfl, (by first | exact ⟨[eP ⟨_, _, _⟩], rfl, rfl, rfl⟩), trivial⟩, rfl, trivial⟩))); (focus omega); (focus omega); (focus omega); (focus omega); (focus omega); (focus omega); rintro _ _ _ ⟨rfl, rfl, rfl⟩))
    all_goals (try (conv => whnf))
    all_goals first
      | (show Nat.ble _ _ = true; rfl)
      | (refine ret0 _ rfl _ rfl (fun _ => rfl) rfl ⟨?_, rfl, rfl⟩; rfl)
      | (exfalso; have hws' := hws; simp only [List.length_nil, List.length_cons] at *; simp_all; done)
      | (exfalso; have hws' := hws; simp only [List.length_nil, List.length_cons] at *; simp_all; omega)
      | (have hd0 : decide (rr ≥ sp) = false := decide_eq_false (by omega)
         rw [hd0]
         refine ⟨⟨(i + 1, some (now + rr, now, false)), ⟨by (try simp only [List.length_map] at *); (try dsimp only); omega, by (try dsimp only); omega, by (try dsimp only); refine ⟨?_, ?_, ?_, ?_⟩ <;> first | omega | (intro hh; first | omega | contradiction)⟩, by (try dsimp only); omega, (Wk.stp (l := [0, 5]) ⟨rfl, by decide, rfl, Nat.zero_le _, ⟨rfl, rfl, rfl, rfl, rfl, rfl, rfl, trivial⟩, ⟨fun b hb => by cases hb; rfl, fun b hb => by cases hb; rfl, trivial⟩⟩)⟩⟩)
      | (have hd0 : decide (rr ≥ sp) = true := decide_eq_true (by omega)
         rw [hd0]
         refine ⟨⟨(i + 1, some (now + rr, now, true)), ⟨by (try simp only [List.length_map] at *); (try dsimp only); omega, by (try dsimp only); omega, by (try dsimp only); refine ⟨?_, ?_, ?_, ?_⟩ <;> first | omega | (intro hh; first | omega | contradiction)⟩, by (try dsimp only); omega, (Wk.stp (l := [0, 5]) ⟨rfl, by decide, rfl, Nat.zero_le _, ⟨rfl, rfl, rfl, rfl, rfl, rfl, rfl, trivial⟩, ⟨fun b hb => by cases hb; rfl, fun b hb => by cases hb; rfl, trivial⟩⟩)⟩⟩)
      | (have hd0 : decide (rr ≥ sp) = false := decide_eq_false (by omega)
         rw [hd0]; refine ⟨⟨(i + 1, some (now + rr, now, false)), ⟨?_, ?_, ?_⟩, ?_, ?_⟩⟩; trace_state; all_goals sorry)
end Go.Proofs.Ytgdkhdooekmfgaa
