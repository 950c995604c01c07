import Derived.Test.YtnlcmncfbiognaaTe1
namespace Go.Proofs.Ytnlcmncfbiognaa
open Go Go.RowKit Wx
set_option linter.unusedVariables false
set_option linter.unusedSimpArgs false
set_option maxHeartbeats 4000000
theorem latestl_con (keep : Int) (rs : List Kp) (hl : rs.length ≤ 100) : Con Try.prog 29 [.agg [.v (.int .i64 keep), .ro false 3 (rs.map eK)]] (fun rx rK rt => rx = .tup [.agg [.v (.int .u64 (lastK rs).num), .v (.bool (lastK rs).sv), .v (.bool (lastK rs).op)], .one (.v (.bool (decide (0 < rs.length))))] ∧ rK = [] ∧ rt = 0) := by
  refine con_of tabOk 17 Try.f29 _ Try.func29 (by kernel_rfl) rfl rfl rfl rfl (fun W => ?_)
  repeat' ((conv => whnf); first
    | with_reducible refine spB_t ?_
    | ((with_reducible apply spB_cong); (focus (simp only [beq_self_eq_true, bne_self_eq_false, Bool.true_bne, Bool.false_bne, Bool.bne_true, Bool.bne_false, Bool.true_beq, Bool.false_beq, Bool.not_true, Bool.not_false, Bool.not_not, Int.reduceBEq, Int.reduceBNe, Int.reduceLE, Int.reduceLT, Int.reduceEq, decide_true, decide_false]; rfl)))
    | with_reducible refine spB_yes (by decide) ?_
    | with_reducible refine spB_no (by decide) ?_
    | with_reducible refine spB_f ?_
    | with_reducible refine spB_not ?_
    | with_reducible refine spB_yes (by assumption) ?_
    | with_reducible refine spB_no (by assumption) ?_
    | (with_reducible refine spB_dec ?_ ?_ <;> intro _ <;> (try (exfalso; first | contradiction | omega | (rename_i hz; with_reducible exact absurd rfl hz))))
    | (with_reducible refine spB_beq ?_ ?_ <;> intro _ <;> (try (exfalso; first | contradiction | omega | (rename_i hz; with_reducible exact absurd rfl hz))))
    | (with_reducible refine spB_bne ?_ ?_ <;> intro _ <;> (try (exfalso; first | contradiction | omega | (rename_i hz; with_reducible exact absurd rfl hz))))
    | (with_reducible refine spB_mk ?_ ?_ <;> intro _ <;> (try (exfalso; first | contradiction | omega | (rename_i hz; with_reducible exact absurd rfl hz))))
    | ((with_reducible refine ixN_mk (rs.length - 1) ?_ ?_ ?_); (focus ((try simp only [List.length_map] at *); omega)); (focus ((try simp only [List.length_map] at *); omega)))
    | ((with_reducible apply rowN_mk); (focus rfl))
    | ((with_reducible refine ixN_mk 0 ?_ ?_ ?_); (focus rfl); (focus (exact Nat.le_of_ble_eq_true rfl)))
    | ((with_reducible refine ixN_mk 1 ?_ ?_ ?_); (focus rfl); (focus (exact Nat.le_of_ble_eq_true rfl)))
    | ((with_reducible refine ixN_mk 2 ?_ ?_ ?_); (focus rfl); (focus (exact Nat.le_of_ble_eq_true rfl)))
    | ((with_reducible refine ixN_mk 3 ?_ ?_ ?_); (focus rfl); (focus (exact Nat.le_of_ble_eq_true rfl)))
    | ((with_reducible refine ixN_mk 4 ?_ ?_ ?_); (focus rfl); (focus (exact Nat.le_of_ble_eq_true rfl)))
    | ((with_reducible refine ixN_mk 5 ?_ ?_ ?_); (focus rfl); (focus (exact Nat.le_of_ble_eq_true rfl)))
    | ((with_reducible refine ixN_mk 6 ?_ ?_ ?_); (focus rfl); (focus (exact Nat.le_of_ble_eq_true rfl)))
    | ((with_reducible refine ixN_mk 7 ?_ ?_ ?_); (focus rfl); (focus (exact Nat.le_of_ble_eq_true rfl)))
    | ((with_reducible refine eqN_mk2 ?_ ?_); (focus rfl))
    | ((with_reducible refine posN_mk2 ?_ ?_); (focus (first | decide | ((try simp only [List.length_replicate, List.length_map, List.length_append, List.length_nil, List.length_cons, maxLen] at *); omega))))
    | ((with_reducible refine apdN.mk ?_ ?_ ?_ ?_ ?_ ?_); (focus (first | rfl | (simp; done))); (focus (first | exact one_all (by rfl) | exact one_map (fun _ => rfl) | exact one_map2 (fun _ => rfl))); (focus ((try simp only [List.length_replicate, List.length_map, List.length_append, List.length_nil, List.length_cons, maxLen] at *); omega)); (focus ((try simp only [List.length_replicate, List.length_map, List.length_append, List.length_nil, List.length_cons, maxLen] at *); omega)); (focus ((try simp only [List.length_replicate, List.length_map, List.length_append, List.length_nil, List.length_cons, maxLen] at *); omega)))
    | ((with_reducible refine cpyN.mk ?_ ?_ ?_ ?_); (focus (first | rfl | (simp; done))); (focus (first | exact one_all (by rfl) | exact one_map (fun _ => rfl) | exact one_map2 (fun _ => rfl))); (focus ((try simp only [List.length_replicate, List.length_map, List.length_append, List.length_nil, List.length_cons, maxLen] at *); omega)))
    | with_reducible refine wr_i64 (by first | omega | (simp only [List.length_map] at *; omega)) ?_
    | with_reducible refine wr_u64 (by omega) ?_
    | with_reducible refine wr_u8 (by omega) ?_
    | with_reducible refine wr_u32 (by omega) ?_
    | with_reducible refine wr_mk _ rfl ?_
    | ((with_reducible refine ixN_nat ?_ ?_); (focus ((try simp only [List.length_map] at *); omega)))
    | ((with_reducible refine rowN_map ?_ ?_); (focus ((try simp only [List.length_map] at *); omega)); intro x hx)
    | ((with_reducible refine ixN_mk 0 ?_ ?_ ?_); (focus rfl); (focus decide))
    | ((with_reducible refine ixN_mk 1 ?_ ?_ ?_); (focus rfl); (focus decide))
    | ((with_reducible refine ixN_mk 2 ?_ ?_ ?_); (focus rfl); (focus decide))
    | ((with_reducible refine ixN_mk 3 ?_ ?_ ?_); (focus rfl); (focus decide))
    | ((with_reducible refine ixN_mk 4 ?_ ?_ ?_); (focus rfl); (focus decide))
    | ((with_reducible refine ixN_mk 5 ?_ ?_ ?_); (focus rfl); (focus decide))
    | ((with_reducible refine ixN_mk 6 ?_ ?_ ?_); (focus rfl); (focus decide))
    | ((with_reducible refine ixN_mk 7 ?_ ?_ ?_); (focus rfl); (focus decide))
    | ((with_reducible refine posE_nil (by rfl) ?_))
    | ((with_reducible refine posE_pos (by decide) ?_))
    | with_reducible refine vN_mod (by omega) ?_
    | with_reducible refine vN_mk ?_
    | with_reducible refine nzN_mk (by omega) ?_
    | with_reducible refine eqN_dec (by omega) ?_
    | with_reducible refine draw_rule tabOk mixOk ?_
    | with_reducible refine apN_mk (by kernel_rfl) ?_)
  all_goals (try (conv => whnf))
  all_goals first
    | (refine ret0 _ rfl _ rfl (fun _ => rfl) rfl ⟨?_, rfl, rfl⟩
       rw [decide_eq_true (show 0 < rs.length by (try simp only [List.length_map] at *); omega)]
       have e : lastK rs = x := by unfold lastK; rw [List.getLast?_eq_getElem?, hx]; rfl
       rw [e]; rfl)
    | (refine ret0 _ rfl _ rfl (fun _ => rfl) rfl ⟨?_, rfl, rfl⟩
       have e : rs = [] := List.eq_nil_of_length_eq_zero (by (try simp only [List.length_map] at *); omega)
       subst e; rfl)
    | (trace_state; sorry)

theorem latest_t (keep : Int) (rs : List Kp) (hl : rs.length ≤ 100) (hk : okS keep rs = true) : Con Try.prog 23 [.agg [.v (.int .i64 keep), .ro false 3 (rs.map eK)]] (fun rx rK rt => rx = .tup [.agg [.v (.int .u64 (lastK rs).num), .v (.bool (lastK rs).sv), .v (.bool (lastK rs).op)], .one (.v (.bool (decide (0 < rs.length))))] ∧ rK = [] ∧ rt = 0) := by
  refine con_of tabOk 12 Try.f23 _ Try.func23 (by kernel_rfl) rfl rfl rfl rfl (fun W => ?_)
  repeat' ((conv => whnf); first
    | with_reducible refine spB_t ?_
    | ((with_reducible apply spB_cong); (focus (simp only [beq_self_eq_true, bne_self_eq_false, Bool.true_bne, Bool.false_bne, Bool.bne_true, Bool.bne_false, Bool.true_beq, Bool.false_beq, Bool.not_true, Bool.not_false, Bool.not_not, Int.reduceBEq, Int.reduceBNe, Int.reduceLE, Int.reduceLT, Int.reduceEq, decide_true, decide_false]; rfl)))
    | with_reducible refine spB_yes (by decide) ?_
    | with_reducible refine spB_no (by decide) ?_
    | with_reducible refine spB_f ?_
    | with_reducible refine spB_not ?_
    | with_reducible refine spB_yes (by assumption) ?_
    | with_reducible refine spB_no (by assumption) ?_
    | (with_reducible refine spB_dec ?_ ?_ <;> intro _ <;> (try (exfalso; first | contradiction | omega | (rename_i hz; with_reducible exact absurd rfl hz))))
    | (with_reducible refine spB_beq ?_ ?_ <;> intro _ <;> (try (exfalso; first | contradiction | omega | (rename_i hz; with_reducible exact absurd rfl hz))))
    | (with_reducible refine spB_bne ?_ ?_ <;> intro _ <;> (try (exfalso; first | contradiction | omega | (rename_i hz; with_reducible exact absurd rfl hz))))
    | (with_reducible refine spB_mk ?_ ?_ <;> intro _ <;> (try (exfalso; first | contradiction | omega | (rename_i hz; with_reducible exact absurd rfl hz))))
    | ((with_reducible apply rowN_mk); (focus rfl))
    | ((with_reducible refine ixN_mk 0 ?_ ?_ ?_); (focus rfl); (focus (exact Nat.le_of_ble_eq_true rfl)))
    | ((with_reducible refine ixN_mk 1 ?_ ?_ ?_); (focus rfl); (focus (exact Nat.le_of_ble_eq_true rfl)))
    | ((with_reducible refine ixN_mk 2 ?_ ?_ ?_); (focus rfl); (focus (exact Nat.le_of_ble_eq_true rfl)))
    | ((with_reducible refine ixN_mk 3 ?_ ?_ ?_); (focus rfl); (focus (exact Nat.le_of_ble_eq_true rfl)))
    | ((with_reducible refine ixN_mk 4 ?_ ?_ ?_); (focus rfl); (focus (exact Nat.le_of_ble_eq_true rfl)))
    | ((with_reducible refine ixN_mk 5 ?_ ?_ ?_); (focus rfl); (focus (exact Nat.le_of_ble_eq_true rfl)))
    | ((with_reducible refine ixN_mk 6 ?_ ?_ ?_); (focus rfl); (focus (exact Nat.le_of_ble_eq_true rfl)))
    | ((with_reducible refine ixN_mk 7 ?_ ?_ ?_); (focus rfl); (focus (exact Nat.le_of_ble_eq_true rfl)))
    | ((with_reducible refine eqN_mk2 ?_ ?_); (focus rfl))
    | ((with_reducible refine posN_mk2 ?_ ?_); (focus (first | decide | ((try simp only [List.length_replicate, List.length_map, List.length_append, List.length_nil, List.length_cons, maxLen] at *); omega))))
    | ((with_reducible refine apdN.mk ?_ ?_ ?_ ?_ ?_ ?_); (focus (first | rfl | (simp; done))); (focus (first | exact one_all (by rfl) | exact one_map (fun _ => rfl) | exact one_map2 (fun _ => rfl))); (focus ((try simp only [List.length_replicate, List.length_map, List.length_append, List.length_nil, List.length_cons, maxLen] at *); omega)); (focus ((try simp only [List.length_replicate, List.length_map, List.length_append, List.length_nil, List.length_cons, maxLen] at *); omega)); (focus ((try simp only [List.length_replicate, List.length_map, List.length_append, List.length_nil, List.length_cons, maxLen] at *); omega)))
    | ((with_reducible refine cpyN.mk ?_ ?_ ?_ ?_); (focus (first | rfl | (simp; done))); (focus (first | exact one_all (by rfl) | exact one_map (fun _ => rfl) | exact one_map2 (fun _ => rfl))); (focus ((try simp only [List.length_replicate, List.length_map, List.length_append, List.length_nil, List.length_cons, maxLen] at *); omega)))
    | with_reducible refine wr_i64 (by first | omega | (simp only [List.length_map] at *; omega)) ?_
    | with_reducible refine wr_u64 (by omega) ?_
    | with_reducible refine wr_u8 (by omega) ?_
    | with_reducible refine wr_u32 (by omega) ?_
    | with_reducible refine wr_mk _ rfl ?_
    | ((with_reducible refine ixN_nat ?_ ?_); (focus ((try simp only [List.length_map] at *); omega)))
    | ((with_reducible refine rowN_map ?_ ?_); (focus ((try simp only [List.length_map] at *); omega)); intro x hx)
    | ((with_reducible refine ixN_mk 0 ?_ ?_ ?_); (focus rfl); (focus decide))
    | ((with_reducible refine ixN_mk 1 ?_ ?_ ?_); (focus rfl); (focus decide))
    | ((with_reducible refine ixN_mk 2 ?_ ?_ ?_); (focus rfl); (focus decide))
    | ((with_reducible refine ixN_mk 3 ?_ ?_ ?_); (focus rfl); (focus decide))
    | ((with_reducible refine ixN_mk 4 ?_ ?_ ?_); (focus rfl); (focus decide))
    | ((with_reducible refine ixN_mk 5 ?_ ?_ ?_); (focus rfl); (focus decide))
    | ((with_reducible refine ixN_mk 6 ?_ ?_ ?_); (focus rfl); (focus decide))
    | ((with_reducible refine ixN_mk 7 ?_ ?_ ?_); (focus rfl); (focus decide))
    | ((with_reducible refine posE_nil (by rfl) ?_))
    | ((with_reducible refine posE_pos (by decide) ?_))
    | with_reducible refine vN_mod (by omega) ?_
    | with_reducible refine vN_mk ?_
    | with_reducible refine nzN_mk (by omega) ?_
    | with_reducible refine eqN_dec (by omega) ?_
    | with_reducible refine draw_rule tabOk mixOk ?_
    | with_reducible refine apN_mk (by kernel_rfl) ?_
    | ((with_reducible apply conN_mk2 ?_ (check_t _ _ hl hk) ?_);(first | (focus exact ⟨⟨rfl, rfl, trivial⟩, trivial⟩) | (rotate_left 1; (focus exact ⟨⟨rfl, rfl, trivial⟩, trivial⟩)) | (rotate_left 2; (focus exact ⟨⟨rfl, rfl, trivial⟩, trivial⟩))); skip)
    | ((with_reducible apply call_con2 ?_ (check_t _ _ hl hk) ?_);(first | (focus exact ⟨⟨rfl, rfl, trivial⟩, trivial⟩) | (rotate_left 1; (focus exact ⟨⟨rfl, rfl, trivial⟩, trivial⟩)) | (rotate_left 2; (focus exact ⟨⟨rfl, rfl, trivial⟩, trivial⟩))); rintro _ _ _ ⟨rfl, rfl, rfl⟩)
    | ((with_reducible apply conN_mk2 ?_ (latestl_con _ _ hl) ?_);(first | (focus exact ⟨⟨rfl, rfl, trivial⟩, trivial⟩) | (rotate_left 1; (focus exact ⟨⟨rfl, rfl, trivial⟩, trivial⟩)) | (rotate_left 2; (focus exact ⟨⟨rfl, rfl, trivial⟩, trivial⟩))); skip)
    | ((with_reducible apply call_con2 ?_ (latestl_con _ _ hl) ?_);(first | (focus exact ⟨⟨rfl, rfl, trivial⟩, trivial⟩) | (rotate_left 1; (focus exact ⟨⟨rfl, rfl, trivial⟩, trivial⟩)) | (rotate_left 2; (focus exact ⟨⟨rfl, rfl, trivial⟩, trivial⟩))); rintro _ _ _ ⟨rfl, rfl, rfl⟩))
  all_goals (try (conv => whnf))
  all_goals refine ret0 _ rfl _ rfl (fun _ => rfl) rfl ⟨?_, rfl, rfl⟩
  all_goals rfl

theorem latest_f (keep : Int) (rs : List Kp) (hl : rs.length ≤ 100) (hk : okS keep rs = false) : Con Try.prog 23 [.agg [.v (.int .i64 keep), .ro false 3 (rs.map eK)]] (fun rx rK rt => rx = .tup [.agg [.v (.int .u64 0), .v (.bool false), .v (.bool false)], .one (.v (.bool false))] ∧ rK = [] ∧ rt = 0) := by
  refine con_of tabOk 12 Try.f23 _ Try.func23 (by kernel_rfl) rfl rfl rfl rfl (fun W => ?_)
  repeat' ((conv => whnf); first
    | with_reducible refine spB_t ?_
    | ((with_reducible apply spB_cong); (focus (simp only [beq_self_eq_true, bne_self_eq_false, Bool.true_bne, Bool.false_bne, Bool.bne_true, Bool.bne_false, Bool.true_beq, Bool.false_beq, Bool.not_true, Bool.not_false, Bool.not_not, Int.reduceBEq, Int.reduceBNe, Int.reduceLE, Int.reduceLT, Int.reduceEq, decide_true, decide_false]; rfl)))
    | with_reducible refine spB_yes (by decide) ?_
    | with_reducible refine spB_no (by decide) ?_
    | with_reducible refine spB_f ?_
    | with_reducible refine spB_not ?_
    | with_reducible refine spB_yes (by assumption) ?_
    | with_reducible refine spB_no (by assumption) ?_
    | (with_reducible refine spB_dec ?_ ?_ <;> intro _ <;> (try (exfalso; first | contradiction | omega | (rename_i hz; with_reducible exact absurd rfl hz))))
    | (with_reducible refine spB_beq ?_ ?_ <;> intro _ <;> (try (exfalso; first | contradiction | omega | (rename_i hz; with_reducible exact absurd rfl hz))))
    | (with_reducible refine spB_bne ?_ ?_ <;> intro _ <;> (try (exfalso; first | contradiction | omega | (rename_i hz; with_reducible exact absurd rfl hz))))
    | (with_reducible refine spB_mk ?_ ?_ <;> intro _ <;> (try (exfalso; first | contradiction | omega | (rename_i hz; with_reducible exact absurd rfl hz))))
    | ((with_reducible apply rowN_mk); (focus rfl))
    | ((with_reducible refine ixN_mk 0 ?_ ?_ ?_); (focus rfl); (focus (exact Nat.le_of_ble_eq_true rfl)))
    | ((with_reducible refine ixN_mk 1 ?_ ?_ ?_); (focus rfl); (focus (exact Nat.le_of_ble_eq_true rfl)))
    | ((with_reducible refine ixN_mk 2 ?_ ?_ ?_); (focus rfl); (focus (exact Nat.le_of_ble_eq_true rfl)))
    | ((with_reducible refine ixN_mk 3 ?_ ?_ ?_); (focus rfl); (focus (exact Nat.le_of_ble_eq_true rfl)))
    | ((with_reducible refine ixN_mk 4 ?_ ?_ ?_); (focus rfl); (focus (exact Nat.le_of_ble_eq_true rfl)))
    | ((with_reducible refine ixN_mk 5 ?_ ?_ ?_); (focus rfl); (focus (exact Nat.le_of_ble_eq_true rfl)))
    | ((with_reducible refine ixN_mk 6 ?_ ?_ ?_); (focus rfl); (focus (exact Nat.le_of_ble_eq_true rfl)))
    | ((with_reducible refine ixN_mk 7 ?_ ?_ ?_); (focus rfl); (focus (exact Nat.le_of_ble_eq_true rfl)))
    | ((with_reducible refine eqN_mk2 ?_ ?_); (focus rfl))
    | ((with_reducible refine posN_mk2 ?_ ?_); (focus (first | decide | ((try simp only [List.length_replicate, List.length_map, List.length_append, List.length_nil, List.length_cons, maxLen] at *); omega))))
    | ((with_reducible refine apdN.mk ?_ ?_ ?_ ?_ ?_ ?_); (focus (first | rfl | (simp; done))); (focus (first | exact one_all (by rfl) | exact one_map (fun _ => rfl) | exact one_map2 (fun _ => rfl))); (focus ((try simp only [List.length_replicate, List.length_map, List.length_append, List.length_nil, List.length_cons, maxLen] at *); omega)); (focus ((try simp only [List.length_replicate, List.length_map, List.length_append, List.length_nil, List.length_cons, maxLen] at *); omega)); (focus ((try simp only [List.length_replicate, List.length_map, List.length_append, List.length_nil, List.length_cons, maxLen] at *); omega)))
    | ((with_reducible refine cpyN.mk ?_ ?_ ?_ ?_); (focus (first | rfl | (simp; done))); (focus (first | exact one_all (by rfl) | exact one_map (fun _ => rfl) | exact one_map2 (fun _ => rfl))); (focus ((try simp only [List.length_replicate, List.length_map, List.length_append, List.length_nil, List.length_cons, maxLen] at *); omega)))
    | with_reducible refine wr_i64 (by first | omega | (simp only [List.length_map] at *; omega)) ?_
    | with_reducible refine wr_u64 (by omega) ?_
    | with_reducible refine wr_u8 (by omega) ?_
    | with_reducible refine wr_u32 (by omega) ?_
    | with_reducible refine wr_mk _ rfl ?_
    | ((with_reducible refine ixN_nat ?_ ?_); (focus ((try simp only [List.length_map] at *); omega)))
    | ((with_reducible refine rowN_map ?_ ?_); (focus ((try simp only [List.length_map] at *); omega)); intro x hx)
    | ((with_reducible refine ixN_mk 0 ?_ ?_ ?_); (focus rfl); (focus decide))
    | ((with_reducible refine ixN_mk 1 ?_ ?_ ?_); (focus rfl); (focus decide))
    | ((with_reducible refine ixN_mk 2 ?_ ?_ ?_); (focus rfl); (focus decide))
    | ((with_reducible refine ixN_mk 3 ?_ ?_ ?_); (focus rfl); (focus decide))
    | ((with_reducible refine ixN_mk 4 ?_ ?_ ?_); (focus rfl); (focus decide))
    | ((with_reducible refine ixN_mk 5 ?_ ?_ ?_); (focus rfl); (focus decide))
    | ((with_reducible refine ixN_mk 6 ?_ ?_ ?_); (focus rfl); (focus decide))
    | ((with_reducible refine ixN_mk 7 ?_ ?_ ?_); (focus rfl); (focus decide))
    | ((with_reducible refine posE_nil (by rfl) ?_))
    | ((with_reducible refine posE_pos (by decide) ?_))
    | with_reducible refine vN_mod (by omega) ?_
    | with_reducible refine vN_mk ?_
    | with_reducible refine nzN_mk (by omega) ?_
    | with_reducible refine eqN_dec (by omega) ?_
    | with_reducible refine draw_rule tabOk mixOk ?_
    | with_reducible refine apN_mk (by kernel_rfl) ?_
    | ((with_reducible apply conN_mk2 ?_ (check_f _ _ hl hk) ?_);(first | (focus exact ⟨⟨rfl, rfl, trivial⟩, trivial⟩) | (rotate_left 1; (focus exact ⟨⟨rfl, rfl, trivial⟩, trivial⟩)) | (rotate_left 2; (focus exact ⟨⟨rfl, rfl, trivial⟩, trivial⟩))); skip)
    | ((with_reducible apply call_con2 ?_ (check_f _ _ hl hk) ?_);(first | (focus exact ⟨⟨rfl, rfl, trivial⟩, trivial⟩) | (rotate_left 1; (focus exact ⟨⟨rfl, rfl, trivial⟩, trivial⟩)) | (rotate_left 2; (focus exact ⟨⟨rfl, rfl, trivial⟩, trivial⟩))); rintro _ _ _ ⟨rfl, rfl, rfl⟩))
  all_goals (try (conv => whnf))
  all_goals refine ret0 _ rfl _ rfl (fun _ => rfl) rfl ⟨?_, rfl, rfl⟩
  all_goals rfl

theorem isop_con (x : Kp)  : Con Try.prog 47 [.agg [.v (.int .u64 x.num), .v (.bool x.sv), .v (.bool x.op)]] (fun rx rK rt => rx = .val (.bool x.op) ∧ rK = [] ∧ rt = 0) := by
  refine con_of tabOk 5 Try.f47 _ Try.func47 (by kernel_rfl) rfl rfl rfl rfl (fun W => ?_)
  repeat' ((conv => whnf); first
    | with_reducible refine spB_t ?_
    | ((with_reducible apply spB_cong); (focus (simp only [beq_self_eq_true, bne_self_eq_false, Bool.true_bne, Bool.false_bne, Bool.bne_true, Bool.bne_false, Bool.true_beq, Bool.false_beq, Bool.not_true, Bool.not_false, Bool.not_not, Int.reduceBEq, Int.reduceBNe, Int.reduceLE, Int.reduceLT, Int.reduceEq, decide_true, decide_false]; rfl)))
    | with_reducible refine spB_yes (by decide) ?_
    | with_reducible refine spB_no (by decide) ?_
    | with_reducible refine spB_f ?_
    | with_reducible refine spB_not ?_
    | with_reducible refine spB_yes (by assumption) ?_
    | with_reducible refine spB_no (by assumption) ?_
    | (with_reducible refine spB_dec ?_ ?_ <;> intro _ <;> (try (exfalso; first | contradiction | omega | (rename_i hz; with_reducible exact absurd rfl hz))))
    | (with_reducible refine spB_beq ?_ ?_ <;> intro _ <;> (try (exfalso; first | contradiction | omega | (rename_i hz; with_reducible exact absurd rfl hz))))
    | (with_reducible refine spB_bne ?_ ?_ <;> intro _ <;> (try (exfalso; first | contradiction | omega | (rename_i hz; with_reducible exact absurd rfl hz))))
    | (with_reducible refine spB_mk ?_ ?_ <;> intro _ <;> (try (exfalso; first | contradiction | omega | (rename_i hz; with_reducible exact absurd rfl hz))))
    | ((with_reducible apply rowN_mk); (focus rfl))
    | ((with_reducible refine ixN_mk 0 ?_ ?_ ?_); (focus rfl); (focus (exact Nat.le_of_ble_eq_true rfl)))
    | ((with_reducible refine ixN_mk 1 ?_ ?_ ?_); (focus rfl); (focus (exact Nat.le_of_ble_eq_true rfl)))
    | ((with_reducible refine ixN_mk 2 ?_ ?_ ?_); (focus rfl); (focus (exact Nat.le_of_ble_eq_true rfl)))
    | ((with_reducible refine ixN_mk 3 ?_ ?_ ?_); (focus rfl); (focus (exact Nat.le_of_ble_eq_true rfl)))
    | ((with_reducible refine ixN_mk 4 ?_ ?_ ?_); (focus rfl); (focus (exact Nat.le_of_ble_eq_true rfl)))
    | ((with_reducible refine ixN_mk 5 ?_ ?_ ?_); (focus rfl); (focus (exact Nat.le_of_ble_eq_true rfl)))
    | ((with_reducible refine ixN_mk 6 ?_ ?_ ?_); (focus rfl); (focus (exact Nat.le_of_ble_eq_true rfl)))
    | ((with_reducible refine ixN_mk 7 ?_ ?_ ?_); (focus rfl); (focus (exact Nat.le_of_ble_eq_true rfl)))
    | ((with_reducible refine eqN_mk2 ?_ ?_); (focus rfl))
    | ((with_reducible refine posN_mk2 ?_ ?_); (focus (first | decide | ((try simp only [List.length_replicate, List.length_map, List.length_append, List.length_nil, List.length_cons, maxLen] at *); omega))))
    | ((with_reducible refine apdN.mk ?_ ?_ ?_ ?_ ?_ ?_); (focus (first | rfl | (simp; done))); (focus (first | exact one_all (by rfl) | exact one_map (fun _ => rfl) | exact one_map2 (fun _ => rfl))); (focus ((try simp only [List.length_replicate, List.length_map, List.length_append, List.length_nil, List.length_cons, maxLen] at *); omega)); (focus ((try simp only [List.length_replicate, List.length_map, List.length_append, List.length_nil, List.length_cons, maxLen] at *); omega)); (focus ((try simp only [List.length_replicate, List.length_map, List.length_append, List.length_nil, List.length_cons, maxLen] at *); omega)))
    | ((with_reducible refine cpyN.mk ?_ ?_ ?_ ?_); (focus (first | rfl | (simp; done))); (focus (first | exact one_all (by rfl) | exact one_map (fun _ => rfl) | exact one_map2 (fun _ => rfl))); (focus ((try simp only [List.length_replicate, List.length_map, List.length_append, List.length_nil, List.length_cons, maxLen] at *); omega)))
    | with_reducible refine wr_i64 (by first | omega | (simp only [List.length_map] at *; omega)) ?_
    | with_reducible refine wr_u64 (by omega) ?_
    | with_reducible refine wr_u8 (by omega) ?_
    | with_reducible refine wr_u32 (by omega) ?_
    | with_reducible refine wr_mk _ rfl ?_
    | ((with_reducible refine ixN_nat ?_ ?_); (focus ((try simp only [List.length_map] at *); omega)))
    | ((with_reducible refine rowN_map ?_ ?_); (focus ((try simp only [List.length_map] at *); omega)); intro x hx)
    | ((with_reducible refine ixN_mk 0 ?_ ?_ ?_); (focus rfl); (focus decide))
    | ((with_reducible refine ixN_mk 1 ?_ ?_ ?_); (focus rfl); (focus decide))
    | ((with_reducible refine ixN_mk 2 ?_ ?_ ?_); (focus rfl); (focus decide))
    | ((with_reducible refine ixN_mk 3 ?_ ?_ ?_); (focus rfl); (focus decide))
    | ((with_reducible refine ixN_mk 4 ?_ ?_ ?_); (focus rfl); (focus decide))
    | ((with_reducible refine ixN_mk 5 ?_ ?_ ?_); (focus rfl); (focus decide))
    | ((with_reducible refine ixN_mk 6 ?_ ?_ ?_); (focus rfl); (focus decide))
    | ((with_reducible refine ixN_mk 7 ?_ ?_ ?_); (focus rfl); (focus decide))
    | ((with_reducible refine posE_nil (by rfl) ?_))
    | ((with_reducible refine posE_pos (by decide) ?_))
    | with_reducible refine vN_mod (by omega) ?_
    | with_reducible refine vN_mk ?_
    | with_reducible refine nzN_mk (by omega) ?_
    | with_reducible refine eqN_dec (by omega) ?_
    | with_reducible refine draw_rule tabOk mixOk ?_
    | with_reducible refine apN_mk (by kernel_rfl) ?_)
  all_goals (try (conv => whnf))
  all_goals refine ret0 _ rfl _ rfl (fun _ => rfl) rfl ⟨?_, rfl, rfl⟩
  all_goals rfl

theorem idx_con (rs : List Kp) (hl : rs.length ≤ 100) : Con Try.prog 46 [.one (.ro false 3 (rs.map eK)), .one (.fn 47 [])] (fun rx rK rt => rx = .val (.int .i64 (idxO rs)) ∧ rK = [] ∧ rt = 0) := by
  refine con_of tabOk 19 Try.f46 _ Try.func46 (by kernel_rfl) rfl rfl rfl rfl (fun W => ?_)
  repeat' ((conv => whnf); first
    | with_reducible refine spB_t ?_
    | ((with_reducible apply spB_cong); (focus (simp only [beq_self_eq_true, bne_self_eq_false, Bool.true_bne, Bool.false_bne, Bool.bne_true, Bool.bne_false, Bool.true_beq, Bool.false_beq, Bool.not_true, Bool.not_false, Bool.not_not, Int.reduceBEq, Int.reduceBNe, Int.reduceLE, Int.reduceLT, Int.reduceEq, decide_true, decide_false]; rfl)))
    | with_reducible refine spB_yes (by decide) ?_
    | with_reducible refine spB_no (by decide) ?_
    | with_reducible refine spB_f ?_
    | with_reducible refine spB_not ?_
    | with_reducible refine spB_yes (by assumption) ?_
    | with_reducible refine spB_no (by assumption) ?_
    | (with_reducible refine spB_dec ?_ ?_ <;> intro _ <;> (try (exfalso; first | contradiction | omega | (rename_i hz; with_reducible exact absurd rfl hz))))
    | (with_reducible refine spB_beq ?_ ?_ <;> intro _ <;> (try (exfalso; first | contradiction | omega | (rename_i hz; with_reducible exact absurd rfl hz))))
    | (with_reducible refine spB_bne ?_ ?_ <;> intro _ <;> (try (exfalso; first | contradiction | omega | (rename_i hz; with_reducible exact absurd rfl hz))))
    | (with_reducible refine spB_mk ?_ ?_ <;> intro _ <;> (try (exfalso; first | contradiction | omega | (rename_i hz; with_reducible exact absurd rfl hz))))
    | ((with_reducible apply rowN_mk); (focus rfl))
    | ((with_reducible refine ixN_mk 0 ?_ ?_ ?_); (focus rfl); (focus (exact Nat.le_of_ble_eq_true rfl)))
    | ((with_reducible refine ixN_mk 1 ?_ ?_ ?_); (focus rfl); (focus (exact Nat.le_of_ble_eq_true rfl)))
    | ((with_reducible refine ixN_mk 2 ?_ ?_ ?_); (focus rfl); (focus (exact Nat.le_of_ble_eq_true rfl)))
    | ((with_reducible refine ixN_mk 3 ?_ ?_ ?_); (focus rfl); (focus (exact Nat.le_of_ble_eq_true rfl)))
    | ((with_reducible refine ixN_mk 4 ?_ ?_ ?_); (focus rfl); (focus (exact Nat.le_of_ble_eq_true rfl)))
    | ((with_reducible refine ixN_mk 5 ?_ ?_ ?_); (focus rfl); (focus (exact Nat.le_of_ble_eq_true rfl)))
    | ((with_reducible refine ixN_mk 6 ?_ ?_ ?_); (focus rfl); (focus (exact Nat.le_of_ble_eq_true rfl)))
    | ((with_reducible refine ixN_mk 7 ?_ ?_ ?_); (focus rfl); (focus (exact Nat.le_of_ble_eq_true rfl)))
    | ((with_reducible refine eqN_mk2 ?_ ?_); (focus rfl))
    | ((with_reducible refine posN_mk2 ?_ ?_); (focus (first | decide | ((try simp only [List.length_replicate, List.length_map, List.length_append, List.length_nil, List.length_cons, maxLen] at *); omega))))
    | ((with_reducible refine apdN.mk ?_ ?_ ?_ ?_ ?_ ?_); (focus (first | rfl | (simp; done))); (focus (first | exact one_all (by rfl) | exact one_map (fun _ => rfl) | exact one_map2 (fun _ => rfl))); (focus ((try simp only [List.length_replicate, List.length_map, List.length_append, List.length_nil, List.length_cons, maxLen] at *); omega)); (focus ((try simp only [List.length_replicate, List.length_map, List.length_append, List.length_nil, List.length_cons, maxLen] at *); omega)); (focus ((try simp only [List.length_replicate, List.length_map, List.length_append, List.length_nil, List.length_cons, maxLen] at *); omega)))
    | ((with_reducible refine cpyN.mk ?_ ?_ ?_ ?_); (focus (first | rfl | (simp; done))); (focus (first | exact one_all (by rfl) | exact one_map (fun _ => rfl) | exact one_map2 (fun _ => rfl))); (focus ((try simp only [List.length_replicate, List.length_map, List.length_append, List.length_nil, List.length_cons, maxLen] at *); omega)))
    | with_reducible refine wr_i64 (by first | omega | (simp only [List.length_map] at *; omega)) ?_
    | with_reducible refine wr_u64 (by omega) ?_
    | with_reducible refine wr_u8 (by omega) ?_
    | with_reducible refine wr_u32 (by omega) ?_
    | with_reducible refine wr_mk _ rfl ?_
    | ((with_reducible refine ixN_nat ?_ ?_); (focus ((try simp only [List.length_map] at *); omega)))
    | ((with_reducible refine rowN_map ?_ ?_); (focus ((try simp only [List.length_map] at *); omega)); intro x hx)
    | ((with_reducible refine ixN_mk 0 ?_ ?_ ?_); (focus rfl); (focus decide))
    | ((with_reducible refine ixN_mk 1 ?_ ?_ ?_); (focus rfl); (focus decide))
    | ((with_reducible refine ixN_mk 2 ?_ ?_ ?_); (focus rfl); (focus decide))
    | ((with_reducible refine ixN_mk 3 ?_ ?_ ?_); (focus rfl); (focus decide))
    | ((with_reducible refine ixN_mk 4 ?_ ?_ ?_); (focus rfl); (focus decide))
    | ((with_reducible refine ixN_mk 5 ?_ ?_ ?_); (focus rfl); (focus decide))
    | ((with_reducible refine ixN_mk 6 ?_ ?_ ?_); (focus rfl); (focus decide))
    | ((with_reducible refine ixN_mk 7 ?_ ?_ ?_); (focus rfl); (focus decide))
    | ((with_reducible refine posE_nil (by rfl) ?_))
    | ((with_reducible refine posE_pos (by decide) ?_))
    | with_reducible refine vN_mod (by omega) ?_
    | with_reducible refine vN_mk ?_
    | with_reducible refine nzN_mk (by omega) ?_
    | with_reducible refine eqN_dec (by omega) ?_
    | with_reducible refine draw_rule tabOk mixOk ?_
    | with_reducible refine apN_mk (by kernel_rfl) ?_)
  all_goals (try (conv => whnf))
  refine loop_rule tabOk (fun i : Nat => ⟨[(8, .val (.int .i64 (i : Int))), (7, .val (.int .i64 ((rs.map eK).length : Nat))), (0, .c (.ro false 3 (rs.map eK))), (1, .c (.fn 47 []))], [], 0⟩) (fun i => i ≤ rs.length ∧ i ≤ rs.findIdx (fun r => r.op)) (fun i => rs.length - i) 0 ⟨Nat.zero_le _, Nat.zero_le _⟩ (Wk.stp (l := []) ⟨rfl, by decide, rfl, Nat.zero_le _, ⟨rfl, rfl, rfl, rfl, trivial⟩, trivial⟩) ?_
  rintro i ⟨hi, hf⟩
  dsimp only
  repeat' ((conv => whnf); first
    | with_reducible refine spB_t ?_
    | ((with_reducible apply spB_cong); (focus (simp only [beq_self_eq_true, bne_self_eq_false, Bool.true_bne, Bool.false_bne, Bool.bne_true, Bool.bne_false, Bool.true_beq, Bool.false_beq, Bool.not_true, Bool.not_false, Bool.not_not, Int.reduceBEq, Int.reduceBNe, Int.reduceLE, Int.reduceLT, Int.reduceEq, decide_true, decide_false]; rfl)))
    | with_reducible refine spB_yes (by decide) ?_
    | with_reducible refine spB_no (by decide) ?_
    | with_reducible refine spB_f ?_
    | with_reducible refine spB_not ?_
    | with_reducible refine spB_yes (by assumption) ?_
    | with_reducible refine spB_no (by assumption) ?_
    | (with_reducible refine spB_dec ?_ ?_ <;> intro _ <;> (try (exfalso; first | contradiction | omega | (rename_i hz; with_reducible exact absurd rfl hz))))
    | (with_reducible refine spB_beq ?_ ?_ <;> intro _ <;> (try (exfalso; first | contradiction | omega | (rename_i hz; with_reducible exact absurd rfl hz))))
    | (with_reducible refine spB_bne ?_ ?_ <;> intro _ <;> (try (exfalso; first | contradiction | omega | (rename_i hz; with_reducible exact absurd rfl hz))))
    | (with_reducible refine spB_mk ?_ ?_ <;> intro _ <;> (try (exfalso; first | contradiction | omega | (rename_i hz; with_reducible exact absurd rfl hz))))
    | ((with_reducible apply rowN_mk); (focus rfl))
    | ((with_reducible refine ixN_mk 0 ?_ ?_ ?_); (focus rfl); (focus (exact Nat.le_of_ble_eq_true rfl)))
    | ((with_reducible refine ixN_mk 1 ?_ ?_ ?_); (focus rfl); (focus (exact Nat.le_of_ble_eq_true rfl)))
    | ((with_reducible refine ixN_mk 2 ?_ ?_ ?_); (focus rfl); (focus (exact Nat.le_of_ble_eq_true rfl)))
    | ((with_reducible refine ixN_mk 3 ?_ ?_ ?_); (focus rfl); (focus (exact Nat.le_of_ble_eq_true rfl)))
    | ((with_reducible refine ixN_mk 4 ?_ ?_ ?_); (focus rfl); (focus (exact Nat.le_of_ble_eq_true rfl)))
    | ((with_reducible refine ixN_mk 5 ?_ ?_ ?_); (focus rfl); (focus (exact Nat.le_of_ble_eq_true rfl)))
    | ((with_reducible refine ixN_mk 6 ?_ ?_ ?_); (focus rfl); (focus (exact Nat.le_of_ble_eq_true rfl)))
    | ((with_reducible refine ixN_mk 7 ?_ ?_ ?_); (focus rfl); (focus (exact Nat.le_of_ble_eq_true rfl)))
    | ((with_reducible refine eqN_mk2 ?_ ?_); (focus rfl))
    | ((with_reducible refine posN_mk2 ?_ ?_); (focus (first | decide | ((try simp only [List.length_replicate, List.length_map, List.length_append, List.length_nil, List.length_cons, maxLen] at *); omega))))
    | ((with_reducible refine apdN.mk ?_ ?_ ?_ ?_ ?_ ?_); (focus (first | rfl | (simp; done))); (focus (first | exact one_all (by rfl) | exact one_map (fun _ => rfl) | exact one_map2 (fun _ => rfl))); (focus ((try simp only [List.length_replicate, List.length_map, List.length_append, List.length_nil, List.length_cons, maxLen] at *); omega)); (focus ((try simp only [List.length_replicate, List.length_map, List.length_append, List.length_nil, List.length_cons, maxLen] at *); omega)); (focus ((try simp only [List.length_replicate, List.length_map, List.length_append, List.length_nil, List.length_cons, maxLen] at *); omega)))
    | ((with_reducible refine cpyN.mk ?_ ?_ ?_ ?_); (focus (first | rfl | (simp; done))); (focus (first | exact one_all (by rfl) | exact one_map (fun _ => rfl) | exact one_map2 (fun _ => rfl))); (focus ((try simp only [List.length_replicate, List.length_map, List.length_append, List.length_nil, List.length_cons, maxLen] at *); omega)))
    | with_reducible refine wr_i64 (by first | omega | (simp only [List.length_map] at *; omega)) ?_
    | with_reducible refine wr_u64 (by omega) ?_
    | with_reducible refine wr_u8 (by omega) ?_
    | with_reducible refine wr_u32 (by omega) ?_
    | with_reducible refine wr_mk _ rfl ?_
    | ((with_reducible refine ixN_nat ?_ ?_); (focus ((try simp only [List.length_map] at *); omega)))
    | ((with_reducible refine rowN_map ?_ ?_); (focus ((try simp only [List.length_map] at *); omega)); intro x hx)
    | ((with_reducible refine ixN_mk 0 ?_ ?_ ?_); (focus rfl); (focus decide))
    | ((with_reducible refine ixN_mk 1 ?_ ?_ ?_); (focus rfl); (focus decide))
    | ((with_reducible refine ixN_mk 2 ?_ ?_ ?_); (focus rfl); (focus decide))
    | ((with_reducible refine ixN_mk 3 ?_ ?_ ?_); (focus rfl); (focus decide))
    | ((with_reducible refine ixN_mk 4 ?_ ?_ ?_); (focus rfl); (focus decide))
    | ((with_reducible refine ixN_mk 5 ?_ ?_ ?_); (focus rfl); (focus decide))
    | ((with_reducible refine ixN_mk 6 ?_ ?_ ?_); (focus rfl); (focus decide))
    | ((with_reducible refine ixN_mk 7 ?_ ?_ ?_); (focus rfl); (focus decide))
    | ((with_reducible refine posE_nil (by rfl) ?_))
    | ((with_reducible refine posE_pos (by decide) ?_))
    | with_reducible refine vN_mod (by omega) ?_
    | with_reducible refine vN_mk ?_
    | with_reducible refine nzN_mk (by omega) ?_
    | with_reducible refine eqN_dec (by omega) ?_
    | with_reducible refine draw_rule tabOk mixOk ?_
    | with_reducible refine apN_mk (by kernel_rfl) ?_
    | ((with_reducible apply conN_mk2 ?_ (isop_con x) ?_);(first | (focus exact ⟨⟨rfl, rfl, rfl, trivial⟩, trivial⟩)); skip)
    | ((with_reducible apply call_con2 ?_ (isop_con x) ?_);(first | (focus exact ⟨⟨rfl, rfl, rfl, trivial⟩, trivial⟩)); rintro _ _ _ ⟨rfl, rfl, rfl⟩))
  all_goals (try (conv => whnf))
  all_goals first
    | (refine ⟨⟨i + 1, ⟨by (try simp only [List.length_map] at *); omega, idx_step hx hf (by assumption)⟩, by (try simp only [List.length_map] at *); omega, (Wk.stp (l := []) ⟨rfl, by decide, rfl, Nat.zero_le _, ⟨rfl, rfl, rfl, rfl, trivial⟩, trivial⟩)⟩⟩)
    | (refine ret0 _ rfl _ rfl (fun _ => rfl) rfl ⟨?_, rfl, rfl⟩; exact rv_int (idx_at hx hf (by assumption)).symm)
    | (refine ret0 _ rfl _ rfl (fun _ => rfl) rfl ⟨?_, rfl, rfl⟩; exact rv_int (idx_none (Nat.le_trans (by (try simp only [List.length_map] at *); omega) hf)).symm)
    | (trace_state; sorry)

theorem nextl_con (keep : Int) (rs : List Kp) (hl : rs.length ≤ 100) : Con Try.prog 34 [.agg [.v (.int .i64 keep), .ro false 3 (rs.map eK)]] (fun rx rK rt => rx = .tup [.one (.v (.int .u64 (nextN rs))), .one (.v (.bool (rs.find? (fun r => r.op)).isSome))] ∧ rK = [] ∧ rt = 0) := by
  rcases idx_next (rs := rs) with ⟨h1, h2⟩ | ⟨i, x, h1, hx, h2⟩
  · refine con_of tabOk 16 Try.f34 _ Try.func34 (by kernel_rfl) rfl rfl rfl rfl (fun W => ?_)
    repeat' ((conv => whnf); first
      | with_reducible refine spB_t ?_
      | ((with_reducible apply spB_cong); (focus (simp only [beq_self_eq_true, bne_self_eq_false, Bool.true_bne, Bool.false_bne, Bool.bne_true, Bool.bne_false, Bool.true_beq, Bool.false_beq, Bool.not_true, Bool.not_false, Bool.not_not, Int.reduceBEq, Int.reduceBNe, Int.reduceLE, Int.reduceLT, Int.reduceEq, decide_true, decide_false]; rfl)))
      | with_reducible refine spB_yes (by decide) ?_
      | with_reducible refine spB_no (by decide) ?_
      | with_reducible refine spB_f ?_
      | with_reducible refine spB_not ?_
      | with_reducible refine spB_yes (by assumption) ?_
      | with_reducible refine spB_no (by assumption) ?_
      | (with_reducible refine spB_dec ?_ ?_ <;> intro _ <;> (try (exfalso; first | contradiction | omega | (rename_i hz; with_reducible exact absurd rfl hz))))
      | (with_reducible refine spB_beq ?_ ?_ <;> intro _ <;> (try (exfalso; first | contradiction | omega | (rename_i hz; with_reducible exact absurd rfl hz))))
      | (with_reducible refine spB_bne ?_ ?_ <;> intro _ <;> (try (exfalso; first | contradiction | omega | (rename_i hz; with_reducible exact absurd rfl hz))))
      | (with_reducible refine spB_mk ?_ ?_ <;> intro _ <;> (try (exfalso; first | contradiction | omega | (rename_i hz; with_reducible exact absurd rfl hz))))
      | ((with_reducible apply rowN_mk); (focus rfl))
      | ((with_reducible refine ixN_mk 0 ?_ ?_ ?_); (focus rfl); (focus (exact Nat.le_of_ble_eq_true rfl)))
      | ((with_reducible refine ixN_mk 1 ?_ ?_ ?_); (focus rfl); (focus (exact Nat.le_of_ble_eq_true rfl)))
      | ((with_reducible refine ixN_mk 2 ?_ ?_ ?_); (focus rfl); (focus (exact Nat.le_of_ble_eq_true rfl)))
      | ((with_reducible refine ixN_mk 3 ?_ ?_ ?_); (focus rfl); (focus (exact Nat.le_of_ble_eq_true rfl)))
      | ((with_reducible refine ixN_mk 4 ?_ ?_ ?_); (focus rfl); (focus (exact Nat.le_of_ble_eq_true rfl)))
      | ((with_reducible refine ixN_mk 5 ?_ ?_ ?_); (focus rfl); (focus (exact Nat.le_of_ble_eq_true rfl)))
      | ((with_reducible refine ixN_mk 6 ?_ ?_ ?_); (focus rfl); (focus (exact Nat.le_of_ble_eq_true rfl)))
      | ((with_reducible refine ixN_mk 7 ?_ ?_ ?_); (focus rfl); (focus (exact Nat.le_of_ble_eq_true rfl)))
      | ((with_reducible refine eqN_mk2 ?_ ?_); (focus rfl))
      | ((with_reducible refine posN_mk2 ?_ ?_); (focus (first | decide | ((try simp only [List.length_replicate, List.length_map, List.length_append, List.length_nil, List.length_cons, maxLen] at *); omega))))
      | ((with_reducible refine apdN.mk ?_ ?_ ?_ ?_ ?_ ?_); (focus (first | rfl | (simp; done))); (focus (first | exact one_all (by rfl) | exact one_map (fun _ => rfl) | exact one_map2 (fun _ => rfl))); (focus ((try simp only [List.length_replicate, List.length_map, List.length_append, List.length_nil, List.length_cons, maxLen] at *); omega)); (focus ((try simp only [List.length_replicate, List.length_map, List.length_append, List.length_nil, List.length_cons, maxLen] at *); omega)); (focus ((try simp only [List.length_replicate, List.length_map, List.length_append, List.length_nil, List.length_cons, maxLen] at *); omega)))
      | ((with_reducible refine cpyN.mk ?_ ?_ ?_ ?_); (focus (first | rfl | (simp; done))); (focus (first | exact one_all (by rfl) | exact one_map (fun _ => rfl) | exact one_map2 (fun _ => rfl))); (focus ((try simp only [List.length_replicate, List.length_map, List.length_append, List.length_nil, List.length_cons, maxLen] at *); omega)))
      | with_reducible refine wr_i64 (by first | omega | (simp only [List.length_map] at *; omega)) ?_
      | with_reducible refine wr_u64 (by omega) ?_
      | with_reducible refine wr_u8 (by omega) ?_
      | with_reducible refine wr_u32 (by omega) ?_
      | with_reducible refine wr_mk _ rfl ?_
      | ((with_reducible refine ixN_nat ?_ ?_); (focus ((try simp only [List.length_map] at *); omega)))
      | ((with_reducible refine rowN_map ?_ ?_); (focus ((try simp only [List.length_map] at *); omega)); intro x hx)
      | ((with_reducible refine ixN_mk 0 ?_ ?_ ?_); (focus rfl); (focus decide))
      | ((with_reducible refine ixN_mk 1 ?_ ?_ ?_); (focus rfl); (focus decide))
      | ((with_reducible refine ixN_mk 2 ?_ ?_ ?_); (focus rfl); (focus decide))
      | ((with_reducible refine ixN_mk 3 ?_ ?_ ?_); (focus rfl); (focus decide))
      | ((with_reducible refine ixN_mk 4 ?_ ?_ ?_); (focus rfl); (focus decide))
      | ((with_reducible refine ixN_mk 5 ?_ ?_ ?_); (focus rfl); (focus decide))
      | ((with_reducible refine ixN_mk 6 ?_ ?_ ?_); (focus rfl); (focus decide))
      | ((with_reducible refine ixN_mk 7 ?_ ?_ ?_); (focus rfl); (focus decide))
      | ((with_reducible refine posE_nil (by rfl) ?_))
      | ((with_reducible refine posE_pos (by decide) ?_))
      | with_reducible refine vN_mod (by omega) ?_
      | with_reducible refine vN_mk ?_
      | with_reducible refine nzN_mk (by omega) ?_
      | with_reducible refine eqN_dec (by omega) ?_
      | with_reducible refine draw_rule tabOk mixOk ?_
      | with_reducible refine apN_mk (by kernel_rfl) ?_
      | ((with_reducible apply conN_mk2 ?_ (idx_con _ hl) ?_);(first | (focus exact ⟨rfl, rfl, trivial⟩) | (rotate_left 1; (focus exact ⟨rfl, rfl, trivial⟩))); skip)
      | ((with_reducible apply call_con2 ?_ (idx_con _ hl) ?_);(first | (focus exact ⟨rfl, rfl, trivial⟩) | (rotate_left 1; (focus exact ⟨rfl, rfl, trivial⟩))); rintro _ _ _ ⟨rfl, rfl, rfl⟩))
    all_goals (try (conv => whnf))
    refine ret0 _ rfl _ rfl (fun _ => rfl) rfl ⟨?_, rfl, rfl⟩
    unfold nextN; rw [h2]; rfl
  · refine con_of tabOk 16 Try.f34 _ Try.func34 (by kernel_rfl) rfl rfl rfl rfl (fun W => ?_)
    repeat' ((conv => whnf); first
      | with_reducible refine spB_t ?_
      | ((with_reducible apply spB_cong); (focus (simp only [beq_self_eq_true, bne_self_eq_false, Bool.true_bne, Bool.false_bne, Bool.bne_true, Bool.bne_false, Bool.true_beq, Bool.false_beq, Bool.not_true, Bool.not_false, Bool.not_not, Int.reduceBEq, Int.reduceBNe, Int.reduceLE, Int.reduceLT, Int.reduceEq, decide_true, decide_false]; rfl)))
      | with_reducible refine spB_yes (by decide) ?_
      | with_reducible refine spB_no (by decide) ?_
      | with_reducible refine spB_f ?_
      | with_reducible refine spB_not ?_
      | with_reducible refine spB_yes (by assumption) ?_
      | with_reducible refine spB_no (by assumption) ?_
      | (with_reducible refine spB_dec ?_ ?_ <;> intro _ <;> (try (exfalso; first | contradiction | omega | (rename_i hz; with_reducible exact absurd rfl hz))))
      | (with_reducible refine spB_beq ?_ ?_ <;> intro _ <;> (try (exfalso; first | contradiction | omega | (rename_i hz; with_reducible exact absurd rfl hz))))
      | (with_reducible refine spB_bne ?_ ?_ <;> intro _ <;> (try (exfalso; first | contradiction | omega | (rename_i hz; with_reducible exact absurd rfl hz))))
      | (with_reducible refine spB_mk ?_ ?_ <;> intro _ <;> (try (exfalso; first | contradiction | omega | (rename_i hz; with_reducible exact absurd rfl hz))))
      | ((with_reducible refine ixN_mk i (by assumption) ?_ ?_); (focus (have := (List.getElem?_eq_some_iff.1 hx).1; (try simp only [List.length_map] at *); omega)))
      | ((with_reducible refine rowN_mk (eK x) ?_ ?_); (focus (simp [hx]; done)))
      | ((with_reducible apply rowN_mk); (focus rfl))
      | ((with_reducible refine ixN_mk 0 ?_ ?_ ?_); (focus rfl); (focus (exact Nat.le_of_ble_eq_true rfl)))
      | ((with_reducible refine ixN_mk 1 ?_ ?_ ?_); (focus rfl); (focus (exact Nat.le_of_ble_eq_true rfl)))
      | ((with_reducible refine ixN_mk 2 ?_ ?_ ?_); (focus rfl); (focus (exact Nat.le_of_ble_eq_true rfl)))
      | ((with_reducible refine ixN_mk 3 ?_ ?_ ?_); (focus rfl); (focus (exact Nat.le_of_ble_eq_true rfl)))
      | ((with_reducible refine ixN_mk 4 ?_ ?_ ?_); (focus rfl); (focus (exact Nat.le_of_ble_eq_true rfl)))
      | ((with_reducible refine ixN_mk 5 ?_ ?_ ?_); (focus rfl); (focus (exact Nat.le_of_ble_eq_true rfl)))
      | ((with_reducible refine ixN_mk 6 ?_ ?_ ?_); (focus rfl); (focus (exact Nat.le_of_ble_eq_true rfl)))
      | ((with_reducible refine ixN_mk 7 ?_ ?_ ?_); (focus rfl); (focus (exact Nat.le_of_ble_eq_true rfl)))
      | ((with_reducible refine eqN_mk2 ?_ ?_); (focus rfl))
      | ((with_reducible refine posN_mk2 ?_ ?_); (focus (first | decide | ((try simp only [List.length_replicate, List.length_map, List.length_append, List.length_nil, List.length_cons, maxLen] at *); omega))))
      | ((with_reducible refine apdN.mk ?_ ?_ ?_ ?_ ?_ ?_); (focus (first | rfl | (simp; done))); (focus (first | exact one_all (by rfl) | exact one_map (fun _ => rfl) | exact one_map2 (fun _ => rfl))); (focus ((try simp only [List.length_replicate, List.length_map, List.length_append, List.length_nil, List.length_cons, maxLen] at *); omega)); (focus ((try simp only [List.length_replicate, List.length_map, List.length_append, List.length_nil, List.length_cons, maxLen] at *); omega)); (focus ((try simp only [List.length_replicate, List.length_map, List.length_append, List.length_nil, List.length_cons, maxLen] at *); omega)))
      | ((with_reducible refine cpyN.mk ?_ ?_ ?_ ?_); (focus (first | rfl | (simp; done))); (focus (first | exact one_all (by rfl) | exact one_map (fun _ => rfl) | exact one_map2 (fun _ => rfl))); (focus ((try simp only [List.length_replicate, List.length_map, List.length_append, List.length_nil, List.length_cons, maxLen] at *); omega)))
      | with_reducible refine wr_i64 (by first | omega | (simp only [List.length_map] at *; omega)) ?_
      | with_reducible refine wr_u64 (by omega) ?_
      | with_reducible refine wr_u8 (by omega) ?_
      | with_reducible refine wr_u32 (by omega) ?_
      | with_reducible refine wr_mk _ rfl ?_
      | ((with_reducible refine ixN_nat ?_ ?_); (focus ((try simp only [List.length_map] at *); omega)))
      | ((with_reducible refine rowN_map ?_ ?_); (focus ((try simp only [List.length_map] at *); omega)); intro x hx)
      | ((with_reducible refine ixN_mk 0 ?_ ?_ ?_); (focus rfl); (focus decide))
      | ((with_reducible refine ixN_mk 1 ?_ ?_ ?_); (focus rfl); (focus decide))
      | ((with_reducible refine ixN_mk 2 ?_ ?_ ?_); (focus rfl); (focus decide))
      | ((with_reducible refine ixN_mk 3 ?_ ?_ ?_); (focus rfl); (focus decide))
      | ((with_reducible refine ixN_mk 4 ?_ ?_ ?_); (focus rfl); (focus decide))
      | ((with_reducible refine ixN_mk 5 ?_ ?_ ?_); (focus rfl); (focus decide))
      | ((with_reducible refine ixN_mk 6 ?_ ?_ ?_); (focus rfl); (focus decide))
      | ((with_reducible refine ixN_mk 7 ?_ ?_ ?_); (focus rfl); (focus decide))
      | ((with_reducible refine posE_nil (by rfl) ?_))
      | ((with_reducible refine posE_pos (by decide) ?_))
      | with_reducible refine vN_mod (by omega) ?_
      | with_reducible refine vN_mk ?_
      | with_reducible refine nzN_mk (by omega) ?_
      | with_reducible refine eqN_dec (by omega) ?_
      | with_reducible refine draw_rule tabOk mixOk ?_
      | with_reducible refine apN_mk (by kernel_rfl) ?_
      | ((with_reducible apply conN_mk2 ?_ (idx_con _ hl) ?_);(first | (focus exact ⟨rfl, rfl, trivial⟩) | (rotate_left 1; (focus exact ⟨rfl, rfl, trivial⟩))); skip)
      | ((with_reducible apply call_con2 ?_ (idx_con _ hl) ?_);(first | (focus exact ⟨rfl, rfl, trivial⟩) | (rotate_left 1; (focus exact ⟨rfl, rfl, trivial⟩))); rintro _ _ _ ⟨rfl, rfl, rfl⟩))
    all_goals (try (conv => whnf))
    refine ret0 _ rfl _ rfl (fun _ => rfl) rfl ⟨?_, rfl, rfl⟩
    unfold nextN; rw [h2]; rfl
theorem next_t (keep : Int) (rs : List Kp) (hl : rs.length ≤ 100) (hk : okS keep rs = true) : Con Try.prog 24 [.agg [.v (.int .i64 keep), .ro false 3 (rs.map eK)]] (fun rx rK rt => rx = .tup [.one (.v (.int .u64 (nextN rs))), .one (.v (.bool (rs.find? (fun r => r.op)).isSome))] ∧ rK = [] ∧ rt = 0) := by
  refine con_of tabOk 11 Try.f24 _ Try.func24 (by kernel_rfl) rfl rfl rfl rfl (fun W => ?_)
  repeat' ((conv => whnf); first
    | with_reducible refine spB_t ?_
    | ((with_reducible apply spB_cong); (focus (simp only [beq_self_eq_true, bne_self_eq_false, Bool.true_bne, Bool.false_bne, Bool.bne_true, Bool.bne_false, Bool.true_beq, Bool.false_beq, Bool.not_true, Bool.not_false, Bool.not_not, Int.reduceBEq, Int.reduceBNe, Int.reduceLE, Int.reduceLT, Int.reduceEq, decide_true, decide_false]; rfl)))
    | with_reducible refine spB_yes (by decide) ?_
    | with_reducible refine spB_no (by decide) ?_
    | with_reducible refine spB_f ?_
    | with_reducible refine spB_not ?_
    | with_reducible refine spB_yes (by assumption) ?_
    | with_reducible refine spB_no (by assumption) ?_
    | (with_reducible refine spB_dec ?_ ?_ <;> intro _ <;> (try (exfalso; first | contradiction | omega | (rename_i hz; with_reducible exact absurd rfl hz))))
    | (with_reducible refine spB_beq ?_ ?_ <;> intro _ <;> (try (exfalso; first | contradiction | omega | (rename_i hz; with_reducible exact absurd rfl hz))))
    | (with_reducible refine spB_bne ?_ ?_ <;> intro _ <;> (try (exfalso; first | contradiction | omega | (rename_i hz; with_reducible exact absurd rfl hz))))
    | (with_reducible refine spB_mk ?_ ?_ <;> intro _ <;> (try (exfalso; first | contradiction | omega | (rename_i hz; with_reducible exact absurd rfl hz))))
    | ((with_reducible apply rowN_mk); (focus rfl))
    | ((with_reducible refine ixN_mk 0 ?_ ?_ ?_); (focus rfl); (focus (exact Nat.le_of_ble_eq_true rfl)))
    | ((with_reducible refine ixN_mk 1 ?_ ?_ ?_); (focus rfl); (focus (exact Nat.le_of_ble_eq_true rfl)))
    | ((with_reducible refine ixN_mk 2 ?_ ?_ ?_); (focus rfl); (focus (exact Nat.le_of_ble_eq_true rfl)))
    | ((with_reducible refine ixN_mk 3 ?_ ?_ ?_); (focus rfl); (focus (exact Nat.le_of_ble_eq_true rfl)))
    | ((with_reducible refine ixN_mk 4 ?_ ?_ ?_); (focus rfl); (focus (exact Nat.le_of_ble_eq_true rfl)))
    | ((with_reducible refine ixN_mk 5 ?_ ?_ ?_); (focus rfl); (focus (exact Nat.le_of_ble_eq_true rfl)))
    | ((with_reducible refine ixN_mk 6 ?_ ?_ ?_); (focus rfl); (focus (exact Nat.le_of_ble_eq_true rfl)))
    | ((with_reducible refine ixN_mk 7 ?_ ?_ ?_); (focus rfl); (focus (exact Nat.le_of_ble_eq_true rfl)))
    | ((with_reducible refine eqN_mk2 ?_ ?_); (focus rfl))
    | ((with_reducible refine posN_mk2 ?_ ?_); (focus (first | decide | ((try simp only [List.length_replicate, List.length_map, List.length_append, List.length_nil, List.length_cons, maxLen] at *); omega))))
    | ((with_reducible refine apdN.mk ?_ ?_ ?_ ?_ ?_ ?_); (focus (first | rfl | (simp; done))); (focus (first | exact one_all (by rfl) | exact one_map (fun _ => rfl) | exact one_map2 (fun _ => rfl))); (focus ((try simp only [List.length_replicate, List.length_map, List.length_append, List.length_nil, List.length_cons, maxLen] at *); omega)); (focus ((try simp only [List.length_replicate, List.length_map, List.length_append, List.length_nil, List.length_cons, maxLen] at *); omega)); (focus ((try simp only [List.length_replicate, List.length_map, List.length_append, List.length_nil, List.length_cons, maxLen] at *); omega)))
    | ((with_reducible refine cpyN.mk ?_ ?_ ?_ ?_); (focus (first | rfl | (simp; done))); (focus (first | exact one_all (by rfl) | exact one_map (fun _ => rfl) | exact one_map2 (fun _ => rfl))); (focus ((try simp only [List.length_replicate, List.length_map, List.length_append, List.length_nil, List.length_cons, maxLen] at *); omega)))
    | with_reducible refine wr_i64 (by first | omega | (simp only [List.length_map] at *; omega)) ?_
    | with_reducible refine wr_u64 (by omega) ?_
    | with_reducible refine wr_u8 (by omega) ?_
    | with_reducible refine wr_u32 (by omega) ?_
    | with_reducible refine wr_mk _ rfl ?_
    | ((with_reducible refine ixN_nat ?_ ?_); (focus ((try simp only [List.length_map] at *); omega)))
    | ((with_reducible refine rowN_map ?_ ?_); (focus ((try simp only [List.length_map] at *); omega)); intro x hx)
    | ((with_reducible refine ixN_mk 0 ?_ ?_ ?_); (focus rfl); (focus decide))
    | ((with_reducible refine ixN_mk 1 ?_ ?_ ?_); (focus rfl); (focus decide))
    | ((with_reducible refine ixN_mk 2 ?_ ?_ ?_); (focus rfl); (focus decide))
    | ((with_reducible refine ixN_mk 3 ?_ ?_ ?_); (focus rfl); (focus decide))
    | ((with_reducible refine ixN_mk 4 ?_ ?_ ?_); (focus rfl); (focus decide))
    | ((with_reducible refine ixN_mk 5 ?_ ?_ ?_); (focus rfl); (focus decide))
    | ((with_reducible refine ixN_mk 6 ?_ ?_ ?_); (focus rfl); (focus decide))
    | ((with_reducible refine ixN_mk 7 ?_ ?_ ?_); (focus rfl); (focus decide))
    | ((with_reducible refine posE_nil (by rfl) ?_))
    | ((with_reducible refine posE_pos (by decide) ?_))
    | with_reducible refine vN_mod (by omega) ?_
    | with_reducible refine vN_mk ?_
    | with_reducible refine nzN_mk (by omega) ?_
    | with_reducible refine eqN_dec (by omega) ?_
    | with_reducible refine draw_rule tabOk mixOk ?_
    | with_reducible refine apN_mk (by kernel_rfl) ?_
    | ((with_reducible apply conN_mk2 ?_ (check_t _ _ hl hk) ?_);(first | (focus exact ⟨⟨rfl, rfl, trivial⟩, trivial⟩) | (rotate_left 1; (focus exact ⟨⟨rfl, rfl, trivial⟩, trivial⟩)) | (rotate_left 2; (focus exact ⟨⟨rfl, rfl, trivial⟩, trivial⟩))); skip)
    | ((with_reducible apply call_con2 ?_ (check_t _ _ hl hk) ?_);(first | (focus exact ⟨⟨rfl, rfl, trivial⟩, trivial⟩) | (rotate_left 1; (focus exact ⟨⟨rfl, rfl, trivial⟩, trivial⟩)) | (rotate_left 2; (focus exact ⟨⟨rfl, rfl, trivial⟩, trivial⟩))); rintro _ _ _ ⟨rfl, rfl, rfl⟩)
    | ((with_reducible apply conN_mk2 ?_ (nextl_con _ _ hl) ?_);(first | (focus exact ⟨⟨rfl, rfl, trivial⟩, trivial⟩) | (rotate_left 1; (focus exact ⟨⟨rfl, rfl, trivial⟩, trivial⟩)) | (rotate_left 2; (focus exact ⟨⟨rfl, rfl, trivial⟩, trivial⟩))); skip)
    | ((with_reducible apply call_con2 ?_ (nextl_con _ _ hl) ?_);(first | (focus exact ⟨⟨rfl, rfl, trivial⟩, trivial⟩) | (rotate_left 1; (focus exact ⟨⟨rfl, rfl, trivial⟩, trivial⟩)) | (rotate_left 2; (focus exact ⟨⟨rfl, rfl, trivial⟩, trivial⟩))); rintro _ _ _ ⟨rfl, rfl, rfl⟩))
  all_goals (try (conv => whnf))
  all_goals refine ret0 _ rfl _ rfl (fun _ => rfl) rfl ⟨?_, rfl, rfl⟩
  all_goals rfl

theorem next_f (keep : Int) (rs : List Kp) (hl : rs.length ≤ 100) (hk : okS keep rs = false) : Con Try.prog 24 [.agg [.v (.int .i64 keep), .ro false 3 (rs.map eK)]] (fun rx rK rt => rx = .tup [.one (.v (.int .u64 0)), .one (.v (.bool false))] ∧ rK = [] ∧ rt = 0) := by
  refine con_of tabOk 11 Try.f24 _ Try.func24 (by kernel_rfl) rfl rfl rfl rfl (fun W => ?_)
  repeat' ((conv => whnf); first
    | with_reducible refine spB_t ?_
    | ((with_reducible apply spB_cong); (focus (simp only [beq_self_eq_true, bne_self_eq_false, Bool.true_bne, Bool.false_bne, Bool.bne_true, Bool.bne_false, Bool.true_beq, Bool.false_beq, Bool.not_true, Bool.not_false, Bool.not_not, Int.reduceBEq, Int.reduceBNe, Int.reduceLE, Int.reduceLT, Int.reduceEq, decide_true, decide_false]; rfl)))
    | with_reducible refine spB_yes (by decide) ?_
    | with_reducible refine spB_no (by decide) ?_
    | with_reducible refine spB_f ?_
    | with_reducible refine spB_not ?_
    | with_reducible refine spB_yes (by assumption) ?_
    | with_reducible refine spB_no (by assumption) ?_
    | (with_reducible refine spB_dec ?_ ?_ <;> intro _ <;> (try (exfalso; first | contradiction | omega | (rename_i hz; with_reducible exact absurd rfl hz))))
    | (with_reducible refine spB_beq ?_ ?_ <;> intro _ <;> (try (exfalso; first | contradiction | omega | (rename_i hz; with_reducible exact absurd rfl hz))))
    | (with_reducible refine spB_bne ?_ ?_ <;> intro _ <;> (try (exfalso; first | contradiction | omega | (rename_i hz; with_reducible exact absurd rfl hz))))
    | (with_reducible refine spB_mk ?_ ?_ <;> intro _ <;> (try (exfalso; first | contradiction | omega | (rename_i hz; with_reducible exact absurd rfl hz))))
    | ((with_reducible apply rowN_mk); (focus rfl))
    | ((with_reducible refine ixN_mk 0 ?_ ?_ ?_); (focus rfl); (focus (exact Nat.le_of_ble_eq_true rfl)))
    | ((with_reducible refine ixN_mk 1 ?_ ?_ ?_); (focus rfl); (focus (exact Nat.le_of_ble_eq_true rfl)))
    | ((with_reducible refine ixN_mk 2 ?_ ?_ ?_); (focus rfl); (focus (exact Nat.le_of_ble_eq_true rfl)))
    | ((with_reducible refine ixN_mk 3 ?_ ?_ ?_); (focus rfl); (focus (exact Nat.le_of_ble_eq_true rfl)))
    | ((with_reducible refine ixN_mk 4 ?_ ?_ ?_); (focus rfl); (focus (exact Nat.le_of_ble_eq_true rfl)))
    | ((with_reducible refine ixN_mk 5 ?_ ?_ ?_); (focus rfl); (focus (exact Nat.le_of_ble_eq_true rfl)))
    | ((with_reducible refine ixN_mk 6 ?_ ?_ ?_); (focus rfl); (focus (exact Nat.le_of_ble_eq_true rfl)))
    | ((with_reducible refine ixN_mk 7 ?_ ?_ ?_); (focus rfl); (focus (exact Nat.le_of_ble_eq_true rfl)))
    | ((with_reducible refine eqN_mk2 ?_ ?_); (focus rfl))
    | ((with_reducible refine posN_mk2 ?_ ?_); (focus (first | decide | ((try simp only [List.length_replicate, List.length_map, List.length_append, List.length_nil, List.length_cons, maxLen] at *); omega))))
    | ((with_reducible refine apdN.mk ?_ ?_ ?_ ?_ ?_ ?_); (focus (first | rfl | (simp; done))); (focus (first | exact one_all (by rfl) | exact one_map (fun _ => rfl) | exact one_map2 (fun _ => rfl))); (focus ((try simp only [List.length_replicate, List.length_map, List.length_append, List.length_nil, List.length_cons, maxLen] at *); omega)); (focus ((try simp only [List.length_replicate, List.length_map, List.length_append, List.length_nil, List.length_cons, maxLen] at *); omega)); (focus ((try simp only [List.length_replicate, List.length_map, List.length_append, List.length_nil, List.length_cons, maxLen] at *); omega)))
    | ((with_reducible refine cpyN.mk ?_ ?_ ?_ ?_); (focus (first | rfl | (simp; done))); (focus (first | exact one_all (by rfl) | exact one_map (fun _ => rfl) | exact one_map2 (fun _ => rfl))); (focus ((try simp only [List.length_replicate, List.length_map, List.length_append, List.length_nil, List.length_cons, maxLen] at *); omega)))
    | with_reducible refine wr_i64 (by first | omega | (simp only [List.length_map] at *; omega)) ?_
    | with_reducible refine wr_u64 (by omega) ?_
    | with_reducible refine wr_u8 (by omega) ?_
    | with_reducible refine wr_u32 (by omega) ?_
    | with_reducible refine wr_mk _ rfl ?_
    | ((with_reducible refine ixN_nat ?_ ?_); (focus ((try simp only [List.length_map] at *); omega)))
    | ((with_reducible refine rowN_map ?_ ?_); (focus ((try simp only [List.length_map] at *); omega)); intro x hx)
    | ((with_reducible refine ixN_mk 0 ?_ ?_ ?_); (focus rfl); (focus decide))
    | ((with_reducible refine ixN_mk 1 ?_ ?_ ?_); (focus rfl); (focus decide))
    | ((with_reducible refine ixN_mk 2 ?_ ?_ ?_); (focus rfl); (focus decide))
    | ((with_reducible refine ixN_mk 3 ?_ ?_ ?_); (focus rfl); (focus decide))
    | ((with_reducible refine ixN_mk 4 ?_ ?_ ?_); (focus rfl); (focus decide))
    | ((with_reducible refine ixN_mk 5 ?_ ?_ ?_); (focus rfl); (focus decide))
    | ((with_reducible refine ixN_mk 6 ?_ ?_ ?_); (focus rfl); (focus decide))
    | ((with_reducible refine ixN_mk 7 ?_ ?_ ?_); (focus rfl); (focus decide))
    | ((with_reducible refine posE_nil (by rfl) ?_))
    | ((with_reducible refine posE_pos (by decide) ?_))
    | with_reducible refine vN_mod (by omega) ?_
    | with_reducible refine vN_mk ?_
    | with_reducible refine nzN_mk (by omega) ?_
    | with_reducible refine eqN_dec (by omega) ?_
    | with_reducible refine draw_rule tabOk mixOk ?_
    | with_reducible refine apN_mk (by kernel_rfl) ?_
    | ((with_reducible apply conN_mk2 ?_ (check_f _ _ hl hk) ?_);(first | (focus exact ⟨⟨rfl, rfl, trivial⟩, trivial⟩) | (rotate_left 1; (focus exact ⟨⟨rfl, rfl, trivial⟩, trivial⟩)) | (rotate_left 2; (focus exact ⟨⟨rfl, rfl, trivial⟩, trivial⟩))); skip)
    | ((with_reducible apply call_con2 ?_ (check_f _ _ hl hk) ?_);(first | (focus exact ⟨⟨rfl, rfl, trivial⟩, trivial⟩) | (rotate_left 1; (focus exact ⟨⟨rfl, rfl, trivial⟩, trivial⟩)) | (rotate_left 2; (focus exact ⟨⟨rfl, rfl, trivial⟩, trivial⟩))); rintro _ _ _ ⟨rfl, rfl, rfl⟩))
  all_goals (try (conv => whnf))
  all_goals refine ret0 _ rfl _ rfl (fun _ => rfl) rfl ⟨?_, rfl, rfl⟩
  all_goals rfl

theorem saves_f (keep : Int) (rs : List Kp) (hl : rs.length ≤ 100) (hk : okS keep rs = false) : Con Try.prog 25 [.agg [.v (.int .i64 keep), .ro false 3 (rs.map eK)]] (fun rx rK rt => rx = .c (.ro true 1 []) ∧ rK = [] ∧ rt = 0) := by
  refine con_of tabOk 24 Try.f25 _ Try.func25 (by kernel_rfl) rfl rfl rfl rfl (fun W => ?_)
  repeat' ((conv => whnf); first
    | with_reducible refine spB_t ?_
    | ((with_reducible apply spB_cong); (focus (simp only [beq_self_eq_true, bne_self_eq_false, Bool.true_bne, Bool.false_bne, Bool.bne_true, Bool.bne_false, Bool.true_beq, Bool.false_beq, Bool.not_true, Bool.not_false, Bool.not_not, Int.reduceBEq, Int.reduceBNe, Int.reduceLE, Int.reduceLT, Int.reduceEq, decide_true, decide_false]; rfl)))
    | with_reducible refine spB_yes (by decide) ?_
    | with_reducible refine spB_no (by decide) ?_
    | with_reducible refine spB_f ?_
    | with_reducible refine spB_not ?_
    | with_reducible refine spB_yes (by assumption) ?_
    | with_reducible refine spB_no (by assumption) ?_
    | (with_reducible refine spB_dec ?_ ?_ <;> intro _ <;> (try (exfalso; first | contradiction | omega | (rename_i hz; with_reducible exact absurd rfl hz))))
    | (with_reducible refine spB_beq ?_ ?_ <;> intro _ <;> (try (exfalso; first | contradiction | omega | (rename_i hz; with_reducible exact absurd rfl hz))))
    | (with_reducible refine spB_bne ?_ ?_ <;> intro _ <;> (try (exfalso; first | contradiction | omega | (rename_i hz; with_reducible exact absurd rfl hz))))
    | (with_reducible refine spB_mk ?_ ?_ <;> intro _ <;> (try (exfalso; first | contradiction | omega | (rename_i hz; with_reducible exact absurd rfl hz))))
    | ((with_reducible apply rowN_mk); (focus rfl))
    | ((with_reducible refine ixN_mk 0 ?_ ?_ ?_); (focus rfl); (focus (exact Nat.le_of_ble_eq_true rfl)))
    | ((with_reducible refine ixN_mk 1 ?_ ?_ ?_); (focus rfl); (focus (exact Nat.le_of_ble_eq_true rfl)))
    | ((with_reducible refine ixN_mk 2 ?_ ?_ ?_); (focus rfl); (focus (exact Nat.le_of_ble_eq_true rfl)))
    | ((with_reducible refine ixN_mk 3 ?_ ?_ ?_); (focus rfl); (focus (exact Nat.le_of_ble_eq_true rfl)))
    | ((with_reducible refine ixN_mk 4 ?_ ?_ ?_); (focus rfl); (focus (exact Nat.le_of_ble_eq_true rfl)))
    | ((with_reducible refine ixN_mk 5 ?_ ?_ ?_); (focus rfl); (focus (exact Nat.le_of_ble_eq_true rfl)))
    | ((with_reducible refine ixN_mk 6 ?_ ?_ ?_); (focus rfl); (focus (exact Nat.le_of_ble_eq_true rfl)))
    | ((with_reducible refine ixN_mk 7 ?_ ?_ ?_); (focus rfl); (focus (exact Nat.le_of_ble_eq_true rfl)))
    | ((with_reducible refine eqN_mk2 ?_ ?_); (focus rfl))
    | ((with_reducible refine posN_mk2 ?_ ?_); (focus (first | decide | ((try simp only [List.length_replicate, List.length_map, List.length_append, List.length_nil, List.length_cons, maxLen] at *); omega))))
    | ((with_reducible refine apdN.mk ?_ ?_ ?_ ?_ ?_ ?_); (focus (first | rfl | (simp; done))); (focus (first | exact one_all (by rfl) | exact one_map (fun _ => rfl) | exact one_map2 (fun _ => rfl))); (focus ((try simp only [List.length_replicate, List.length_map, List.length_append, List.length_nil, List.length_cons, maxLen] at *); omega)); (focus ((try simp only [List.length_replicate, List.length_map, List.length_append, List.length_nil, List.length_cons, maxLen] at *); omega)); (focus ((try simp only [List.length_replicate, List.length_map, List.length_append, List.length_nil, List.length_cons, maxLen] at *); omega)))
    | ((with_reducible refine cpyN.mk ?_ ?_ ?_ ?_); (focus (first | rfl | (simp; done))); (focus (first | exact one_all (by rfl) | exact one_map (fun _ => rfl) | exact one_map2 (fun _ => rfl))); (focus ((try simp only [List.length_replicate, List.length_map, List.length_append, List.length_nil, List.length_cons, maxLen] at *); omega)))
    | with_reducible refine wr_i64 (by first | omega | (simp only [List.length_map] at *; omega)) ?_
    | with_reducible refine wr_u64 (by omega) ?_
    | with_reducible refine wr_u8 (by omega) ?_
    | with_reducible refine wr_u32 (by omega) ?_
    | with_reducible refine wr_mk _ rfl ?_
    | ((with_reducible refine ixN_nat ?_ ?_); (focus ((try simp only [List.length_map] at *); omega)))
    | ((with_reducible refine rowN_map ?_ ?_); (focus ((try simp only [List.length_map] at *); omega)); intro x hx)
    | ((with_reducible refine ixN_mk 0 ?_ ?_ ?_); (focus rfl); (focus decide))
    | ((with_reducible refine ixN_mk 1 ?_ ?_ ?_); (focus rfl); (focus decide))
    | ((with_reducible refine ixN_mk 2 ?_ ?_ ?_); (focus rfl); (focus decide))
    | ((with_reducible refine ixN_mk 3 ?_ ?_ ?_); (focus rfl); (focus decide))
    | ((with_reducible refine ixN_mk 4 ?_ ?_ ?_); (focus rfl); (focus decide))
    | ((with_reducible refine ixN_mk 5 ?_ ?_ ?_); (focus rfl); (focus decide))
    | ((with_reducible refine ixN_mk 6 ?_ ?_ ?_); (focus rfl); (focus decide))
    | ((with_reducible refine ixN_mk 7 ?_ ?_ ?_); (focus rfl); (focus decide))
    | ((with_reducible refine posE_nil (by rfl) ?_))
    | ((with_reducible refine posE_pos (by decide) ?_))
    | with_reducible refine vN_mod (by omega) ?_
    | with_reducible refine vN_mk ?_
    | with_reducible refine nzN_mk (by omega) ?_
    | with_reducible refine eqN_dec (by omega) ?_
    | with_reducible refine draw_rule tabOk mixOk ?_
    | with_reducible refine apN_mk (by kernel_rfl) ?_
    | ((with_reducible apply conN_mk2 ?_ (check_f _ _ hl hk) ?_);(first | (focus exact ⟨⟨rfl, rfl, trivial⟩, trivial⟩) | (rotate_left 1; (focus exact ⟨⟨rfl, rfl, trivial⟩, trivial⟩)) | (rotate_left 2; (focus exact ⟨⟨rfl, rfl, trivial⟩, trivial⟩))); skip)
    | ((with_reducible apply call_con2 ?_ (check_f _ _ hl hk) ?_);(first | (focus exact ⟨⟨rfl, rfl, trivial⟩, trivial⟩) | (rotate_left 1; (focus exact ⟨⟨rfl, rfl, trivial⟩, trivial⟩)) | (rotate_left 2; (focus exact ⟨⟨rfl, rfl, trivial⟩, trivial⟩))); rintro _ _ _ ⟨rfl, rfl, rfl⟩))
  all_goals (try (conv => whnf))
  all_goals refine ret_stp (Stp.nilr 2 1 rfl (Nat.zero_le _)) ?_
  all_goals refine ret0 _ rfl _ rfl (fun _ => rfl) rfl ⟨?_, rfl, rfl⟩
  all_goals rfl

theorem saves_t (keep : Int) (rs : List Kp) (hl : rs.length ≤ 100) (hk : okS keep rs = true) : Con Try.prog 25 [.agg [.v (.int .i64 keep), .ro false 3 (rs.map eK)]] (fun rx rK rt => rx = .c (.ro true 1 ((saves rs).map eU)) ∧ rK = [] ∧ rt = 0) := by
  refine con_of tabOk 24 Try.f25 _ Try.func25 (by kernel_rfl) rfl rfl rfl rfl (fun W => ?_)
  repeat' ((conv => whnf); first
    | with_reducible refine spB_t ?_
    | ((with_reducible apply spB_cong); (focus (simp only [beq_self_eq_true, bne_self_eq_false, Bool.true_bne, Bool.false_bne, Bool.bne_true, Bool.bne_false, Bool.true_beq, Bool.false_beq, Bool.not_true, Bool.not_false, Bool.not_not, Int.reduceBEq, Int.reduceBNe, Int.reduceLE, Int.reduceLT, Int.reduceEq, decide_true, decide_false]; rfl)))
    | with_reducible refine spB_yes (by decide) ?_
    | with_reducible refine spB_no (by decide) ?_
    | with_reducible refine spB_f ?_
    | with_reducible refine spB_not ?_
    | with_reducible refine spB_yes (by assumption) ?_
    | with_reducible refine spB_no (by assumption) ?_
    | (with_reducible refine spB_dec ?_ ?_ <;> intro _ <;> (try (exfalso; first | contradiction | omega | (rename_i hz; with_reducible exact absurd rfl hz))))
    | (with_reducible refine spB_beq ?_ ?_ <;> intro _ <;> (try (exfalso; first | contradiction | omega | (rename_i hz; with_reducible exact absurd rfl hz))))
    | (with_reducible refine spB_bne ?_ ?_ <;> intro _ <;> (try (exfalso; first | contradiction | omega | (rename_i hz; with_reducible exact absurd rfl hz))))
    | (with_reducible refine spB_mk ?_ ?_ <;> intro _ <;> (try (exfalso; first | contradiction | omega | (rename_i hz; with_reducible exact absurd rfl hz))))
    | ((with_reducible apply rowN_mk); (focus rfl))
    | ((with_reducible refine ixN_mk 0 ?_ ?_ ?_); (focus rfl); (focus (exact Nat.le_of_ble_eq_true rfl)))
    | ((with_reducible refine ixN_mk 1 ?_ ?_ ?_); (focus rfl); (focus (exact Nat.le_of_ble_eq_true rfl)))
    | ((with_reducible refine ixN_mk 2 ?_ ?_ ?_); (focus rfl); (focus (exact Nat.le_of_ble_eq_true rfl)))
    | ((with_reducible refine ixN_mk 3 ?_ ?_ ?_); (focus rfl); (focus (exact Nat.le_of_ble_eq_true rfl)))
    | ((with_reducible refine ixN_mk 4 ?_ ?_ ?_); (focus rfl); (focus (exact Nat.le_of_ble_eq_true rfl)))
    | ((with_reducible refine ixN_mk 5 ?_ ?_ ?_); (focus rfl); (focus (exact Nat.le_of_ble_eq_true rfl)))
    | ((with_reducible refine ixN_mk 6 ?_ ?_ ?_); (focus rfl); (focus (exact Nat.le_of_ble_eq_true rfl)))
    | ((with_reducible refine ixN_mk 7 ?_ ?_ ?_); (focus rfl); (focus (exact Nat.le_of_ble_eq_true rfl)))
    | ((with_reducible refine eqN_mk2 ?_ ?_); (focus rfl))
    | ((with_reducible refine posN_mk2 ?_ ?_); (focus (first | decide | ((try simp only [List.length_replicate, List.length_map, List.length_append, List.length_nil, List.length_cons, maxLen] at *); omega))))
    | ((with_reducible refine apdN.mk ?_ ?_ ?_ ?_ ?_ ?_); (focus (first | rfl | (simp; done))); (focus (first | exact one_all (by rfl) | exact one_map (fun _ => rfl) | exact one_map2 (fun _ => rfl))); (focus ((try simp only [List.length_replicate, List.length_map, List.length_append, List.length_nil, List.length_cons, maxLen] at *); omega)); (focus ((try simp only [List.length_replicate, List.length_map, List.length_append, List.length_nil, List.length_cons, maxLen] at *); omega)); (focus ((try simp only [List.length_replicate, List.length_map, List.length_append, List.length_nil, List.length_cons, maxLen] at *); omega)))
    | ((with_reducible refine cpyN.mk ?_ ?_ ?_ ?_); (focus (first | rfl | (simp; done))); (focus (first | exact one_all (by rfl) | exact one_map (fun _ => rfl) | exact one_map2 (fun _ => rfl))); (focus ((try simp only [List.length_replicate, List.length_map, List.length_append, List.length_nil, List.length_cons, maxLen] at *); omega)))
    | with_reducible refine wr_i64 (by first | omega | (simp only [List.length_map] at *; omega)) ?_
    | with_reducible refine wr_u64 (by omega) ?_
    | with_reducible refine wr_u8 (by omega) ?_
    | with_reducible refine wr_u32 (by omega) ?_
    | with_reducible refine wr_mk _ rfl ?_
    | ((with_reducible refine ixN_nat ?_ ?_); (focus ((try simp only [List.length_map] at *); omega)))
    | ((with_reducible refine rowN_map ?_ ?_); (focus ((try simp only [List.length_map] at *); omega)); intro x hx)
    | ((with_reducible refine ixN_mk 0 ?_ ?_ ?_); (focus rfl); (focus decide))
    | ((with_reducible refine ixN_mk 1 ?_ ?_ ?_); (focus rfl); (focus decide))
    | ((with_reducible refine ixN_mk 2 ?_ ?_ ?_); (focus rfl); (focus decide))
    | ((with_reducible refine ixN_mk 3 ?_ ?_ ?_); (focus rfl); (focus decide))
    | ((with_reducible refine ixN_mk 4 ?_ ?_ ?_); (focus rfl); (focus decide))
    | ((with_reducible refine ixN_mk 5 ?_ ?_ ?_); (focus rfl); (focus decide))
    | ((with_reducible refine ixN_mk 6 ?_ ?_ ?_); (focus rfl); (focus decide))
    | ((with_reducible refine ixN_mk 7 ?_ ?_ ?_); (focus rfl); (focus decide))
    | ((with_reducible refine posE_nil (by rfl) ?_))
    | ((with_reducible refine posE_pos (by decide) ?_))
    | with_reducible refine vN_mod (by omega) ?_
    | with_reducible refine vN_mk ?_
    | with_reducible refine nzN_mk (by omega) ?_
    | with_reducible refine eqN_dec (by omega) ?_
    | with_reducible refine draw_rule tabOk mixOk ?_
    | with_reducible refine apN_mk (by kernel_rfl) ?_
    | ((with_reducible apply conN_mk2 ?_ (check_t _ _ hl hk) ?_);(first | (focus exact ⟨⟨rfl, rfl, trivial⟩, trivial⟩) | (rotate_left 1; (focus exact ⟨⟨rfl, rfl, trivial⟩, trivial⟩)) | (rotate_left 2; (focus exact ⟨⟨rfl, rfl, trivial⟩, trivial⟩))); skip)
    | ((with_reducible apply call_con2 ?_ (check_t _ _ hl hk) ?_);(first | (focus exact ⟨⟨rfl, rfl, trivial⟩, trivial⟩) | (rotate_left 1; (focus exact ⟨⟨rfl, rfl, trivial⟩, trivial⟩)) | (rotate_left 2; (focus exact ⟨⟨rfl, rfl, trivial⟩, trivial⟩))); rintro _ _ _ ⟨rfl, rfl, rfl⟩))
  all_goals (try (conv => whnf))
  refine loop_rule tabOk (fun q : Nat × List Int => ⟨[(11, .val (.int .i64 (q.1 : Int))), (10, .val (.int .i64 ((rs.map eK).length : Nat))), (9, .c (.ro false 3 (rs.map eK))), (2, .c (.gsl 0 (q.2.map cU)))], [(0, gB 1 25 (q.2.map cU))], 1⟩) (fun q => q.1 ≤ rs.length ∧ q.2 = saves (rs.take q.1)) (fun q => rs.length - q.1) (0, []) ⟨Nat.zero_le _, rfl⟩ (Stp.trans (Stp.nilg 2 5 rfl (Nat.zero_le _)) (Wk.stp (l := [5]) ⟨rfl, by decide, rfl, Nat.zero_le _, ⟨rfl, rfl, rfl, rfl, trivial⟩, ⟨fun b hb => (by cases hb), trivial⟩⟩)) ?_
  rintro ⟨i, acc⟩ ⟨hi, hacc⟩
  dsimp only at hi hacc ⊢
  have hal : acc.length ≤ 100 := by rw [hacc]; exact Nat.le_trans (saves_len _) (by rw [List.length_take]; omega)
  repeat' ((conv => whnf); first
    | with_reducible refine spB_t ?_
    | ((with_reducible apply spB_cong); (focus (simp only [beq_self_eq_true, bne_self_eq_false, Bool.true_bne, Bool.false_bne, Bool.bne_true, Bool.bne_false, Bool.true_beq, Bool.false_beq, Bool.not_true, Bool.not_false, Bool.not_not, Int.reduceBEq, Int.reduceBNe, Int.reduceLE, Int.reduceLT, Int.reduceEq, decide_true, decide_false]; rfl)))
    | with_reducible refine spB_yes (by decide) ?_
    | with_reducible refine spB_no (by decide) ?_
    | with_reducible refine spB_f ?_
    | with_reducible refine spB_not ?_
    | with_reducible refine spB_yes (by assumption) ?_
    | with_reducible refine spB_no (by assumption) ?_
    | (with_reducible refine spB_dec ?_ ?_ <;> intro _ <;> (try (exfalso; first | contradiction | omega | (rename_i hz; with_reducible exact absurd rfl hz))))
    | (with_reducible refine spB_beq ?_ ?_ <;> intro _ <;> (try (exfalso; first | contradiction | omega | (rename_i hz; with_reducible exact absurd rfl hz))))
    | (with_reducible refine spB_bne ?_ ?_ <;> intro _ <;> (try (exfalso; first | contradiction | omega | (rename_i hz; with_reducible exact absurd rfl hz))))
    | (with_reducible refine spB_mk ?_ ?_ <;> intro _ <;> (try (exfalso; first | contradiction | omega | (rename_i hz; with_reducible exact absurd rfl hz))))
    | ((with_reducible apply rowN_mk); (focus rfl))
    | ((with_reducible refine ixN_mk 0 ?_ ?_ ?_); (focus rfl); (focus (exact Nat.le_of_ble_eq_true rfl)))
    | ((with_reducible refine ixN_mk 1 ?_ ?_ ?_); (focus rfl); (focus (exact Nat.le_of_ble_eq_true rfl)))
    | ((with_reducible refine ixN_mk 2 ?_ ?_ ?_); (focus rfl); (focus (exact Nat.le_of_ble_eq_true rfl)))
    | ((with_reducible refine ixN_mk 3 ?_ ?_ ?_); (focus rfl); (focus (exact Nat.le_of_ble_eq_true rfl)))
    | ((with_reducible refine ixN_mk 4 ?_ ?_ ?_); (focus rfl); (focus (exact Nat.le_of_ble_eq_true rfl)))
    | ((with_reducible refine ixN_mk 5 ?_ ?_ ?_); (focus rfl); (focus (exact Nat.le_of_ble_eq_true rfl)))
    | ((with_reducible refine ixN_mk 6 ?_ ?_ ?_); (focus rfl); (focus (exact Nat.le_of_ble_eq_true rfl)))
    | ((with_reducible refine ixN_mk 7 ?_ ?_ ?_); (focus rfl); (focus (exact Nat.le_of_ble_eq_true rfl)))
    | ((with_reducible refine eqN_mk2 ?_ ?_); (focus rfl))
    | ((with_reducible refine posN_mk2 ?_ ?_); (focus (first | decide | ((try simp only [List.length_replicate, List.length_map, List.length_append, List.length_nil, List.length_cons, maxLen] at *); omega))))
    | ((with_reducible refine apdN.mk ?_ ?_ ?_ ?_ ?_ ?_); (focus (first | rfl | (simp; done))); (focus (first | exact one_all (by rfl) | exact one_map (fun _ => rfl) | exact one_map2 (fun _ => rfl))); (focus ((try simp only [List.length_replicate, List.length_map, List.length_append, List.length_nil, List.length_cons, maxLen] at *); omega)); (focus ((try simp only [List.length_replicate, List.length_map, List.length_append, List.length_nil, List.length_cons, maxLen] at *); omega)); (focus ((try simp only [List.length_replicate, List.length_map, List.length_append, List.length_nil, List.length_cons, maxLen] at *); omega)))
    | ((with_reducible refine cpyN.mk ?_ ?_ ?_ ?_); (focus (first | rfl | (simp; done))); (focus (first | exact one_all (by rfl) | exact one_map (fun _ => rfl) | exact one_map2 (fun _ => rfl))); (focus ((try simp only [List.length_replicate, List.length_map, List.length_append, List.length_nil, List.length_cons, maxLen] at *); omega)))
    | with_reducible refine wr_i64 (by first | omega | (simp only [List.length_map] at *; omega)) ?_
    | with_reducible refine wr_u64 (by omega) ?_
    | with_reducible refine wr_u8 (by omega) ?_
    | with_reducible refine wr_u32 (by omega) ?_
    | with_reducible refine wr_mk _ rfl ?_
    | ((with_reducible refine ixN_nat ?_ ?_); (focus ((try simp only [List.length_map] at *); omega)))
    | ((with_reducible refine rowN_map ?_ ?_); (focus ((try simp only [List.length_map] at *); omega)); intro x hx)
    | ((with_reducible refine ixN_mk 0 ?_ ?_ ?_); (focus rfl); (focus decide))
    | ((with_reducible refine ixN_mk 1 ?_ ?_ ?_); (focus rfl); (focus decide))
    | ((with_reducible refine ixN_mk 2 ?_ ?_ ?_); (focus rfl); (focus decide))
    | ((with_reducible refine ixN_mk 3 ?_ ?_ ?_); (focus rfl); (focus decide))
    | ((with_reducible refine ixN_mk 4 ?_ ?_ ?_); (focus rfl); (focus decide))
    | ((with_reducible refine ixN_mk 5 ?_ ?_ ?_); (focus rfl); (focus decide))
    | ((with_reducible refine ixN_mk 6 ?_ ?_ ?_); (focus rfl); (focus decide))
    | ((with_reducible refine ixN_mk 7 ?_ ?_ ?_); (focus rfl); (focus decide))
    | ((with_reducible refine posE_nil (by rfl) ?_))
    | ((with_reducible refine posE_pos (by decide) ?_))
    | with_reducible refine vN_mod (by omega) ?_
    | with_reducible refine vN_mk ?_
    | with_reducible refine nzN_mk (by omega) ?_
    | with_reducible refine eqN_dec (by omega) ?_
    | with_reducible refine draw_rule tabOk mixOk ?_
    | with_reducible refine apN_mk (by kernel_rfl) ?_
    | ((with_reducible apply conN_mk2 ?_ (check_t _ _ hl hk) ?_);(first | (focus exact ⟨⟨rfl, rfl, trivial⟩, trivial⟩) | (rotate_left 1; (focus exact ⟨⟨rfl, rfl, trivial⟩, trivial⟩)) | (rotate_left 2; (focus exact ⟨⟨rfl, rfl, trivial⟩, trivial⟩))); skip)
    | ((with_reducible apply call_con2 ?_ (check_t _ _ hl hk) ?_);(first | (focus exact ⟨⟨rfl, rfl, trivial⟩, trivial⟩) | (rotate_left 1; (focus exact ⟨⟨rfl, rfl, trivial⟩, trivial⟩)) | (rotate_left 2; (focus exact ⟨⟨rfl, rfl, trivial⟩, trivial⟩))); rintro _ _ _ ⟨rfl, rfl, rfl⟩))
  all_goals (try (conv => whnf))
  all_goals first
    | (refine ⟨⟨(i + 1, acc), ⟨by (try simp only [List.length_map] at *); omega, ?_⟩, by (try simp only [List.length_map] at *); omega, (Wk.stp (l := [0]) ⟨rfl, by decide, rfl, Nat.zero_le _, ⟨rfl, rfl, rfl, rfl, trivial⟩, ⟨gB_sub rfl rfl (ren_map fun _ => rfl), trivial⟩⟩)⟩⟩; dsimp only; rw [hacc, saves_no hx (by assumption)]; done)
    | (refine ⟨⟨(i + 1, acc ++ [x.num]), ⟨by (try simp only [List.length_map] at *); omega, ?_⟩, by (try simp only [List.length_map] at *); omega, (Wk.stp (l := [3]) ⟨rfl, by decide, rfl, Nat.zero_le _, ⟨rfl, rfl, rfl, (by rw [List.map_append]; rfl), trivial⟩, ⟨gB_sub' rfl (by rw [List.map_append]; rfl) (ren_map fun _ => rfl), trivial⟩⟩)⟩⟩; dsimp only; rw [hacc, saves_yes hx (by assumption)]; done)
    | (refine ret_stp (Stp.fzg 2 0 (acc.map cU) rfl 1 25 rfl (acc.map eU) (by simp only [List.map_map]; rfl) (Nat.zero_le _)) ?_; refine ret0 _ rfl _ rfl (fun _ => rfl) rfl ⟨?_, rfl, rfl⟩; rw [hacc, take_end (by (try simp only [List.length_map] at *); omega)]; rfl)
    | (trace_state; sorry)

theorem new_con (keep : Int)  : Con Try.prog 22 [.one (.v (.int .i64 keep))] (fun rx rK rt => rx = .tup [.agg [.v (.int .i64 (if 1 ≤ keep ∧ keep ≤ 4 then keep else 0)), .v (.slice none 0 0)], .one (.v (.int .i64 (if 1 ≤ keep ∧ keep ≤ 4 then 0 else 2)))] ∧ rK = [] ∧ rt = 0) := by
  refine con_of tabOk 12 Try.f22 _ Try.func22 (by kernel_rfl) rfl rfl rfl rfl (fun W => ?_)
  have e : okS keep [] = decide (1 ≤ keep ∧ keep ≤ 4) := by unfold okS okK; simp
  by_cases hk : 1 ≤ keep ∧ keep ≤ 4
  · have c1 := check_t keep [] (by simp) (by rw [e]; exact decide_eq_true hk)
    simp only [if_pos hk]
    repeat' ((conv => whnf); first
      | with_reducible refine spB_t ?_
      | ((with_reducible apply spB_cong); (focus (simp only [beq_self_eq_true, bne_self_eq_false, Bool.true_bne, Bool.false_bne, Bool.bne_true, Bool.bne_false, Bool.true_beq, Bool.false_beq, Bool.not_true, Bool.not_false, Bool.not_not, Int.reduceBEq, Int.reduceBNe, Int.reduceLE, Int.reduceLT, Int.reduceEq, decide_true, decide_false]; rfl)))
      | with_reducible refine spB_yes (by decide) ?_
      | with_reducible refine spB_no (by decide) ?_
      | with_reducible refine spB_f ?_
      | with_reducible refine spB_not ?_
      | with_reducible refine spB_yes (by assumption) ?_
      | with_reducible refine spB_no (by assumption) ?_
      | (with_reducible refine spB_dec ?_ ?_ <;> intro _ <;> (try (exfalso; first | contradiction | omega | (rename_i hz; with_reducible exact absurd rfl hz))))
      | (with_reducible refine spB_beq ?_ ?_ <;> intro _ <;> (try (exfalso; first | contradiction | omega | (rename_i hz; with_reducible exact absurd rfl hz))))
      | (with_reducible refine spB_bne ?_ ?_ <;> intro _ <;> (try (exfalso; first | contradiction | omega | (rename_i hz; with_reducible exact absurd rfl hz))))
      | (with_reducible refine spB_mk ?_ ?_ <;> intro _ <;> (try (exfalso; first | contradiction | omega | (rename_i hz; with_reducible exact absurd rfl hz))))
      | ((with_reducible apply rowN_mk); (focus rfl))
      | ((with_reducible refine ixN_mk 0 ?_ ?_ ?_); (focus rfl); (focus (exact Nat.le_of_ble_eq_true rfl)))
      | ((with_reducible refine ixN_mk 1 ?_ ?_ ?_); (focus rfl); (focus (exact Nat.le_of_ble_eq_true rfl)))
      | ((with_reducible refine ixN_mk 2 ?_ ?_ ?_); (focus rfl); (focus (exact Nat.le_of_ble_eq_true rfl)))
      | ((with_reducible refine ixN_mk 3 ?_ ?_ ?_); (focus rfl); (focus (exact Nat.le_of_ble_eq_true rfl)))
      | ((with_reducible refine ixN_mk 4 ?_ ?_ ?_); (focus rfl); (focus (exact Nat.le_of_ble_eq_true rfl)))
      | ((with_reducible refine ixN_mk 5 ?_ ?_ ?_); (focus rfl); (focus (exact Nat.le_of_ble_eq_true rfl)))
      | ((with_reducible refine ixN_mk 6 ?_ ?_ ?_); (focus rfl); (focus (exact Nat.le_of_ble_eq_true rfl)))
      | ((with_reducible refine ixN_mk 7 ?_ ?_ ?_); (focus rfl); (focus (exact Nat.le_of_ble_eq_true rfl)))
      | ((with_reducible refine eqN_mk2 ?_ ?_); (focus rfl))
      | ((with_reducible refine posN_mk2 ?_ ?_); (focus (first | decide | ((try simp only [List.length_replicate, List.length_map, List.length_append, List.length_nil, List.length_cons, maxLen] at *); omega))))
      | ((with_reducible refine apdN.mk ?_ ?_ ?_ ?_ ?_ ?_); (focus (first | rfl | (simp; done))); (focus (first | exact one_all (by rfl) | exact one_map (fun _ => rfl) | exact one_map2 (fun _ => rfl))); (focus ((try simp only [List.length_replicate, List.length_map, List.length_append, List.length_nil, List.length_cons, maxLen] at *); omega)); (focus ((try simp only [List.length_replicate, List.length_map, List.length_append, List.length_nil, List.length_cons, maxLen] at *); omega)); (focus ((try simp only [List.length_replicate, List.length_map, List.length_append, List.length_nil, List.length_cons, maxLen] at *); omega)))
      | ((with_reducible refine cpyN.mk ?_ ?_ ?_ ?_); (focus (first | rfl | (simp; done))); (focus (first | exact one_all (by rfl) | exact one_map (fun _ => rfl) | exact one_map2 (fun _ => rfl))); (focus ((try simp only [List.length_replicate, List.length_map, List.length_append, List.length_nil, List.length_cons, maxLen] at *); omega)))
      | with_reducible refine wr_i64 (by first | omega | (simp only [List.length_map] at *; omega)) ?_
      | with_reducible refine wr_u64 (by omega) ?_
      | with_reducible refine wr_u8 (by omega) ?_
      | with_reducible refine wr_u32 (by omega) ?_
      | with_reducible refine wr_mk _ rfl ?_
      | ((with_reducible refine ixN_nat ?_ ?_); (focus ((try simp only [List.length_map] at *); omega)))
      | ((with_reducible refine rowN_map ?_ ?_); (focus ((try simp only [List.length_map] at *); omega)); intro x hx)
      | ((with_reducible refine ixN_mk 0 ?_ ?_ ?_); (focus rfl); (focus decide))
      | ((with_reducible refine ixN_mk 1 ?_ ?_ ?_); (focus rfl); (focus decide))
      | ((with_reducible refine ixN_mk 2 ?_ ?_ ?_); (focus rfl); (focus decide))
      | ((with_reducible refine ixN_mk 3 ?_ ?_ ?_); (focus rfl); (focus decide))
      | ((with_reducible refine ixN_mk 4 ?_ ?_ ?_); (focus rfl); (focus decide))
      | ((with_reducible refine ixN_mk 5 ?_ ?_ ?_); (focus rfl); (focus decide))
      | ((with_reducible refine ixN_mk 6 ?_ ?_ ?_); (focus rfl); (focus decide))
      | ((with_reducible refine ixN_mk 7 ?_ ?_ ?_); (focus rfl); (focus decide))
      | ((with_reducible refine posE_nil (by rfl) ?_))
      | ((with_reducible refine posE_pos (by decide) ?_))
      | with_reducible refine vN_mod (by omega) ?_
      | with_reducible refine vN_mk ?_
      | with_reducible refine nzN_mk (by omega) ?_
      | with_reducible refine eqN_dec (by omega) ?_
      | with_reducible refine draw_rule tabOk mixOk ?_
      | with_reducible refine apN_mk (by kernel_rfl) ?_
      | ((with_reducible apply conN_mk2 ?_ (c1) ?_);(first | (focus exact ⟨⟨rfl, .inr ⟨3, rfl⟩, trivial⟩, trivial⟩)); skip)
      | ((with_reducible apply call_con2 ?_ (c1) ?_);(first | (focus exact ⟨⟨rfl, .inr ⟨3, rfl⟩, trivial⟩, trivial⟩)); rintro _ _ _ ⟨rfl, rfl, rfl⟩))
    all_goals (try (conv => whnf))
    all_goals refine ret0 _ rfl _ rfl (fun _ => rfl) rfl ⟨?_, rfl, rfl⟩
    all_goals rfl
  · have c1 := check_f keep [] (by simp) (by rw [e]; exact decide_eq_false hk)
    simp only [if_neg hk]
    repeat' ((conv => whnf); first
      | with_reducible refine spB_t ?_
      | ((with_reducible apply spB_cong); (focus (simp only [beq_self_eq_true, bne_self_eq_false, Bool.true_bne, Bool.false_bne, Bool.bne_true, Bool.bne_false, Bool.true_beq, Bool.false_beq, Bool.not_true, Bool.not_false, Bool.not_not, Int.reduceBEq, Int.reduceBNe, Int.reduceLE, Int.reduceLT, Int.reduceEq, decide_true, decide_false]; rfl)))
      | with_reducible refine spB_yes (by decide) ?_
      | with_reducible refine spB_no (by decide) ?_
      | with_reducible refine spB_f ?_
      | with_reducible refine spB_not ?_
      | with_reducible refine spB_yes (by assumption) ?_
      | with_reducible refine spB_no (by assumption) ?_
      | (with_reducible refine spB_dec ?_ ?_ <;> intro _ <;> (try (exfalso; first | contradiction | omega | (rename_i hz; with_reducible exact absurd rfl hz))))
      | (with_reducible refine spB_beq ?_ ?_ <;> intro _ <;> (try (exfalso; first | contradiction | omega | (rename_i hz; with_reducible exact absurd rfl hz))))
      | (with_reducible refine spB_bne ?_ ?_ <;> intro _ <;> (try (exfalso; first | contradiction | omega | (rename_i hz; with_reducible exact absurd rfl hz))))
      | (with_reducible refine spB_mk ?_ ?_ <;> intro _ <;> (try (exfalso; first | contradiction | omega | (rename_i hz; with_reducible exact absurd rfl hz))))
      | ((with_reducible apply rowN_mk); (focus rfl))
      | ((with_reducible refine ixN_mk 0 ?_ ?_ ?_); (focus rfl); (focus (exact Nat.le_of_ble_eq_true rfl)))
      | ((with_reducible refine ixN_mk 1 ?_ ?_ ?_); (focus rfl); (focus (exact Nat.le_of_ble_eq_true rfl)))
      | ((with_reducible refine ixN_mk 2 ?_ ?_ ?_); (focus rfl); (focus (exact Nat.le_of_ble_eq_true rfl)))
      | ((with_reducible refine ixN_mk 3 ?_ ?_ ?_); (focus rfl); (focus (exact Nat.le_of_ble_eq_true rfl)))
      | ((with_reducible refine ixN_mk 4 ?_ ?_ ?_); (focus rfl); (focus (exact Nat.le_of_ble_eq_true rfl)))
      | ((with_reducible refine ixN_mk 5 ?_ ?_ ?_); (focus rfl); (focus (exact Nat.le_of_ble_eq_true rfl)))
      | ((with_reducible refine ixN_mk 6 ?_ ?_ ?_); (focus rfl); (focus (exact Nat.le_of_ble_eq_true rfl)))
      | ((with_reducible refine ixN_mk 7 ?_ ?_ ?_); (focus rfl); (focus (exact Nat.le_of_ble_eq_true rfl)))
      | ((with_reducible refine eqN_mk2 ?_ ?_); (focus rfl))
      | ((with_reducible refine posN_mk2 ?_ ?_); (focus (first | decide | ((try simp only [List.length_replicate, List.length_map, List.length_append, List.length_nil, List.length_cons, maxLen] at *); omega))))
      | ((with_reducible refine apdN.mk ?_ ?_ ?_ ?_ ?_ ?_); (focus (first | rfl | (simp; done))); (focus (first | exact one_all (by rfl) | exact one_map (fun _ => rfl) | exact one_map2 (fun _ => rfl))); (focus ((try simp only [List.length_replicate, List.length_map, List.length_append, List.length_nil, List.length_cons, maxLen] at *); omega)); (focus ((try simp only [List.length_replicate, List.length_map, List.length_append, List.length_nil, List.length_cons, maxLen] at *); omega)); (focus ((try simp only [List.length_replicate, List.length_map, List.length_append, List.length_nil, List.length_cons, maxLen] at *); omega)))
      | ((with_reducible refine cpyN.mk ?_ ?_ ?_ ?_); (focus (first | rfl | (simp; done))); (focus (first | exact one_all (by rfl) | exact one_map (fun _ => rfl) | exact one_map2 (fun _ => rfl))); (focus ((try simp only [List.length_replicate, List.length_map, List.length_append, List.length_nil, List.length_cons, maxLen] at *); omega)))
      | with_reducible refine wr_i64 (by first | omega | (simp only [List.length_map] at *; omega)) ?_
      | with_reducible refine wr_u64 (by omega) ?_
      | with_reducible refine wr_u8 (by omega) ?_
      | with_reducible refine wr_u32 (by omega) ?_
      | with_reducible refine wr_mk _ rfl ?_
      | ((with_reducible refine ixN_nat ?_ ?_); (focus ((try simp only [List.length_map] at *); omega)))
      | ((with_reducible refine rowN_map ?_ ?_); (focus ((try simp only [List.length_map] at *); omega)); intro x hx)
      | ((with_reducible refine ixN_mk 0 ?_ ?_ ?_); (focus rfl); (focus decide))
      | ((with_reducible refine ixN_mk 1 ?_ ?_ ?_); (focus rfl); (focus decide))
      | ((with_reducible refine ixN_mk 2 ?_ ?_ ?_); (focus rfl); (focus decide))
      | ((with_reducible refine ixN_mk 3 ?_ ?_ ?_); (focus rfl); (focus decide))
      | ((with_reducible refine ixN_mk 4 ?_ ?_ ?_); (focus rfl); (focus decide))
      | ((with_reducible refine ixN_mk 5 ?_ ?_ ?_); (focus rfl); (focus decide))
      | ((with_reducible refine ixN_mk 6 ?_ ?_ ?_); (focus rfl); (focus decide))
      | ((with_reducible refine ixN_mk 7 ?_ ?_ ?_); (focus rfl); (focus decide))
      | ((with_reducible refine posE_nil (by rfl) ?_))
      | ((with_reducible refine posE_pos (by decide) ?_))
      | with_reducible refine vN_mod (by omega) ?_
      | with_reducible refine vN_mk ?_
      | with_reducible refine nzN_mk (by omega) ?_
      | with_reducible refine eqN_dec (by omega) ?_
      | with_reducible refine draw_rule tabOk mixOk ?_
      | with_reducible refine apN_mk (by kernel_rfl) ?_
      | ((with_reducible apply conN_mk2 ?_ (c1) ?_);(first | (focus exact ⟨⟨rfl, .inr ⟨3, rfl⟩, trivial⟩, trivial⟩)); skip)
      | ((with_reducible apply call_con2 ?_ (c1) ?_);(first | (focus exact ⟨⟨rfl, .inr ⟨3, rfl⟩, trivial⟩, trivial⟩)); rintro _ _ _ ⟨rfl, rfl, rfl⟩))
    all_goals (try (conv => whnf))
    all_goals refine ret0 _ rfl _ rfl (fun _ => rfl) rfl ⟨?_, rfl, rfl⟩
    all_goals rfl

end Go.Proofs.Ytnlcmncfbiognaa
