import Derived.Test.YtnlcmncfbiognaaTe0
namespace Go.Proofs.Ytnlcmncfbiognaa
open Go Go.RowKit Wx
set_option linter.unusedVariables false
set_option linter.unusedSimpArgs false
set_option maxHeartbeats 4000000
theorem check_con (keep : Int) (rs : List Kp) (hl : rs.length ≤ 100) : Con Try.prog 20 [.agg [.v (.int .i64 keep), .ro false 3 (rs.map eK)]] (fun rx rK rt => rx = .val (.int .i64 (bif okS keep rs then 0 else 330)) ∧ rK = [] ∧ rt = 0) := by
  refine con_of tabOk 48 Try.f20 _ Try.func20 (by kernel_rfl) rfl rfl rfl rfl (fun W => ?_)
  repeat' ((conv => whnf); first
    | with_reducible refine spB_t ?_
    | ((with_reducible apply spB_cong); (focus (simp only [beq_self_eq_true, bne_self_eq_false, Bool.true_bne, Bool.false_bne, Bool.bne_true, Bool.bne_false, Bool.true_beq, Bool.false_beq, Bool.not_true, Bool.not_false, Bool.not_not, Int.reduceBEq, Int.reduceBNe, Int.reduceLE, Int.reduceLT, Int.reduceEq, decide_true, decide_false]; rfl)))
    | with_reducible refine spB_yes (by decide) ?_
    | with_reducible refine spB_no (by decide) ?_
    | with_reducible refine spB_f ?_
    | with_reducible refine spB_not ?_
    | with_reducible refine spB_yes (by assumption) ?_
    | with_reducible refine spB_no (by assumption) ?_
    | (with_reducible refine spB_dec ?_ ?_ <;> intro _ <;> (try (exfalso; first | contradiction | omega | (rename_i hz; with_reducible exact absurd rfl hz))))
    | (with_reducible refine spB_beq ?_ ?_ <;> intro _ <;> (try (exfalso; first | contradiction | omega | (rename_i hz; with_reducible exact absurd rfl hz))))
    | (with_reducible refine spB_bne ?_ ?_ <;> intro _ <;> (try (exfalso; first | contradiction | omega | (rename_i hz; with_reducible exact absurd rfl hz))))
    | (with_reducible refine spB_mk ?_ ?_ <;> intro _ <;> (try (exfalso; first | contradiction | omega | (rename_i hz; with_reducible exact absurd rfl hz))))
    | ((with_reducible apply rowN_mk); (focus rfl))
    | ((with_reducible refine ixN_mk 0 ?_ ?_ ?_); (focus rfl); (focus (exact Nat.le_of_ble_eq_true rfl)))
    | ((with_reducible refine ixN_mk 1 ?_ ?_ ?_); (focus rfl); (focus (exact Nat.le_of_ble_eq_true rfl)))
    | ((with_reducible refine ixN_mk 2 ?_ ?_ ?_); (focus rfl); (focus (exact Nat.le_of_ble_eq_true rfl)))
    | ((with_reducible refine ixN_mk 3 ?_ ?_ ?_); (focus rfl); (focus (exact Nat.le_of_ble_eq_true rfl)))
    | ((with_reducible refine ixN_mk 4 ?_ ?_ ?_); (focus rfl); (focus (exact Nat.le_of_ble_eq_true rfl)))
    | ((with_reducible refine ixN_mk 5 ?_ ?_ ?_); (focus rfl); (focus (exact Nat.le_of_ble_eq_true rfl)))
    | ((with_reducible refine ixN_mk 6 ?_ ?_ ?_); (focus rfl); (focus (exact Nat.le_of_ble_eq_true rfl)))
    | ((with_reducible refine ixN_mk 7 ?_ ?_ ?_); (focus rfl); (focus (exact Nat.le_of_ble_eq_true rfl)))
    | ((with_reducible refine eqN_mk2 ?_ ?_); (focus rfl))
    | ((with_reducible refine posN_mk2 ?_ ?_); (focus (first | decide | ((try simp only [List.length_replicate, List.length_map, List.length_append, List.length_nil, List.length_cons, maxLen] at *); omega))))
    | ((with_reducible refine apdN.mk ?_ ?_ ?_ ?_ ?_ ?_); (focus (first | rfl | (simp; done))); (focus (first | exact one_all (by rfl) | exact one_map (fun _ => rfl) | exact one_map2 (fun _ => rfl))); (focus ((try simp only [List.length_replicate, List.length_map, List.length_append, List.length_nil, List.length_cons, maxLen] at *); omega)); (focus ((try simp only [List.length_replicate, List.length_map, List.length_append, List.length_nil, List.length_cons, maxLen] at *); omega)); (focus ((try simp only [List.length_replicate, List.length_map, List.length_append, List.length_nil, List.length_cons, maxLen] at *); omega)))
    | ((with_reducible refine cpyN.mk ?_ ?_ ?_ ?_); (focus (first | rfl | (simp; done))); (focus (first | exact one_all (by rfl) | exact one_map (fun _ => rfl) | exact one_map2 (fun _ => rfl))); (focus ((try simp only [List.length_replicate, List.length_map, List.length_append, List.length_nil, List.length_cons, maxLen] at *); omega)))
    | with_reducible refine wr_i64 (by first | omega | (simp only [List.length_map] at *; omega)) ?_
    | with_reducible refine wr_u64 (by omega) ?_
    | with_reducible refine wr_u8 (by omega) ?_
    | with_reducible refine wr_u32 (by omega) ?_
    | with_reducible refine wr_mk _ rfl ?_
    | ((with_reducible refine ixN_nat ?_ ?_); (focus ((try simp only [List.length_map] at *); omega)))
    | ((with_reducible refine rowN_map ?_ ?_); (focus ((try simp only [List.length_map] at *); omega)); intro x hx)
    | ((with_reducible refine ixN_mk 0 ?_ ?_ ?_); (focus rfl); (focus decide))
    | ((with_reducible refine ixN_mk 1 ?_ ?_ ?_); (focus rfl); (focus decide))
    | ((with_reducible refine ixN_mk 2 ?_ ?_ ?_); (focus rfl); (focus decide))
    | ((with_reducible refine ixN_mk 3 ?_ ?_ ?_); (focus rfl); (focus decide))
    | ((with_reducible refine ixN_mk 4 ?_ ?_ ?_); (focus rfl); (focus decide))
    | ((with_reducible refine ixN_mk 5 ?_ ?_ ?_); (focus rfl); (focus decide))
    | ((with_reducible refine ixN_mk 6 ?_ ?_ ?_); (focus rfl); (focus decide))
    | ((with_reducible refine ixN_mk 7 ?_ ?_ ?_); (focus rfl); (focus decide))
    | ((with_reducible refine posE_nil (by rfl) ?_))
    | ((with_reducible refine posE_pos (by decide) ?_))
    | with_reducible refine vN_mod (by omega) ?_
    | with_reducible refine vN_mk ?_
    | with_reducible refine nzN_mk (by omega) ?_
    | with_reducible refine eqN_dec (by omega) ?_
    | with_reducible refine draw_rule tabOk mixOk ?_
    | with_reducible refine apN_mk (by kernel_rfl) ?_)
  all_goals (try (conv => whnf))
  all_goals try (refine ret0 _ rfl _ rfl (fun _ => rfl) rfl ⟨?_, rfl, rfl⟩; refine rv_int ?_; rw [show okS keep rs = false by unfold okS; rw [decide_eq_false (by (try simp only [List.length_map] at *); omega)]; rfl]; rfl)
  refine loop_rule tabOk (fun q : Nat × Kp => ⟨[(23, .val (.int .i64 (q.1 : Int))), (22, .val (.int .i64 ((rs.map eK).length : Nat))), (21, .c (.ro false 3 (rs.map eK))), (3, .c (.own 0 0 0))], [(0, some ⟨[[.v (.int .u64 q.2.num), .v (.bool q.2.sv), .v (.bool q.2.op)]], 3, 44, true⟩)], 1⟩) (fun q => q.1 ≤ rs.length ∧ okK k0 rs = okK q.2 (rs.drop q.1)) (fun q => rs.length - q.1) (0, k0) ⟨Nat.zero_le _, rfl⟩ (Wk.stp (l := [1]) ⟨rfl, by decide, rfl, Nat.zero_le _, ⟨rfl, rfl, rfl, rfl, trivial⟩, ⟨fun b hb => by cases hb; rfl, trivial⟩⟩) ?_
  rintro ⟨i, a⟩ ⟨hi, hok⟩
  dsimp only at hi hok ⊢
  repeat' ((conv => whnf); first
    | with_reducible refine spB_t ?_
    | ((with_reducible apply spB_cong); (focus (simp only [beq_self_eq_true, bne_self_eq_false, Bool.true_bne, Bool.false_bne, Bool.bne_true, Bool.bne_false, Bool.true_beq, Bool.false_beq, Bool.not_true, Bool.not_false, Bool.not_not, Int.reduceBEq, Int.reduceBNe, Int.reduceLE, Int.reduceLT, Int.reduceEq, decide_true, decide_false]; rfl)))
    | with_reducible refine spB_yes (by decide) ?_
    | with_reducible refine spB_no (by decide) ?_
    | with_reducible refine spB_f ?_
    | with_reducible refine spB_not ?_
    | with_reducible refine spB_yes (by assumption) ?_
    | with_reducible refine spB_no (by assumption) ?_
    | (with_reducible refine spB_dec ?_ ?_ <;> intro _ <;> (try (exfalso; first | contradiction | omega | (rename_i hz; with_reducible exact absurd rfl hz))))
    | (with_reducible refine spB_beq ?_ ?_ <;> intro _ <;> (try (exfalso; first | contradiction | omega | (rename_i hz; with_reducible exact absurd rfl hz))))
    | (with_reducible refine spB_bne ?_ ?_ <;> intro _ <;> (try (exfalso; first | contradiction | omega | (rename_i hz; with_reducible exact absurd rfl hz))))
    | (with_reducible refine spB_mk ?_ ?_ <;> intro _ <;> (try (exfalso; first | contradiction | omega | (rename_i hz; with_reducible exact absurd rfl hz))))
    | ((with_reducible apply rowN_mk); (focus rfl))
    | ((with_reducible refine ixN_mk 0 ?_ ?_ ?_); (focus rfl); (focus (exact Nat.le_of_ble_eq_true rfl)))
    | ((with_reducible refine ixN_mk 1 ?_ ?_ ?_); (focus rfl); (focus (exact Nat.le_of_ble_eq_true rfl)))
    | ((with_reducible refine ixN_mk 2 ?_ ?_ ?_); (focus rfl); (focus (exact Nat.le_of_ble_eq_true rfl)))
    | ((with_reducible refine ixN_mk 3 ?_ ?_ ?_); (focus rfl); (focus (exact Nat.le_of_ble_eq_true rfl)))
    | ((with_reducible refine ixN_mk 4 ?_ ?_ ?_); (focus rfl); (focus (exact Nat.le_of_ble_eq_true rfl)))
    | ((with_reducible refine ixN_mk 5 ?_ ?_ ?_); (focus rfl); (focus (exact Nat.le_of_ble_eq_true rfl)))
    | ((with_reducible refine ixN_mk 6 ?_ ?_ ?_); (focus rfl); (focus (exact Nat.le_of_ble_eq_true rfl)))
    | ((with_reducible refine ixN_mk 7 ?_ ?_ ?_); (focus rfl); (focus (exact Nat.le_of_ble_eq_true rfl)))
    | ((with_reducible refine eqN_mk2 ?_ ?_); (focus rfl))
    | ((with_reducible refine posN_mk2 ?_ ?_); (focus (first | decide | ((try simp only [List.length_replicate, List.length_map, List.length_append, List.length_nil, List.length_cons, maxLen] at *); omega))))
    | ((with_reducible refine apdN.mk ?_ ?_ ?_ ?_ ?_ ?_); (focus (first | rfl | (simp; done))); (focus (first | exact one_all (by rfl) | exact one_map (fun _ => rfl) | exact one_map2 (fun _ => rfl))); (focus ((try simp only [List.length_replicate, List.length_map, List.length_append, List.length_nil, List.length_cons, maxLen] at *); omega)); (focus ((try simp only [List.length_replicate, List.length_map, List.length_append, List.length_nil, List.length_cons, maxLen] at *); omega)); (focus ((try simp only [List.length_replicate, List.length_map, List.length_append, List.length_nil, List.length_cons, maxLen] at *); omega)))
    | ((with_reducible refine cpyN.mk ?_ ?_ ?_ ?_); (focus (first | rfl | (simp; done))); (focus (first | exact one_all (by rfl) | exact one_map (fun _ => rfl) | exact one_map2 (fun _ => rfl))); (focus ((try simp only [List.length_replicate, List.length_map, List.length_append, List.length_nil, List.length_cons, maxLen] at *); omega)))
    | with_reducible refine wr_i64 (by first | omega | (simp only [List.length_map] at *; omega)) ?_
    | with_reducible refine wr_u64 (by omega) ?_
    | with_reducible refine wr_u8 (by omega) ?_
    | with_reducible refine wr_u32 (by omega) ?_
    | with_reducible refine wr_mk _ rfl ?_
    | ((with_reducible refine ixN_nat ?_ ?_); (focus ((try simp only [List.length_map] at *); omega)))
    | ((with_reducible refine rowN_map ?_ ?_); (focus ((try simp only [List.length_map] at *); omega)); intro x hx)
    | ((with_reducible refine ixN_mk 0 ?_ ?_ ?_); (focus rfl); (focus decide))
    | ((with_reducible refine ixN_mk 1 ?_ ?_ ?_); (focus rfl); (focus decide))
    | ((with_reducible refine ixN_mk 2 ?_ ?_ ?_); (focus rfl); (focus decide))
    | ((with_reducible refine ixN_mk 3 ?_ ?_ ?_); (focus rfl); (focus decide))
    | ((with_reducible refine ixN_mk 4 ?_ ?_ ?_); (focus rfl); (focus decide))
    | ((with_reducible refine ixN_mk 5 ?_ ?_ ?_); (focus rfl); (focus decide))
    | ((with_reducible refine ixN_mk 6 ?_ ?_ ?_); (focus rfl); (focus decide))
    | ((with_reducible refine ixN_mk 7 ?_ ?_ ?_); (focus rfl); (focus decide))
    | ((with_reducible refine posE_nil (by rfl) ?_))
    | ((with_reducible refine posE_pos (by decide) ?_))
    | with_reducible refine vN_mod (by omega) ?_
    | with_reducible refine vN_mk ?_
    | with_reducible refine nzN_mk (by omega) ?_
    | with_reducible refine eqN_dec (by omega) ?_
    | with_reducible refine draw_rule tabOk mixOk ?_
    | with_reducible refine apN_mk (by kernel_rfl) ?_)
  all_goals (try (conv => whnf))
  all_goals first
    | (refine ⟨⟨(i + 1, x), ⟨by (try simp only [List.length_map] at *); omega, ?_⟩, by (try simp only [List.length_map] at *); omega, (Wk.stp (l := [0]) ⟨rfl, by decide, rfl, Nat.zero_le _, ⟨rfl, rfl, rfl, rfl, trivial⟩, ⟨fun b hb => by cases hb; rfl, trivial⟩⟩)⟩⟩; dsimp only; rw [hok, drop_cons hx]; simp only [okK]; rw [decide_eq_true (by refine ⟨by omega, by omega, fun ho => ?_⟩; first | assumption | (cases ho; done) | (exfalso; simp_all; done) | (simp_all; done)), Bool.true_and]; done)
    | (refine ret0 _ rfl _ rfl (fun _ => rfl) rfl ⟨?_, rfl, rfl⟩; refine rv_int ?_; simp only [okS]; rw [hok, drop_cons hx]; simp only [okK]; rw [decide_eq_false (p := a.num < x.num ∧ _) (by rintro ⟨h1, h2, h3⟩; first | omega | (have h4 := h3 (by assumption); simp_all; done))]; simp; done)
    | (refine ret0 _ rfl _ rfl (fun _ => rfl) rfl ⟨?_, rfl, rfl⟩; refine rv_int ?_; simp only [okS]; rw [hok, drop_end (by (try simp only [List.length_map] at *); omega)]; simp only [okK]; rw [decide_eq_true (by (try simp only [List.length_map] at *); omega)]; rfl)
    | (trace_state; sorry)

theorem check_t (keep : Int) (rs : List Kp) (hl : rs.length ≤ 100) (hk : okS keep rs = true) : Con Try.prog 20 [.agg [.v (.int .i64 keep), .ro false 3 (rs.map eK)]] (fun rx rK rt => rx = .val (.int .i64 0) ∧ rK = [] ∧ rt = 0) := by
  have := check_con keep rs hl
  rw [hk] at this
  exact this
theorem check_f (keep : Int) (rs : List Kp) (hl : rs.length ≤ 100) (hk : okS keep rs = false) : Con Try.prog 20 [.agg [.v (.int .i64 keep), .ro false 3 (rs.map eK)]] (fun rx rK rt => rx = .val (.int .i64 330) ∧ rK = [] ∧ rt = 0) := by
  have := check_con keep rs hl
  rw [hk] at this
  exact this
theorem right_con (keep : Int) (rs : List Kp) (hl : rs.length ≤ 100) : Con Try.prog 19 [.agg [.v (.int .i64 keep), .ro false 3 (rs.map eK)]] (fun rx rK rt => rx = .val (.bool (okS keep rs)) ∧ rK = [] ∧ rt = 0) := by
  refine con_of tabOk 67 Try.f19 _ Try.func19 (by kernel_rfl) rfl rfl rfl rfl (fun W => ?_)
  repeat' ((conv => whnf); first
    | with_reducible refine spB_t ?_
    | ((with_reducible apply spB_cong); (focus (simp only [beq_self_eq_true, bne_self_eq_false, Bool.true_bne, Bool.false_bne, Bool.bne_true, Bool.bne_false, Bool.true_beq, Bool.false_beq, Bool.not_true, Bool.not_false, Bool.not_not, Int.reduceBEq, Int.reduceBNe, Int.reduceLE, Int.reduceLT, Int.reduceEq, decide_true, decide_false]; rfl)))
    | with_reducible refine spB_yes (by decide) ?_
    | with_reducible refine spB_no (by decide) ?_
    | with_reducible refine spB_f ?_
    | with_reducible refine spB_not ?_
    | with_reducible refine spB_yes (by assumption) ?_
    | with_reducible refine spB_no (by assumption) ?_
    | (with_reducible refine spB_dec ?_ ?_ <;> intro _ <;> (try (exfalso; first | contradiction | omega | (rename_i hz; with_reducible exact absurd rfl hz))))
    | (with_reducible refine spB_beq ?_ ?_ <;> intro _ <;> (try (exfalso; first | contradiction | omega | (rename_i hz; with_reducible exact absurd rfl hz))))
    | (with_reducible refine spB_bne ?_ ?_ <;> intro _ <;> (try (exfalso; first | contradiction | omega | (rename_i hz; with_reducible exact absurd rfl hz))))
    | (with_reducible refine spB_mk ?_ ?_ <;> intro _ <;> (try (exfalso; first | contradiction | omega | (rename_i hz; with_reducible exact absurd rfl hz))))
    | ((with_reducible apply rowN_mk); (focus rfl))
    | ((with_reducible refine ixN_mk 0 ?_ ?_ ?_); (focus rfl); (focus (exact Nat.le_of_ble_eq_true rfl)))
    | ((with_reducible refine ixN_mk 1 ?_ ?_ ?_); (focus rfl); (focus (exact Nat.le_of_ble_eq_true rfl)))
    | ((with_reducible refine ixN_mk 2 ?_ ?_ ?_); (focus rfl); (focus (exact Nat.le_of_ble_eq_true rfl)))
    | ((with_reducible refine ixN_mk 3 ?_ ?_ ?_); (focus rfl); (focus (exact Nat.le_of_ble_eq_true rfl)))
    | ((with_reducible refine ixN_mk 4 ?_ ?_ ?_); (focus rfl); (focus (exact Nat.le_of_ble_eq_true rfl)))
    | ((with_reducible refine ixN_mk 5 ?_ ?_ ?_); (focus rfl); (focus (exact Nat.le_of_ble_eq_true rfl)))
    | ((with_reducible refine ixN_mk 6 ?_ ?_ ?_); (focus rfl); (focus (exact Nat.le_of_ble_eq_true rfl)))
    | ((with_reducible refine ixN_mk 7 ?_ ?_ ?_); (focus rfl); (focus (exact Nat.le_of_ble_eq_true rfl)))
    | ((with_reducible refine eqN_mk2 ?_ ?_); (focus rfl))
    | ((with_reducible refine posN_mk2 ?_ ?_); (focus (first | decide | ((try simp only [List.length_replicate, List.length_map, List.length_append, List.length_nil, List.length_cons, maxLen] at *); omega))))
    | ((with_reducible refine apdN.mk ?_ ?_ ?_ ?_ ?_ ?_); (focus (first | rfl | (simp; done))); (focus (first | exact one_all (by rfl) | exact one_map (fun _ => rfl) | exact one_map2 (fun _ => rfl))); (focus ((try simp only [List.length_replicate, List.length_map, List.length_append, List.length_nil, List.length_cons, maxLen] at *); omega)); (focus ((try simp only [List.length_replicate, List.length_map, List.length_append, List.length_nil, List.length_cons, maxLen] at *); omega)); (focus ((try simp only [List.length_replicate, List.length_map, List.length_append, List.length_nil, List.length_cons, maxLen] at *); omega)))
    | ((with_reducible refine cpyN.mk ?_ ?_ ?_ ?_); (focus (first | rfl | (simp; done))); (focus (first | exact one_all (by rfl) | exact one_map (fun _ => rfl) | exact one_map2 (fun _ => rfl))); (focus ((try simp only [List.length_replicate, List.length_map, List.length_append, List.length_nil, List.length_cons, maxLen] at *); omega)))
    | with_reducible refine wr_i64 (by first | omega | (simp only [List.length_map] at *; omega)) ?_
    | with_reducible refine wr_u64 (by omega) ?_
    | with_reducible refine wr_u8 (by omega) ?_
    | with_reducible refine wr_u32 (by omega) ?_
    | with_reducible refine wr_mk _ rfl ?_
    | ((with_reducible refine ixN_nat ?_ ?_); (focus ((try simp only [List.length_map] at *); omega)))
    | ((with_reducible refine rowN_map ?_ ?_); (focus ((try simp only [List.length_map] at *); omega)); intro x hx)
    | ((with_reducible refine ixN_mk 0 ?_ ?_ ?_); (focus rfl); (focus decide))
    | ((with_reducible refine ixN_mk 1 ?_ ?_ ?_); (focus rfl); (focus decide))
    | ((with_reducible refine ixN_mk 2 ?_ ?_ ?_); (focus rfl); (focus decide))
    | ((with_reducible refine ixN_mk 3 ?_ ?_ ?_); (focus rfl); (focus decide))
    | ((with_reducible refine ixN_mk 4 ?_ ?_ ?_); (focus rfl); (focus decide))
    | ((with_reducible refine ixN_mk 5 ?_ ?_ ?_); (focus rfl); (focus decide))
    | ((with_reducible refine ixN_mk 6 ?_ ?_ ?_); (focus rfl); (focus decide))
    | ((with_reducible refine ixN_mk 7 ?_ ?_ ?_); (focus rfl); (focus decide))
    | ((with_reducible refine posE_nil (by rfl) ?_))
    | ((with_reducible refine posE_pos (by decide) ?_))
    | with_reducible refine vN_mod (by omega) ?_
    | with_reducible refine vN_mk ?_
    | with_reducible refine nzN_mk (by omega) ?_
    | with_reducible refine eqN_dec (by omega) ?_
    | with_reducible refine draw_rule tabOk mixOk ?_
    | with_reducible refine apN_mk (by kernel_rfl) ?_)
  all_goals (try (conv => whnf))
  all_goals try (refine ret0 _ rfl _ rfl (fun _ => rfl) rfl ⟨?_, rfl, rfl⟩; refine rv_bool ?_; rw [show okS keep rs = false by unfold okS; rw [decide_eq_false (by (try simp only [List.length_map] at *); omega)]; rfl])
  refine loop_rule tabOk (fun q : Nat × Kp => ⟨[(3, .val (.int .i64 (q.1 : Int))), (1, .c (.own 0 0 0))], [(0, some ⟨[[.v (.int .i64 keep), .ro false 3 (rs.map eK)]], 2, 24, true⟩)], 1⟩) (fun q => q.1 ≤ rs.length ∧ okK k0 rs = okK q.2 (rs.drop q.1) ∧ (q.1 = 0 → q.2 = k0) ∧ ∀ k y, q.1 = k + 1 → rs[k]? = some y → y = q.2 ∧ 1 ≤ q.2.num) (fun q => rs.length - q.1) (0, k0) ⟨Nat.zero_le _, rfl, fun _ => rfl, fun k y h => by cases h⟩ (Wk.stp (l := [0]) ⟨rfl, by decide, rfl, Nat.zero_le _, ⟨rfl, rfl, trivial⟩, ⟨fun b hb => by cases hb; rfl, trivial⟩⟩) ?_
  rintro ⟨i, a⟩ ⟨hi, hok, h0, hlast⟩
  dsimp only at hi hok h0 hlast ⊢
  rcases i with _ | k
  · have hz := h0 rfl
    subst hz
    repeat' ((conv => whnf); first
      | with_reducible refine spB_t ?_
      | ((with_reducible apply spB_cong); (focus (simp only [beq_self_eq_true, bne_self_eq_false, Bool.true_bne, Bool.false_bne, Bool.bne_true, Bool.bne_false, Bool.true_beq, Bool.false_beq, Bool.not_true, Bool.not_false, Bool.not_not, Int.reduceBEq, Int.reduceBNe, Int.reduceLE, Int.reduceLT, Int.reduceEq, decide_true, decide_false]; rfl)))
      | with_reducible refine spB_yes (by decide) ?_
      | with_reducible refine spB_no (by decide) ?_
      | with_reducible refine spB_f ?_
      | with_reducible refine spB_not ?_
      | with_reducible refine spB_yes (by assumption) ?_
      | with_reducible refine spB_no (by assumption) ?_
      | (with_reducible refine spB_dec ?_ ?_ <;> intro _ <;> (try (exfalso; first | contradiction | omega | (rename_i hz; with_reducible exact absurd rfl hz))))
      | (with_reducible refine spB_beq ?_ ?_ <;> intro _ <;> (try (exfalso; first | contradiction | omega | (rename_i hz; with_reducible exact absurd rfl hz))))
      | (with_reducible refine spB_bne ?_ ?_ <;> intro _ <;> (try (exfalso; first | contradiction | omega | (rename_i hz; with_reducible exact absurd rfl hz))))
      | (with_reducible refine spB_mk ?_ ?_ <;> intro _ <;> (try (exfalso; first | contradiction | omega | (rename_i hz; with_reducible exact absurd rfl hz))))
      | ((with_reducible refine ixN_mk k ?_ ?_ ?_); (focus omega); (focus ((try simp only [List.length_map] at *); omega)))
      | ((with_reducible refine rowN_map (i := k) ?_ ?_); (focus ((try simp only [List.length_map] at *); omega)); intro y hy; have hyy := hlast k y rfl hy; try subst hyy)
      | ((with_reducible apply rowN_mk); (focus rfl))
      | ((with_reducible refine ixN_mk 0 ?_ ?_ ?_); (focus rfl); (focus (exact Nat.le_of_ble_eq_true rfl)))
      | ((with_reducible refine ixN_mk 1 ?_ ?_ ?_); (focus rfl); (focus (exact Nat.le_of_ble_eq_true rfl)))
      | ((with_reducible refine ixN_mk 2 ?_ ?_ ?_); (focus rfl); (focus (exact Nat.le_of_ble_eq_true rfl)))
      | ((with_reducible refine ixN_mk 3 ?_ ?_ ?_); (focus rfl); (focus (exact Nat.le_of_ble_eq_true rfl)))
      | ((with_reducible refine ixN_mk 4 ?_ ?_ ?_); (focus rfl); (focus (exact Nat.le_of_ble_eq_true rfl)))
      | ((with_reducible refine ixN_mk 5 ?_ ?_ ?_); (focus rfl); (focus (exact Nat.le_of_ble_eq_true rfl)))
      | ((with_reducible refine ixN_mk 6 ?_ ?_ ?_); (focus rfl); (focus (exact Nat.le_of_ble_eq_true rfl)))
      | ((with_reducible refine ixN_mk 7 ?_ ?_ ?_); (focus rfl); (focus (exact Nat.le_of_ble_eq_true rfl)))
      | ((with_reducible refine eqN_mk2 ?_ ?_); (focus rfl))
      | ((with_reducible refine posN_mk2 ?_ ?_); (focus (first | decide | ((try simp only [List.length_replicate, List.length_map, List.length_append, List.length_nil, List.length_cons, maxLen] at *); omega))))
      | ((with_reducible refine apdN.mk ?_ ?_ ?_ ?_ ?_ ?_); (focus (first | rfl | (simp; done))); (focus (first | exact one_all (by rfl) | exact one_map (fun _ => rfl) | exact one_map2 (fun _ => rfl))); (focus ((try simp only [List.length_replicate, List.length_map, List.length_append, List.length_nil, List.length_cons, maxLen] at *); omega)); (focus ((try simp only [List.length_replicate, List.length_map, List.length_append, List.length_nil, List.length_cons, maxLen] at *); omega)); (focus ((try simp only [List.length_replicate, List.length_map, List.length_append, List.length_nil, List.length_cons, maxLen] at *); omega)))
      | ((with_reducible refine cpyN.mk ?_ ?_ ?_ ?_); (focus (first | rfl | (simp; done))); (focus (first | exact one_all (by rfl) | exact one_map (fun _ => rfl) | exact one_map2 (fun _ => rfl))); (focus ((try simp only [List.length_replicate, List.length_map, List.length_append, List.length_nil, List.length_cons, maxLen] at *); omega)))
      | with_reducible refine wr_i64 (by first | omega | (simp only [List.length_map] at *; omega)) ?_
      | with_reducible refine wr_u64 (by omega) ?_
      | with_reducible refine wr_u8 (by omega) ?_
      | with_reducible refine wr_u32 (by omega) ?_
      | with_reducible refine wr_mk _ rfl ?_
      | ((with_reducible refine ixN_nat ?_ ?_); (focus ((try simp only [List.length_map] at *); omega)))
      | ((with_reducible refine rowN_map ?_ ?_); (focus ((try simp only [List.length_map] at *); omega)); intro x hx)
      | ((with_reducible refine ixN_mk 0 ?_ ?_ ?_); (focus rfl); (focus decide))
      | ((with_reducible refine ixN_mk 1 ?_ ?_ ?_); (focus rfl); (focus decide))
      | ((with_reducible refine ixN_mk 2 ?_ ?_ ?_); (focus rfl); (focus decide))
      | ((with_reducible refine ixN_mk 3 ?_ ?_ ?_); (focus rfl); (focus decide))
      | ((with_reducible refine ixN_mk 4 ?_ ?_ ?_); (focus rfl); (focus decide))
      | ((with_reducible refine ixN_mk 5 ?_ ?_ ?_); (focus rfl); (focus decide))
      | ((with_reducible refine ixN_mk 6 ?_ ?_ ?_); (focus rfl); (focus decide))
      | ((with_reducible refine ixN_mk 7 ?_ ?_ ?_); (focus rfl); (focus decide))
      | ((with_reducible refine posE_nil (by rfl) ?_))
      | ((with_reducible refine posE_pos (by decide) ?_))
      | with_reducible refine vN_mod (by omega) ?_
      | with_reducible refine vN_mk ?_
      | with_reducible refine nzN_mk (by omega) ?_
      | with_reducible refine eqN_dec (by omega) ?_
      | with_reducible refine draw_rule tabOk mixOk ?_
      | with_reducible refine apN_mk (by kernel_rfl) ?_)
    all_goals (try (conv => whnf))
    all_goals first
      | (refine ⟨⟨(0 + 1, x), ⟨by (try simp only [List.length_map] at *); omega, ?_, fun h => (by omega), fun j y hj hy => ?_⟩, by (try simp only [List.length_map] at *); omega, (Wk.stp (l := [0]) ⟨rfl, by decide, rfl, Nat.zero_le _, ⟨rfl, rfl, trivial⟩, ⟨fun b hb => by cases hb; rfl, trivial⟩⟩)⟩⟩
         · dsimp only; rw [hok, drop_cons hx]; simp only [okK]; rw [decide_eq_true (by refine ⟨by first | omega | (show (0 : Int) < x.num; omega), by omega, fun ho => ?_⟩; first | assumption | (cases ho; done) | (exfalso; simp_all; done) | (simp_all; done)), Bool.true_and]
         · have hj' : j = 0 := by omega
           subst hj'
           rw [hx] at hy; cases hy; exact ⟨rfl, by show 1 ≤ x.num; omega⟩)
      | (refine ret0 _ rfl _ rfl (fun _ => rfl) rfl ⟨?_, rfl, rfl⟩; refine rv_bool ?_; simp only [okS]; rw [hok, drop_cons hx]; simp only [okK]; rw [decide_eq_false (p := k0.num < x.num ∧ _) (by rintro ⟨h1, h2, h3⟩; first | omega | (have h1p : (0 : Int) < x.num := h1; omega) | (have h4 := h3 (by assumption); simp_all; done))]; simp; done)
      | (refine ret0 _ rfl _ rfl (fun _ => rfl) rfl ⟨?_, rfl, rfl⟩; refine rv_bool ?_; simp only [okS]; rw [hok, drop_end (by (try simp only [List.length_map] at *); omega)]; simp only [okK]; rw [decide_eq_true (by (try simp only [List.length_map] at *); omega)]; rfl)
      | (trace_state; sorry)
  · obtain ⟨y0, hy0⟩ := getElem?_some' (xs := rs) (i := k) (by omega)
    have hl1 := (hlast k y0 rfl hy0).2
    have hl2 := (hlast k y0 rfl hy0).1
    subst hl2
    repeat' ((conv => whnf); first
      | with_reducible refine spB_t ?_
      | ((with_reducible apply spB_cong); (focus (simp only [beq_self_eq_true, bne_self_eq_false, Bool.true_bne, Bool.false_bne, Bool.bne_true, Bool.bne_false, Bool.true_beq, Bool.false_beq, Bool.not_true, Bool.not_false, Bool.not_not, Int.reduceBEq, Int.reduceBNe, Int.reduceLE, Int.reduceLT, Int.reduceEq, decide_true, decide_false]; rfl)))
      | with_reducible refine spB_yes (by decide) ?_
      | with_reducible refine spB_no (by decide) ?_
      | with_reducible refine spB_f ?_
      | with_reducible refine spB_not ?_
      | with_reducible refine spB_yes (by assumption) ?_
      | with_reducible refine spB_no (by assumption) ?_
      | (with_reducible refine spB_dec ?_ ?_ <;> intro _ <;> (try (exfalso; first | contradiction | omega | (rename_i hz; with_reducible exact absurd rfl hz))))
      | (with_reducible refine spB_beq ?_ ?_ <;> intro _ <;> (try (exfalso; first | contradiction | omega | (rename_i hz; with_reducible exact absurd rfl hz))))
      | (with_reducible refine spB_bne ?_ ?_ <;> intro _ <;> (try (exfalso; first | contradiction | omega | (rename_i hz; with_reducible exact absurd rfl hz))))
      | (with_reducible refine spB_mk ?_ ?_ <;> intro _ <;> (try (exfalso; first | contradiction | omega | (rename_i hz; with_reducible exact absurd rfl hz))))
      | ((with_reducible refine ixN_mk k ?_ ?_ ?_); (focus omega); (focus ((try simp only [List.length_map] at *); omega)))
      | ((with_reducible refine rowN_mk (eK y0) ?_ ?_); (focus (simp [hy0]; done)))
      | ((with_reducible apply rowN_mk); (focus rfl))
      | ((with_reducible refine ixN_mk 0 ?_ ?_ ?_); (focus rfl); (focus (exact Nat.le_of_ble_eq_true rfl)))
      | ((with_reducible refine ixN_mk 1 ?_ ?_ ?_); (focus rfl); (focus (exact Nat.le_of_ble_eq_true rfl)))
      | ((with_reducible refine ixN_mk 2 ?_ ?_ ?_); (focus rfl); (focus (exact Nat.le_of_ble_eq_true rfl)))
      | ((with_reducible refine ixN_mk 3 ?_ ?_ ?_); (focus rfl); (focus (exact Nat.le_of_ble_eq_true rfl)))
      | ((with_reducible refine ixN_mk 4 ?_ ?_ ?_); (focus rfl); (focus (exact Nat.le_of_ble_eq_true rfl)))
      | ((with_reducible refine ixN_mk 5 ?_ ?_ ?_); (focus rfl); (focus (exact Nat.le_of_ble_eq_true rfl)))
      | ((with_reducible refine ixN_mk 6 ?_ ?_ ?_); (focus rfl); (focus (exact Nat.le_of_ble_eq_true rfl)))
      | ((with_reducible refine ixN_mk 7 ?_ ?_ ?_); (focus rfl); (focus (exact Nat.le_of_ble_eq_true rfl)))
      | ((with_reducible refine eqN_mk2 ?_ ?_); (focus rfl))
      | ((with_reducible refine posN_mk2 ?_ ?_); (focus (first | decide | ((try simp only [List.length_replicate, List.length_map, List.length_append, List.length_nil, List.length_cons, maxLen] at *); omega))))
      | ((with_reducible refine apdN.mk ?_ ?_ ?_ ?_ ?_ ?_); (focus (first | rfl | (simp; done))); (focus (first | exact one_all (by rfl) | exact one_map (fun _ => rfl) | exact one_map2 (fun _ => rfl))); (focus ((try simp only [List.length_replicate, List.length_map, List.length_append, List.length_nil, List.length_cons, maxLen] at *); omega)); (focus ((try simp only [List.length_replicate, List.length_map, List.length_append, List.length_nil, List.length_cons, maxLen] at *); omega)); (focus ((try simp only [List.length_replicate, List.length_map, List.length_append, List.length_nil, List.length_cons, maxLen] at *); omega)))
      | ((with_reducible refine cpyN.mk ?_ ?_ ?_ ?_); (focus (first | rfl | (simp; done))); (focus (first | exact one_all (by rfl) | exact one_map (fun _ => rfl) | exact one_map2 (fun _ => rfl))); (focus ((try simp only [List.length_replicate, List.length_map, List.length_append, List.length_nil, List.length_cons, maxLen] at *); omega)))
      | with_reducible refine wr_i64 (by first | omega | (simp only [List.length_map] at *; omega)) ?_
      | with_reducible refine wr_u64 (by omega) ?_
      | with_reducible refine wr_u8 (by omega) ?_
      | with_reducible refine wr_u32 (by omega) ?_
      | with_reducible refine wr_mk _ rfl ?_
      | ((with_reducible refine ixN_nat ?_ ?_); (focus ((try simp only [List.length_map] at *); omega)))
      | ((with_reducible refine rowN_map ?_ ?_); (focus ((try simp only [List.length_map] at *); omega)); intro x hx)
      | ((with_reducible refine ixN_mk 0 ?_ ?_ ?_); (focus rfl); (focus decide))
      | ((with_reducible refine ixN_mk 1 ?_ ?_ ?_); (focus rfl); (focus decide))
      | ((with_reducible refine ixN_mk 2 ?_ ?_ ?_); (focus rfl); (focus decide))
      | ((with_reducible refine ixN_mk 3 ?_ ?_ ?_); (focus rfl); (focus decide))
      | ((with_reducible refine ixN_mk 4 ?_ ?_ ?_); (focus rfl); (focus decide))
      | ((with_reducible refine ixN_mk 5 ?_ ?_ ?_); (focus rfl); (focus decide))
      | ((with_reducible refine ixN_mk 6 ?_ ?_ ?_); (focus rfl); (focus decide))
      | ((with_reducible refine ixN_mk 7 ?_ ?_ ?_); (focus rfl); (focus decide))
      | ((with_reducible refine posE_nil (by rfl) ?_))
      | ((with_reducible refine posE_pos (by decide) ?_))
      | with_reducible refine vN_mod (by omega) ?_
      | with_reducible refine vN_mk ?_
      | with_reducible refine nzN_mk (by omega) ?_
      | with_reducible refine eqN_dec (by omega) ?_
      | with_reducible refine draw_rule tabOk mixOk ?_
      | with_reducible refine apN_mk (by kernel_rfl) ?_)
    all_goals (try (conv => whnf))
    all_goals first
      | (refine ⟨⟨((k + 1) + 1, x), ⟨by (try simp only [List.length_map] at *); omega, ?_, fun h => (by omega), fun j y hj hy => ?_⟩, by (try simp only [List.length_map] at *); omega, (Wk.stp (l := [0]) ⟨rfl, by decide, rfl, Nat.zero_le _, ⟨rfl, rfl, trivial⟩, ⟨fun b hb => by cases hb; rfl, trivial⟩⟩)⟩⟩
         · dsimp only; rw [hok, drop_cons hx]; simp only [okK]; rw [decide_eq_true (by refine ⟨by first | omega | (show (0 : Int) < x.num; omega), by omega, fun ho => ?_⟩; first | assumption | (cases ho; done) | (exfalso; simp_all; done) | (simp_all; done)), Bool.true_and]
         · have hj' : j = (k + 1) := by omega
           subst hj'
           rw [hx] at hy; cases hy; exact ⟨rfl, by show 1 ≤ x.num; omega⟩)
      | (refine ret0 _ rfl _ rfl (fun _ => rfl) rfl ⟨?_, rfl, rfl⟩; refine rv_bool ?_; simp only [okS]; rw [hok, drop_cons hx]; simp only [okK]; rw [decide_eq_false (p := y0.num < x.num ∧ _) (by rintro ⟨h1, h2, h3⟩; first | omega | (have h1p : (0 : Int) < x.num := h1; omega) | (have h4 := h3 (by assumption); simp_all; done))]; simp; done)
      | (refine ret0 _ rfl _ rfl (fun _ => rfl) rfl ⟨?_, rfl, rfl⟩; refine rv_bool ?_; simp only [okS]; rw [hok, drop_end (by (try simp only [List.length_map] at *); omega)]; simp only [okK]; rw [decide_eq_true (by (try simp only [List.length_map] at *); omega)]; rfl)
      | (trace_state; sorry)

end Go.Proofs.Ytnlcmncfbiognaa
