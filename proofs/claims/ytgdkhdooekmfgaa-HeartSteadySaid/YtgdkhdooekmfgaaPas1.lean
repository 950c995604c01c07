import Derived.Test.YtgdkhdooekmfgaaPas0
namespace Go.Proofs.Ytgdkhdooekmfgaa
open Go Go.RowKit Wx
set_option linter.unusedVariables false
set_option linter.unusedSimpArgs false
set_option maxHeartbeats 4000000
theorem pass_t (now span : Int) (ps : List Pu) (t : Int) (hl : ps.length ≤ 5) (hk : okH now span ps = true) : Con Try.prog 26 [.agg [.v (.int .i64 now), .v (.int .i64 span), .ro false 3 (ps.map eP)], .one (.v (.int .i64 t))] (fun rx rK rt => (¬ (now ≤ t ∧ t ≤ 1099511627776) ∧ rx = .tup [.agg [.v (.int .i64 0), .v (.int .i64 0), .v (.slice none 0 0)], .one (.v (.slice none 0 0)), .one (.v (.int .i64 2))] ∧ rK = [] ∧ rt = 0) ∨ ((now ≤ t ∧ t ≤ 1099511627776) ∧ rx = .tup [.agg [.v (.int .i64 t), .v (.int .i64 span), .osl 0 0 ps.length (some ps.length)], .one (.ro true 1 ((gone span t ps).map eN)), .one (.v (.int .i64 0))] ∧ rK = [(0, some ⟨(ps.map (dn span t)).map cP, 3, 37, false⟩)] ∧ rt = 1)) := by
  refine Z.con_ofZ tabOk 19 Try.f26 _ Try.func26 (by kernel_rfl) rfl rfl rfl rfl ?_
  obtain ⟨hm1, hm2⟩ := okH_mem hk
  repeat' ((conv => whnf); first
    | with_reducible refine spB_t ?_
    | ((with_reducible apply spB_cong); (focus (simp only [beq_self_eq_true, bne_self_eq_false, Bool.true_bne, Bool.false_bne, Bool.bne_true, Bool.bne_false, Bool.true_beq, Bool.false_beq, Bool.not_true, Bool.not_false, Bool.not_not, Int.reduceBEq, Int.reduceBNe, Int.reduceLE, Int.reduceLT, Int.reduceEq, decide_true, decide_false]; rfl)))
    | with_reducible refine spB_yes (by decide) ?_
    | with_reducible refine spB_no (by decide) ?_
    | with_reducible refine spB_f ?_
    | with_reducible refine spB_not ?_
    | with_reducible refine spB_yes (by assumption) ?_
    | with_reducible refine spB_no (by assumption) ?_
    | (with_reducible refine spB_dec ?_ ?_ <;> intro _ <;> (try (exfalso; first | contradiction | omega | (rename_i hz; with_reducible exact absurd rfl hz))))
    | (with_reducible refine spB_beq ?_ ?_ <;> intro _ <;> (try (exfalso; first | contradiction | omega | (rename_i hz; with_reducible exact absurd rfl hz))))
    | (with_reducible refine spB_bne ?_ ?_ <;> intro _ <;> (try (exfalso; first | contradiction | omega | (rename_i hz; with_reducible exact absurd rfl hz))))
    | (with_reducible refine spB_mk ?_ ?_ <;> intro _ <;> (try (exfalso; first | contradiction | omega | (rename_i hz; with_reducible exact absurd rfl hz))))
    | ((with_reducible refine Z.rowN_known hx ?_))
    | ((with_reducible refine Z.rowN_red ?_); (refine Z.rowN_known2 hq ?_ ?_); (focus omega))
    | ((with_reducible apply rowN_mk); (focus rfl))
    | ((with_reducible refine eqN_mk2 ?_ ?_); (focus rfl))
    | ((with_reducible refine posN_mk2 ?_ ?_); (focus (first | decide | ((try simp only [List.length_replicate, List.length_map, List.length_append, List.length_nil, List.length_cons, maxLen] at *); omega))))
    | ((with_reducible refine apdN.mk ?_ ?_ ?_ ?_ ?_ ?_); (focus (first | rfl | (simp; done))); (focus (first | exact one_all (by rfl) | exact one_map (fun _ => rfl) | exact one_map2 (fun _ => rfl))); (focus ((try simp only [List.length_replicate, List.length_map, List.length_append, List.length_nil, List.length_cons, maxLen] at *); omega)); (focus ((try simp only [List.length_replicate, List.length_map, List.length_append, List.length_nil, List.length_cons, maxLen] at *); omega)); (focus ((try simp only [List.length_replicate, List.length_map, List.length_append, List.length_nil, List.length_cons, maxLen] at *); omega)))
    | ((with_reducible refine cpyN.mk ?_ ?_ ?_ ?_); (focus (first | rfl | (simp; done))); (focus (first | exact one_all (by rfl) | exact one_map (fun _ => rfl) | exact one_map2 (fun _ => rfl))); (focus ((try simp only [List.length_replicate, List.length_map, List.length_append, List.length_nil, List.length_cons, maxLen] at *); omega)))
    | with_reducible refine wr_i64 (by first | omega | (simp only [List.length_map] at *; omega)) ?_
    | with_reducible refine wr_u64 (by omega) ?_
    | with_reducible refine wr_u8 (by omega) ?_
    | with_reducible refine wr_u32 (by omega) ?_
    | with_reducible refine wr_mk _ rfl ?_
    | ((with_reducible refine ixN_nat ?_ ?_); (focus ((try simp only [List.length_map] at *); omega)))
    | ((with_reducible refine rowN_map ?_ ?_); (focus ((try simp only [List.length_map] at *); omega)); intro x hx; have hxx := hm2 x (List.mem_of_getElem? hx); have hq := (by rw [hqs]; exact mkq_get hx : qs[i]? = some x))
    | ((with_reducible refine ixN_mk 0 ?_ ?_ ?_); (focus rfl); (focus decide))
    | ((with_reducible refine ixN_mk 1 ?_ ?_ ?_); (focus rfl); (focus decide))
    | ((with_reducible refine ixN_mk 2 ?_ ?_ ?_); (focus rfl); (focus decide))
    | ((with_reducible refine ixN_mk 3 ?_ ?_ ?_); (focus rfl); (focus decide))
    | ((with_reducible refine ixN_mk 4 ?_ ?_ ?_); (focus rfl); (focus decide))
    | ((with_reducible refine ixN_mk 5 ?_ ?_ ?_); (focus rfl); (focus decide))
    | ((with_reducible refine ixN_mk 6 ?_ ?_ ?_); (focus rfl); (focus decide))
    | ((with_reducible refine ixN_mk 7 ?_ ?_ ?_); (focus rfl); (focus decide))
    | ((with_reducible refine posE_nil (by rfl) ?_))
    | ((with_reducible refine posE_pos (by decide) ?_))
    | with_reducible refine vN_mod (by omega) ?_
    | with_reducible refine vN_mk ?_
    | with_reducible refine nzN_mk (by omega) ?_
    | with_reducible refine eqN_dec (by omega) ?_
    | with_reducible refine apN_mk (by kernel_rfl) ?_
    | ((with_reducible apply Z.conZ_mk ?_ (may_t _ _ _ hl hk) ?_);(first | (focus exact ⟨⟨rfl, rfl, rfl, trivial⟩, trivial⟩) | (rotate_left 1; (focus exact ⟨⟨rfl, rfl, rfl, trivial⟩, trivial⟩)) | (rotate_left 2; (focus exact ⟨⟨rfl, rfl, rfl, trivial⟩, trivial⟩)) | (rotate_left 3; (focus exact ⟨⟨rfl, rfl, rfl, trivial⟩, trivial⟩))); skip)
    | ((with_reducible apply Z.callZ_con ?_ (may_t _ _ _ hl hk) ?_);(first | (focus exact ⟨⟨rfl, rfl, rfl, trivial⟩, trivial⟩) | (rotate_left 1; (focus exact ⟨⟨rfl, rfl, rfl, trivial⟩, trivial⟩)) | (rotate_left 2; (focus exact ⟨⟨rfl, rfl, rfl, trivial⟩, trivial⟩)) | (rotate_left 3; (focus exact ⟨⟨rfl, rfl, rfl, trivial⟩, trivial⟩))); rintro _ _ _ ⟨rfl, rfl, rfl⟩)
    | ((with_reducible apply Z.conZ_mk ?_ (due_con _ _ _ x ?_) ?_);(first | (focus exact ⟨⟨rfl, rfl, rfl, trivial⟩, ⟨rfl, rfl, rfl, trivial⟩, trivial⟩) | (rotate_left 1; (focus exact ⟨⟨rfl, rfl, rfl, trivial⟩, ⟨rfl, rfl, rfl, trivial⟩, trivial⟩)) | (rotate_left 2; (focus exact ⟨⟨rfl, rfl, rfl, trivial⟩, ⟨rfl, rfl, rfl, trivial⟩, trivial⟩)) | (rotate_left 3; (focus exact ⟨⟨rfl, rfl, rfl, trivial⟩, ⟨rfl, rfl, rfl, trivial⟩, trivial⟩))); (focus omega); skip)
    | ((with_reducible apply Z.callZ_con ?_ (due_con _ _ _ x ?_) ?_);(first | (focus exact ⟨⟨rfl, rfl, rfl, trivial⟩, ⟨rfl, rfl, rfl, trivial⟩, trivial⟩) | (rotate_left 1; (focus exact ⟨⟨rfl, rfl, rfl, trivial⟩, ⟨rfl, rfl, rfl, trivial⟩, trivial⟩)) | (rotate_left 2; (focus exact ⟨⟨rfl, rfl, rfl, trivial⟩, ⟨rfl, rfl, rfl, trivial⟩, trivial⟩)) | (rotate_left 3; (focus exact ⟨⟨rfl, rfl, rfl, trivial⟩, ⟨rfl, rfl, rfl, trivial⟩, trivial⟩))); (focus omega); rintro _ _ _ ⟨rfl, rfl, rfl⟩)
    | (with_reducible refine Z.callZ_in tabOk 29 Try.f39 _ Try.func39 (by kernel_rfl) rfl rfl rfl ?_)
    | (with_reducible refine Z.callZ_in tabOk 41 Try.f43 _ Try.func43 (by kernel_rfl) rfl rfl rfl ?_)
    | (with_reducible refine Z.callZ_in tabOk 6 Try.f44 _ Try.func44 (by kernel_rfl) rfl rfl rfl ?_)
    | (with_reducible refine Z.callZ_in tabOk 31 Try.f58 _ Try.func58 (by kernel_rfl) rfl rfl rfl ?_)
    | ((with_reducible refine eqN_mk2 ?_ ?_); (focus (exact Z.kb_some rfl)))
    | ((with_reducible apply ex_and); exact rfl)
    | ((with_reducible refine Z.mkN_nat ?_ ?_ ?_ ?_); (focus ((try simp only [List.length_replicate, List.length_map, List.length_append, List.length_nil, List.length_cons, maxLen] at *); omega)); (focus ((try simp only [List.length_replicate, List.length_map, List.length_append, List.length_nil, List.length_cons, maxLen] at *); omega)); (focus ((try simp only [List.length_replicate, List.length_map, List.length_append, List.length_nil, List.length_cons, maxLen] at *); omega)))
    | ((with_reducible refine Z.rngN.mk ?_); (try subst hlb))
    | ((with_reducible refine Z.CallZ.yl ?_); refine Z.yield_rule tabOk _ _ rfl rfl rfl rfl ?_)
    | ((with_reducible refine Z.CallZ.yl ?_); subst hlb; refine Z.yield_rule tabOk _ _ rfl rfl rfl rfl ?_)
    | ((with_reducible refine Z.RangeZ.red ?_); (refine Z.range_rule [(2, _), (3, _), (4, _)] rfl ⟨rfl, rfl, rfl, trivial⟩ rfl rfl ?_); intro lb hlb)
    | with_reducible refine Z.drawZ_rule tabOk mixOk ?_
    | with_reducible refine Z.apZ_mk (by kernel_rfl) ?_
    | ((with_reducible refine Z.ConZ.red ?_); (try subst hlb); (apply Z.conZ_all); (focus (repeat (first | exact Z.FK.nil | (apply Z.FK.keep; exact rfl)))); (focus rfl); (focus rfl); (focus (repeat (first | exact trivial | (refine ⟨(fun o ho => (by first | (cases ho; rfl) | (cases ho; exact Z.inL_map fun _ => rfl) | exact Z.inL_gB ho fun _ => rfl)), ?_⟩)))))
    | ((refine ⟨rfl, ?_, rfl⟩); (focus (repeat (first | exact Z.DK.nil | apply Z.DK.cons))))
    | (focus (exact (rfl : Nat.ble _ _ = true))))
  all_goals (try (conv => whnf))
  all_goals try (refine ret0 _ rfl _ rfl (fun _ => rfl) rfl (.inl ⟨by omega, rfl, rfl, rfl⟩))
  have ini6 : lay (List.replicate (ps.map eP).length [Ce.v (.int .i64 0), .v (.int .i64 0), .v (.bool false)]) 0 (List.take (min (ps.map eP).length (ps.map eP).length) ((ps.map eP).map (List.map (RT.ce false)))) = (ps.map eP).map (List.map (RT.ce false)) := by
    rw [List.take_of_length_le (by simp), Z.lay_all (by simp)]
  refine Z.loopZ_rule tabOk (fun q : Nat × List Pu × List Int => (⟨[(9, .val (.int .i64 (q.1 : Int))), (8, .val (.int .i64 ((ps.map eP).length : Nat))), (7, .c (.ro false 3 (ps.map eP))), (0, .c (.yl 10)), (1, .c (.own 8 0 0)), (2, .c (.own 9 0 0))], [(0, some (.b ⟨[[.v (.int .i64 now), .v (.int .i64 span), .ro false 3 (ps.map eP)]], 3, 24, true⟩)), (1, some (.b ⟨[[.v (.int .i64 t)]], 1, 2, true⟩)), (2, some (.b ⟨[[.v (.int .i64 0), .v (.int .i64 0), .v (.slice none 0 0)]], 3, 24, true⟩)), (3, some (.b ⟨[[.gsl 11 (q.2.2.map cN)]], 1, 30, true⟩)), (4, some (.b ⟨[[.v (.int .i64 t), .v (.int .i64 span), .osl 6 0 (ps.map eP).length (some (ps.map eP).length)]], 3, 24, true⟩)), (5, some (.b ⟨[[.v (.int .i64 0), .v (.int .i64 0), .v (.slice none 0 0)]], 3, 24, true⟩)), (6, some (.b ⟨q.2.1.map cP, 3, 37, false⟩)), (7, some (.b ⟨[[.own 4 0 0]], 1, 68, true⟩)), (8, some (.b ⟨[[.v (.int .i64 now), .v (.int .i64 span), .ro false 3 (ps.map eP)]], 3, 24, true⟩)), (9, some (.b ⟨[[.v (.int .i64 t)]], 1, 2, true⟩)), (10, some (.l lb)), (11, (gB 1 3 (q.2.2.map cN)).map Z.Ob.b)], 12⟩ : Z.S)) (fun q => q.1 ≤ ps.length ∧ q.2.1 = mkq span t ps q.1 ∧ q.2.2 = gone span t (ps.take q.1)) (fun q => ps.length - q.1) (0, ps, []) ⟨Nat.zero_le _, by simp [mkq], rfl⟩ (Z.Stp.trans (Z.Stp.cells 3 _ [[.gsl 77 []]] rfl (Nat.le_of_ble_eq_true rfl) ⟨⟨Z.Imp.nilg 77, trivial⟩, trivial⟩) (Z.Wk.stp (l := [0, 1, 2, 3, 4, 5, 6, 7, 8, 9, 10, 77]) ⟨rfl, by decide, rfl, (Nat.le_of_ble_eq_true rfl), ⟨rfl, rfl, rfl, rfl, rfl, rfl, trivial⟩, ⟨fun b hb => (by cases hb; rfl), fun b hb => (by cases hb; rfl), fun b hb => (by cases hb; rfl), fun b hb => (by cases hb; rfl), fun b hb => (by cases hb; rfl), fun b hb => (by cases hb; rfl), Z.blk_sub rfl (by rw [← map_ce (f := cP) (g := eP) (fl := false) (fun _ => rfl)]; exact ini6) (ren_map fun _ => rfl), fun b hb => (by cases hb; rfl), fun b hb => (by cases hb; rfl), fun b hb => (by cases hb; rfl), fun b hb => (by cases hb; (try subst hlb); rfl), fun b hb => (by cases hb), trivial⟩⟩)) ?_
  rintro ⟨i, qs, acc⟩ ⟨hi, hqs, hacc⟩
  dsimp only at hi hqs hacc ⊢
  have hal : acc.length ≤ 5 := by rw [hacc]; exact Nat.le_trans (gone_len _ _ _) (by rw [List.length_take]; omega)
  repeat' ((conv => whnf); first
    | with_reducible refine spB_t ?_
    | ((with_reducible apply spB_cong); (focus (simp only [beq_self_eq_true, bne_self_eq_false, Bool.true_bne, Bool.false_bne, Bool.bne_true, Bool.bne_false, Bool.true_beq, Bool.false_beq, Bool.not_true, Bool.not_false, Bool.not_not, Int.reduceBEq, Int.reduceBNe, Int.reduceLE, Int.reduceLT, Int.reduceEq, decide_true, decide_false]; rfl)))
    | with_reducible refine spB_yes (by decide) ?_
    | with_reducible refine spB_no (by decide) ?_
    | with_reducible refine spB_f ?_
    | with_reducible refine spB_not ?_
    | with_reducible refine spB_yes (by assumption) ?_
    | with_reducible refine spB_no (by assumption) ?_
    | (with_reducible refine spB_dec ?_ ?_ <;> intro _ <;> (try (exfalso; first | contradiction | omega | (rename_i hz; with_reducible exact absurd rfl hz))))
    | (with_reducible refine spB_beq ?_ ?_ <;> intro _ <;> (try (exfalso; first | contradiction | omega | (rename_i hz; with_reducible exact absurd rfl hz))))
    | (with_reducible refine spB_bne ?_ ?_ <;> intro _ <;> (try (exfalso; first | contradiction | omega | (rename_i hz; with_reducible exact absurd rfl hz))))
    | (with_reducible refine spB_mk ?_ ?_ <;> intro _ <;> (try (exfalso; first | contradiction | omega | (rename_i hz; with_reducible exact absurd rfl hz))))
    | ((with_reducible refine Z.rowN_known hx ?_))
    | ((with_reducible refine Z.rowN_red ?_); (refine Z.rowN_known2 hq ?_ ?_); (focus omega))
    | ((with_reducible apply rowN_mk); (focus rfl))
    | ((with_reducible refine eqN_mk2 ?_ ?_); (focus rfl))
    | ((with_reducible refine posN_mk2 ?_ ?_); (focus (first | decide | ((try simp only [List.length_replicate, List.length_map, List.length_append, List.length_nil, List.length_cons, maxLen] at *); omega))))
    | ((with_reducible refine apdN.mk ?_ ?_ ?_ ?_ ?_ ?_); (focus (first | rfl | (simp; done))); (focus (first | exact one_all (by rfl) | exact one_map (fun _ => rfl) | exact one_map2 (fun _ => rfl))); (focus ((try simp only [List.length_replicate, List.length_map, List.length_append, List.length_nil, List.length_cons, maxLen] at *); omega)); (focus ((try simp only [List.length_replicate, List.length_map, List.length_append, List.length_nil, List.length_cons, maxLen] at *); omega)); (focus ((try simp only [List.length_replicate, List.length_map, List.length_append, List.length_nil, List.length_cons, maxLen] at *); omega)))
    | ((with_reducible refine cpyN.mk ?_ ?_ ?_ ?_); (focus (first | rfl | (simp; done))); (focus (first | exact one_all (by rfl) | exact one_map (fun _ => rfl) | exact one_map2 (fun _ => rfl))); (focus ((try simp only [List.length_replicate, List.length_map, List.length_append, List.length_nil, List.length_cons, maxLen] at *); omega)))
    | with_reducible refine wr_i64 (by first | omega | (simp only [List.length_map] at *; omega)) ?_
    | with_reducible refine wr_u64 (by omega) ?_
    | with_reducible refine wr_u8 (by omega) ?_
    | with_reducible refine wr_u32 (by omega) ?_
    | with_reducible refine wr_mk _ rfl ?_
    | ((with_reducible refine ixN_nat ?_ ?_); (focus ((try simp only [List.length_map] at *); omega)))
    | ((with_reducible refine rowN_map ?_ ?_); (focus ((try simp only [List.length_map] at *); omega)); intro x hx; have hxx := hm2 x (List.mem_of_getElem? hx); have hq := (by rw [hqs]; exact mkq_get hx : qs[i]? = some x))
    | ((with_reducible refine ixN_mk 0 ?_ ?_ ?_); (focus rfl); (focus decide))
    | ((with_reducible refine ixN_mk 1 ?_ ?_ ?_); (focus rfl); (focus decide))
    | ((with_reducible refine ixN_mk 2 ?_ ?_ ?_); (focus rfl); (focus decide))
    | ((with_reducible refine ixN_mk 3 ?_ ?_ ?_); (focus rfl); (focus decide))
    | ((with_reducible refine ixN_mk 4 ?_ ?_ ?_); (focus rfl); (focus decide))
    | ((with_reducible refine ixN_mk 5 ?_ ?_ ?_); (focus rfl); (focus decide))
    | ((with_reducible refine ixN_mk 6 ?_ ?_ ?_); (focus rfl); (focus decide))
    | ((with_reducible refine ixN_mk 7 ?_ ?_ ?_); (focus rfl); (focus decide))
    | ((with_reducible refine posE_nil (by rfl) ?_))
    | ((with_reducible refine posE_pos (by decide) ?_))
    | with_reducible refine vN_mod (by omega) ?_
    | with_reducible refine vN_mk ?_
    | with_reducible refine nzN_mk (by omega) ?_
    | with_reducible refine eqN_dec (by omega) ?_
    | with_reducible refine apN_mk (by kernel_rfl) ?_
    | ((with_reducible apply Z.conZ_mk ?_ (may_t _ _ _ hl hk) ?_);(first | (focus exact ⟨⟨rfl, rfl, rfl, trivial⟩, trivial⟩) | (rotate_left 1; (focus exact ⟨⟨rfl, rfl, rfl, trivial⟩, trivial⟩)) | (rotate_left 2; (focus exact ⟨⟨rfl, rfl, rfl, trivial⟩, trivial⟩)) | (rotate_left 3; (focus exact ⟨⟨rfl, rfl, rfl, trivial⟩, trivial⟩))); skip)
    | ((with_reducible apply Z.callZ_con ?_ (may_t _ _ _ hl hk) ?_);(first | (focus exact ⟨⟨rfl, rfl, rfl, trivial⟩, trivial⟩) | (rotate_left 1; (focus exact ⟨⟨rfl, rfl, rfl, trivial⟩, trivial⟩)) | (rotate_left 2; (focus exact ⟨⟨rfl, rfl, rfl, trivial⟩, trivial⟩)) | (rotate_left 3; (focus exact ⟨⟨rfl, rfl, rfl, trivial⟩, trivial⟩))); rintro _ _ _ ⟨rfl, rfl, rfl⟩)
    | ((with_reducible apply Z.conZ_mk ?_ (due_con _ _ _ x ?_) ?_);(first | (focus exact ⟨⟨rfl, rfl, rfl, trivial⟩, ⟨rfl, rfl, rfl, trivial⟩, trivial⟩) | (rotate_left 1; (focus exact ⟨⟨rfl, rfl, rfl, trivial⟩, ⟨rfl, rfl, rfl, trivial⟩, trivial⟩)) | (rotate_left 2; (focus exact ⟨⟨rfl, rfl, rfl, trivial⟩, ⟨rfl, rfl, rfl, trivial⟩, trivial⟩)) | (rotate_left 3; (focus exact ⟨⟨rfl, rfl, rfl, trivial⟩, ⟨rfl, rfl, rfl, trivial⟩, trivial⟩))); (focus omega); skip)
    | ((with_reducible apply Z.callZ_con ?_ (due_con _ _ _ x ?_) ?_);(first | (focus exact ⟨⟨rfl, rfl, rfl, trivial⟩, ⟨rfl, rfl, rfl, trivial⟩, trivial⟩) | (rotate_left 1; (focus exact ⟨⟨rfl, rfl, rfl, trivial⟩, ⟨rfl, rfl, rfl, trivial⟩, trivial⟩)) | (rotate_left 2; (focus exact ⟨⟨rfl, rfl, rfl, trivial⟩, ⟨rfl, rfl, rfl, trivial⟩, trivial⟩)) | (rotate_left 3; (focus exact ⟨⟨rfl, rfl, rfl, trivial⟩, ⟨rfl, rfl, rfl, trivial⟩, trivial⟩))); (focus omega); rintro _ _ _ ⟨rfl, rfl, rfl⟩)
    | (with_reducible refine Z.callZ_in tabOk 29 Try.f39 _ Try.func39 (by kernel_rfl) rfl rfl rfl ?_)
    | (with_reducible refine Z.callZ_in tabOk 41 Try.f43 _ Try.func43 (by kernel_rfl) rfl rfl rfl ?_)
    | (with_reducible refine Z.callZ_in tabOk 6 Try.f44 _ Try.func44 (by kernel_rfl) rfl rfl rfl ?_)
    | (with_reducible refine Z.callZ_in tabOk 31 Try.f58 _ Try.func58 (by kernel_rfl) rfl rfl rfl ?_)
    | ((with_reducible refine eqN_mk2 ?_ ?_); (focus (exact Z.kb_some rfl)))
    | ((with_reducible apply ex_and); exact rfl)
    | ((with_reducible refine Z.mkN_nat ?_ ?_ ?_ ?_); (focus ((try simp only [List.length_replicate, List.length_map, List.length_append, List.length_nil, List.length_cons, maxLen] at *); omega)); (focus ((try simp only [List.length_replicate, List.length_map, List.length_append, List.length_nil, List.length_cons, maxLen] at *); omega)); (focus ((try simp only [List.length_replicate, List.length_map, List.length_append, List.length_nil, List.length_cons, maxLen] at *); omega)))
    | ((with_reducible refine Z.rngN.mk ?_); (try subst hlb))
    | ((with_reducible refine Z.CallZ.yl ?_); refine Z.yield_rule tabOk _ _ rfl rfl rfl rfl ?_)
    | ((with_reducible refine Z.CallZ.yl ?_); subst hlb; refine Z.yield_rule tabOk _ _ rfl rfl rfl rfl ?_)
    | ((with_reducible refine Z.RangeZ.red ?_); (refine Z.range_rule [(2, _), (3, _), (4, _)] rfl ⟨rfl, rfl, rfl, trivial⟩ rfl rfl ?_); intro lb hlb)
    | with_reducible refine Z.drawZ_rule tabOk mixOk ?_
    | with_reducible refine Z.apZ_mk (by kernel_rfl) ?_
    | ((with_reducible refine Z.ConZ.red ?_); (try subst hlb); (apply Z.conZ_all); (focus (repeat (first | exact Z.FK.nil | (apply Z.FK.keep; exact rfl)))); (focus rfl); (focus rfl); (focus (repeat (first | exact trivial | (refine ⟨(fun o ho => (by first | (cases ho; rfl) | (cases ho; exact Z.inL_map fun _ => rfl) | exact Z.inL_gB ho fun _ => rfl)), ?_⟩)))))
    | ((refine ⟨rfl, ?_, rfl⟩); (focus (repeat (first | exact Z.DK.nil | apply Z.DK.cons))))
    | (focus (exact (rfl : Nat.ble _ _ = true))))
  all_goals (try (conv => whnf))
  all_goals first
    | (show Nat.ble _ _ = true; rfl)
    | (refine ⟨⟨(i + 1, qs, acc), ⟨by (try simp only [List.length_map] at *); omega, ?_, ?_⟩, by (try simp only [List.length_map] at *); omega, (Z.Wk.stp (l := [0, 1, 2, 3, 4, 5, 6, 7, 8, 9, 10, 11]) ⟨rfl, by decide, rfl, (Nat.le_of_ble_eq_true rfl), ⟨rfl, rfl, rfl, rfl, rfl, rfl, trivial⟩, ⟨fun b hb => (by cases hb; rfl), fun b hb => (by cases hb; rfl), fun b hb => (by cases hb; rfl), fun b hb => (by cases hb; rfl), fun b hb => (by cases hb; rfl), fun b hb => (by cases hb; rfl), Z.blk_sub rfl rfl (ren_map fun _ => rfl), fun b hb => (by cases hb; rfl), fun b hb => (by cases hb; rfl), fun b hb => (by cases hb; rfl), fun b hb => (by cases hb; (try subst hlb); rfl), Z.gB_sub rfl rfl (ren_map fun _ => rfl), trivial⟩⟩)⟩⟩
       · dsimp only; rw [hqs, mkq_no hx (by rintro ⟨h1, h2⟩; first | omega | (simp_all; done))]
       · dsimp only; rw [hacc, gone_no hx (by rintro ⟨h1, h2⟩; first | omega | (simp_all; done))])
    | (refine ⟨⟨(i + 1, qs.set i ⟨x.w, x.h, true⟩, acc ++ [x.w]), ⟨by (try simp only [List.length_map] at *); omega, ?_, ?_⟩, by (try simp only [List.length_map] at *); omega, (Z.Wk.stp (l := [0, 1, 2, 3, 4, 5, 6, 7, 8, 9, 10, 14]) ⟨rfl, by decide, rfl, (Nat.le_of_ble_eq_true rfl), ⟨rfl, rfl, rfl, rfl, rfl, rfl, trivial⟩, ⟨fun b hb => (by cases hb; rfl), fun b hb => (by cases hb; rfl), fun b hb => (by cases hb; rfl), fun b hb => (by cases hb; rw [List.map_append]; rfl), fun b hb => (by cases hb; rfl), fun b hb => (by cases hb; rfl), Z.blk_sub rfl (by rw [List.map_set, Nat.zero_add]; rfl) (ren_map fun _ => rfl), fun b hb => (by cases hb; rfl), fun b hb => (by cases hb; rfl), fun b hb => (by cases hb; rfl), fun b hb => (by cases hb; (try subst hlb); rfl), Z.gB_sub' rfl (by rw [List.map_append]; rfl) (ren_map fun _ => rfl), trivial⟩⟩)⟩⟩
       · dsimp only; rw [hqs, mkq_yes hx (by assumption) (by assumption)]
       · dsimp only; rw [hacc, gone_yes hx (by assumption) (by assumption)])
    | (refine ⟨⟨(i + 1, qs.set i ⟨x.w, x.h, true⟩, acc ++ [x.w]), ⟨by (try simp only [List.length_map] at *); omega, ?_, ?_⟩, by (try simp only [List.length_map] at *); omega, (Z.Wk.stp (l := [0, 1, 2, 3, 4, 5, 6, 7, 8, 9, 10, 13]) ⟨rfl, by decide, rfl, (Nat.le_of_ble_eq_true rfl), ⟨rfl, rfl, rfl, rfl, rfl, rfl, trivial⟩, ⟨fun b hb => (by cases hb; rfl), fun b hb => (by cases hb; rfl), fun b hb => (by cases hb; rfl), fun b hb => (by cases hb; rw [List.map_append]; rfl), fun b hb => (by cases hb; rfl), fun b hb => (by cases hb; rfl), Z.blk_sub rfl (by rw [List.map_set, Nat.zero_add]; rfl) (ren_map fun _ => rfl), fun b hb => (by cases hb; rfl), fun b hb => (by cases hb; rfl), fun b hb => (by cases hb; rfl), fun b hb => (by cases hb; (try subst hlb); rfl), Z.gB_sub' rfl (by rw [List.map_append]; rfl) (ren_map fun _ => rfl), trivial⟩⟩)⟩⟩
       · dsimp only; rw [hqs, mkq_yes hx (by assumption) (by assumption)]
       · dsimp only; rw [hacc, gone_yes hx (by assumption) (by assumption)])
    | (refine ⟨⟨(i + 1, qs.set i ⟨x.w, x.h, true⟩, acc ++ [x.w]), ⟨by (try simp only [List.length_map] at *); omega, ?_, ?_⟩, by (try simp only [List.length_map] at *); omega, (Z.Wk.stp (l := [0, 1, 2, 3, 4, 5, 6, 7, 8, 9, 10, 15]) ⟨rfl, by decide, rfl, (Nat.le_of_ble_eq_true rfl), ⟨rfl, rfl, rfl, rfl, rfl, rfl, trivial⟩, ⟨fun b hb => (by cases hb; rfl), fun b hb => (by cases hb; rfl), fun b hb => (by cases hb; rfl), fun b hb => (by cases hb; rw [List.map_append]; rfl), fun b hb => (by cases hb; rfl), fun b hb => (by cases hb; rfl), Z.blk_sub rfl (by rw [List.map_set, Nat.zero_add]; rfl) (ren_map fun _ => rfl), fun b hb => (by cases hb; rfl), fun b hb => (by cases hb; rfl), fun b hb => (by cases hb; rfl), fun b hb => (by cases hb; (try subst hlb); rfl), Z.gB_sub' rfl (by rw [List.map_append]; rfl) (ren_map fun _ => rfl), trivial⟩⟩)⟩⟩
       · dsimp only; rw [hqs, mkq_yes hx (by assumption) (by assumption)]
       · dsimp only; rw [hacc, gone_yes hx (by assumption) (by assumption)])
    | skip
  have hend : ¬ i < ps.length := by (try simp only [List.length_map] at *); omega
  have hacc' : acc = gone span t ps := by rw [hacc, take_end hend]
  have hqs' : qs = ps.map (dn span t) := by rw [hqs]; unfold mkq; rw [take_end hend, drop_end hend, List.append_nil]
  subst hacc' hqs'
  refine ret_stp (Stp.fzg 5 11 ((gone span t ps).map cN) rfl 1 3 (by show Z.isB ((gB _ _ _).map Z.Ob.b) = _; exact Z.isB_map _) ((gone span t ps).map eN) (by simp only [List.map_map]; rfl) (Nat.zero_le _)) ?_
  refine ret1b 6 (.tup [.agg [.v (.int .i64 t), .v (.int .i64 span), .osl 0 0 ps.length (some ps.length)], .one (.ro true 1 ((gone span t ps).map eN)), .one (.v (.int .i64 0))]) ((ps.map (dn span t)).map cP) 3 37 false _ rfl ?_ rfl rfl (ren_map fun _ => rfl) rfl (own_map fun _ => rfl) (.inr ⟨by omega, rfl, rfl, rfl⟩)
  rw [show ps.length = (ps.map eP).length by simp]; rfl

end Go.Proofs.Ytgdkhdooekmfgaa
