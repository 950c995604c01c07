import Derived.Test.YtgdkhdooekmfgaaSty0
import Derived.Test.YtgdkhdooekmfgaaWzc
namespace Go.Proofs.Ytgdkhdooekmfgaa
open Go Go.RowKit Wx
set_option linter.unusedVariables false
set_option linter.unusedSimpArgs false
set_option maxHeartbeats 4000000
theorem hear0_con (now span w : Int) (hw : 1 ≤ w ∧ w ≤ 4) (hk : okH now span ([] : List Pu) = true) : Con Try.prog 24 [.agg [.v (.int .i64 now), .v (.int .i64 span), .ro false 3 (([] : List Pu).map eP)], .one (.v (.int .i64 w))] (fun rx rK rt => rx = .tup [.agg [.v (.int .i64 now), .v (.int .i64 span), .osl 0 0 1 none], .one (.v (.bool true)), .one (.v (.int .i64 0))] ∧ rK = [(0, some ⟨[cP ⟨w, now, false⟩], 3, 37, false⟩)] ∧ rt = 1) := by
  refine Z.con_ofZ tabOk 19 Try.f24 _ Try.func24 (by kernel_rfl) rfl rfl rfl rfl ?_
  repeat' ((conv => whnf); first
    | with_reducible refine spB_t ?_
    | ((with_reducible apply spB_cong); (focus (simp only [beq_self_eq_true, bne_self_eq_false, Bool.true_bne, Bool.false_bne, Bool.bne_true, Bool.bne_false, Bool.true_beq, Bool.false_beq, Bool.not_true, Bool.not_false, Bool.not_not, Int.reduceBEq, Int.reduceBNe, Int.reduceLE, Int.reduceLT, Int.reduceEq, decide_true, decide_false, List.length_map, List.length_cons, List.length_nil]; rfl)))
    | with_reducible refine spB_yes (by decide) ?_
    | with_reducible refine spB_no (by decide) ?_
    | with_reducible refine spB_f ?_
    | with_reducible refine spB_not ?_
    | with_reducible refine spB_yes (by assumption) ?_
    | with_reducible refine spB_no (by assumption) ?_
    | (with_reducible refine spB_dec ?_ ?_ <;> intro _ <;> (try (exfalso; first | contradiction | omega | (rename_i hz; with_reducible exact absurd rfl hz))))
    | (with_reducible refine spB_beq ?_ ?_ <;> intro _ <;> (try (exfalso; first | contradiction | omega | (rename_i hz; with_reducible exact absurd rfl hz))))
    | (with_reducible refine spB_bne ?_ ?_ <;> intro _ <;> (try (exfalso; first | contradiction | omega | (rename_i hz; with_reducible exact absurd rfl hz))))
    | (with_reducible refine spB_mk ?_ ?_ <;> intro _ <;> (try (exfalso; first | contradiction | omega | (rename_i hz; with_reducible exact absurd rfl hz))))
    | ((with_reducible refine ixN_mk 0 rfl ?_ ?_); (focus (simp)))
    | ((with_reducible refine rowN_mk _ ?_ ?_); (focus rfl))
    | ((with_reducible refine slN.mk ?_); refine ⟨0, 0, rfl, rfl, Nat.le_refl _, .inl (Nat.zero_le _), .inl rfl, ?_⟩)
    | ((with_reducible apply rowN_mk); (focus rfl))
    | ((with_reducible refine ixN_mk 0 ?_ ?_ ?_); (focus rfl); (focus (exact Nat.le_of_ble_eq_true rfl)))
    | ((with_reducible refine ixN_mk 1 ?_ ?_ ?_); (focus rfl); (focus (exact Nat.le_of_ble_eq_true rfl)))
    | ((with_reducible refine ixN_mk 2 ?_ ?_ ?_); (focus rfl); (focus (exact Nat.le_of_ble_eq_true rfl)))
    | ((with_reducible refine ixN_mk 3 ?_ ?_ ?_); (focus rfl); (focus (exact Nat.le_of_ble_eq_true rfl)))
    | ((with_reducible refine ixN_mk 4 ?_ ?_ ?_); (focus rfl); (focus (exact Nat.le_of_ble_eq_true rfl)))
    | ((with_reducible refine ixN_mk 5 ?_ ?_ ?_); (focus rfl); (focus (exact Nat.le_of_ble_eq_true rfl)))
    | ((with_reducible refine ixN_mk 6 ?_ ?_ ?_); (focus rfl); (focus (exact Nat.le_of_ble_eq_true rfl)))
    | ((with_reducible refine ixN_mk 7 ?_ ?_ ?_); (focus rfl); (focus (exact Nat.le_of_ble_eq_true rfl)))
    | ((with_reducible refine eqN_mk2 ?_ ?_); (focus rfl))
    | ((with_reducible refine posN_mk2 ?_ ?_); (focus (first | decide | ((try simp only [List.length_replicate, List.length_map, List.length_append, List.length_nil, List.length_cons, maxLen] at *); omega))))
    | ((with_reducible refine apdN.mk ?_ ?_ ?_ ?_ ?_ ?_); (focus (first | rfl | (simp; done))); (focus (first | exact one_all (by rfl) | exact one_map (fun _ => rfl) | exact one_map2 (fun _ => rfl))); (focus ((try simp only [List.length_replicate, List.length_map, List.length_append, List.length_nil, List.length_cons, maxLen] at *); omega)); (focus ((try simp only [List.length_replicate, List.length_map, List.length_append, List.length_nil, List.length_cons, maxLen] at *); omega)); (focus ((try simp only [List.length_replicate, List.length_map, List.length_append, List.length_nil, List.length_cons, maxLen] at *); omega)))
    | ((with_reducible refine cpyN.mk ?_ ?_ ?_ ?_); (focus (first | rfl | (simp; done))); (focus (first | exact one_all (by rfl) | exact one_map (fun _ => rfl) | exact one_map2 (fun _ => rfl))); (focus ((try simp only [List.length_replicate, List.length_map, List.length_append, List.length_nil, List.length_cons, maxLen] at *); omega)))
    | with_reducible refine wr_i64 (by first | omega | (simp only [List.length_map] at *; omega)) ?_
    | with_reducible refine wr_u64 (by omega) ?_
    | with_reducible refine wr_u8 (by omega) ?_
    | with_reducible refine wr_u32 (by omega) ?_
    | with_reducible refine wr_mk _ rfl ?_
    | ((with_reducible refine ixN_nat ?_ ?_); (focus ((try simp only [List.length_map] at *); omega)))
    | ((with_reducible refine rowN_map ?_ ?_); (focus ((try simp only [List.length_map] at *); omega)); intro x hx)
    | ((with_reducible refine ixN_mk 0 ?_ ?_ ?_); (focus rfl); (focus decide))
    | ((with_reducible refine ixN_mk 1 ?_ ?_ ?_); (focus rfl); (focus decide))
    | ((with_reducible refine ixN_mk 2 ?_ ?_ ?_); (focus rfl); (focus decide))
    | ((with_reducible refine ixN_mk 3 ?_ ?_ ?_); (focus rfl); (focus decide))
    | ((with_reducible refine ixN_mk 4 ?_ ?_ ?_); (focus rfl); (focus decide))
    | ((with_reducible refine ixN_mk 5 ?_ ?_ ?_); (focus rfl); (focus decide))
    | ((with_reducible refine ixN_mk 6 ?_ ?_ ?_); (focus rfl); (focus decide))
    | ((with_reducible refine ixN_mk 7 ?_ ?_ ?_); (focus rfl); (focus decide))
    | ((with_reducible refine posE_nil (by rfl) ?_))
    | ((with_reducible refine posE_pos (by decide) ?_))
    | with_reducible refine vN_mod (by omega) ?_
    | with_reducible refine vN_mk ?_
    | with_reducible refine nzN_mk (by omega) ?_
    | with_reducible refine eqN_dec (by omega) ?_
    | with_reducible refine apN_mk (by kernel_rfl) ?_
    | ((with_reducible apply Z.conZ_mk ?_ (may_t _ _ _ ?_ hk) ?_);(first | (focus exact ⟨⟨rfl, rfl, rfl, trivial⟩, trivial⟩) | (rotate_left 1; (focus exact ⟨⟨rfl, rfl, rfl, trivial⟩, trivial⟩)) | (rotate_left 2; (focus exact ⟨⟨rfl, rfl, rfl, trivial⟩, trivial⟩)) | (rotate_left 3; (focus exact ⟨⟨rfl, rfl, rfl, trivial⟩, trivial⟩))); (focus simp); skip)
    | ((with_reducible apply Z.callZ_con ?_ (may_t _ _ _ ?_ hk) ?_);(first | (focus exact ⟨⟨rfl, rfl, rfl, trivial⟩, trivial⟩) | (rotate_left 1; (focus exact ⟨⟨rfl, rfl, rfl, trivial⟩, trivial⟩)) | (rotate_left 2; (focus exact ⟨⟨rfl, rfl, rfl, trivial⟩, trivial⟩)) | (rotate_left 3; (focus exact ⟨⟨rfl, rfl, rfl, trivial⟩, trivial⟩))); (focus simp); rintro _ _ _ ⟨rfl, rfl, rfl⟩)
    | ((with_reducible apply Z.conZ_mk ?_ (find0_con _ _ _) ?_);(first | (focus exact ⟨⟨rfl, rfl, (by first | exact ⟨[], rfl, rfl, rfl⟩ | exact ⟨_, rfl, rfl, rfl⟩ | exact ⟨[eP ⟨_, _, _⟩], rfl, rfl, rfl⟩), trivial⟩, rfl, trivial⟩) | (rotate_left 1; (focus exact ⟨⟨rfl, rfl, (by first | exact ⟨[], rfl, rfl, rfl⟩ | exact ⟨_, rfl, rfl, rfl⟩ | exact ⟨[eP ⟨_, _, _⟩], rfl, rfl, rfl⟩), trivial⟩, rfl, trivial⟩)) | (rotate_left 2; (focus exact ⟨⟨rfl, rfl, (by first | exact ⟨[], rfl, rfl, rfl⟩ | exact ⟨_, rfl, rfl, rfl⟩ | exact ⟨[eP ⟨_, _, _⟩], rfl, rfl, rfl⟩), trivial⟩, rfl, trivial⟩)) | (rotate_left 3; (focus exact ⟨⟨rfl, rfl, (by first | exact ⟨[], rfl, rfl, rfl⟩ | exact ⟨_, rfl, rfl, rfl⟩ | exact ⟨[eP ⟨_, _, _⟩], rfl, rfl, rfl⟩), trivial⟩, rfl, trivial⟩))); skip)
    | ((with_reducible apply Z.callZ_con ?_ (find0_con _ _ _) ?_);(first | (focus exact ⟨⟨rfl, rfl, (by first | exact ⟨[], rfl, rfl, rfl⟩ | exact ⟨_, rfl, rfl, rfl⟩ | exact ⟨[eP ⟨_, _, _⟩], rfl, rfl, rfl⟩), trivial⟩, rfl, trivial⟩) | (rotate_left 1; (focus exact ⟨⟨rfl, rfl, (by first | exact ⟨[], rfl, rfl, rfl⟩ | exact ⟨_, rfl, rfl, rfl⟩ | exact ⟨[eP ⟨_, _, _⟩], rfl, rfl, rfl⟩), trivial⟩, rfl, trivial⟩)) | (rotate_left 2; (focus exact ⟨⟨rfl, rfl, (by first | exact ⟨[], rfl, rfl, rfl⟩ | exact ⟨_, rfl, rfl, rfl⟩ | exact ⟨[eP ⟨_, _, _⟩], rfl, rfl, rfl⟩), trivial⟩, rfl, trivial⟩)) | (rotate_left 3; (focus exact ⟨⟨rfl, rfl, (by first | exact ⟨[], rfl, rfl, rfl⟩ | exact ⟨_, rfl, rfl, rfl⟩ | exact ⟨[eP ⟨_, _, _⟩], rfl, rfl, rfl⟩), trivial⟩, rfl, trivial⟩))); rintro _ _ _ ⟨rfl, rfl, rfl⟩)
    | (with_reducible refine Z.callZ_in tabOk 29 Try.f39 _ Try.func39 (by kernel_rfl) rfl rfl rfl ?_)
    | (with_reducible refine Z.callZ_in tabOk 55 Try.f40 _ Try.func40 (by kernel_rfl) rfl rfl rfl ?_)
    | (with_reducible refine Z.callZ_in tabOk 95 Try.f42 _ Try.func42 (by kernel_rfl) rfl rfl rfl ?_)
    | ((with_reducible refine eqN_mk2 ?_ ?_); (focus (exact Z.kb_some rfl)))
    | ((with_reducible apply ex_and); exact rfl)
    | ((with_reducible refine Z.mkN_nat ?_ ?_ ?_ ?_); (focus ((try simp only [List.length_replicate, List.length_map, List.length_append, List.length_nil, List.length_cons, maxLen] at *); omega)); (focus ((try simp only [List.length_replicate, List.length_map, List.length_append, List.length_nil, List.length_cons, maxLen] at *); omega)); (focus ((try simp only [List.length_replicate, List.length_map, List.length_append, List.length_nil, List.length_cons, maxLen] at *); omega)))
    | ((with_reducible refine Z.rngN.mk ?_); (try subst hlb))
    | ((with_reducible refine Z.CallZ.yl ?_); refine Z.yield_rule tabOk _ _ rfl rfl rfl rfl ?_)
    | ((with_reducible refine Z.CallZ.yl ?_); subst hlb; refine Z.yield_rule tabOk _ _ rfl rfl rfl rfl ?_)
    | with_reducible refine Z.drawZ_rule tabOk mixOk ?_
    | with_reducible refine Z.apZ_mk (by kernel_rfl) ?_
    | ((with_reducible refine Z.ConZ.red ?_); (try subst hlb); (apply Z.conZ_all); (focus (repeat (first | exact Z.FK.nil | (apply Z.FK.keep; exact rfl)))); (focus rfl); (focus rfl); (focus (repeat (first | exact trivial | (refine ⟨(fun o ho => (by first | (cases ho; rfl) | (cases ho; exact Z.inL_map fun _ => rfl) | exact Z.inL_gB ho fun _ => rfl)), ?_⟩)))))
    | ((refine ⟨rfl, ?_, rfl⟩); (focus (repeat (first | exact Z.DK.nil | apply Z.DK.cons))))
    | (focus (exact (rfl : Nat.ble _ _ = true))))
  all_goals (try (conv => whnf))
  all_goals first
    | (show Nat.ble _ _ = true; rfl)
    | (refine ret1b 8 (.tup [.agg [.v (.int .i64 now), .v (.int .i64 span), .osl 0 0 1 none], .one (.v (.bool true)), .one (.v (.int .i64 0))]) (([⟨w, now, false⟩] : List Pu).map cP) 3 37 false _ rfl rfl rfl rfl (ren_map fun _ => rfl) rfl (own_map fun _ => rfl) ⟨rfl, rfl, rfl⟩)
    | (trace_state; sorry)

end Go.Proofs.Ytgdkhdooekmfgaa
