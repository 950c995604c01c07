import Derived.Test.YtgdkhdooekmfgaaTel0
namespace Go.Proofs.Ytgdkhdooekmfgaa
open Go Go.RowKit Wx
set_option linter.unusedVariables false
set_option linter.unusedSimpArgs false
set_option maxHeartbeats 4000000
abbrev sh (ps : List Pu) : List Pu := ps.take (min ps.length 5)
theorem sh_len (ps : List Pu) : (sh ps).length ≤ 5 := by simp only [sh, List.length_take]; omega
theorem copy_con (now span : Int) (ps : List Pu) (hl : ps.length ≤ 5) : Con Try.prog 15 [.agg [.v (.int .i64 now), .v (.int .i64 span), .ro false 3 (ps.map eP)]] (fun rx rK rt => rx = .pl (.agg [.v (.int .i64 now), .v (.int .i64 span), .osl 0 0 (ps).length none]) ∧ rK = [(0, some ⟨(ps).map cP, 3, 37, false⟩)] ∧ rt = 1) := by
  refine con_of tabOk 9 Try.f15 _ Try.func15 (by kernel_rfl) rfl rfl rfl rfl (fun W => ?_)
  repeat' ((conv => whnf); first
    | with_reducible refine spB_t ?_
    | ((with_reducible apply spB_cong); (focus (simp only [beq_self_eq_true, bne_self_eq_false, Bool.true_bne, Bool.false_bne, Bool.bne_true, Bool.bne_false, Bool.true_beq, Bool.false_beq, Bool.not_true, Bool.not_false, Bool.not_not, Int.reduceBEq, Int.reduceBNe, Int.reduceLE, Int.reduceLT, Int.reduceEq, decide_true, decide_false]; rfl)))
    | with_reducible refine spB_yes (by decide) ?_
    | with_reducible refine spB_no (by decide) ?_
    | with_reducible refine spB_f ?_
    | with_reducible refine spB_not ?_
    | with_reducible refine spB_yes (by assumption) ?_
    | with_reducible refine spB_no (by assumption) ?_
    | (with_reducible refine spB_dec ?_ ?_ <;> intro _ <;> (try (exfalso; first | contradiction | omega | (rename_i hz; with_reducible exact absurd rfl hz))))
    | (with_reducible refine spB_beq ?_ ?_ <;> intro _ <;> (try (exfalso; first | contradiction | omega | (rename_i hz; with_reducible exact absurd rfl hz))))
    | (with_reducible refine spB_bne ?_ ?_ <;> intro _ <;> (try (exfalso; first | contradiction | omega | (rename_i hz; with_reducible exact absurd rfl hz))))
    | (with_reducible refine spB_mk ?_ ?_ <;> intro _ <;> (try (exfalso; first | contradiction | omega | (rename_i hz; with_reducible exact absurd rfl hz))))
    | ((with_reducible apply rowN_mk); (focus rfl))
    | ((with_reducible refine eqN_mk2 ?_ ?_); (focus rfl))
    | ((with_reducible refine posN_mk2 ?_ ?_); (focus (first | decide | ((try simp only [List.length_map, List.length_append, List.length_nil, List.length_cons, maxLen] at *); omega))))
    | ((with_reducible refine apdN.mk ?_ ?_ ?_ ?_ ?_ ?_); (focus (first | rfl | (simp; done))); (focus (first | exact one_all (by rfl) | exact one_map (fun _ => rfl) | exact one_map2 (fun _ => rfl))); (focus ((try simp only [List.length_map, List.length_append, List.length_nil, List.length_cons, maxLen] at *); omega)); (focus ((try simp only [List.length_map, List.length_append, List.length_nil, List.length_cons, maxLen] at *); omega)); (focus ((try simp only [List.length_map, List.length_append, List.length_nil, List.length_cons, maxLen] at *); omega)))
    | ((with_reducible refine cpyN.mk ?_ ?_ ?_ ?_); (focus (first | rfl | (simp; done))); (focus (first | exact one_all (by rfl) | exact one_map (fun _ => rfl) | exact one_map2 (fun _ => rfl))); (focus ((try simp only [List.length_map, List.length_append, List.length_nil, List.length_cons, maxLen] at *); omega)))
    | with_reducible refine wr_i64 (by first | omega | (simp only [List.length_map] at *; omega)) ?_
    | with_reducible refine wr_u64 (by omega) ?_
    | with_reducible refine wr_u8 (by omega) ?_
    | with_reducible refine wr_u32 (by omega) ?_
    | with_reducible refine wr_mk _ rfl ?_
    | ((with_reducible refine ixN_nat ?_ ?_); (focus ((try simp only [List.length_map] at *); omega)))
    | ((with_reducible refine rowN_map ?_ ?_); (focus ((try simp only [List.length_map] at *); omega)); intro x hx)
    | ((with_reducible refine ixN_mk 0 ?_ ?_ ?_); (focus rfl); (focus decide))
    | ((with_reducible refine ixN_mk 1 ?_ ?_ ?_); (focus rfl); (focus decide))
    | ((with_reducible refine ixN_mk 2 ?_ ?_ ?_); (focus rfl); (focus decide))
    | ((with_reducible refine ixN_mk 3 ?_ ?_ ?_); (focus rfl); (focus decide))
    | ((with_reducible refine ixN_mk 4 ?_ ?_ ?_); (focus rfl); (focus decide))
    | ((with_reducible refine ixN_mk 5 ?_ ?_ ?_); (focus rfl); (focus decide))
    | ((with_reducible refine ixN_mk 6 ?_ ?_ ?_); (focus rfl); (focus decide))
    | ((with_reducible refine ixN_mk 7 ?_ ?_ ?_); (focus rfl); (focus decide))
    | ((with_reducible refine posE_nil (by rfl) ?_))
    | ((with_reducible refine posE_pos (by decide) ?_))
    | with_reducible refine vN_mod (by omega) ?_
    | with_reducible refine vN_mk ?_
    | with_reducible refine nzN_mk (by omega) ?_
    | with_reducible refine eqN_dec (by omega) ?_
    | with_reducible refine draw_rule tabOk mixOk ?_
    | with_reducible refine apN_mk (by kernel_rfl) ?_)
  all_goals (try (conv => whnf))
  refine ret1b 3 (.pl (.agg [.v (.int .i64 now), .v (.int .i64 span), .osl 0 0 (ps).length none])) (ps.map cP) 3 37 false _ rfl ?_ rfl (by rw [← map_ce (f := cP) (g := eP) (fl := false) (fun _ => rfl)]; rfl) (ren_map fun _ => rfl) rfl (own_map fun _ => rfl) ⟨rfl, rfl, rfl⟩
  rw [show ps.length = 0 + (ps.map eP).length by simp]; rfl

theorem short_con (now span : Int) (ps : List Pu)  : Con Try.prog 10 [.agg [.v (.int .i64 now), .v (.int .i64 span), .ro false 3 (ps.map eP)]] (fun rx rK rt => rx = .pl (.agg [.v (.int .i64 now), .v (.int .i64 span), .osl 0 0 (sh ps).length none]) ∧ rK = [(0, some ⟨(sh ps).map cP, 3, 37, false⟩)] ∧ rt = 1) := by
  refine con_of tabOk 13 Try.f10 _ Try.func10 (by kernel_rfl) rfl rfl rfl rfl (fun W => ?_)
  repeat' ((conv => whnf); first
    | with_reducible refine spB_t ?_
    | ((with_reducible apply spB_cong); (focus (simp only [beq_self_eq_true, bne_self_eq_false, Bool.true_bne, Bool.false_bne, Bool.bne_true, Bool.bne_false, Bool.true_beq, Bool.false_beq, Bool.not_true, Bool.not_false, Bool.not_not, Int.reduceBEq, Int.reduceBNe, Int.reduceLE, Int.reduceLT, Int.reduceEq, decide_true, decide_false]; rfl)))
    | with_reducible refine spB_yes (by decide) ?_
    | with_reducible refine spB_no (by decide) ?_
    | with_reducible refine spB_f ?_
    | with_reducible refine spB_not ?_
    | with_reducible refine spB_yes (by assumption) ?_
    | with_reducible refine spB_no (by assumption) ?_
    | (with_reducible refine spB_dec ?_ ?_ <;> intro _ <;> (try (exfalso; first | contradiction | omega | (rename_i hz; with_reducible exact absurd rfl hz))))
    | (with_reducible refine spB_beq ?_ ?_ <;> intro _ <;> (try (exfalso; first | contradiction | omega | (rename_i hz; with_reducible exact absurd rfl hz))))
    | (with_reducible refine spB_bne ?_ ?_ <;> intro _ <;> (try (exfalso; first | contradiction | omega | (rename_i hz; with_reducible exact absurd rfl hz))))
    | (with_reducible refine spB_mk ?_ ?_ <;> intro _ <;> (try (exfalso; first | contradiction | omega | (rename_i hz; with_reducible exact absurd rfl hz))))
    | ((with_reducible refine slN_hi (min ps.length 5) ?_ ?_ ?_); (focus ((try simp only [List.length_map]); omega)); (focus ((try simp only [List.length_map]); omega)))
    | ((with_reducible apply rowN_mk); (focus rfl))
    | ((with_reducible refine eqN_mk2 ?_ ?_); (focus rfl))
    | ((with_reducible refine posN_mk2 ?_ ?_); (focus (first | decide | ((try simp only [List.length_map, List.length_append, List.length_nil, List.length_cons, maxLen] at *); omega))))
    | ((with_reducible refine apdN.mk ?_ ?_ ?_ ?_ ?_ ?_); (focus (first | rfl | (simp; done))); (focus (first | exact one_all (by rfl) | exact one_map (fun _ => rfl) | exact one_map2 (fun _ => rfl))); (focus ((try simp only [List.length_map, List.length_append, List.length_nil, List.length_cons, maxLen] at *); omega)); (focus ((try simp only [List.length_map, List.length_append, List.length_nil, List.length_cons, maxLen] at *); omega)); (focus ((try simp only [List.length_map, List.length_append, List.length_nil, List.length_cons, maxLen] at *); omega)))
    | ((with_reducible refine cpyN.mk ?_ ?_ ?_ ?_); (focus (first | rfl | (simp; done))); (focus (first | exact one_all (by rfl) | exact one_map (fun _ => rfl) | exact one_map2 (fun _ => rfl))); (focus ((try simp only [List.length_map, List.length_append, List.length_nil, List.length_cons, maxLen] at *); omega)))
    | with_reducible refine wr_i64 (by first | omega | (simp only [List.length_map] at *; omega)) ?_
    | with_reducible refine wr_u64 (by omega) ?_
    | with_reducible refine wr_u8 (by omega) ?_
    | with_reducible refine wr_u32 (by omega) ?_
    | with_reducible refine wr_mk _ rfl ?_
    | ((with_reducible refine ixN_nat ?_ ?_); (focus ((try simp only [List.length_map] at *); omega)))
    | ((with_reducible refine rowN_map ?_ ?_); (focus ((try simp only [List.length_map] at *); omega)); intro x hx)
    | ((with_reducible refine ixN_mk 0 ?_ ?_ ?_); (focus rfl); (focus decide))
    | ((with_reducible refine ixN_mk 1 ?_ ?_ ?_); (focus rfl); (focus decide))
    | ((with_reducible refine ixN_mk 2 ?_ ?_ ?_); (focus rfl); (focus decide))
    | ((with_reducible refine ixN_mk 3 ?_ ?_ ?_); (focus rfl); (focus decide))
    | ((with_reducible refine ixN_mk 4 ?_ ?_ ?_); (focus rfl); (focus decide))
    | ((with_reducible refine ixN_mk 5 ?_ ?_ ?_); (focus rfl); (focus decide))
    | ((with_reducible refine ixN_mk 6 ?_ ?_ ?_); (focus rfl); (focus decide))
    | ((with_reducible refine ixN_mk 7 ?_ ?_ ?_); (focus rfl); (focus decide))
    | ((with_reducible refine posE_nil (by rfl) ?_))
    | ((with_reducible refine posE_pos (by decide) ?_))
    | with_reducible refine vN_mod (by omega) ?_
    | with_reducible refine vN_mk ?_
    | with_reducible refine nzN_mk (by omega) ?_
    | with_reducible refine eqN_dec (by omega) ?_
    | with_reducible refine draw_rule tabOk mixOk ?_
    | with_reducible refine apN_mk (by kernel_rfl) ?_
    | ((with_reducible apply conN_mk2 ?_ (copy_con now span (ps.take (min ps.length 5)) (sh_len ps)) ?_);(first | (focus exact ⟨⟨rfl, rfl, (by simp [lowC, List.map_take]), trivial⟩, trivial⟩)); skip)
    | ((with_reducible apply call_con2 ?_ (copy_con now span (ps.take (min ps.length 5)) (sh_len ps)) ?_);(first | (focus exact ⟨⟨rfl, rfl, (by simp [lowC, List.map_take]), trivial⟩, trivial⟩)); rintro _ _ _ ⟨rfl, rfl, rfl⟩))
  all_goals (try (conv => whnf))
  refine ret1b 2 (.pl (.agg [.v (.int .i64 now), .v (.int .i64 span), .osl 0 0 (sh ps).length none])) ((sh ps).map cP) 3 37 false _ rfl rfl rfl (ren_map fun _ => rfl) (ren_map fun _ => rfl) rfl (own_map fun _ => rfl) ⟨rfl, rfl, rfl⟩

end Go.Proofs.Ytgdkhdooekmfgaa
