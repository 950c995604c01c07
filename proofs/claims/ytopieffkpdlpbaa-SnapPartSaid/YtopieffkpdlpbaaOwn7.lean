import Derived.Test.YtopieffkpdlpbaaOwn6
import Derived.Test.YtopieffkpdlpbaaLib3
import Derived.Test.YtopieffkpdlpbaaLib4
import Derived.Test.YtopieffkpdlpbaaLib5
import Derived.Test.YtopieffkpdlpbaaRows
namespace Go.Proofs.Ytopieffkpdlpbaa
open Go Go.RowKit Wx
set_option linter.unusedVariables false
set_option linter.unusedSimpArgs false
set_option maxHeartbeats 4000000
namespace Tab
theorem part_g (l : List Kc) (a w : Int) (hl : l.length ≤ 1000) (ht : tabR l = true) (hs : okS a w) (hne : partL l a w ≠ []) : Con Try.prog 87 [.agg [.ro false 4 (l.map eK)], .one (.v (.int .i64 a)), .one (.v (.int .i64 w))] (fun rx rK rt => rx = .tup [.agg [.gsl 0 ((partL l a w).map cK)], .one (.v (.int .i64 0))] ∧ rK = [(0, some ⟨(partL l a w).map cK, 4, 70, false⟩)] ∧ rt = 1) := by
  refine Z.con_ofZ tabOk 41 Try.f87 _ Try.func87 (by kernel_rfl) rfl rfl rfl rfl ?_
  have cc := check_con l (by omega)
  rw [ht] at cc
  simp only [cond_true] at cc
  obtain ⟨L, cow⟩ := owned_ok a w hs
  repeat' ((conv => whnf); first
    | with_reducible first | refine spB_t ?_
    | ((with_reducible apply spB_cong); (focus (simp only [beq_self_eq_true, bne_self_eq_false, Bool.true_bne, Bool.false_bne, Bool.bne_true, Bool.bne_false, Bool.true_beq, Bool.false_beq, Bool.not_true, Bool.not_false, Bool.not_not, Int.reduceBEq, Int.reduceBNe, Int.reduceLE, Int.reduceLT, Int.reduceEq, decide_true, decide_false]; rfl)))
    | with_reducible first | refine spB_yes (by decide) ?_ | refine spB_no (by decide) ?_ | refine spB_f ?_ | refine spB_not ?_ | refine spB_yes (by assumption) ?_ | refine spB_no (by assumption) ?_
    | (with_reducible refine spB_dec ?_ ?_ <;> intro _ <;> (try (exfalso; first | contradiction | omega | (rename_i hz; refine hz ?_; simp; done) | (rename_i hz; simp at hz; done) | (simp only [LN] at *; omega))))
    | (with_reducible refine spB_beq ?_ ?_ <;> intro _ <;> (try (exfalso; first | contradiction | omega | (rename_i hz; refine hz ?_; simp; done) | (rename_i hz; simp at hz; done) | (simp only [LN] at *; omega))))
    | (with_reducible refine spB_bne ?_ ?_ <;> intro _ <;> (try (exfalso; first | contradiction | omega | (rename_i hz; refine hz ?_; simp; done) | (rename_i hz; simp at hz; done) | (simp only [LN] at *; omega))))
    | (with_reducible refine spB_mk ?_ ?_ <;> intro _ <;> (try (exfalso; first | contradiction | omega | (rename_i hz; refine hz ?_; simp; done) | (rename_i hz; simp at hz; done) | (simp only [LN] at *; omega))))
    | ((with_reducible refine posE_pos ?_ ?_); (focus ((try simp only [LN] at *) <;> omega)))
    | ((with_reducible refine posE_nil ?_ ?_); (focus rfl))
    | ((with_reducible apply rowN_mk); (focus rfl))
    | ((with_reducible apply ixN_lit); (focus (exact rfl)); (focus (exact rfl)))
    | ((with_reducible apply ixN_litp); (focus (exact rfl)); (focus ((try simp only [LN] at *) <;> omega)))
    | ((with_reducible refine eqN_mk2 ?_ ?_); (focus rfl))
    | ((with_reducible refine apdE_r ?_); (with_reducible refine aprN.mk ⟨_, rfl, ?_⟩ ?_ ?_ ?_ ?_); (focus ((try simp only [LN] at *) <;> omega)); (focus (first | rfl | (simp; done) | ((try simp only [LN] at *) <;> omega))); (focus (first | exact one_all (by rfl) | exact one_map (fun _ => rfl) | exact one_map2 (fun _ => rfl) | exact one_drop (fun _ => rfl))); (focus ((try simp only [LN] at *) <;> omega)))
    | ((with_reducible refine apdE_k ?_); (with_reducible refine apkN.mk ⟨_, rfl, ?_⟩ ?_); (focus ((try simp only [LN] at *) <;> omega)))
    | with_reducible first | refine apdE_n ?_
    | ((with_reducible refine apdN.mk ?_ ?_ ?_ ?_ ?_ ?_); (focus (first | rfl | (simp; done))); (focus (first | exact one_all (by rfl) | exact one_map (fun _ => rfl) | exact one_map2 (fun _ => rfl))); (focus ((try simp only [LN] at *) <;> omega)); (focus ((try simp only [LN] at *) <;> omega)); (focus ((try simp only [LN] at *) <;> omega)))
    | with_reducible refine wr_i64 (by first | omega | (simp only [LN] at *; omega)) ?_
    | with_reducible refine wr_u64 (by omega) ?_
    | with_reducible refine wr_u8 (by omega) ?_
    | with_reducible refine wr_u32 (by omega) ?_
    | with_reducible first | refine wr_mk _ rfl ?_
    | ((with_reducible refine ixN_nat ?_ ?_); (focus ((try simp only [LN] at *) <;> omega)))
    | ((with_reducible refine rowN_map ?_ ?_); (focus ((try simp only [LN] at *) <;> omega)); intro x hx)
    | ((with_reducible refine posE_nil (by rfl) ?_))
    | ((with_reducible refine posE_pos (by decide) ?_))
    | with_reducible refine eqN_dec (by omega) ?_
    | with_reducible first | refine apN_mk (by kernel_rfl) ?_ | refine Z.callZ_in tabOk 26 Try.f118 _ Try.func118 (by kernel_rfl) rfl rfl rfl ?_ | refine Z.callZ_in tabOk 8 Try.f69 _ Try.func69 (by kernel_rfl) rfl rfl rfl ?_ | refine Z.callZ_in tabOk 8 Try.f109 _ Try.func109 (by kernel_rfl) rfl rfl rfl ?_
    | ((first | (with_reducible refine Z.conZ_mz ?_ (cc) ?_) | (with_reducible refine Z.callZ_mk ?_ (cc) ?_) | (with_reducible refine Z.conZ_mz ?_ (cow) ?_) | (with_reducible refine Z.callZ_mk ?_ (cow) ?_)); (focus ((repeat' (first | exact trivial | exact ⟨_, rfl, rfl, rfl⟩ | (refine Z.low_osln ?_ (fun _ => rfl); (first | exact hzl | exact hzl.symm)) | exact rfl | exact Z.low_nil | exact Z.low_nil2 | exact low_osl (fun _ => rfl) | (refine Z.low_osln ?_ (fun _ => rfl); (simp only [List.length_map]; done)) | exact low_oslr (fun _ => rfl) | exact Z.low_gslm (by first | rfl | exact Z.kb_some rfl) (fun _ => rfl) | exact .inl rfl | exact .inr ⟨_, rfl⟩ | apply And.intro)); done)))
    | ((with_reducible refine eqN_mk2 ?_ ?_); (focus (exact Z.kb_some rfl)))
    | ((with_reducible apply ex_and); exact rfl)
    | ((with_reducible refine Z.rngN.mk ?_); (try subst hlb))
    | ((with_reducible refine Z.CallZ.yl ?_); refine Z.yield_rule tabOk _ _ rfl rfl rfl rfl ?_)
    | ((with_reducible refine Z.CallZ.yl ?_); subst hlb; refine Z.yield_rule tabOk _ _ rfl rfl rfl rfl ?_)
    | ((with_reducible refine Z.RangeZ.red ?_); (refine Z.range_rule [(6, _), (11, _), (32, _)] rfl ⟨rfl, rfl, rfl, trivial⟩ rfl rfl ?_); intro lb hlb)
    | with_reducible first | refine Z.drawZ_rule tabOk mixOk ?_ | refine Z.apZ_mk (by kernel_rfl) ?_
    | ((with_reducible refine Z.ConZ.red ?_); (try subst hlb); (apply Z.conZ_all); (focus (repeat (first | exact Z.FK.nil | (apply Z.FK.keep; exact rfl)))); (focus rfl); (focus rfl); (focus (repeat (first | exact trivial | (refine ⟨(fun o ho => (by first | (cases ho; rfl) | (cases ho; exact Z.inL_map fun _ => rfl) | (cases ho; exact Z.inL_mapr fun _ => rfl) | exact Z.inL_gB ho fun _ => rfl)), ?_⟩)))))
    | ((refine ⟨rfl, ?_, rfl⟩); (focus (repeat (first | exact Z.DK.nil | apply Z.DK.cons))))
    | (focus (exact (rfl : Nat.ble _ _ = true))))
  all_goals (try (conv => whnf))
  all_goals try (show Nat.ble _ _ = true; rfl)
  all_goals try (exfalso; rename_i hz; cases hz; done)
  all_goals try (exfalso; (try simp only [LN] at *) <;> omega)
  refine Z.loopK tabOk (fun zq : Nat × List Kc => [(10, .val (.int .i64 (zq.1 : Int)))]) (fun zq : Nat × List Kc => ([(2, some (Z.Ob.b ⟨[[.gsl 7 (zq.2.map cK)]], 1, 28, true⟩)), (7, (gB 4 70 (zq.2.map cK)).map Z.Ob.b)] : Z.Kr)) (fun zq => zq.1 ≤ l.length ∧ zq.2 = partL (l.take zq.1) a w) (fun zq => l.length - zq.1) (0, []) 8 [(0, _), (2, _), (3, _), (8, _), (9, _)] ⟨rfl, rfl, rfl, rfl, rfl, trivial⟩ [(0, some _), (1, some _), (3, some _), (4, some _), (5, some _), (6, some _)] ⟨rfl, rfl, rfl, rfl, rfl, rfl, trivial⟩ ?_ ?_ rfl rfl ⟨Nat.zero_le _, by simp [partL]⟩ ?_
  · repeat' (first | exact trivial | apply And.intro | exact ⟨_, rfl, rfl⟩ | exact ⟨_, rfl, Z.Imp.refl _⟩ | exact ⟨_, rfl, Z.Imp.nilg _⟩ | exact ⟨_, rfl, Z.Imp.nilr _ _⟩)
  · repeat' (first | exact trivial | (intro b hb; cases hb; done) | exact (fun b hb => ⟨b, hb, Z.ImpO.refl b⟩) | (intro b hb; cases hb; refine ⟨_, rfl, ⟨rfl, rfl, rfl⟩, ?_⟩; (repeat' (first | exact trivial | apply And.intro | exact Z.Imp.refl _ | exact Z.Imp.nilg _ | exact Z.Imp.nilr _ _)); done) | apply And.intro)
  rintro ⟨i, acc⟩ HINV
  (try dsimp only at HINV); (try dsimp only)
  obtain ⟨HI, HA⟩ := HINV
  have hpl := @part_len (l.take i) a w
  rw [List.length_take, ← HA] at hpl
  by_cases hi2 : i < l.length
  · obtain ⟨x, hx⟩ := getElem?_some' (xs := l) (i := i) hi2
    have hpa := part_at (i := a) (w := w) hx
    rw [← HA] at hpa
    have cm := mine_con x.src x.key 0 a w
    cases hm : mineB x.src x.key a w
    all_goals rw [hm] at cm hpa
    all_goals simp only [cond_true, cond_false, List.append_nil] at hpa
    · skip
      repeat' ((conv => whnf); first
        | with_reducible first | refine spB_t ?_
        | ((with_reducible apply spB_cong); (focus (simp only [beq_self_eq_true, bne_self_eq_false, Bool.true_bne, Bool.false_bne, Bool.bne_true, Bool.bne_false, Bool.true_beq, Bool.false_beq, Bool.not_true, Bool.not_false, Bool.not_not, Int.reduceBEq, Int.reduceBNe, Int.reduceLE, Int.reduceLT, Int.reduceEq, decide_true, decide_false]; rfl)))
        | with_reducible first | refine spB_yes (by decide) ?_ | refine spB_no (by decide) ?_ | refine spB_f ?_ | refine spB_not ?_ | refine spB_yes (by assumption) ?_ | refine spB_no (by assumption) ?_
        | (with_reducible refine spB_dec ?_ ?_ <;> intro _ <;> (try (exfalso; first | contradiction | omega | (rename_i hz; refine hz ?_; simp; done) | (rename_i hz; simp at hz; done) | (simp only [LN] at *; omega))))
        | (with_reducible refine spB_beq ?_ ?_ <;> intro _ <;> (try (exfalso; first | contradiction | omega | (rename_i hz; refine hz ?_; simp; done) | (rename_i hz; simp at hz; done) | (simp only [LN] at *; omega))))
        | (with_reducible refine spB_bne ?_ ?_ <;> intro _ <;> (try (exfalso; first | contradiction | omega | (rename_i hz; refine hz ?_; simp; done) | (rename_i hz; simp at hz; done) | (simp only [LN] at *; omega))))
        | (with_reducible refine spB_mk ?_ ?_ <;> intro _ <;> (try (exfalso; first | contradiction | omega | (rename_i hz; refine hz ?_; simp; done) | (rename_i hz; simp at hz; done) | (simp only [LN] at *; omega))))
        | with_reducible first | refine Z.rowN_known hx ?_
        | ((with_reducible refine posE_pos ?_ ?_); (focus ((try simp only [LN] at *) <;> omega)))
        | ((with_reducible refine posE_nil ?_ ?_); (focus rfl))
        | ((with_reducible apply rowN_mk); (focus rfl))
        | ((with_reducible apply ixN_lit); (focus (exact rfl)); (focus (exact rfl)))
        | ((with_reducible apply ixN_litp); (focus (exact rfl)); (focus ((try simp only [LN] at *) <;> omega)))
        | ((with_reducible refine eqN_mk2 ?_ ?_); (focus rfl))
        | ((with_reducible refine apdE_r ?_); (with_reducible refine aprN.mk ⟨_, rfl, ?_⟩ ?_ ?_ ?_ ?_); (focus ((try simp only [LN] at *) <;> omega)); (focus (first | rfl | (simp; done) | ((try simp only [LN] at *) <;> omega))); (focus (first | exact one_all (by rfl) | exact one_map (fun _ => rfl) | exact one_map2 (fun _ => rfl) | exact one_drop (fun _ => rfl))); (focus ((try simp only [LN] at *) <;> omega)))
        | ((with_reducible refine apdE_k ?_); (with_reducible refine apkN.mk ⟨_, rfl, ?_⟩ ?_); (focus ((try simp only [LN] at *) <;> omega)))
        | with_reducible first | refine apdE_n ?_
        | ((with_reducible refine apdN.mk ?_ ?_ ?_ ?_ ?_ ?_); (focus (first | rfl | (simp; done))); (focus (first | exact one_all (by rfl) | exact one_map (fun _ => rfl) | exact one_map2 (fun _ => rfl))); (focus ((try simp only [LN] at *) <;> omega)); (focus ((try simp only [LN] at *) <;> omega)); (focus ((try simp only [LN] at *) <;> omega)))
        | with_reducible refine wr_i64 (by first | omega | (simp only [LN] at *; omega)) ?_
        | with_reducible refine wr_u64 (by omega) ?_
        | with_reducible refine wr_u8 (by omega) ?_
        | with_reducible refine wr_u32 (by omega) ?_
        | with_reducible first | refine wr_mk _ rfl ?_
        | ((with_reducible refine ixN_nat ?_ ?_); (focus ((try simp only [LN] at *) <;> omega)))
        | ((with_reducible refine rowN_map ?_ ?_); (focus ((try simp only [LN] at *) <;> omega)); intro x hx)
        | ((with_reducible refine posE_nil (by rfl) ?_))
        | ((with_reducible refine posE_pos (by decide) ?_))
        | with_reducible refine eqN_dec (by omega) ?_
        | with_reducible first | refine apN_mk (by kernel_rfl) ?_ | refine Z.callZ_in tabOk 26 Try.f118 _ Try.func118 (by kernel_rfl) rfl rfl rfl ?_ | refine Z.callZ_in tabOk 8 Try.f69 _ Try.func69 (by kernel_rfl) rfl rfl rfl ?_ | refine Z.callZ_in tabOk 8 Try.f109 _ Try.func109 (by kernel_rfl) rfl rfl rfl ?_
        | ((first | (with_reducible refine Z.conZ_mz ?_ (cm) ?_) | (with_reducible refine Z.callZ_mk ?_ (cm) ?_)); (focus ((repeat' (first | exact trivial | exact ⟨_, rfl, rfl, rfl⟩ | (refine Z.low_osln ?_ (fun _ => rfl); (first | exact hzl | exact hzl.symm)) | exact rfl | exact Z.low_nil | exact Z.low_nil2 | exact low_osl (fun _ => rfl) | (refine Z.low_osln ?_ (fun _ => rfl); (simp only [List.length_map]; done)) | exact low_oslr (fun _ => rfl) | exact Z.low_gslm (by first | rfl | exact Z.kb_some rfl) (fun _ => rfl) | exact .inl rfl | exact .inr ⟨_, rfl⟩ | apply And.intro)); done)))
        | ((with_reducible refine eqN_mk2 ?_ ?_); (focus (exact Z.kb_some rfl)))
        | ((with_reducible apply ex_and); exact rfl)
        | ((with_reducible refine Z.rngN.mk ?_); (try subst hlb))
        | ((with_reducible refine Z.CallZ.yl ?_); refine Z.yield_rule tabOk _ _ rfl rfl rfl rfl ?_)
        | ((with_reducible refine Z.CallZ.yl ?_); subst hlb; refine Z.yield_rule tabOk _ _ rfl rfl rfl rfl ?_)
        | ((with_reducible refine Z.RangeZ.red ?_); (refine Z.range_rule [(6, _), (11, _), (32, _)] rfl ⟨rfl, rfl, rfl, trivial⟩ rfl rfl ?_); intro lb hlb)
        | with_reducible first | refine Z.drawZ_rule tabOk mixOk ?_ | refine Z.apZ_mk (by kernel_rfl) ?_
        | ((with_reducible refine Z.ConZ.red ?_); (try subst hlb); (apply Z.conZ_all); (focus (repeat (first | exact Z.FK.nil | (apply Z.FK.keep; exact rfl)))); (focus rfl); (focus rfl); (focus (repeat (first | exact trivial | (refine ⟨(fun o ho => (by first | (cases ho; rfl) | (cases ho; exact Z.inL_map fun _ => rfl) | (cases ho; exact Z.inL_mapr fun _ => rfl) | exact Z.inL_gB ho fun _ => rfl)), ?_⟩)))))
        | ((refine ⟨rfl, ?_, rfl⟩); (focus (repeat (first | exact Z.DK.nil | apply Z.DK.cons))))
        | (focus (exact (rfl : Nat.ble _ _ = true))))
      all_goals (try (conv => whnf))
      all_goals try (show Nat.ble _ _ = true; rfl)
      all_goals try (exfalso; rename_i hz; cases hz; done)
      all_goals try (exfalso; (try simp only [LN] at *) <;> omega)
      all_goals first
        | ((refine Z.rndK ((i + 1, acc)) (fun s => [0, 1, 2, 3, 4, 5, 6, s.idIn 2 0]) rfl rfl rfl rfl ?_ ?_ ?_ ?_); (focus (repeat' (first | exact trivial | exact Z.map_sub (Z.MapL.ren HM0 fun _ => rfl) rfl | exact Z.it_sub rfl | exact rfl | (rw [List.map_append]; exact rfl) | apply And.intro))); (focus (repeat' (first | exact trivial | exact Z.map_sub (Z.MapL.ren HM0 fun _ => rfl) rfl | exact Z.it_sub rfl | (intro b hb; cases hb; rfl) | (intro b hb; cases hb; subst hlb; rfl) | (intro b hb; cases hb; rw [List.map_append]; rfl) | (intro b hb; cases hb; done) | exact Z.blk_sub rfl rfl (ren_map fun _ => rfl) | exact Z.blk_sub rfl rfl (Z.ren_app (ren_map fun _ => rfl) (ren_map fun _ => rfl)) | exact Z.blk_sub rfl (by first | (rw [List.map_append]; rfl) | (rw [List.map_set]; rfl) | simp only [List.map_append, List.map_cons, List.map_nil, List.map_set]) (ren_map fun _ => rfl) | exact Z.gB_sub rfl rfl (ren_map fun _ => rfl) | exact Z.gB_sub' rfl (by first | rfl | (rw [List.map_append]; rfl) | simp only [List.map_append, List.map_cons, List.map_nil]) (ren_map fun _ => rfl) | apply And.intro))); (focus (exact ⟨by (try dsimp only); omega, hpa.symm⟩)); ((try dsimp only); omega))
        | (exfalso; rename_i hz; cases hz; done)
        | (exfalso; (try simp only [LN] at *) <;> omega)
        | (fail)
    · skip
      repeat' ((conv => whnf); first
        | with_reducible first | refine spB_t ?_
        | ((with_reducible apply spB_cong); (focus (simp only [beq_self_eq_true, bne_self_eq_false, Bool.true_bne, Bool.false_bne, Bool.bne_true, Bool.bne_false, Bool.true_beq, Bool.false_beq, Bool.not_true, Bool.not_false, Bool.not_not, Int.reduceBEq, Int.reduceBNe, Int.reduceLE, Int.reduceLT, Int.reduceEq, decide_true, decide_false]; rfl)))
        | with_reducible first | refine spB_yes (by decide) ?_ | refine spB_no (by decide) ?_ | refine spB_f ?_ | refine spB_not ?_ | refine spB_yes (by assumption) ?_ | refine spB_no (by assumption) ?_
        | (with_reducible refine spB_dec ?_ ?_ <;> intro _ <;> (try (exfalso; first | contradiction | omega | (rename_i hz; refine hz ?_; simp; done) | (rename_i hz; simp at hz; done) | (simp only [LN] at *; omega))))
        | (with_reducible refine spB_beq ?_ ?_ <;> intro _ <;> (try (exfalso; first | contradiction | omega | (rename_i hz; refine hz ?_; simp; done) | (rename_i hz; simp at hz; done) | (simp only [LN] at *; omega))))
        | (with_reducible refine spB_bne ?_ ?_ <;> intro _ <;> (try (exfalso; first | contradiction | omega | (rename_i hz; refine hz ?_; simp; done) | (rename_i hz; simp at hz; done) | (simp only [LN] at *; omega))))
        | (with_reducible refine spB_mk ?_ ?_ <;> intro _ <;> (try (exfalso; first | contradiction | omega | (rename_i hz; refine hz ?_; simp; done) | (rename_i hz; simp at hz; done) | (simp only [LN] at *; omega))))
        | with_reducible first | refine Z.rowN_known hx ?_
        | ((with_reducible refine posE_pos ?_ ?_); (focus ((try simp only [LN] at *) <;> omega)))
        | ((with_reducible refine posE_nil ?_ ?_); (focus rfl))
        | ((with_reducible apply rowN_mk); (focus rfl))
        | ((with_reducible apply ixN_lit); (focus (exact rfl)); (focus (exact rfl)))
        | ((with_reducible apply ixN_litp); (focus (exact rfl)); (focus ((try simp only [LN] at *) <;> omega)))
        | ((with_reducible refine eqN_mk2 ?_ ?_); (focus rfl))
        | ((with_reducible refine apdE_r ?_); (with_reducible refine aprN.mk ⟨_, rfl, ?_⟩ ?_ ?_ ?_ ?_); (focus ((try simp only [LN] at *) <;> omega)); (focus (first | rfl | (simp; done) | ((try simp only [LN] at *) <;> omega))); (focus (first | exact one_all (by rfl) | exact one_map (fun _ => rfl) | exact one_map2 (fun _ => rfl) | exact one_drop (fun _ => rfl))); (focus ((try simp only [LN] at *) <;> omega)))
        | ((with_reducible refine apdE_k ?_); (with_reducible refine apkN.mk ⟨_, rfl, ?_⟩ ?_); (focus ((try simp only [LN] at *) <;> omega)))
        | with_reducible first | refine apdE_n ?_
        | ((with_reducible refine apdN.mk ?_ ?_ ?_ ?_ ?_ ?_); (focus (first | rfl | (simp; done))); (focus (first | exact one_all (by rfl) | exact one_map (fun _ => rfl) | exact one_map2 (fun _ => rfl))); (focus ((try simp only [LN] at *) <;> omega)); (focus ((try simp only [LN] at *) <;> omega)); (focus ((try simp only [LN] at *) <;> omega)))
        | with_reducible refine wr_i64 (by first | omega | (simp only [LN] at *; omega)) ?_
        | with_reducible refine wr_u64 (by omega) ?_
        | with_reducible refine wr_u8 (by omega) ?_
        | with_reducible refine wr_u32 (by omega) ?_
        | with_reducible first | refine wr_mk _ rfl ?_
        | ((with_reducible refine ixN_nat ?_ ?_); (focus ((try simp only [LN] at *) <;> omega)))
        | ((with_reducible refine rowN_map ?_ ?_); (focus ((try simp only [LN] at *) <;> omega)); intro x hx)
        | ((with_reducible refine posE_nil (by rfl) ?_))
        | ((with_reducible refine posE_pos (by decide) ?_))
        | with_reducible refine eqN_dec (by omega) ?_
        | with_reducible first | refine apN_mk (by kernel_rfl) ?_ | refine Z.callZ_in tabOk 26 Try.f118 _ Try.func118 (by kernel_rfl) rfl rfl rfl ?_ | refine Z.callZ_in tabOk 8 Try.f69 _ Try.func69 (by kernel_rfl) rfl rfl rfl ?_ | refine Z.callZ_in tabOk 8 Try.f109 _ Try.func109 (by kernel_rfl) rfl rfl rfl ?_
        | ((first | (with_reducible refine Z.conZ_mz ?_ (cm) ?_) | (with_reducible refine Z.callZ_mk ?_ (cm) ?_)); (focus ((repeat' (first | exact trivial | exact ⟨_, rfl, rfl, rfl⟩ | (refine Z.low_osln ?_ (fun _ => rfl); (first | exact hzl | exact hzl.symm)) | exact rfl | exact Z.low_nil | exact Z.low_nil2 | exact low_osl (fun _ => rfl) | (refine Z.low_osln ?_ (fun _ => rfl); (simp only [List.length_map]; done)) | exact low_oslr (fun _ => rfl) | exact Z.low_gslm (by first | rfl | exact Z.kb_some rfl) (fun _ => rfl) | exact .inl rfl | exact .inr ⟨_, rfl⟩ | apply And.intro)); done)))
        | ((with_reducible refine eqN_mk2 ?_ ?_); (focus (exact Z.kb_some rfl)))
        | ((with_reducible apply ex_and); exact rfl)
        | ((with_reducible refine Z.rngN.mk ?_); (try subst hlb))
        | ((with_reducible refine Z.CallZ.yl ?_); refine Z.yield_rule tabOk _ _ rfl rfl rfl rfl ?_)
        | ((with_reducible refine Z.CallZ.yl ?_); subst hlb; refine Z.yield_rule tabOk _ _ rfl rfl rfl rfl ?_)
        | ((with_reducible refine Z.RangeZ.red ?_); (refine Z.range_rule [(6, _), (11, _), (32, _)] rfl ⟨rfl, rfl, rfl, trivial⟩ rfl rfl ?_); intro lb hlb)
        | with_reducible first | refine Z.drawZ_rule tabOk mixOk ?_ | refine Z.apZ_mk (by kernel_rfl) ?_
        | ((with_reducible refine Z.ConZ.red ?_); (try subst hlb); (apply Z.conZ_all); (focus (repeat (first | exact Z.FK.nil | (apply Z.FK.keep; exact rfl)))); (focus rfl); (focus rfl); (focus (repeat (first | exact trivial | (refine ⟨(fun o ho => (by first | (cases ho; rfl) | (cases ho; exact Z.inL_map fun _ => rfl) | (cases ho; exact Z.inL_mapr fun _ => rfl) | exact Z.inL_gB ho fun _ => rfl)), ?_⟩)))))
        | ((refine ⟨rfl, ?_, rfl⟩); (focus (repeat (first | exact Z.DK.nil | apply Z.DK.cons))))
        | (focus (exact (rfl : Nat.ble _ _ = true))))
      all_goals (try (conv => whnf))
      all_goals try (show Nat.ble _ _ = true; rfl)
      all_goals try (exfalso; rename_i hz; cases hz; done)
      all_goals try (exfalso; (try simp only [LN] at *) <;> omega)
      all_goals first
        | ((refine Z.rndK ((i + 1, acc ++ [x])) (fun s => [0, 1, 2, 3, 4, 5, 6, s.idIn 2 0]) rfl rfl rfl rfl ?_ ?_ ?_ ?_); (focus (repeat' (first | exact trivial | exact Z.map_sub (Z.MapL.ren HM0 fun _ => rfl) rfl | exact Z.it_sub rfl | exact rfl | (rw [List.map_append (f := cK)]; exact rfl) | (rw [List.map_append (f := cK), List.map_append (f := cK)]; exact rfl) | (rw [List.map_append]; exact rfl) | apply And.intro))); (focus (repeat' (first | exact trivial | exact Z.map_sub (Z.MapL.ren HM0 fun _ => rfl) rfl | exact Z.it_sub rfl | ((refine Z.gB_sub' rfl ?_ (ren_map fun _ => rfl)); (rw [List.map_append (f := cK), List.map_append (f := cK)]; exact rfl)) | (intro b hb; cases hb; rfl) | (intro b hb; cases hb; subst hlb; rfl) | (intro b hb; cases hb; rw [List.map_append (f := cK)]; rfl) | (intro b hb; cases hb; rw [List.map_append]; rfl) | (intro b hb; cases hb; done) | exact Z.blk_sub rfl rfl (ren_map fun _ => rfl) | exact Z.blk_sub rfl rfl (Z.ren_app (ren_map fun _ => rfl) (ren_map fun _ => rfl)) | exact Z.blk_sub rfl (by first | (rw [List.map_append]; rfl) | (rw [List.map_set]; rfl) | simp only [List.map_append, List.map_cons, List.map_nil, List.map_set]) (ren_map fun _ => rfl) | exact Z.gB_sub rfl rfl (ren_map fun _ => rfl) | exact Z.gB_sub' rfl (by first | rfl | (rw [List.map_append]; rfl) | simp only [List.map_append, List.map_cons, List.map_nil]) (ren_map fun _ => rfl) | apply And.intro))); (focus (exact ⟨by (try dsimp only); omega, hpa.symm⟩)); ((try dsimp only); omega))
        | (exfalso; rename_i hz; cases hz; done)
        | (exfalso; (try simp only [LN] at *) <;> omega)
        | (fail)
  have hil : i = l.length := by omega
  subst hil
  rw [List.take_length] at HA
  subst HA
  have hg : gB 4 70 ((partL l a w).map cK) = some ⟨(partL l a w).map cK, 4, 70, false⟩ := gB_ne (by simpa using hne)
  rw [hg]
  repeat' ((conv => whnf); first
    | with_reducible first | refine spB_t ?_
    | ((with_reducible apply spB_cong); (focus (simp only [beq_self_eq_true, bne_self_eq_false, Bool.true_bne, Bool.false_bne, Bool.bne_true, Bool.bne_false, Bool.true_beq, Bool.false_beq, Bool.not_true, Bool.not_false, Bool.not_not, Int.reduceBEq, Int.reduceBNe, Int.reduceLE, Int.reduceLT, Int.reduceEq, decide_true, decide_false]; rfl)))
    | with_reducible first | refine spB_yes (by decide) ?_ | refine spB_no (by decide) ?_ | refine spB_f ?_ | refine spB_not ?_ | refine spB_yes (by assumption) ?_ | refine spB_no (by assumption) ?_
    | (with_reducible refine spB_dec ?_ ?_ <;> intro _ <;> (try (exfalso; first | contradiction | omega | (rename_i hz; refine hz ?_; simp; done) | (rename_i hz; simp at hz; done) | (simp only [LN] at *; omega))))
    | (with_reducible refine spB_beq ?_ ?_ <;> intro _ <;> (try (exfalso; first | contradiction | omega | (rename_i hz; refine hz ?_; simp; done) | (rename_i hz; simp at hz; done) | (simp only [LN] at *; omega))))
    | (with_reducible refine spB_bne ?_ ?_ <;> intro _ <;> (try (exfalso; first | contradiction | omega | (rename_i hz; refine hz ?_; simp; done) | (rename_i hz; simp at hz; done) | (simp only [LN] at *; omega))))
    | (with_reducible refine spB_mk ?_ ?_ <;> intro _ <;> (try (exfalso; first | contradiction | omega | (rename_i hz; refine hz ?_; simp; done) | (rename_i hz; simp at hz; done) | (simp only [LN] at *; omega))))
    | ((with_reducible refine posE_pos ?_ ?_); (focus ((try simp only [LN] at *) <;> omega)))
    | ((with_reducible refine posE_nil ?_ ?_); (focus rfl))
    | ((with_reducible apply rowN_mk); (focus rfl))
    | ((with_reducible apply ixN_lit); (focus (exact rfl)); (focus (exact rfl)))
    | ((with_reducible apply ixN_litp); (focus (exact rfl)); (focus ((try simp only [LN] at *) <;> omega)))
    | ((with_reducible refine eqN_mk2 ?_ ?_); (focus rfl))
    | ((with_reducible refine apdE_r ?_); (with_reducible refine aprN.mk ⟨_, rfl, ?_⟩ ?_ ?_ ?_ ?_); (focus ((try simp only [LN] at *) <;> omega)); (focus (first | rfl | (simp; done) | ((try simp only [LN] at *) <;> omega))); (focus (first | exact one_all (by rfl) | exact one_map (fun _ => rfl) | exact one_map2 (fun _ => rfl) | exact one_drop (fun _ => rfl))); (focus ((try simp only [LN] at *) <;> omega)))
    | ((with_reducible refine apdE_k ?_); (with_reducible refine apkN.mk ⟨_, rfl, ?_⟩ ?_); (focus ((try simp only [LN] at *) <;> omega)))
    | with_reducible first | refine apdE_n ?_
    | ((with_reducible refine apdN.mk ?_ ?_ ?_ ?_ ?_ ?_); (focus (first | rfl | (simp; done))); (focus (first | exact one_all (by rfl) | exact one_map (fun _ => rfl) | exact one_map2 (fun _ => rfl))); (focus ((try simp only [LN] at *) <;> omega)); (focus ((try simp only [LN] at *) <;> omega)); (focus ((try simp only [LN] at *) <;> omega)))
    | with_reducible refine wr_i64 (by first | omega | (simp only [LN] at *; omega)) ?_
    | with_reducible refine wr_u64 (by omega) ?_
    | with_reducible refine wr_u8 (by omega) ?_
    | with_reducible refine wr_u32 (by omega) ?_
    | with_reducible first | refine wr_mk _ rfl ?_
    | ((with_reducible refine ixN_nat ?_ ?_); (focus ((try simp only [LN] at *) <;> omega)))
    | ((with_reducible refine rowN_map ?_ ?_); (focus ((try simp only [LN] at *) <;> omega)); intro x hx)
    | ((with_reducible refine posE_nil (by rfl) ?_))
    | ((with_reducible refine posE_pos (by decide) ?_))
    | with_reducible refine eqN_dec (by omega) ?_
    | with_reducible first | refine apN_mk (by kernel_rfl) ?_ | refine Z.callZ_in tabOk 26 Try.f118 _ Try.func118 (by kernel_rfl) rfl rfl rfl ?_ | refine Z.callZ_in tabOk 8 Try.f69 _ Try.func69 (by kernel_rfl) rfl rfl rfl ?_ | refine Z.callZ_in tabOk 8 Try.f109 _ Try.func109 (by kernel_rfl) rfl rfl rfl ?_
    | ((with_reducible refine eqN_mk2 ?_ ?_); (focus (exact Z.kb_some rfl)))
    | ((with_reducible apply ex_and); exact rfl)
    | ((with_reducible refine Z.rngN.mk ?_); (try subst hlb))
    | ((with_reducible refine Z.CallZ.yl ?_); refine Z.yield_rule tabOk _ _ rfl rfl rfl rfl ?_)
    | ((with_reducible refine Z.CallZ.yl ?_); subst hlb; refine Z.yield_rule tabOk _ _ rfl rfl rfl rfl ?_)
    | ((with_reducible refine Z.RangeZ.red ?_); (refine Z.range_rule [(6, _), (11, _), (32, _)] rfl ⟨rfl, rfl, rfl, trivial⟩ rfl rfl ?_); intro lb hlb)
    | with_reducible first | refine Z.drawZ_rule tabOk mixOk ?_ | refine Z.apZ_mk (by kernel_rfl) ?_
    | ((with_reducible refine Z.ConZ.red ?_); (try subst hlb); (apply Z.conZ_all); (focus (repeat (first | exact Z.FK.nil | (apply Z.FK.keep; exact rfl)))); (focus rfl); (focus rfl); (focus (repeat (first | exact trivial | (refine ⟨(fun o ho => (by first | (cases ho; rfl) | (cases ho; exact Z.inL_map fun _ => rfl) | (cases ho; exact Z.inL_mapr fun _ => rfl) | exact Z.inL_gB ho fun _ => rfl)), ?_⟩)))))
    | ((refine ⟨rfl, ?_, rfl⟩); (focus (repeat (first | exact Z.DK.nil | apply Z.DK.cons))))
    | (focus (exact (rfl : Nat.ble _ _ = true))))
  all_goals (try (conv => whnf))
  all_goals try (show Nat.ble _ _ = true; rfl)
  all_goals try (exfalso; rename_i hz; cases hz; done)
  all_goals try (exfalso; (try simp only [LN] at *) <;> omega)
  all_goals first
    | (refine ret1b 7 (.tup [.agg [.gsl 0 ((partL l a w).map cK)], .one (.v (.int .i64 0))]) ((partL l a w).map cK) 4 70 false _ rfl rfl rfl rfl (ren_map fun _ => rfl) rfl (own_map fun _ => rfl) ⟨rfl, rfl, rfl⟩)
    | (exfalso; rename_i hz; cases hz; done)
    | (exfalso; (try simp only [LN] at *) <;> omega)
    | (fail)
theorem part_own (l : List Kc) (a w : Int) (hl : l.length ≤ 1000) (ht : tabR l = true) (hs : okS a w) (hne : partL l a w ≠ []) : Con Try.prog 87 [.agg [.ro false 4 (l.map eK)], .one (.v (.int .i64 a)), .one (.v (.int .i64 w))] (ownP (partL l a w) 0) := own_gsl (List.length_pos_iff.2 hne) (part_g l a w hl ht hs hne)
end Tab
end Go.Proofs.Ytopieffkpdlpbaa
namespace Go.Proofs.Ytopieffkpdlpbaa
open Go Go.RowKit Wx
set_option linter.unusedVariables false
set_option linter.unusedSimpArgs false
set_option maxHeartbeats 4000000
namespace Tab
theorem sort_rule {m i n top : Nat} {c : Option Nat} {R : List (List Ce)} {bx : Bool} {K : Z.Kr} {k : AV → Z.Kr → Nat → Prop} (zs : List Kc) (hb : Z.kz K i = some (Z.Ob.b ⟨R, 4, 70, bx⟩)) (hr : R = zs.map cK) (hn : n = zs.length) (hl : zs.length ≤ 4000)
    (hkk : ∀ zs' : List Kc, zs'.Perm zs → zs'.Pairwise (fun x y => ltOf cfK y x = false) → k (.tup []) ((i, some (Z.Ob.b ⟨zs'.map cK, 4, 70, bx⟩)) :: K) top) : Z.CallZ Try.prog m (.fn 104 []) [.c (.osl i 0 n c), .c (.fn 105 [])] K top k := by
  refine Z.callZ_sortK (enc := ev) (kk := 4) (b := ⟨R, 4, 70, bx⟩) (by kernel_rfl) cK (ltOf cfK) zs [] (fun _ => rfl) (fun _ => rfl) hb rfl (by rw [hr, List.append_nil]) hn ?_ ?_
  · intro blk cap w hH hblk
    exact AnyQ.slices_SortFunc (ρ := Try.sortK_ren) Try.sortK 4 (fun _ => by kernel_rfl) (fun _ => by kernel_rfl) ev (fun _ => rfl) (fun x v hv => by
      simp only [List.mem_cons, List.not_mem_nil, or_false] at hv
      rcases hv with rfl | rfl | rfl | rfl <;> rfl) cfK cfK_swo 105 #[] blk 0 cap zs.toArray w (Go.Proofs.enters_of Try.func105 (by kernel_rfl) rfl) (Z.con_cmp fun x y => cmpk_con x y) hH hblk (by simp; omega)
  · intro zs' h1 h2
    rw [List.append_nil]
    exact hkk zs' h1 h2
end Tab
end Go.Proofs.Ytopieffkpdlpbaa
namespace Go.Proofs.Ytopieffkpdlpbaa
open Go Go.RowKit Wx
set_option linter.unusedVariables false
set_option linter.unusedSimpArgs false
set_option maxHeartbeats 4000000
namespace Tab
theorem concat_own (a b : List Kc) (ha : a.length ≤ 1000) (hb : b.length ≤ 1000) (h0 : 0 < a.length + b.length) : Con Try.prog 103 [.one (.ro false 1 [[RT.ro 4 (a.map eK)], [RT.ro 4 (b.map eK)]])] (fun rx rK rt => rx = .c (.osl 0 0 (a ++ b).length none) ∧ rK = [(0, some ⟨(a ++ b).map cK, 4, 70, false⟩)] ∧ rt = 1) := by
  refine Z.con_ofZ tabOk 36 Try.f103 _ Try.func103 (by kernel_rfl) rfl rfl rfl rfl ?_
  have hA : List.take (0 + (a.map eK).length) ((a.map eK).map (List.map (RT.ce false))) ++ (b.map eK).map (List.map (RT.ce false)) = (a ++ b).map cK := by rw [Nat.zero_add, List.take_of_length_le (by simp), List.map_append, List.map_map, List.map_map]; rfl
  repeat' ((conv => whnf); first
    | with_reducible first | refine spB_t ?_
    | ((with_reducible apply spB_cong); (focus (simp only [beq_self_eq_true, bne_self_eq_false, Bool.true_bne, Bool.false_bne, Bool.bne_true, Bool.bne_false, Bool.true_beq, Bool.false_beq, Bool.not_true, Bool.not_false, Bool.not_not, Int.reduceBEq, Int.reduceBNe, Int.reduceLE, Int.reduceLT, Int.reduceEq, decide_true, decide_false]; rfl)))
    | with_reducible first | refine spB_yes (by decide) ?_ | refine spB_no (by decide) ?_ | refine spB_f ?_ | refine spB_not ?_ | refine spB_yes (by assumption) ?_ | refine spB_no (by assumption) ?_
    | (with_reducible refine spB_dec ?_ ?_ <;> intro _ <;> (try (exfalso; first | contradiction | omega | (simp only [LN] at *; omega))))
    | (with_reducible refine spB_beq ?_ ?_ <;> intro _ <;> (try (exfalso; first | contradiction | omega | (simp only [LN] at *; omega))))
    | (with_reducible refine spB_bne ?_ ?_ <;> intro _ <;> (try (exfalso; first | contradiction | omega | (simp only [LN] at *; omega))))
    | (with_reducible refine spB_mk ?_ ?_ <;> intro _ <;> (try (exfalso; first | contradiction | omega | (simp only [LN] at *; omega))))
    | with_reducible first | refine Z.loopZ_unroll tabOk 3 ?_
    | ((with_reducible refine slN_hi 0 ?_ ?_ ?_); (focus rfl); (focus (exact Nat.zero_le _)))
    | ((with_reducible refine apz0N_mk (a.length + b.length) ?_ ?_ ?_ ?_ ?_); (iterate 4 (focus ((try simp only [LN] at *) <;> omega))))
    | ((with_reducible refine apz0N_mk _ ?_ ?_ ?_ ?_ ?_); (focus (first | rfl | exact (Int.toNat_of_nonneg (by omega)).symm)); (focus ((try simp only [LN] at *) <;> omega)); (focus ((try simp only [LN] at *) <;> omega)); (focus ((try simp only [LN] at *) <;> omega)))
    | ((with_reducible refine posE_pos ?_ ?_); (focus ((try simp only [LN] at *) <;> omega)))
    | ((with_reducible refine posE_nil ?_ ?_); (focus rfl))
    | ((with_reducible apply rowN_mk); (focus rfl))
    | ((with_reducible apply ixN_lit); (focus (exact rfl)); (focus (exact rfl)))
    | ((with_reducible apply ixN_litp); (focus (exact rfl)); (focus ((try simp only [LN] at *) <;> omega)))
    | ((with_reducible refine eqN_mk2 ?_ ?_); (focus rfl))
    | ((with_reducible refine posN_mk2 ?_ ?_); (focus (first | decide | ((try simp only [LN] at *) <;> omega))))
    | ((with_reducible refine apdE_r ?_); (with_reducible refine aprN.mk ⟨_, rfl, ?_⟩ ?_ ?_ ?_ ?_); (focus ((try simp only [LN] at *) <;> omega)); (focus (first | rfl | (simp; done) | ((try simp only [LN] at *) <;> omega))); (focus (first | exact one_all (by rfl) | exact one_map (fun _ => rfl) | exact one_map2 (fun _ => rfl) | exact one_drop (fun _ => rfl))); (focus ((try simp only [LN] at *) <;> omega)))
    | ((with_reducible refine apdE_k ?_); (with_reducible refine apkN.mk ⟨_, rfl, ?_⟩ ?_); (focus ((try simp only [LN] at *) <;> omega)))
    | with_reducible first | refine apdE_n ?_
    | ((with_reducible refine slE_a ?_ ?_); (focus ((try simp only [LN] at *) <;> omega)))
    | ((with_reducible refine slE_b ?_ ?_); (focus ((try simp only [LN] at *) <;> omega)))
    | ((with_reducible refine slE_split ?_ ?_ ?_); (focus ((try simp only [LN] at *) <;> omega)); (all_goals intro _))
    | ((with_reducible refine apdN.mk ?_ ?_ ?_ ?_ ?_ ?_); (focus (first | rfl | (simp; done))); (focus (first | exact one_all (by rfl) | exact one_map (fun _ => rfl) | exact one_map2 (fun _ => rfl))); (focus ((try simp only [LN] at *) <;> omega)); (focus ((try simp only [LN] at *) <;> omega)); (focus ((try simp only [LN] at *) <;> omega)))
    | with_reducible refine wr_i64 (by first | omega | (simp only [LN] at *; omega)) ?_
    | with_reducible refine wr_u64 (by omega) ?_
    | with_reducible refine wr_u8 (by omega) ?_
    | with_reducible refine wr_u32 (by omega) ?_
    | with_reducible first | refine wr_mk _ rfl ?_
    | ((with_reducible refine ixN_nat ?_ ?_); (focus ((try simp only [LN] at *) <;> omega)))
    | ((with_reducible refine rowN_map ?_ ?_); (focus ((try simp only [LN] at *) <;> omega)); intro x hx)
    | ((with_reducible refine posE_nil (by rfl) ?_))
    | ((with_reducible refine posE_pos (by decide) ?_))
    | with_reducible refine eqN_dec (by omega) ?_
    | with_reducible first | refine apN_mk (by kernel_rfl) ?_ | refine Z.callZ_in tabOk 27 Try.f113 _ Try.func113 (by kernel_rfl) rfl rfl rfl ?_
    | ((with_reducible refine eqN_mk2 ?_ ?_); (focus (exact Z.kb_some rfl)))
    | ((with_reducible apply ex_and); exact rfl))
  all_goals (try (conv => whnf))
  all_goals try (show Nat.ble _ _ = true; rfl)
  all_goals try (exfalso; rename_i hz; cases hz; done)
  all_goals try (exfalso; (try simp only [LN] at *) <;> omega)
  all_goals (refine ret1b 2 (.c (.osl 0 0 (a ++ b).length none)) ((a ++ b).map cK) 4 70 false _ rfl ?_ (by rfl) ?_ (ren_map fun _ => rfl) rfl (own_map fun _ => rfl) ⟨rfl, rfl, rfl⟩)
  · exact congrArg (fun n => AV.c (Ce.osl 2 0 n none)) (by simp)
  · first | exact hA | (simp [List.take_of_length_le, Function.comp_def]; done)
end Tab
end Go.Proofs.Ytopieffkpdlpbaa
namespace Go.Proofs.Ytopieffkpdlpbaa
open Go Go.RowKit Wx
set_option linter.unusedVariables false
set_option linter.unusedSimpArgs false
set_option maxHeartbeats 4000000
namespace Tab
theorem con_quiet {P : Program} {g : FuncId} {u v : Value} (hfn : fnB P g = true) (h : ∀ w, Calls P g #[u] w fun e w' => e = .returned v ∧ w' = w) : Con P g [.one (.v u)] (fun rx rK rt => rx = .val v ∧ rK = [] ∧ rt = 0) := by
  refine ⟨hfn, fun w vs hvs => ?_⟩
  cases vs with
  | nil => exact hvs.elim
  | cons x vs => cases vs with
    | cons _ _ => exact hvs.2.elim
    | nil =>
      have hx : x = u := hvs.1
      subst hx
      refine Calls.mono (h w) ?_
      rintro e w' ⟨rfl, rfl⟩
      exact ⟨v, .val v, [], 0, fun _ => none, fun _ _ => none, rfl, ⟨fun i b h => by simp [kg] at h, fun i j bi bj p q h => by simp [kg] at h, fun i b p h => by simp [kg] at h, (fun _ _ _ _ hu => nomatch hu), fun i b p f o h => by simp [kg] at h, (fun _ _ _ hu => nomatch hu), (fun _ _ _ hu => nomatch hu), .refl _, (fun _ _ _ _ hu => nomatch hu), fun _ h => h.elim⟩, fun _ _ => rfl, (fun p hp => nomatch hp), rfl, rfl, rfl, rfl⟩
theorem len0_con : Con Try.prog 115 [.one (.v (.int .u64 0))] (fun rx rK rt => rx = .val (.int .i64 0) ∧ rK = [] ∧ rt = 0) := con_quiet (by kernel_rfl) fun w => Any.bits_Len (SlLaysF0.n15.bits (P := Try.prog) (ρ := Try.sortK_ren) { Try.sortK with }) 0 w (by decide) (by decide)
theorem pdq0_con : Con Try.prog 114 [.one (.v (.slice none 0 0)), .one (.v (.int .i64 0)), .one (.v (.int .i64 0)), .one (.v (.int .i64 0)), .one (.fn 105 [])] (fun rx rK rt => rx = .tup [] ∧ rK = [] ∧ rt = 0) := Y.con_eval ftabOk tabOk mixOk 60 12 (by kernel_rfl) (by rfl) (by kernel_rfl)
theorem sortnil_con   : Con Try.prog 104 [.one (.v (.slice none 0 0)), .one (.fn 105 [])] (fun rx rK rt => rx = .tup [] ∧ rK = [] ∧ rt = 0) := by
  refine Z.con_ofF tabOk 14 Try.f104 _ Try.func104 (by kernel_rfl) rfl rfl rfl rfl ?_
  repeat' ((conv => whnf); first
    | with_reducible first | refine spB_t ?_
    | ((with_reducible apply spB_cong); (focus (simp only [beq_self_eq_true, bne_self_eq_false, Bool.true_bne, Bool.false_bne, Bool.bne_true, Bool.bne_false, Bool.true_beq, Bool.false_beq, Bool.not_true, Bool.not_false, Bool.not_not, Int.reduceBEq, Int.reduceBNe, Int.reduceLE, Int.reduceLT, Int.reduceEq, decide_true, decide_false]; rfl)))
    | with_reducible first | refine spB_yes (by decide) ?_ | refine spB_no (by decide) ?_ | refine spB_f ?_ | refine spB_not ?_ | refine spB_yes (by assumption) ?_ | refine spB_no (by assumption) ?_
    | (with_reducible refine spB_dec ?_ ?_ <;> intro _ <;> (try (exfalso; first | contradiction | omega | (rename_i hz; refine hz ?_; simp; done) | (rename_i hz; simp at hz; done) | (simp only [LN] at *; omega))))
    | (with_reducible refine spB_beq ?_ ?_ <;> intro _ <;> (try (exfalso; first | contradiction | omega | (rename_i hz; refine hz ?_; simp; done) | (rename_i hz; simp at hz; done) | (simp only [LN] at *; omega))))
    | (with_reducible refine spB_bne ?_ ?_ <;> intro _ <;> (try (exfalso; first | contradiction | omega | (rename_i hz; refine hz ?_; simp; done) | (rename_i hz; simp at hz; done) | (simp only [LN] at *; omega))))
    | (with_reducible refine spB_mk ?_ ?_ <;> intro _ <;> (try (exfalso; first | contradiction | omega | (rename_i hz; refine hz ?_; simp; done) | (rename_i hz; simp at hz; done) | (simp only [LN] at *; omega))))
    | ((with_reducible apply rowN_mk); (focus rfl))
    | ((with_reducible apply ixN_lit); (focus (exact rfl)); (focus (exact rfl)))
    | ((with_reducible apply ixN_litp); (focus (exact rfl)); (focus ((try simp only [LN] at *) <;> omega)))
    | ((with_reducible refine eqN_mk2 ?_ ?_); (focus rfl))
    | with_reducible refine wr_i64 (by first | omega | (simp only [LN] at *; omega)) ?_
    | with_reducible refine wr_u64 (by omega) ?_
    | with_reducible refine wr_u8 (by omega) ?_
    | with_reducible refine wr_u32 (by omega) ?_
    | with_reducible first | refine wr_mk _ rfl ?_
    | ((with_reducible refine ixN_nat ?_ ?_); (focus ((try simp only [LN] at *) <;> omega)))
    | ((with_reducible refine rowN_map ?_ ?_); (focus ((try simp only [LN] at *) <;> omega)); intro x hx)
    | with_reducible refine eqN_dec (by omega) ?_
    | with_reducible first | refine apN_mk (by kernel_rfl) ?_
    | ((first | (with_reducible refine Z.conZ_mz ?_ (pdq0_con) ?_) | (with_reducible refine Z.callZ_mk ?_ (pdq0_con) ?_) | (with_reducible refine Z.conZ_mz ?_ (len0_con) ?_) | (with_reducible refine Z.callZ_mk ?_ (len0_con) ?_)); (focus ((repeat' (first | exact trivial | exact ⟨_, rfl, rfl, rfl⟩ | (refine Z.low_osln ?_ (fun _ => rfl); (first | exact hzl | exact hzl.symm)) | exact rfl | exact Z.low_nil | exact Z.low_nil2 | exact low_osl (fun _ => rfl) | (refine Z.low_osln ?_ (fun _ => rfl); (simp only [List.length_map]; done)) | exact low_oslr (fun _ => rfl) | exact Z.low_gslm (by first | rfl | exact Z.kb_some rfl) (fun _ => rfl) | exact .inl rfl | exact .inr ⟨_, rfl⟩ | apply And.intro)); done)))
    | ((with_reducible refine eqN_mk2 ?_ ?_); (focus (exact Z.kb_some rfl)))
    | ((with_reducible apply ex_and); exact rfl))
  all_goals (try (conv => whnf))
  all_goals try (show Nat.ble _ _ = true; rfl)
  all_goals first
    | ((first | (with_reducible apply Z.retF1) | (with_reducible apply Z.retF2) | (with_reducible apply Z.retF0)); (focus (exact rfl)); (repeat' (first | exact trivial | (with_reducible apply Z.frz_one) | (with_reducible apply Z.frz_agg) | (with_reducible apply Z.fq_int) | (with_reducible apply Z.fq_bool) | (exact Z.frz_nil) | (exact Z.frz_osl0 rfl rfl rfl) | (with_reducible apply Z.fq_nil) | (with_reducible apply Z.fq_ro) | ((with_reducible apply Z.fq_gsl); (focus (first | rfl | exact Z.isB_map _ | exact Z.gB_snoc.symm)); (focus (exact fun _ => rfl))) | ((with_reducible apply Z.fq_osl); (focus (exact rfl)); (focus (first | exact rfl | (simp only [List.length_map, Nat.zero_add]; done) | ((try simp only [LN] at *) <;> omega))); (focus (exact fun _ => rfl))) | ((with_reducible apply Z.fq_src); (focus (exact rfl)); (focus (first | exact rfl | (simp only [List.length_map, Nat.zero_add]; done) | ((try simp only [LN] at *) <;> omega))); (focus (exact fun _ => rfl))) | exact rfl | ((apply Z.fq_osl); (focus (exact rfl)); (focus (first | exact rfl | (simp only [List.length_map, Nat.zero_add]; done) | ((try simp only [LN] at *) <;> omega))); (focus (exact fun _ => rfl))) | ((apply Z.fq_src); (focus (exact rfl)); (focus (first | exact rfl | (simp only [List.length_map, Nat.zero_add]; done) | ((try simp only [LN] at *) <;> omega))); (focus (exact fun _ => rfl))) | (apply Z.fq_ro) | (apply Z.fq_int) | (apply Z.fq_bool) | apply And.intro)); (all_goals (try exact (fun _ => none))); all_goals (first | rfl | (simp; done)))
    | (exfalso; rename_i hz; cases hz; done)
    | (exfalso; (try simp only [LN] at *) <;> omega)
    | (fail)
theorem concat_nil   : Con Try.prog 103 [.one (.ro false 1 [[RT.ro 4 (([] : List Kc).map eK)], [RT.ro 4 (([] : List Kc).map eK)]])] (fun rx rK rt => rx = .val (.slice none 0 0) ∧ rK = [] ∧ rt = 0) := by
  refine Z.con_ofZ tabOk 36 Try.f103 _ Try.func103 (by kernel_rfl) rfl rfl rfl rfl ?_
  repeat' ((conv => whnf); first
    | with_reducible first | refine spB_t ?_
    | ((with_reducible apply spB_cong); (focus (simp only [beq_self_eq_true, bne_self_eq_false, Bool.true_bne, Bool.false_bne, Bool.bne_true, Bool.bne_false, Bool.true_beq, Bool.false_beq, Bool.not_true, Bool.not_false, Bool.not_not, Int.reduceBEq, Int.reduceBNe, Int.reduceLE, Int.reduceLT, Int.reduceEq, decide_true, decide_false]; rfl)))
    | with_reducible first | refine spB_yes (by decide) ?_ | refine spB_no (by decide) ?_ | refine spB_f ?_ | refine spB_not ?_ | refine spB_yes (by assumption) ?_ | refine spB_no (by assumption) ?_
    | (with_reducible refine spB_dec ?_ ?_ <;> intro _ <;> (try (exfalso; first | contradiction | omega | (rename_i hz; refine hz ?_; simp; done) | (rename_i hz; simp at hz; done) | (simp only [LN] at *; omega))))
    | (with_reducible refine spB_beq ?_ ?_ <;> intro _ <;> (try (exfalso; first | contradiction | omega | (rename_i hz; refine hz ?_; simp; done) | (rename_i hz; simp at hz; done) | (simp only [LN] at *; omega))))
    | (with_reducible refine spB_bne ?_ ?_ <;> intro _ <;> (try (exfalso; first | contradiction | omega | (rename_i hz; refine hz ?_; simp; done) | (rename_i hz; simp at hz; done) | (simp only [LN] at *; omega))))
    | (with_reducible refine spB_mk ?_ ?_ <;> intro _ <;> (try (exfalso; first | contradiction | omega | (rename_i hz; refine hz ?_; simp; done) | (rename_i hz; simp at hz; done) | (simp only [LN] at *; omega))))
    | with_reducible first | refine Z.loopZ_unroll tabOk 3 ?_
    | ((with_reducible refine apz0N_mk _ ?_ ?_ ?_ ?_ ?_); (focus (first | rfl | exact (Int.toNat_of_nonneg (by omega)).symm)); (focus ((try simp only [LN] at *) <;> omega)); (focus ((try simp only [LN] at *) <;> omega)); (focus ((try simp only [LN] at *) <;> omega)))
    | ((with_reducible refine posE_pos ?_ ?_); (focus ((try simp only [LN] at *) <;> omega)))
    | ((with_reducible refine posE_nil ?_ ?_); (focus rfl))
    | ((with_reducible apply rowN_mk); (focus rfl))
    | ((with_reducible apply ixN_lit); (focus (exact rfl)); (focus (exact rfl)))
    | ((with_reducible apply ixN_litp); (focus (exact rfl)); (focus ((try simp only [LN] at *) <;> omega)))
    | ((with_reducible refine eqN_mk2 ?_ ?_); (focus rfl))
    | ((with_reducible refine posN_mk2 ?_ ?_); (focus (first | decide | ((try simp only [LN] at *) <;> omega))))
    | ((with_reducible refine apdE_r ?_); (with_reducible refine aprN.mk ⟨_, rfl, ?_⟩ ?_ ?_ ?_ ?_); (focus ((try simp only [LN] at *) <;> omega)); (focus (first | rfl | (simp; done) | ((try simp only [LN] at *) <;> omega))); (focus (first | exact one_all (by rfl) | exact one_map (fun _ => rfl) | exact one_map2 (fun _ => rfl) | exact one_drop (fun _ => rfl))); (focus ((try simp only [LN] at *) <;> omega)))
    | ((with_reducible refine apdE_k ?_); (with_reducible refine apkN.mk ⟨_, rfl, ?_⟩ ?_); (focus ((try simp only [LN] at *) <;> omega)))
    | with_reducible first | refine apdE_n ?_
    | ((with_reducible refine slE_a ?_ ?_); (focus ((try simp only [LN] at *) <;> omega)))
    | ((with_reducible refine slE_b ?_ ?_); (focus ((try simp only [LN] at *) <;> omega)))
    | ((with_reducible refine slE_split ?_ ?_ ?_); (focus ((try simp only [LN] at *) <;> omega)); (all_goals intro _))
    | ((with_reducible refine apdN.mk ?_ ?_ ?_ ?_ ?_ ?_); (focus (first | rfl | (simp; done))); (focus (first | exact one_all (by rfl) | exact one_map (fun _ => rfl) | exact one_map2 (fun _ => rfl))); (focus ((try simp only [LN] at *) <;> omega)); (focus ((try simp only [LN] at *) <;> omega)); (focus ((try simp only [LN] at *) <;> omega)))
    | with_reducible refine wr_i64 (by first | omega | (simp only [LN] at *; omega)) ?_
    | with_reducible refine wr_u64 (by omega) ?_
    | with_reducible refine wr_u8 (by omega) ?_
    | with_reducible refine wr_u32 (by omega) ?_
    | with_reducible first | refine wr_mk _ rfl ?_
    | ((with_reducible refine ixN_nat ?_ ?_); (focus ((try simp only [LN] at *) <;> omega)))
    | ((with_reducible refine rowN_map ?_ ?_); (focus ((try simp only [LN] at *) <;> omega)); intro x hx)
    | ((with_reducible refine posE_nil (by rfl) ?_))
    | ((with_reducible refine posE_pos (by decide) ?_))
    | with_reducible refine eqN_dec (by omega) ?_
    | with_reducible first | refine apN_mk (by kernel_rfl) ?_ | refine Z.callZ_in tabOk 27 Try.f113 _ Try.func113 (by kernel_rfl) rfl rfl rfl ?_
    | ((with_reducible refine eqN_mk2 ?_ ?_); (focus (exact Z.kb_some rfl)))
    | ((with_reducible apply ex_and); exact rfl))
  all_goals (try (conv => whnf))
  all_goals try (show Nat.ble _ _ = true; rfl)
  all_goals try (exfalso; rename_i hz; cases hz; done)
  all_goals try (exfalso; (try simp only [LN] at *) <;> omega)
  all_goals first
  | (refine ret1 [.one (.v (.slice none 0 0))] rfl [] (.val (.slice none 0 0)) [] rfl trivial List.nodup_nil rfl ?_ (fun p hp => nomatch hp) ⟨rfl, rfl, rfl⟩; intro p b hp; cases hp; done)
  | (fail)
end Tab
end Go.Proofs.Ytopieffkpdlpbaa
namespace Go.Proofs.Ytopieffkpdlpbaa
open Go Go.RowKit Wx
set_option linter.unusedVariables false
set_option linter.unusedSimpArgs false
set_option maxHeartbeats 4000000
namespace Tab
theorem join_bad (a b : List Kc) (h : tabR a = false ∨ tabR b = false) (hla : a.length ≤ 1000) (hlb : b.length ≤ 1000) : Con Try.prog 79 [.agg [.ro false 4 (a.map eK)], .agg [.ro false 4 (b.map eK)]] (fun rx rK rt => rx = .tup [.agg [.ro true 4 (([] : List Kc).map eK)], .one (.v (.int .i64 220))] ∧ rK = [] ∧ rt = 0) := by
  refine Z.con_ofF tabOk 32 Try.f79 _ Try.func79 (by kernel_rfl) rfl rfl rfl rfl ?_
  have ca := check_con a (by omega)
  have cb := check_con b (by omega)
  cases ha : tabR a
  all_goals rw [ha] at ca
  all_goals simp only [cond_true, cond_false] at ca
  rotate_left
  · have hb : tabR b = false := by rcases h with h | h; (rw [ha] at h; cases h); exact h
    rw [hb] at cb
    simp only [cond_false] at cb
    repeat' ((conv => whnf); first
      | with_reducible first | refine spB_t ?_
      | ((with_reducible apply spB_cong); (focus (simp only [beq_self_eq_true, bne_self_eq_false, Bool.true_bne, Bool.false_bne, Bool.bne_true, Bool.bne_false, Bool.true_beq, Bool.false_beq, Bool.not_true, Bool.not_false, Bool.not_not, Int.reduceBEq, Int.reduceBNe, Int.reduceLE, Int.reduceLT, Int.reduceEq, decide_true, decide_false]; rfl)))
      | with_reducible first | refine spB_no (by decide) ?_
      | ((first | (with_reducible refine Z.callZ_mk ?_ (ca) ?_)); (focus ((repeat' (first | exact trivial | exact rfl | apply And.intro)); done)))
      | ((first | (with_reducible refine Z.callZ_mk ?_ (cb) ?_)); (focus ((repeat' (first | exact trivial | exact rfl | apply And.intro)); done)))
      | fail)
    all_goals (try (conv => whnf))
    all_goals try (show Nat.ble _ _ = true; rfl)
    all_goals try (exfalso; rename_i hz; cases hz; done)
    all_goals try (exfalso; (try simp only [LN] at *) <;> omega)
    all_goals first
      | ((first | (with_reducible apply Z.retF2)); (focus (exact rfl)); (repeat' (first | exact trivial | (with_reducible apply Z.frz_one) | (with_reducible apply Z.frz_agg) | (with_reducible apply Z.fq_int) | (exact Z.frz_nil) | exact rfl | apply And.intro)); (all_goals (try exact (fun _ => none))); all_goals (first | (simp; done)))
      | fail
  repeat' ((conv => whnf); first
    | with_reducible first | refine spB_t ?_
    | ((with_reducible apply spB_cong); (focus (simp only [beq_self_eq_true, bne_self_eq_false, Bool.true_bne, Bool.false_bne, Bool.bne_true, Bool.bne_false, Bool.true_beq, Bool.false_beq, Bool.not_true, Bool.not_false, Bool.not_not, Int.reduceBEq, Int.reduceBNe, Int.reduceLE, Int.reduceLT, Int.reduceEq, decide_true, decide_false]; rfl)))
    | ((first | (with_reducible refine Z.callZ_mk ?_ (ca) ?_)); (focus ((repeat' (first | exact trivial | exact rfl | apply And.intro)); done)))
    | fail)
  all_goals (try (conv => whnf))
  all_goals try (show Nat.ble _ _ = true; rfl)
  all_goals try (exfalso; rename_i hz; cases hz; done)
  all_goals try (exfalso; (try simp only [LN] at *) <;> omega)
  all_goals first
    | ((first | (with_reducible apply Z.retF2)); (focus (exact rfl)); (repeat' (first | exact trivial | (with_reducible apply Z.frz_one) | (with_reducible apply Z.frz_agg) | (with_reducible apply Z.fq_int) | (exact Z.frz_nil) | exact rfl | apply And.intro)); (all_goals (try exact (fun _ => none))); all_goals (first | (simp; done)))
    | fail
theorem join_nil   : Con Try.prog 79 [.agg [.ro false 4 (([] : List Kc).map eK)], .agg [.ro false 4 (([] : List Kc).map eK)]] (fun rx rK rt => rx = .tup [.agg [.ro true 4 (([] : List Kc).map eK)], .one (.v (.int .i64 0))] ∧ rK = [] ∧ rt = 0) := by
  refine Z.con_ofF tabOk 32 Try.f79 _ Try.func79 (by kernel_rfl) rfl rfl rfl rfl ?_
  have ca := check_con [] (by simp)
  have cat := concat_nil
  rw [show tabR [] = true from rfl] at ca
  simp only [cond_true] at ca
  repeat' ((conv => whnf); first
    | ((with_reducible apply spB_cong); (focus (simp only [beq_self_eq_true, bne_self_eq_false, Bool.true_bne, Bool.false_bne, Bool.bne_true, Bool.bne_false, Bool.true_beq, Bool.false_beq, Bool.not_true, Bool.not_false, Bool.not_not, Int.reduceBEq, Int.reduceBNe, Int.reduceLE, Int.reduceLT, Int.reduceEq, decide_true, decide_false]; rfl)))
    | with_reducible first | refine spB_no (by decide) ?_
    | ((first | (with_reducible refine Z.callZ_mk ?_ (ca) ?_) | (with_reducible refine Z.callZ_mk ?_ (cat) ?_) | (with_reducible refine Z.callZ_mk ?_ (sortnil_con) ?_)); (focus ((repeat' (first | exact trivial | exact ⟨_, rfl, rfl, rfl⟩ | exact rfl | exact Z.low_nil | exact .inl rfl | apply And.intro)); done)))
    | fail)
  all_goals (try (conv => whnf))
  all_goals try (show Nat.ble _ _ = true; rfl)
  all_goals try (exfalso; rename_i hz; cases hz; done)
  all_goals try (exfalso; (try simp only [LN] at *) <;> omega)
  all_goals first
    | ((first | (with_reducible apply Z.retF2)); (focus (exact rfl)); (repeat' (first | exact trivial | (with_reducible apply Z.frz_one) | (with_reducible apply Z.frz_agg) | (with_reducible apply Z.fq_int) | (exact Z.frz_nil) | exact rfl | apply And.intro)); (all_goals (try exact (fun _ => none))); all_goals (first | (simp; done)))
    | fail
end Tab
end Go.Proofs.Ytopieffkpdlpbaa
namespace Go.Proofs.Ytopieffkpdlpbaa
open Go Go.RowKit Wx
set_option linter.unusedVariables false
set_option linter.unusedSimpArgs false
set_option maxHeartbeats 4000000
namespace Tab
theorem join_both (a b : List Kc) (ha : tabR a = true) (hb : tabR b = true) (h0 : 0 < a.length + b.length) (hc : comm a b = true) : Con Try.prog 79 [.agg [.ro false 4 (a.map eK)], .agg [.ro false 4 (b.map eK)]] (fun rx rK rt => rx = .tup [.agg [.ro true 4 (([] : List Kc).map eK)], .one (.v (.int .i64 5))] ∧ rK = [] ∧ rt = 0) := by
  refine Z.con_ofF tabOk 32 Try.f79 _ Try.func79 (by kernel_rfl) rfl rfl rfl rfl ?_
  have hla := tab_len ha
  have hlb := tab_len hb
  have ca := check_con a (by omega)
  have cb := check_con b (by omega)
  rw [ha] at ca
  rw [hb] at cb
  simp only [cond_true] at ca cb
  have cat := concat_own a b (by omega) (by omega) h0
  repeat' ((conv => whnf); first
    | with_reducible first | refine spB_t ?_
    | ((with_reducible apply spB_cong); (focus (simp only [beq_self_eq_true, bne_self_eq_false, Bool.true_bne, Bool.false_bne, Bool.bne_true, Bool.bne_false, Bool.true_beq, Bool.false_beq, Bool.not_true, Bool.not_false, Bool.not_not, Int.reduceBEq, Int.reduceBNe, Int.reduceLE, Int.reduceLT, Int.reduceEq, decide_true, decide_false]; rfl)))
    | with_reducible first | refine spB_yes (by decide) ?_ | refine spB_no (by decide) ?_ | refine spB_f ?_ | refine spB_not ?_ | refine spB_yes (by assumption) ?_ | refine spB_no (by assumption) ?_
    | (with_reducible refine spB_dec ?_ ?_ <;> intro _ <;> (try (exfalso; first | contradiction | omega | (rename_i hz; refine hz ?_; simp; done) | (rename_i hz; simp at hz; done) | (simp only [LN] at *; omega))))
    | (with_reducible refine spB_beq ?_ ?_ <;> intro _ <;> (try (exfalso; first | contradiction | omega | (rename_i hz; refine hz ?_; simp; done) | (rename_i hz; simp at hz; done) | (simp only [LN] at *; omega))))
    | (with_reducible refine spB_bne ?_ ?_ <;> intro _ <;> (try (exfalso; first | contradiction | omega | (rename_i hz; refine hz ?_; simp; done) | (rename_i hz; simp at hz; done) | (simp only [LN] at *; omega))))
    | (with_reducible refine spB_mk ?_ ?_ <;> intro _ <;> (try (exfalso; first | contradiction | omega | (rename_i hz; refine hz ?_; simp; done) | (rename_i hz; simp at hz; done) | (simp only [LN] at *; omega))))
    | ((refine sort_rule (a ++ b) rfl ?_ ?_ ?_ ?_); (focus (first | rfl | exact ren_map fun _ => rfl)); (focus (first | rfl | (simp; done))); (focus ((try simp only [LN] at *) <;> omega)); (intro zs hzp hzs; have hzl : zs.length = (a ++ b).length := hzp.length_eq; obtain ⟨hj, hj2⟩ := sort_join ha hb hzp hzs; rw [hc] at hj; have cz := check_con zs (by rw [hzp.length_eq, List.length_append]; omega); rw [hj] at cz; simp only [Bool.not_true, Bool.not_false, cond_true, cond_false] at cz))
    | ((with_reducible apply rowN_mk); (focus rfl))
    | ((with_reducible apply ixN_lit); (focus (exact rfl)); (focus (exact rfl)))
    | ((with_reducible apply ixN_litp); (focus (exact rfl)); (focus ((try simp only [LN] at *) <;> omega)))
    | ((with_reducible refine eqN_mk2 ?_ ?_); (focus rfl))
    | with_reducible refine wr_i64 (by first | omega | (simp only [LN] at *; omega)) ?_
    | with_reducible refine wr_u64 (by omega) ?_
    | with_reducible refine wr_u8 (by omega) ?_
    | with_reducible refine wr_u32 (by omega) ?_
    | with_reducible first | refine wr_mk _ rfl ?_
    | ((with_reducible refine ixN_nat ?_ ?_); (focus ((try simp only [LN] at *) <;> omega)))
    | ((with_reducible refine rowN_map ?_ ?_); (focus ((try simp only [LN] at *) <;> omega)); intro x hx)
    | with_reducible refine eqN_dec (by omega) ?_
    | with_reducible first | refine apN_mk (by kernel_rfl) ?_ | refine Z.callZ_in tabOk 10 Try.f105 _ Try.func105 (by kernel_rfl) rfl rfl rfl ?_ | refine Z.callZ_in tabOk 8 Try.f69 _ Try.func69 (by kernel_rfl) rfl rfl rfl ?_ | refine Z.callZ_in tabOk 17 Try.f99 _ Try.func99 (by kernel_rfl) rfl rfl rfl ?_ | refine Z.callZ_in tabOk 18 Try.f107 _ Try.func107 (by kernel_rfl) rfl rfl rfl ?_ | refine Z.callZ_in tabOk 20 Try.f108 _ Try.func108 (by kernel_rfl) rfl rfl rfl ?_ | refine Z.callZ_in tabOk 6 Try.f117 _ Try.func117 (by kernel_rfl) rfl rfl rfl ?_
    | ((first | (with_reducible refine Z.conZ_mz ?_ (cat) ?_) | (with_reducible refine Z.callZ_mk ?_ (cat) ?_)); (focus ((repeat' (first | exact trivial | exact ⟨_, rfl, rfl, rfl⟩ | (refine Z.low_osln ?_ (fun _ => rfl); (first | exact hzl | exact hzl.symm)) | exact rfl | exact Z.low_nil | exact Z.low_nil2 | exact low_osl (fun _ => rfl) | (refine Z.low_osln ?_ (fun _ => rfl); (simp only [List.length_map]; done)) | exact low_oslr (fun _ => rfl) | exact Z.low_gslm (by first | rfl | exact Z.kb_some rfl) (fun _ => rfl) | exact .inl rfl | exact .inr ⟨_, rfl⟩ | apply And.intro)); done)))
    | ((first | (with_reducible refine Z.conZ_mz ?_ (ca) ?_) | (with_reducible refine Z.callZ_mk ?_ (ca) ?_)); (focus ((repeat' (first | exact trivial | exact ⟨_, rfl, rfl, rfl⟩ | (refine Z.low_osln ?_ (fun _ => rfl); (first | exact hzl | exact hzl.symm)) | exact rfl | exact Z.low_nil | exact Z.low_nil2 | exact low_osl (fun _ => rfl) | (refine Z.low_osln ?_ (fun _ => rfl); (simp only [List.length_map]; done)) | exact low_oslr (fun _ => rfl) | exact Z.low_gslm (by first | rfl | exact Z.kb_some rfl) (fun _ => rfl) | exact .inl rfl | exact .inr ⟨_, rfl⟩ | apply And.intro)); done)))
    | ((first | (with_reducible refine Z.conZ_mz ?_ (cb) ?_) | (with_reducible refine Z.callZ_mk ?_ (cb) ?_)); (focus ((repeat' (first | exact trivial | exact ⟨_, rfl, rfl, rfl⟩ | (refine Z.low_osln ?_ (fun _ => rfl); (first | exact hzl | exact hzl.symm)) | exact rfl | exact Z.low_nil | exact Z.low_nil2 | exact low_osl (fun _ => rfl) | (refine Z.low_osln ?_ (fun _ => rfl); (simp only [List.length_map]; done)) | exact low_oslr (fun _ => rfl) | exact Z.low_gslm (by first | rfl | exact Z.kb_some rfl) (fun _ => rfl) | exact .inl rfl | exact .inr ⟨_, rfl⟩ | apply And.intro)); done)))
    | ((first | (with_reducible refine Z.conZ_mz ?_ (cz) ?_) | (with_reducible refine Z.callZ_mk ?_ (cz) ?_)); (focus ((repeat' (first | exact trivial | exact ⟨_, rfl, rfl, rfl⟩ | (refine Z.low_osln ?_ (fun _ => rfl); (first | exact hzl | exact hzl.symm)) | exact rfl | exact Z.low_nil | exact Z.low_nil2 | exact low_osl (fun _ => rfl) | (refine Z.low_osln ?_ (fun _ => rfl); (simp only [List.length_map]; done)) | exact low_oslr (fun _ => rfl) | exact Z.low_gslm (by first | rfl | exact Z.kb_some rfl) (fun _ => rfl) | exact .inl rfl | exact .inr ⟨_, rfl⟩ | apply And.intro)); done)))
    | ((with_reducible refine eqN_mk2 ?_ ?_); (focus (exact Z.kb_some rfl)))
    | ((with_reducible apply ex_and); exact rfl)
    | with_reducible first | refine Z.drawZ_rule tabOk mixOk ?_ | refine Z.apZ_mk (by kernel_rfl) ?_
    | ((with_reducible refine Z.ConZ.red ?_); (try subst hlb); (apply Z.conZ_all); (focus (repeat (first | exact Z.FK.nil | (apply Z.FK.keep; exact rfl)))); (focus rfl); (focus rfl); (focus (repeat (first | exact trivial | (refine ⟨(fun o ho => (by first | (cases ho; rfl) | (cases ho; exact Z.inL_map fun _ => rfl) | (cases ho; exact Z.inL_mapr fun _ => rfl) | exact Z.inL_gB ho fun _ => rfl)), ?_⟩)))))
    | ((refine ⟨rfl, ?_, rfl⟩); (focus (repeat (first | exact Z.DK.nil | apply Z.DK.cons))))
    | (focus (exact (rfl : Nat.ble _ _ = true))))
  all_goals (try (conv => whnf))
  all_goals try (show Nat.ble _ _ = true; rfl)
  all_goals try (exfalso; rename_i hz; cases hz; done)
  all_goals try (exfalso; (try simp only [LN] at *) <;> omega)
  all_goals first
    | ((first | (with_reducible apply Z.retF1) | (with_reducible apply Z.retF2) | (with_reducible apply Z.retF0)); (focus (exact rfl)); (repeat' (first | exact trivial | (with_reducible apply Z.frz_one) | (with_reducible apply Z.frz_agg) | (with_reducible apply Z.fq_int) | (with_reducible apply Z.fq_bool) | (exact Z.frz_nil) | (exact Z.frz_osl0 rfl rfl rfl) | (with_reducible apply Z.fq_nil) | (with_reducible apply Z.fq_ro) | ((with_reducible apply Z.fq_gsl); (focus (first | rfl | exact Z.isB_map _ | exact Z.gB_snoc.symm)); (focus (exact fun _ => rfl))) | ((with_reducible apply Z.fq_osl); (focus (exact rfl)); (focus (first | exact rfl | (simp only [List.length_map, Nat.zero_add]; done) | ((try simp only [LN] at *) <;> omega))); (focus (exact fun _ => rfl))) | ((with_reducible apply Z.fq_src); (focus (exact rfl)); (focus (first | exact rfl | (simp only [List.length_map, Nat.zero_add]; done) | ((try simp only [LN] at *) <;> omega))); (focus (exact fun _ => rfl))) | exact rfl | ((apply Z.fq_osl); (focus (exact rfl)); (focus (first | exact rfl | (simp only [List.length_map, Nat.zero_add]; done) | ((try simp only [LN] at *) <;> omega))); (focus (exact fun _ => rfl))) | ((apply Z.fq_src); (focus (exact rfl)); (focus (first | exact rfl | (simp only [List.length_map, Nat.zero_add]; done) | ((try simp only [LN] at *) <;> omega))); (focus (exact fun _ => rfl))) | (apply Z.fq_ro) | (apply Z.fq_int) | (apply Z.fq_bool) | apply And.intro)); (all_goals (try exact (fun _ => none))); all_goals (first | rfl | (simp; done)))
    | (exfalso; rename_i hz; cases hz; done)
    | (exfalso; (try simp only [LN] at *) <;> omega)
    | (fail)
end Tab
end Go.Proofs.Ytopieffkpdlpbaa
namespace Go.Proofs.Ytopieffkpdlpbaa
open Go Go.RowKit Wx
set_option linter.unusedVariables false
set_option linter.unusedSimpArgs false
set_option maxHeartbeats 4000000
namespace Tab
theorem join_ok (a b : List Kc) (ha : tabR a = true) (hb : tabR b = true) (h0 : 0 < a.length + b.length) (hc : comm a b = false) : Con Try.prog 79 [.agg [.ro false 4 (a.map eK)], .agg [.ro false 4 (b.map eK)]] (fun rx rK rt => rx = .tup [.agg [.ro true 4 ((mrg a b : List Kc).map eK)], .one (.v (.int .i64 0))] ∧ rK = [] ∧ rt = 0) := by
  refine Z.con_ofF tabOk 32 Try.f79 _ Try.func79 (by kernel_rfl) rfl rfl rfl rfl ?_
  have hla := tab_len ha
  have hlb := tab_len hb
  have ca := check_con a (by omega)
  have cb := check_con b (by omega)
  rw [ha] at ca
  rw [hb] at cb
  simp only [cond_true] at ca cb
  have cat := concat_own a b (by omega) (by omega) h0
  repeat' ((conv => whnf); first
    | with_reducible first | refine spB_t ?_
    | ((with_reducible apply spB_cong); (focus (simp only [beq_self_eq_true, bne_self_eq_false, Bool.true_bne, Bool.false_bne, Bool.bne_true, Bool.bne_false, Bool.true_beq, Bool.false_beq, Bool.not_true, Bool.not_false, Bool.not_not, Int.reduceBEq, Int.reduceBNe, Int.reduceLE, Int.reduceLT, Int.reduceEq, decide_true, decide_false]; rfl)))
    | with_reducible first | refine spB_yes (by decide) ?_ | refine spB_no (by decide) ?_ | refine spB_f ?_ | refine spB_not ?_ | refine spB_yes (by assumption) ?_ | refine spB_no (by assumption) ?_
    | (with_reducible refine spB_dec ?_ ?_ <;> intro _ <;> (try (exfalso; first | contradiction | omega | (rename_i hz; refine hz ?_; simp; done) | (rename_i hz; simp at hz; done) | (simp only [LN] at *; omega))))
    | (with_reducible refine spB_beq ?_ ?_ <;> intro _ <;> (try (exfalso; first | contradiction | omega | (rename_i hz; refine hz ?_; simp; done) | (rename_i hz; simp at hz; done) | (simp only [LN] at *; omega))))
    | (with_reducible refine spB_bne ?_ ?_ <;> intro _ <;> (try (exfalso; first | contradiction | omega | (rename_i hz; refine hz ?_; simp; done) | (rename_i hz; simp at hz; done) | (simp only [LN] at *; omega))))
    | (with_reducible refine spB_mk ?_ ?_ <;> intro _ <;> (try (exfalso; first | contradiction | omega | (rename_i hz; refine hz ?_; simp; done) | (rename_i hz; simp at hz; done) | (simp only [LN] at *; omega))))
    | ((refine sort_rule (a ++ b) rfl ?_ ?_ ?_ ?_); (focus (first | rfl | exact ren_map fun _ => rfl)); (focus (first | rfl | (simp; done))); (focus ((try simp only [LN] at *) <;> omega)); (intro zs hzp hzs; have hzl : zs.length = (a ++ b).length := hzp.length_eq; obtain ⟨hj, hj2⟩ := sort_join ha hb hzp hzs; rw [hc] at hj; obtain rfl := hj2 hc; have cz := check_con (mrg a b) (by rw [hzp.length_eq, List.length_append]; omega); rw [hj] at cz; simp only [Bool.not_true, Bool.not_false, cond_true, cond_false] at cz))
    | ((with_reducible apply rowN_mk); (focus rfl))
    | ((with_reducible apply ixN_lit); (focus (exact rfl)); (focus (exact rfl)))
    | ((with_reducible apply ixN_litp); (focus (exact rfl)); (focus ((try simp only [LN] at *) <;> omega)))
    | ((with_reducible refine eqN_mk2 ?_ ?_); (focus rfl))
    | with_reducible refine wr_i64 (by first | omega | (simp only [LN] at *; omega)) ?_
    | with_reducible refine wr_u64 (by omega) ?_
    | with_reducible refine wr_u8 (by omega) ?_
    | with_reducible refine wr_u32 (by omega) ?_
    | with_reducible first | refine wr_mk _ rfl ?_
    | ((with_reducible refine ixN_nat ?_ ?_); (focus ((try simp only [LN] at *) <;> omega)))
    | ((with_reducible refine rowN_map ?_ ?_); (focus ((try simp only [LN] at *) <;> omega)); intro x hx)
    | with_reducible refine eqN_dec (by omega) ?_
    | with_reducible first | refine apN_mk (by kernel_rfl) ?_ | refine Z.callZ_in tabOk 10 Try.f105 _ Try.func105 (by kernel_rfl) rfl rfl rfl ?_ | refine Z.callZ_in tabOk 8 Try.f69 _ Try.func69 (by kernel_rfl) rfl rfl rfl ?_ | refine Z.callZ_in tabOk 17 Try.f99 _ Try.func99 (by kernel_rfl) rfl rfl rfl ?_ | refine Z.callZ_in tabOk 18 Try.f107 _ Try.func107 (by kernel_rfl) rfl rfl rfl ?_ | refine Z.callZ_in tabOk 20 Try.f108 _ Try.func108 (by kernel_rfl) rfl rfl rfl ?_ | refine Z.callZ_in tabOk 6 Try.f117 _ Try.func117 (by kernel_rfl) rfl rfl rfl ?_
    | ((first | (with_reducible refine Z.conZ_mz ?_ (cat) ?_) | (with_reducible refine Z.callZ_mk ?_ (cat) ?_)); (focus ((repeat' (first | exact trivial | exact ⟨_, rfl, rfl, rfl⟩ | (refine Z.low_osln ?_ (fun _ => rfl); (first | exact hzl | exact hzl.symm)) | exact rfl | exact Z.low_nil | exact Z.low_nil2 | exact low_osl (fun _ => rfl) | (refine Z.low_osln ?_ (fun _ => rfl); (simp only [List.length_map]; done)) | exact low_oslr (fun _ => rfl) | exact Z.low_gslm (by first | rfl | exact Z.kb_some rfl) (fun _ => rfl) | exact .inl rfl | exact .inr ⟨_, rfl⟩ | apply And.intro)); done)))
    | ((first | (with_reducible refine Z.conZ_mz ?_ (ca) ?_) | (with_reducible refine Z.callZ_mk ?_ (ca) ?_)); (focus ((repeat' (first | exact trivial | exact ⟨_, rfl, rfl, rfl⟩ | (refine Z.low_osln ?_ (fun _ => rfl); (first | exact hzl | exact hzl.symm)) | exact rfl | exact Z.low_nil | exact Z.low_nil2 | exact low_osl (fun _ => rfl) | (refine Z.low_osln ?_ (fun _ => rfl); (simp only [List.length_map]; done)) | exact low_oslr (fun _ => rfl) | exact Z.low_gslm (by first | rfl | exact Z.kb_some rfl) (fun _ => rfl) | exact .inl rfl | exact .inr ⟨_, rfl⟩ | apply And.intro)); done)))
    | ((first | (with_reducible refine Z.conZ_mz ?_ (cb) ?_) | (with_reducible refine Z.callZ_mk ?_ (cb) ?_)); (focus ((repeat' (first | exact trivial | exact ⟨_, rfl, rfl, rfl⟩ | (refine Z.low_osln ?_ (fun _ => rfl); (first | exact hzl | exact hzl.symm)) | exact rfl | exact Z.low_nil | exact Z.low_nil2 | exact low_osl (fun _ => rfl) | (refine Z.low_osln ?_ (fun _ => rfl); (simp only [List.length_map]; done)) | exact low_oslr (fun _ => rfl) | exact Z.low_gslm (by first | rfl | exact Z.kb_some rfl) (fun _ => rfl) | exact .inl rfl | exact .inr ⟨_, rfl⟩ | apply And.intro)); done)))
    | ((first | (with_reducible refine Z.conZ_mz ?_ (cz) ?_) | (with_reducible refine Z.callZ_mk ?_ (cz) ?_)); (focus ((repeat' (first | exact trivial | exact ⟨_, rfl, rfl, rfl⟩ | (refine Z.low_osln ?_ (fun _ => rfl); (first | exact hzl | exact hzl.symm)) | exact rfl | exact Z.low_nil | exact Z.low_nil2 | exact low_osl (fun _ => rfl) | (refine Z.low_osln ?_ (fun _ => rfl); (simp only [List.length_map]; done)) | exact low_oslr (fun _ => rfl) | exact Z.low_gslm (by first | rfl | exact Z.kb_some rfl) (fun _ => rfl) | exact .inl rfl | exact .inr ⟨_, rfl⟩ | apply And.intro)); done)))
    | ((with_reducible refine eqN_mk2 ?_ ?_); (focus (exact Z.kb_some rfl)))
    | ((with_reducible apply ex_and); exact rfl)
    | with_reducible first | refine Z.drawZ_rule tabOk mixOk ?_ | refine Z.apZ_mk (by kernel_rfl) ?_
    | ((with_reducible refine Z.ConZ.red ?_); (try subst hlb); (apply Z.conZ_all); (focus (repeat (first | exact Z.FK.nil | (apply Z.FK.keep; exact rfl)))); (focus rfl); (focus rfl); (focus (repeat (first | exact trivial | (refine ⟨(fun o ho => (by first | (cases ho; rfl) | (cases ho; exact Z.inL_map fun _ => rfl) | (cases ho; exact Z.inL_mapr fun _ => rfl) | exact Z.inL_gB ho fun _ => rfl)), ?_⟩)))))
    | ((refine ⟨rfl, ?_, rfl⟩); (focus (repeat (first | exact Z.DK.nil | apply Z.DK.cons))))
    | (focus (exact (rfl : Nat.ble _ _ = true))))
  all_goals (try (conv => whnf))
  all_goals try (show Nat.ble _ _ = true; rfl)
  all_goals try (exfalso; rename_i hz; cases hz; done)
  all_goals try (exfalso; (try simp only [LN] at *) <;> omega)
  all_goals first
    | ((first | (with_reducible apply Z.retF1) | (with_reducible apply Z.retF2) | (with_reducible apply Z.retF0)); (focus (exact rfl)); (repeat' (first | exact trivial | (refine Z.frz_oslw (l := mrg a b) (f := cK) (ty := 70) (bx := false) rfl ?_ ?_ (fun _ => rfl); (focus (first | rfl | exact hzl | exact hzl.symm | (simp; done) | (simp; omega))); (focus (first | exact (ren_map fun _ => rfl) | exact (congrArg (List.take _) (ren_map fun _ => rfl)).trans (List.take_of_length_le (by rw [List.length_map]; exact Nat.le_of_eq hzl)) | exact List.take_of_length_le (by rw [List.length_map]; exact Nat.le_of_eq hzl) | (fail)))) | (refine Z.fq_gsl (l := [(⟨s, k, y⟩ : Rcd)]) (f := cR) (g := eR) (sz := 3) (ty := 61) rfl (fun _ => rfl) ?_) | (with_reducible apply Z.frz_one) | (with_reducible apply Z.frz_agg) | (with_reducible apply Z.fq_int) | (with_reducible apply Z.fq_bool) | (exact Z.frz_nil) | (exact Z.frz_osl0 rfl rfl rfl) | (with_reducible apply Z.fq_nil) | (with_reducible apply Z.fq_ro) | ((with_reducible apply Z.fq_gsl); (focus (first | rfl | exact Z.isB_map _ | exact Z.gB_snoc.symm)); (focus (exact fun _ => rfl))) | ((with_reducible apply Z.fq_osl); (focus (exact rfl)); (focus (first | exact rfl | (simp only [List.length_map, Nat.zero_add]; done) | ((try simp only [LN] at *) <;> omega))); (focus (exact fun _ => rfl))) | ((with_reducible apply Z.fq_src); (focus (exact rfl)); (focus (first | exact rfl | (simp only [List.length_map, Nat.zero_add]; done) | ((try simp only [LN] at *) <;> omega))); (focus (exact fun _ => rfl))) | exact rfl | ((apply Z.fq_osl); (focus (exact rfl)); (focus (first | exact rfl | (simp only [List.length_map, Nat.zero_add]; done) | ((try simp only [LN] at *) <;> omega))); (focus (exact fun _ => rfl))) | ((apply Z.fq_src); (focus (exact rfl)); (focus (first | exact rfl | (simp only [List.length_map, Nat.zero_add]; done) | ((try simp only [LN] at *) <;> omega))); (focus (exact fun _ => rfl))) | (apply Z.fq_ro) | (apply Z.fq_int) | (apply Z.fq_bool) | apply And.intro)); (all_goals (try exact (fun _ => none))); all_goals (first | rfl | (simp; done)))
    | (exfalso; rename_i hz; cases hz; done)
    | (exfalso; (try simp only [LN] at *) <;> omega)
    | (fail)
end Tab
end Go.Proofs.Ytopieffkpdlpbaa
namespace Go.Proofs.Ytopieffkpdlpbaa
open Go Go.RowKit Wx
set_option linter.unusedVariables false
set_option linter.unusedSimpArgs false
set_option maxHeartbeats 4000000
namespace Tab
end Tab
end Go.Proofs.Ytopieffkpdlpbaa
namespace Go.Proofs.Ytopieffkpdlpbaa
open Go Go.RowKit Wx
set_option linter.unusedVariables false
set_option linter.unusedSimpArgs false
set_option maxHeartbeats 4000000
namespace Tab
theorem tpart_con (l : List Kc) (a w : Int) (hl : l.length ≤ 1000) : Con Try.prog 87 [.agg [.ro false 4 (l.map eK)], .one (.v (.int .i64 a)), .one (.v (.int .i64 w))] (fun rx rK rt => rx = .tup [.agg [.ro true 4 ((partT l a w).1.map eK)], .one (.v (.int .i64 (partT l a w).2))] ∧ rK = [] ∧ rt = 0) := by
  unfold partT
  cases ht : tabR l
  · rw [if_pos rfl]; exact part_tab l a w hl ht
  · rw [if_neg (by decide)]
    by_cases hs : okS a w
    · rw [if_pos hs]; exact part_ok l a w hl ht hs
    · rw [if_neg hs]; exact part_sh l a w hl ht hs
theorem tjoin_con (a b : List Kc) (hla : a.length ≤ 1000) (hlb : b.length ≤ 1000) : Con Try.prog 79 [.agg [.ro false 4 (a.map eK)], .agg [.ro false 4 (b.map eK)]] (fun rx rK rt => rx = .tup [.agg [.ro true 4 ((joinT a b).1.map eK)], .one (.v (.int .i64 (joinT a b).2))] ∧ rK = [] ∧ rt = 0) := by
  unfold joinT
  by_cases h : tabR a = false ∨ tabR b = false
  · rw [if_pos h]; exact join_bad a b h hla hlb
  · rw [if_neg h]
    have ha : tabR a = true := by cases hz : tabR a with
      | true => rfl
      | false => exact absurd (.inl hz) h
    have hb : tabR b = true := by cases hz : tabR b with
      | true => rfl
      | false => exact absurd (.inr hz) h
    by_cases h0 : 0 < a.length + b.length
    · cases hc : comm a b
      · rw [if_neg (by decide)]; exact join_ok a b ha hb h0 hc
      · rw [if_pos rfl]; exact join_both a b ha hb h0 hc
    · have e1 : a = [] := List.length_eq_zero_iff.1 (by omega)
      have e2 : b = [] := List.length_eq_zero_iff.1 (by omega)
      subst e1 e2
      exact join_nil
end Tab
end Go.Proofs.Ytopieffkpdlpbaa
namespace Go.Proofs.Ytopieffkpdlpbaa
open Go Go.RowKit Wx
set_option linter.unusedVariables false
set_option linter.unusedSimpArgs false
set_option maxHeartbeats 4000000
def rowsE {α : Type} (sz mx : Nat) (d : List Ce → Option α) (dr : List RT → Option α) (K : Nat → Option Y.Ob) : Ce → Option (List α)
  | .ro _ z rows => match Nat.beq z sz, rows.mapM dr with
    | true, some xs => match Nat.ble xs.length mx with
      | true => some xs
      | false => none
    | _, _ => none
  | c => Y.rowsD sz mx d K c
theorem mapM_en {α : Type} {dr : List RT → Option α} {en : α → List RT} (hd : ∀ r x, dr r = some x → r = en x) : ∀ {rows : List (List RT)} {xs : List α}, rows.mapM dr = some xs → rows = xs.map en
  | [], xs, h => by simp only [List.mapM_nil, Option.pure_def, Option.some.injEq] at h; subst h; rfl
  | r :: rows, xs, h => by
    rw [List.mapM_cons] at h
    cases h1 : dr r with
    | none => rw [h1] at h; cases h
    | some x =>
      cases h2 : rows.mapM dr with
      | none => rw [h1, h2] at h; cases h
      | some ys =>
        rw [h1, h2] at h
        simp only [Option.pure_def, Option.bind_eq_bind, Option.bind_some, Option.some.injEq] at h
        subst h
        rw [List.map_cons, ← hd r x h1, ← mapM_en hd h2]
theorem rowsE_low {α : Type} {sz mx : Nat} {d : List Ce → Option α} {dr : List RT → Option α} {en : α → List RT} (hd : ∀ r x, d r = some x → r.map RT.of = (en x).map some) (hr : ∀ r x, dr r = some x → r = en x) {K : Nat → Option Y.Ob} {c : Ce} {xs : List α} (h : rowsE sz mx d dr K c = some xs) : lowC (Y.blkOf K) c (.ro false sz (xs.map en)) ∧ xs.length ≤ mx := by
  unfold rowsE at h
  split at h
  · rename_i fl z rows
    split at h
    · rename_i ys h1 h2
      split at h
      · rename_i h3
        simp only [Option.some.injEq] at h
        subst h
        refine ⟨?_, Nat.le_of_ble_eq_true h3⟩
        have e := mapM_en hr h2
        subst e
        rw [Nat.eq_of_beq_eq_true h1]
        exact rfl
      · cases h
    · cases h
  · exact Y.rowsD_low hd h
def decK : List Ce → Option Tab.Kc
  | [.v (.int .i64 a), .v (.int .i64 b), .v (.int .i64 c), .v (.int .i64 d)] => some ⟨a, b, c, d⟩
  | _ => none
theorem decK_ok (r : List Ce) (x : Tab.Kc) (h : decK r = some x) : r.map RT.of = (Tab.eK x).map some := by
  unfold decK at h
  split at h
  · simp only [Option.some.injEq] at h; subst h; rfl
  · cases h
def decKr : List RT → Option Tab.Kc
  | [.v (.int .i64 a), .v (.int .i64 b), .v (.int .i64 c), .v (.int .i64 d)] => some ⟨a, b, c, d⟩
  | _ => none
theorem decKr_ok (r : List RT) (x : Tab.Kc) (h : decKr r = some x) : r = Tab.eK x := by
  unfold decKr at h
  split at h
  · simp only [Option.some.injEq] at h; subst h; rfl
  · cases h
def orcJ : Y.CallFn := fun c avs K top => match c, avs with
  | .fn g [], [.pl (.agg [ca]), .pl (.agg [cb])] => match Nat.beq g 79, rowsE 4 1000 decK decKr K.get ca, rowsE 4 1000 decK decKr K.get cb with
    | true, some a, some b => some ⟨.tup [.agg [.ro true 4 ((Tab.joinT a b).1.map Tab.eK)], .one (.v (.int .i64 (Tab.joinT a b).2))], K, top, []⟩
    | _, _, _ => none
  | _, _ => none
theorem orcJ_sound : Y.CallsOk Try.prog orcJ := by
  intro c avs K top r h
  unfold orcJ at h
  split at h
  · rename_i g ca cb
    split at h
    · rename_i a b h1 h2 h3
      simp only [Option.some.injEq] at h
      subst h
      obtain ⟨g1, g2⟩ := rowsE_low (en := Tab.eK) decK_ok decKr_ok h2
      obtain ⟨g3, g4⟩ := rowsE_low (en := Tab.eK) decK_ok decKr_ok h3
      have := Nat.eq_of_beq_eq_true h1
      subst this
      exact ⟨Y.con_callE (args := [.agg [.ro false 4 (a.map Tab.eK)], .agg [.ro false 4 (b.map Tab.eK)]]) ⟨⟨g1, trivial⟩, ⟨g3, trivial⟩, trivial⟩ (Tab.tjoin_con a b g2 g4) rfl, fun _ _ => rfl⟩
    · cases h
  · cases h
theorem wakes_con : Con Try.prog 9 [] (fun x K t => x = .val (.bool true) ∧ K = [] ∧ t = 0) := Y.con_runO ftabOk tabOk mixOk orcJ_sound 60 14 (by kernel_rfl) (by kernel_rfl)
end Go.Proofs.Ytopieffkpdlpbaa
namespace Go.Proofs.Ytopieffkpdlpbaa
open Go Go.RowKit Wx
set_option linter.unusedVariables false
set_option linter.unusedSimpArgs false
set_option maxHeartbeats 4000000
end Go.Proofs.Ytopieffkpdlpbaa
namespace Go.Proofs.Ytopieffkpdlpbaa
open Go Go.RowKit Wx
set_option linter.unusedVariables false
set_option linter.unusedSimpArgs false
set_option maxHeartbeats 4000000
def okSha (x : Sha) : Prop := (Lit.int .i64 x.op).wf = true ∧ (Lit.int .i64 x.ix).wf = true ∧ (Lit.int .i64 x.w).wf = true
theorem rowSha (row : List RT) (h : RowF (.st (.cons 3 1 (.int .i64) (.cons 3 1 (.int .i64) (.cons 3 1 (.int .i64) .nil)))) row) : ∃ x, row = eSh x ∧ okSha x := by
  obtain ⟨a0, r0, rfl, _, ⟨z0, rfl, w0⟩, a1, r1, rfl, _, ⟨z1, rfl, w1⟩, a2, r2, rfl, _, ⟨z2, rfl, w2⟩, rfl⟩ := h
  exact ⟨⟨z0, z1, z2⟩, rfl, w0, w1, w2⟩
namespace snapZero
end snapZero
end Go.Proofs.Ytopieffkpdlpbaa
namespace Go.Proofs.Ytopieffkpdlpbaa
open Go Go.RowKit Wx
set_option linter.unusedVariables false
set_option linter.unusedSimpArgs false
set_option maxHeartbeats 4000000
abbrev RNG (o0 o1 o2 o3 o4 o5 o6 o7 : Int) : Prop := (0 ≤ o0 ∧ o0 ≤ 40) ∧ (0 ≤ o1 ∧ o1 ≤ 40) ∧ (0 ≤ o2 ∧ o2 ≤ 40) ∧ (0 ≤ o3 ∧ o3 ≤ 40) ∧ (0 ≤ o4 ∧ o4 ≤ 40) ∧ (0 ≤ o5 ∧ o5 ≤ 40) ∧ (0 ≤ o6 ∧ o6 ≤ 40) ∧ (0 ≤ o7 ∧ o7 ≤ 40)
def ownO (l : List Int) (i w : Int) : Bool := l.zipIdx.all fun p => decide (p.1 = 0 ∨ Tab.ownG p.2 w = i)
def offR (o0 o1 o2 o3 o4 o5 o6 o7 : Int) (i w : Int) : Bool := decide (RNG o0 o1 o2 o3 o4 o5 o6 o7) && ownO [o0, o1, o2, o3, o4, o5, o6, o7] i w
theorem joined_0_1 (o0 o1 o2 o3 o4 o5 o6 o7 : Int) : Con Try.prog 41 [.agg [.v (.int .i64 o0), .v (.int .i64 o1), .v (.int .i64 o2), .v (.int .i64 o3), .v (.int .i64 o4), .v (.int .i64 o5), .v (.int .i64 o6), .v (.int .i64 o7)], .agg [.v (.int .i64 0), .v (.int .i64 0), .v (.int .i64 0), .v (.int .i64 0), .v (.int .i64 0), .v (.int .i64 0), .v (.int .i64 0), .v (.int .i64 0)], .one (.v (.int .i64 0)), .one (.v (.int .i64 1))] (fun rx rK rt => rx = .tup [.agg [.v (.int .i64 o0), .v (.int .i64 o1), .v (.int .i64 o2), .v (.int .i64 o3), .v (.int .i64 o4), .v (.int .i64 o5), .v (.int .i64 o6), .v (.int .i64 o7)], .one (.v (.int .i64 0))] ∧ rK = [] ∧ rt = 0) := Y.con_eval ftabOk tabOk mixOk 40 12 (by kernel_rfl) (by rfl) (by kernel_rfl)
theorem joined_0_2 (o0 o1 o2 o3 o4 o5 o6 o7 : Int) : Con Try.prog 41 [.agg [.v (.int .i64 o0), .v (.int .i64 o1), .v (.int .i64 o2), .v (.int .i64 o3), .v (.int .i64 o4), .v (.int .i64 o5), .v (.int .i64 o6), .v (.int .i64 o7)], .agg [.v (.int .i64 0), .v (.int .i64 0), .v (.int .i64 0), .v (.int .i64 0), .v (.int .i64 0), .v (.int .i64 0), .v (.int .i64 0), .v (.int .i64 0)], .one (.v (.int .i64 0)), .one (.v (.int .i64 2))] (fun rx rK rt => rx = .tup [.agg [.v (.int .i64 o0), .v (.int .i64 o1), .v (.int .i64 o2), .v (.int .i64 o3), .v (.int .i64 0), .v (.int .i64 0), .v (.int .i64 0), .v (.int .i64 0)], .one (.v (.int .i64 0))] ∧ rK = [] ∧ rt = 0) := Y.con_eval ftabOk tabOk mixOk 40 12 (by kernel_rfl) (by rfl) (by kernel_rfl)
theorem joined_1_2 (o0 o1 o2 o3 o4 o5 o6 o7 : Int) : Con Try.prog 41 [.agg [.v (.int .i64 o0), .v (.int .i64 o1), .v (.int .i64 o2), .v (.int .i64 o3), .v (.int .i64 o4), .v (.int .i64 o5), .v (.int .i64 o6), .v (.int .i64 o7)], .agg [.v (.int .i64 0), .v (.int .i64 0), .v (.int .i64 0), .v (.int .i64 0), .v (.int .i64 0), .v (.int .i64 0), .v (.int .i64 0), .v (.int .i64 0)], .one (.v (.int .i64 1)), .one (.v (.int .i64 2))] (fun rx rK rt => rx = .tup [.agg [.v (.int .i64 0), .v (.int .i64 0), .v (.int .i64 0), .v (.int .i64 0), .v (.int .i64 o4), .v (.int .i64 o5), .v (.int .i64 o6), .v (.int .i64 o7)], .one (.v (.int .i64 0))] ∧ rK = [] ∧ rt = 0) := Y.con_eval ftabOk tabOk mixOk 40 12 (by kernel_rfl) (by rfl) (by kernel_rfl)
theorem joined_0_3 (o0 o1 o2 o3 o4 o5 o6 o7 : Int) : Con Try.prog 41 [.agg [.v (.int .i64 o0), .v (.int .i64 o1), .v (.int .i64 o2), .v (.int .i64 o3), .v (.int .i64 o4), .v (.int .i64 o5), .v (.int .i64 o6), .v (.int .i64 o7)], .agg [.v (.int .i64 0), .v (.int .i64 0), .v (.int .i64 0), .v (.int .i64 0), .v (.int .i64 0), .v (.int .i64 0), .v (.int .i64 0), .v (.int .i64 0)], .one (.v (.int .i64 0)), .one (.v (.int .i64 3))] (fun rx rK rt => rx = .tup [.agg [.v (.int .i64 o0), .v (.int .i64 o1), .v (.int .i64 o2), .v (.int .i64 0), .v (.int .i64 0), .v (.int .i64 0), .v (.int .i64 0), .v (.int .i64 0)], .one (.v (.int .i64 0))] ∧ rK = [] ∧ rt = 0) := Y.con_eval ftabOk tabOk mixOk 40 12 (by kernel_rfl) (by rfl) (by kernel_rfl)
theorem joined_1_3 (o0 o1 o2 o3 o4 o5 o6 o7 : Int) : Con Try.prog 41 [.agg [.v (.int .i64 o0), .v (.int .i64 o1), .v (.int .i64 o2), .v (.int .i64 o3), .v (.int .i64 o4), .v (.int .i64 o5), .v (.int .i64 o6), .v (.int .i64 o7)], .agg [.v (.int .i64 0), .v (.int .i64 0), .v (.int .i64 0), .v (.int .i64 0), .v (.int .i64 0), .v (.int .i64 0), .v (.int .i64 0), .v (.int .i64 0)], .one (.v (.int .i64 1)), .one (.v (.int .i64 3))] (fun rx rK rt => rx = .tup [.agg [.v (.int .i64 0), .v (.int .i64 0), .v (.int .i64 0), .v (.int .i64 o3), .v (.int .i64 o4), .v (.int .i64 o5), .v (.int .i64 0), .v (.int .i64 0)], .one (.v (.int .i64 0))] ∧ rK = [] ∧ rt = 0) := Y.con_eval ftabOk tabOk mixOk 40 12 (by kernel_rfl) (by rfl) (by kernel_rfl)
theorem joined_2_3 (o0 o1 o2 o3 o4 o5 o6 o7 : Int) : Con Try.prog 41 [.agg [.v (.int .i64 o0), .v (.int .i64 o1), .v (.int .i64 o2), .v (.int .i64 o3), .v (.int .i64 o4), .v (.int .i64 o5), .v (.int .i64 o6), .v (.int .i64 o7)], .agg [.v (.int .i64 0), .v (.int .i64 0), .v (.int .i64 0), .v (.int .i64 0), .v (.int .i64 0), .v (.int .i64 0), .v (.int .i64 0), .v (.int .i64 0)], .one (.v (.int .i64 2)), .one (.v (.int .i64 3))] (fun rx rK rt => rx = .tup [.agg [.v (.int .i64 0), .v (.int .i64 0), .v (.int .i64 0), .v (.int .i64 0), .v (.int .i64 0), .v (.int .i64 0), .v (.int .i64 o6), .v (.int .i64 o7)], .one (.v (.int .i64 0))] ∧ rK = [] ∧ rt = 0) := Y.con_eval ftabOk tabOk mixOk 40 12 (by kernel_rfl) (by rfl) (by kernel_rfl)
theorem areoff_in (o0 o1 o2 o3 o4 o5 o6 o7 j0 j1 j2 j3 j4 j5 j6 j7 i w : Int) (cj : Con Try.prog 41 [.agg [.v (.int .i64 o0), .v (.int .i64 o1), .v (.int .i64 o2), .v (.int .i64 o3), .v (.int .i64 o4), .v (.int .i64 o5), .v (.int .i64 o6), .v (.int .i64 o7)], .agg [.v (.int .i64 0), .v (.int .i64 0), .v (.int .i64 0), .v (.int .i64 0), .v (.int .i64 0), .v (.int .i64 0), .v (.int .i64 0), .v (.int .i64 0)], .one (.v (.int .i64 i)), .one (.v (.int .i64 w))] (fun rx rK rt => rx = .tup [.agg [.v (.int .i64 j0), .v (.int .i64 j1), .v (.int .i64 j2), .v (.int .i64 j3), .v (.int .i64 j4), .v (.int .i64 j5), .v (.int .i64 j6), .v (.int .i64 j7)], .one (.v (.int .i64 0))] ∧ rK = [] ∧ rt = 0)) : Con Try.prog 86 [.agg [.v (.int .i64 o0), .v (.int .i64 o1), .v (.int .i64 o2), .v (.int .i64 o3), .v (.int .i64 o4), .v (.int .i64 o5), .v (.int .i64 o6), .v (.int .i64 o7)], .one (.v (.int .i64 i)), .one (.v (.int .i64 w))] (fun rx rK rt => rx = .val (.bool (decide (RNG o0 o1 o2 o3 o4 o5 o6 o7) && (o0 == j0 && (o1 == j1 && (o2 == j2 && (o3 == j3 && (o4 == j4 && (o5 == j5 && (o6 == j6 && (o7 == j7 && true)))))))))) ∧ rK = [] ∧ rt = 0) := by
  refine Z.con_ofF tabOk 26 Try.f86 _ Try.func86 (by kernel_rfl) rfl rfl rfl rfl ?_
  repeat' ((conv => whnf); first
    | with_reducible first | refine spB_t ?_
    | ((with_reducible apply spB_cong); (focus (simp only [beq_self_eq_true, bne_self_eq_false, Bool.true_bne, Bool.false_bne, Bool.bne_true, Bool.bne_false, Bool.true_beq, Bool.false_beq, Bool.not_true, Bool.not_false, Bool.not_not, Int.reduceBEq, Int.reduceBNe, Int.reduceLE, Int.reduceLT, Int.reduceEq, decide_true, decide_false]; rfl)))
    | with_reducible first | refine spB_yes (by decide) ?_ | refine spB_no (by decide) ?_
    | (with_reducible refine spB_dec ?_ ?_ <;> intro _ <;> (try (exfalso; first | contradiction | omega | (rename_i hz; refine hz ?_; simp; done) | (rename_i hz; simp at hz; done) | (simp only [LN] at *; omega))))
    | with_reducible first | refine Z.loopZ_unroll tabOk 9 ?_
    | ((with_reducible apply ixN_lit); (focus (exact rfl)); (focus (exact rfl)))
    | with_reducible refine wr_i64 (by first | omega | (simp only [LN] at *; omega)) ?_
    | with_reducible first | refine Z.callZ_in tabOk 18 Try.f88 _ Try.func88 (by kernel_rfl) rfl rfl rfl ?_
    | ((first | (with_reducible refine Z.callZ_mk ?_ (cj) ?_)); (focus ((repeat' (first | exact trivial | exact rfl | apply And.intro)); done)))
    | ((with_reducible apply ex_and); exact rfl)
    | with_reducible first | refine Z.drawZ_rule tabOk mixOk ?_ | refine Z.apZ_mk (by kernel_rfl) ?_
    | ((with_reducible refine Z.ConZ.red ?_); (try subst hlb); (apply Z.conZ_all); (focus (repeat (first | exact Z.FK.nil | (apply Z.FK.keep; exact rfl)))); (focus rfl); (focus rfl); (focus (repeat (first | exact trivial | (refine ⟨(fun o ho => (by first | (cases ho; rfl) | (cases ho; exact Z.inL_map fun _ => rfl) | (cases ho; exact Z.inL_mapr fun _ => rfl) | exact Z.inL_gB ho fun _ => rfl)), ?_⟩)))))
    | ((refine ⟨rfl, ?_, rfl⟩); (focus (repeat (first | exact Z.DK.nil | apply Z.DK.cons))))
    | fail)
  all_goals (try (conv => whnf))
  all_goals try (show Nat.ble _ _ = true; rfl)
  all_goals try (exfalso; rename_i hz; cases hz; done)
  all_goals try (exfalso; (try simp only [LN] at *) <;> omega)
  all_goals first
    | ((first | (with_reducible apply Z.retF1)); (focus (exact rfl)); (repeat' (first | exact trivial | (with_reducible apply Z.frz_one) | (with_reducible apply Z.fq_bool) | apply And.intro)); (all_goals (try exact (fun _ => none))); all_goals (first | (rw [decide_eq_false (show ¬ RNG o0 o1 o2 o3 o4 o5 o6 o7 by omega)]; rfl) | (rw [decide_eq_true (show RNG o0 o1 o2 o3 o4 o5 o6 o7 by omega)]; first | rfl | (rw [Bool.true_and]; rfl) | (simp; done))))
    | fail
theorem areoff_con (o0 o1 o2 o3 o4 o5 o6 o7 i w : Int) (h : Tab.okS i w) : Con Try.prog 86 [.agg [.v (.int .i64 o0), .v (.int .i64 o1), .v (.int .i64 o2), .v (.int .i64 o3), .v (.int .i64 o4), .v (.int .i64 o5), .v (.int .i64 o6), .v (.int .i64 o7)], .one (.v (.int .i64 i)), .one (.v (.int .i64 w))] (fun rx rK rt => rx = .val (.bool (offR o0 o1 o2 o3 o4 o5 o6 o7 i w)) ∧ rK = [] ∧ rt = 0) := by
  have h2 : (i = 0 ∧ w = 1) ∨ (i = 0 ∧ w = 2) ∨ (i = 1 ∧ w = 2) ∨ (i = 0 ∧ w = 3) ∨ (i = 1 ∧ w = 3) ∨ (i = 2 ∧ w = 3) := by unfold Tab.okS at h; omega
  rcases h2 with ⟨rfl, rfl⟩ | ⟨rfl, rfl⟩ | ⟨rfl, rfl⟩ | ⟨rfl, rfl⟩ | ⟨rfl, rfl⟩ | ⟨rfl, rfl⟩
  · have h := areoff_in o0 o1 o2 o3 o4 o5 o6 o7 o0 o1 o2 o3 o4 o5 o6 o7 0 1 (joined_0_1 o0 o1 o2 o3 o4 o5 o6 o7)
    have e : ownO [o0, o1, o2, o3, o4, o5, o6, o7] 0 1 = ((o0 == o0 && (o1 == o1 && (o2 == o2 && (o3 == o3 && (o4 == o4 && (o5 == o5 && (o6 == o6 && (o7 == o7 && true))))))))) := by
      rw [Bool.eq_iff_iff]
      unfold ownO Tab.ownG
      simp [List.zipIdx]
    unfold offR
    rw [e]
    exact h
  · have h := areoff_in o0 o1 o2 o3 o4 o5 o6 o7 o0 o1 o2 o3 0 0 0 0 0 2 (joined_0_2 o0 o1 o2 o3 o4 o5 o6 o7)
    have e : ownO [o0, o1, o2, o3, o4, o5, o6, o7] 0 2 = ((o0 == o0 && (o1 == o1 && (o2 == o2 && (o3 == o3 && (o4 == 0 && (o5 == 0 && (o6 == 0 && (o7 == 0 && true))))))))) := by
      rw [Bool.eq_iff_iff]
      unfold ownO Tab.ownG
      simp [List.zipIdx]
    unfold offR
    rw [e]
    exact h
  · have h := areoff_in o0 o1 o2 o3 o4 o5 o6 o7 0 0 0 0 o4 o5 o6 o7 1 2 (joined_1_2 o0 o1 o2 o3 o4 o5 o6 o7)
    have e : ownO [o0, o1, o2, o3, o4, o5, o6, o7] 1 2 = ((o0 == 0 && (o1 == 0 && (o2 == 0 && (o3 == 0 && (o4 == o4 && (o5 == o5 && (o6 == o6 && (o7 == o7 && true))))))))) := by
      rw [Bool.eq_iff_iff]
      unfold ownO Tab.ownG
      simp [List.zipIdx]
    unfold offR
    rw [e]
    exact h
  · have h := areoff_in o0 o1 o2 o3 o4 o5 o6 o7 o0 o1 o2 0 0 0 0 0 0 3 (joined_0_3 o0 o1 o2 o3 o4 o5 o6 o7)
    have e : ownO [o0, o1, o2, o3, o4, o5, o6, o7] 0 3 = ((o0 == o0 && (o1 == o1 && (o2 == o2 && (o3 == 0 && (o4 == 0 && (o5 == 0 && (o6 == 0 && (o7 == 0 && true))))))))) := by
      rw [Bool.eq_iff_iff]
      unfold ownO Tab.ownG
      simp [List.zipIdx]
    unfold offR
    rw [e]
    exact h
  · have h := areoff_in o0 o1 o2 o3 o4 o5 o6 o7 0 0 0 o3 o4 o5 0 0 1 3 (joined_1_3 o0 o1 o2 o3 o4 o5 o6 o7)
    have e : ownO [o0, o1, o2, o3, o4, o5, o6, o7] 1 3 = ((o0 == 0 && (o1 == 0 && (o2 == 0 && (o3 == o3 && (o4 == o4 && (o5 == o5 && (o6 == 0 && (o7 == 0 && true))))))))) := by
      rw [Bool.eq_iff_iff]
      unfold ownO Tab.ownG
      simp [List.zipIdx]
    unfold offR
    rw [e]
    exact h
  · have h := areoff_in o0 o1 o2 o3 o4 o5 o6 o7 0 0 0 0 0 0 o6 o7 2 3 (joined_2_3 o0 o1 o2 o3 o4 o5 o6 o7)
    have e : ownO [o0, o1, o2, o3, o4, o5, o6, o7] 2 3 = ((o0 == 0 && (o1 == 0 && (o2 == 0 && (o3 == 0 && (o4 == 0 && (o5 == 0 && (o6 == o6 && (o7 == o7 && true))))))))) := by
      rw [Bool.eq_iff_iff]
      unfold ownO Tab.ownG
      simp [List.zipIdx]
    unfold offR
    rw [e]
    exact h
end Go.Proofs.Ytopieffkpdlpbaa
namespace Go.Proofs.Ytopieffkpdlpbaa
open Go Go.RowKit Wx
set_option linter.unusedVariables false
set_option linter.unusedSimpArgs false
set_option maxHeartbeats 4000000
def nmOk (x : Nm) : Bool := decide ((0 ≤ x.s ∧ x.s < 16) ∧ (1 ≤ x.a ∧ x.a ≤ 1048576) ∧ 1 ≤ x.n ∧ x.n ≤ 1048576)
def nLt (x y : Nm) : Prop := x.s < y.s ∨ (x.s = y.s ∧ (x.a < y.a ∨ (x.a = y.a ∧ x.n < y.n)))
instance (x y : Nm) : Decidable (nLt x y) := by unfold nLt; infer_instance
def nC (x y : Nm) : Int := if Tab.cmpI x.s y.s ≠ 0 then Tab.cmpI x.s y.s else if Tab.cmpI x.a y.a ≠ 0 then Tab.cmpI x.a y.a else Tab.cmpI x.n y.n
theorem nC_lt (x y : Nm) : decide (0 ≤ nC x y) = !decide (nLt x y) := by
  have h : 0 ≤ nC x y ↔ ¬ nLt x y := by
    unfold nC Tab.cmpI nLt
    by_cases h1 : x.s < y.s
    · simp [h1]
    · by_cases h2 : y.s < x.s
      · have : ¬ x.s = y.s := by omega
        simp [h1, h2, this]
      · have h3 : x.s = y.s := by omega
        by_cases h4 : x.a < y.a
        · simp [h3, h4]
        · by_cases h5 : y.a < x.a
          · have : ¬ x.a = y.a := by omega
            simp [h3, h4, h5, this]
          · have h6 : x.a = y.a := by omega
            by_cases h7 : x.n < y.n
            · simp [h3, h6, h7]
            · by_cases h8 : y.n < x.n
              · simp [h3, h6, h7, h8]
              · simp [h3, h6, h7, h8]
  by_cases hl : nLt x y
  · rw [decide_eq_false (fun h9 => h.1 h9 hl), decide_eq_true hl]; rfl
  · rw [decide_eq_true (h.2 hl), decide_eq_false hl]; rfl
def nOk : Option Nm → List Nm → Bool
  | _, [] => true
  | none, x :: r => nmOk x && nOk (some x) r
  | some p, x :: r => nmOk x && decide (nLt p x) && nOk (some x) r
def nPrev (l : List Nm) : Nat → Option Nm
  | 0 => none
  | i + 1 => l[i]?
theorem nOk_at {l : List Nm} {i : Nat} {x : Nm} (h : l[i]? = some x) : nOk (nPrev l i) (l.drop i) = (nmOk x && (match nPrev l i with | none => true | some q => decide (nLt q x)) && nOk (nPrev l (i + 1)) (l.drop (i + 1))) := by
  rw [drop_cons h]
  have e : nPrev l (i + 1) = some x := h
  rw [e]
  cases hp : nPrev l i with
  | none => simp [nOk]
  | some q => simp [nOk]
def namesR (l : List Nm) : Bool := decide (l.length ≤ 24) && nOk none l
theorem cname_con (x : Nm)  : Con Try.prog 80 [.agg [.v (.int .i64 x.s), .v (.int .i64 x.a), .v (.int .i64 x.n)]] (fun rx rK rt => rx = .val (.int .i64 (bif nmOk x then 0 else 2)) ∧ rK = [] ∧ rt = 0) := by
  refine Z.con_ofF tabOk 6 Try.f80 _ Try.func80 (by kernel_rfl) rfl rfl rfl rfl ?_
  cases hk : nmOk x
  · have hk := of_decide_eq_false hk
    try simp only [cond_false]
    repeat' ((conv => whnf); first
      | with_reducible first | refine spB_t ?_
      | ((with_reducible apply spB_cong); (focus (simp only [beq_self_eq_true, bne_self_eq_false, Bool.true_bne, Bool.false_bne, Bool.bne_true, Bool.bne_false, Bool.true_beq, Bool.false_beq, Bool.not_true, Bool.not_false, Bool.not_not, Int.reduceBEq, Int.reduceBNe, Int.reduceLE, Int.reduceLT, Int.reduceEq, decide_true, decide_false]; rfl)))
      | with_reducible first | refine spB_yes (by decide) ?_ | refine spB_no (by decide) ?_ | refine spB_not ?_
      | (with_reducible refine spB_dec ?_ ?_ <;> intro _ <;> (try (exfalso; first | contradiction | omega | (rename_i hz; refine hz ?_; simp; done) | (rename_i hz; simp at hz; done) | (simp only [LN] at *; omega))))
      | with_reducible first | refine Z.loopZ_unroll tabOk 2 ?_
      | ((with_reducible apply rowN_mk); (focus rfl))
      | ((with_reducible apply ixN_lit); (focus (exact rfl)); (focus (exact rfl)))
      | with_reducible first | refine Z.callZ_in tabOk 15 Try.f106 _ Try.func106 (by kernel_rfl) rfl rfl rfl ?_ | refine Z.callZ_in tabOk 24 Try.f116 _ Try.func116 (by kernel_rfl) rfl rfl rfl ?_ | refine Z.callZ_in tabOk 9 Try.f129 _ Try.func129 (by kernel_rfl) rfl rfl rfl ?_
      | ((with_reducible apply ex_and); exact rfl)
      | fail)
    all_goals (try (conv => whnf))
    all_goals try (show Nat.ble _ _ = true; rfl)
    all_goals try (exfalso; rename_i hz; cases hz; done)
    all_goals try (exfalso; (try simp only [LN] at *) <;> omega)
    all_goals first
      | ((first | (with_reducible apply Z.retF1)); (focus (exact rfl)); (repeat' (first | exact trivial | (with_reducible apply Z.frz_one) | (with_reducible apply Z.fq_int) | exact rfl | apply And.intro)); (all_goals (try exact (fun _ => none))); all_goals (first | (simp; done)))
      | fail
  · have hk := of_decide_eq_true hk
    try simp only [cond_true]
    repeat' ((conv => whnf); first
      | with_reducible first | refine spB_t ?_
      | with_reducible first | refine spB_yes (by decide) ?_ | refine spB_no (by decide) ?_ | refine spB_not ?_
      | (with_reducible refine spB_dec ?_ ?_ <;> intro _ <;> (try (exfalso; first | contradiction | omega | (rename_i hz; refine hz ?_; simp; done) | (rename_i hz; simp at hz; done) | (simp only [LN] at *; omega))))
      | with_reducible first | refine Z.loopZ_unroll tabOk 2 ?_
      | ((with_reducible apply rowN_mk); (focus rfl))
      | ((with_reducible apply ixN_lit); (focus (exact rfl)); (focus (exact rfl)))
      | with_reducible refine wr_i64 (by first | omega | (simp only [LN] at *; omega)) ?_
      | with_reducible first | refine Z.callZ_in tabOk 15 Try.f106 _ Try.func106 (by kernel_rfl) rfl rfl rfl ?_ | refine Z.callZ_in tabOk 24 Try.f116 _ Try.func116 (by kernel_rfl) rfl rfl rfl ?_ | refine Z.callZ_in tabOk 9 Try.f129 _ Try.func129 (by kernel_rfl) rfl rfl rfl ?_
      | ((with_reducible apply ex_and); exact rfl)
      | fail)
    all_goals (try (conv => whnf))
    all_goals try (show Nat.ble _ _ = true; rfl)
    all_goals try (exfalso; rename_i hz; cases hz; done)
    all_goals try (exfalso; (try simp only [LN] at *) <;> omega)
    all_goals first
      | ((first | (with_reducible apply Z.retF1)); (focus (exact rfl)); (repeat' (first | exact trivial | (with_reducible apply Z.frz_one) | (with_reducible apply Z.fq_int) | exact rfl | apply And.intro)); (all_goals (try exact (fun _ => none))); all_goals (first | (simp; done)))
      | fail
theorem rname_con (x : Nm)  : Con Try.prog 76 [.agg [.v (.int .i64 x.s), .v (.int .i64 x.a), .v (.int .i64 x.n)]] (fun rx rK rt => rx = .val (.bool (nmOk x)) ∧ rK = [] ∧ rt = 0) := by
  refine Z.con_ofF tabOk 31 Try.f76 _ Try.func76 (by kernel_rfl) rfl rfl rfl rfl ?_
  unfold nmOk
  repeat' ((conv => whnf); first
    | with_reducible first | refine spB_t ?_
    | with_reducible first | refine spB_no (by decide) ?_
    | (with_reducible refine spB_dec ?_ ?_ <;> intro _ <;> (try (exfalso; first | contradiction | omega | (rename_i hz; refine hz ?_; simp; done) | (rename_i hz; simp at hz; done) | (simp only [LN] at *; omega))))
    | fail)
  all_goals (try (conv => whnf))
  all_goals try (show Nat.ble _ _ = true; rfl)
  all_goals try (exfalso; rename_i hz; cases hz; done)
  all_goals try (exfalso; (try simp only [LN] at *) <;> omega)
  all_goals first
    | ((first | (with_reducible apply Z.retF1)); (focus (exact rfl)); (repeat' (first | exact trivial | (with_reducible apply Z.frz_one) | (with_reducible apply Z.fq_bool) | apply And.intro)); (all_goals (try exact (fun _ => none))); all_goals (first | exact bool_p (by omega) | exact bool_f (by omega)))
    | fail
theorem ncmp_con (x y : Nm)  : Con Try.prog 81 [.agg [.v (.int .i64 x.s), .v (.int .i64 x.a), .v (.int .i64 x.n)], .agg [.v (.int .i64 y.s), .v (.int .i64 y.a), .v (.int .i64 y.n)]] (fun rx rK rt => rx = .val (.int .i64 (nC x y)) ∧ rK = [] ∧ rt = 0) := by
  refine Z.con_ofF tabOk 22 Try.f81 _ Try.func81 (by kernel_rfl) rfl rfl rfl rfl ?_
  have c1 := Tab.cmp_con x.s y.s
  have c2 := Tab.cmp_con x.a y.a
  have c3 := Tab.cmp_con x.n y.n
  unfold nC
  generalize Tab.cmpI x.s y.s = A at *
  generalize Tab.cmpI x.a y.a = B at *
  generalize Tab.cmpI x.n y.n = C at *
  by_cases hA : A ≠ 0
  · rw [if_pos hA]
    repeat' ((conv => whnf); first
      | with_reducible first | refine spB_yes (by decide) ?_
      | (with_reducible refine spB_bne ?_ ?_ <;> intro _ <;> (try (exfalso; first | contradiction | omega | (rename_i hz; refine hz ?_; simp; done) | (rename_i hz; simp at hz; done) | (simp only [LN] at *; omega))))
      | with_reducible first | refine Z.loopZ_unroll tabOk 4 ?_
      | ((with_reducible apply rowN_mk); (focus rfl))
      | ((with_reducible apply ixN_lit); (focus (exact rfl)); (focus (exact rfl)))
      | with_reducible first | refine Z.callZ_in tabOk 18 Try.f107 _ Try.func107 (by kernel_rfl) rfl rfl rfl ?_
      | ((first | (with_reducible refine Z.conZ_mz ?_ (c1) ?_)); (focus ((repeat' (first | exact trivial | exact rfl | apply And.intro)); done)))
      | ((first | (with_reducible refine Z.conZ_mz ?_ (c2) ?_)); (focus ((repeat' (first | exact trivial | exact rfl | apply And.intro)); done)))
      | ((first | (with_reducible refine Z.conZ_mz ?_ (c3) ?_)); (focus ((repeat' (first | exact trivial | exact rfl | apply And.intro)); done)))
      | ((with_reducible apply ex_and); exact rfl)
      | with_reducible first | refine Z.drawZ_rule tabOk mixOk ?_ | refine Z.apZ_mk (by kernel_rfl) ?_
      | ((with_reducible refine Z.ConZ.red ?_); (try subst hlb); (apply Z.conZ_all); (focus (repeat (first | exact Z.FK.nil | (apply Z.FK.keep; exact rfl)))); (focus rfl); (focus rfl); (focus (repeat (first | exact trivial | (refine ⟨(fun o ho => (by first | (cases ho; rfl) | (cases ho; exact Z.inL_map fun _ => rfl) | (cases ho; exact Z.inL_mapr fun _ => rfl) | exact Z.inL_gB ho fun _ => rfl)), ?_⟩)))))
      | ((refine ⟨rfl, ?_, rfl⟩); (focus (repeat (first | exact Z.DK.nil))))
      | fail)
    all_goals (try (conv => whnf))
    all_goals try (show Nat.ble _ _ = true; rfl)
    all_goals try (exfalso; rename_i hz; cases hz; done)
    all_goals try (exfalso; (try simp only [LN] at *) <;> omega)
    all_goals first
      | ((first | (with_reducible apply Z.retF1)); (focus (exact rfl)); (repeat' (first | exact trivial | (with_reducible apply Z.frz_one) | exact rfl | apply And.intro)); (all_goals (try exact (fun _ => none))); all_goals (first | (simp_all; done)))
      | fail
  by_cases hB : B ≠ 0
  · rw [if_neg hA, if_pos hB]
    repeat' ((conv => whnf); first
      | with_reducible first | refine spB_yes (by decide) ?_
      | (with_reducible refine spB_bne ?_ ?_ <;> intro _ <;> (try (exfalso; first | contradiction | omega | (rename_i hz; refine hz ?_; simp; done) | (rename_i hz; simp at hz; done) | (simp only [LN] at *; omega))))
      | with_reducible first | refine Z.loopZ_unroll tabOk 4 ?_
      | ((with_reducible apply rowN_mk); (focus rfl))
      | ((with_reducible apply ixN_lit); (focus (exact rfl)); (focus (exact rfl)))
      | with_reducible refine wr_i64 (by first | omega | (simp only [LN] at *; omega)) ?_
      | with_reducible first | refine Z.callZ_in tabOk 18 Try.f107 _ Try.func107 (by kernel_rfl) rfl rfl rfl ?_
      | ((first | (with_reducible refine Z.conZ_mz ?_ (c1) ?_)); (focus ((repeat' (first | exact trivial | exact rfl | apply And.intro)); done)))
      | ((first | (with_reducible refine Z.conZ_mz ?_ (c2) ?_)); (focus ((repeat' (first | exact trivial | exact rfl | apply And.intro)); done)))
      | ((first | (with_reducible refine Z.conZ_mz ?_ (c3) ?_)); (focus ((repeat' (first | exact trivial | exact rfl | apply And.intro)); done)))
      | ((with_reducible apply ex_and); exact rfl)
      | with_reducible first | refine Z.drawZ_rule tabOk mixOk ?_ | refine Z.apZ_mk (by kernel_rfl) ?_
      | ((with_reducible refine Z.ConZ.red ?_); (try subst hlb); (apply Z.conZ_all); (focus (repeat (first | exact Z.FK.nil | (apply Z.FK.keep; exact rfl)))); (focus rfl); (focus rfl); (focus (repeat (first | exact trivial | (refine ⟨(fun o ho => (by first | (cases ho; rfl) | (cases ho; exact Z.inL_map fun _ => rfl) | (cases ho; exact Z.inL_mapr fun _ => rfl) | exact Z.inL_gB ho fun _ => rfl)), ?_⟩)))))
      | ((refine ⟨rfl, ?_, rfl⟩); (focus (repeat (first | exact Z.DK.nil))))
      | fail)
    all_goals (try (conv => whnf))
    all_goals try (show Nat.ble _ _ = true; rfl)
    all_goals try (exfalso; rename_i hz; cases hz; done)
    all_goals try (exfalso; (try simp only [LN] at *) <;> omega)
    all_goals first
      | ((first | (with_reducible apply Z.retF1)); (focus (exact rfl)); (repeat' (first | exact trivial | (with_reducible apply Z.frz_one) | exact rfl | apply And.intro)); (all_goals (try exact (fun _ => none))); all_goals (first | (simp_all; done)))
      | fail
  rw [if_neg hA, if_neg hB]
  by_cases hC : C = 0
  · subst hC
    repeat' ((conv => whnf); first
      | ((with_reducible apply spB_cong); (focus (simp only [beq_self_eq_true, bne_self_eq_false, Bool.true_bne, Bool.false_bne, Bool.bne_true, Bool.bne_false, Bool.true_beq, Bool.false_beq, Bool.not_true, Bool.not_false, Bool.not_not, Int.reduceBEq, Int.reduceBNe, Int.reduceLE, Int.reduceLT, Int.reduceEq, decide_true, decide_false]; rfl)))
      | with_reducible first | refine spB_yes (by decide) ?_ | refine spB_no (by decide) ?_
      | (with_reducible refine spB_bne ?_ ?_ <;> intro _ <;> (try (exfalso; first | contradiction | omega | (rename_i hz; refine hz ?_; simp; done) | (rename_i hz; simp at hz; done) | (simp only [LN] at *; omega))))
      | with_reducible first | refine Z.loopZ_unroll tabOk 4 ?_
      | ((with_reducible apply rowN_mk); (focus rfl))
      | ((with_reducible apply ixN_lit); (focus (exact rfl)); (focus (exact rfl)))
      | with_reducible refine wr_i64 (by first | omega | (simp only [LN] at *; omega)) ?_
      | with_reducible first | refine Z.callZ_in tabOk 18 Try.f107 _ Try.func107 (by kernel_rfl) rfl rfl rfl ?_
      | ((first | (with_reducible refine Z.conZ_mz ?_ (c1) ?_)); (focus ((repeat' (first | exact trivial | exact rfl | apply And.intro)); done)))
      | ((first | (with_reducible refine Z.conZ_mz ?_ (c2) ?_)); (focus ((repeat' (first | exact trivial | exact rfl | apply And.intro)); done)))
      | ((first | (with_reducible refine Z.conZ_mz ?_ (c3) ?_)); (focus ((repeat' (first | exact trivial | exact rfl | apply And.intro)); done)))
      | ((with_reducible apply ex_and); exact rfl)
      | with_reducible first | refine Z.drawZ_rule tabOk mixOk ?_ | refine Z.apZ_mk (by kernel_rfl) ?_
      | ((with_reducible refine Z.ConZ.red ?_); (try subst hlb); (apply Z.conZ_all); (focus (repeat (first | exact Z.FK.nil | (apply Z.FK.keep; exact rfl)))); (focus rfl); (focus rfl); (focus (repeat (first | exact trivial | (refine ⟨(fun o ho => (by first | (cases ho; rfl) | (cases ho; exact Z.inL_map fun _ => rfl) | (cases ho; exact Z.inL_mapr fun _ => rfl) | exact Z.inL_gB ho fun _ => rfl)), ?_⟩)))))
      | ((refine ⟨rfl, ?_, rfl⟩); (focus (repeat (first | exact Z.DK.nil))))
      | fail)
    all_goals (try (conv => whnf))
    all_goals try (show Nat.ble _ _ = true; rfl)
    all_goals try (exfalso; rename_i hz; cases hz; done)
    all_goals try (exfalso; (try simp only [LN] at *) <;> omega)
    all_goals first
      | ((first | (with_reducible apply Z.retF1)); (focus (exact rfl)); (repeat' (first | exact trivial | (with_reducible apply Z.frz_one) | (with_reducible apply Z.fq_int) | exact rfl | apply And.intro)); (all_goals (try exact (fun _ => none))); all_goals (first | (simp_all; done)))
      | fail
  repeat' ((conv => whnf); first
    | with_reducible first | refine spB_yes (by decide) ?_
    | (with_reducible refine spB_bne ?_ ?_ <;> intro _ <;> (try (exfalso; first | contradiction | omega | (rename_i hz; refine hz ?_; simp; done) | (rename_i hz; simp at hz; done) | (simp only [LN] at *; omega))))
    | with_reducible first | refine Z.loopZ_unroll tabOk 4 ?_
    | ((with_reducible apply rowN_mk); (focus rfl))
    | ((with_reducible apply ixN_lit); (focus (exact rfl)); (focus (exact rfl)))
    | with_reducible refine wr_i64 (by first | omega | (simp only [LN] at *; omega)) ?_
    | with_reducible first | refine Z.callZ_in tabOk 18 Try.f107 _ Try.func107 (by kernel_rfl) rfl rfl rfl ?_
    | ((first | (with_reducible refine Z.conZ_mz ?_ (c1) ?_)); (focus ((repeat' (first | exact trivial | exact rfl | apply And.intro)); done)))
    | ((first | (with_reducible refine Z.conZ_mz ?_ (c2) ?_)); (focus ((repeat' (first | exact trivial | exact rfl | apply And.intro)); done)))
    | ((first | (with_reducible refine Z.conZ_mz ?_ (c3) ?_)); (focus ((repeat' (first | exact trivial | exact rfl | apply And.intro)); done)))
    | ((with_reducible apply ex_and); exact rfl)
    | with_reducible first | refine Z.drawZ_rule tabOk mixOk ?_ | refine Z.apZ_mk (by kernel_rfl) ?_
    | ((with_reducible refine Z.ConZ.red ?_); (try subst hlb); (apply Z.conZ_all); (focus (repeat (first | exact Z.FK.nil | (apply Z.FK.keep; exact rfl)))); (focus rfl); (focus rfl); (focus (repeat (first | exact trivial | (refine ⟨(fun o ho => (by first | (cases ho; rfl) | (cases ho; exact Z.inL_map fun _ => rfl) | (cases ho; exact Z.inL_mapr fun _ => rfl) | exact Z.inL_gB ho fun _ => rfl)), ?_⟩)))))
    | ((refine ⟨rfl, ?_, rfl⟩); (focus (repeat (first | exact Z.DK.nil))))
    | fail)
  all_goals (try (conv => whnf))
  all_goals try (show Nat.ble _ _ = true; rfl)
  all_goals try (exfalso; rename_i hz; cases hz; done)
  all_goals try (exfalso; (try simp only [LN] at *) <;> omega)
  all_goals first
    | ((first | (with_reducible apply Z.retF1)); (focus (exact rfl)); (repeat' (first | exact trivial | (with_reducible apply Z.frz_one) | exact rfl | apply And.intro)); (all_goals (try exact (fun _ => none))); all_goals (first | (simp_all; done)))
    | fail
theorem nless_con (x y : Nm)  : Con Try.prog 77 [.agg [.v (.int .i64 x.s), .v (.int .i64 x.a), .v (.int .i64 x.n)], .agg [.v (.int .i64 y.s), .v (.int .i64 y.a), .v (.int .i64 y.n)]] (fun rx rK rt => rx = .val (.bool (decide (nLt x y))) ∧ rK = [] ∧ rt = 0) := by
  refine Z.con_ofF tabOk 32 Try.f77 _ Try.func77 (by kernel_rfl) rfl rfl rfl rfl ?_
  repeat' ((conv => whnf); first
    | (with_reducible refine spB_bne ?_ ?_ <;> intro _ <;> (try (exfalso; first | contradiction | omega | (rename_i hz; refine hz ?_; simp; done) | (rename_i hz; simp at hz; done) | (simp only [LN] at *; omega))))
    | fail)
  all_goals (try (conv => whnf))
  all_goals try (show Nat.ble _ _ = true; rfl)
  all_goals try (exfalso; rename_i hz; cases hz; done)
  all_goals try (exfalso; (try simp only [LN] at *) <;> omega)
  all_goals first
    | ((first | (with_reducible apply Z.retF1)); (focus (exact rfl)); (repeat' (first | exact trivial | (with_reducible apply Z.frz_one) | (with_reducible apply Z.fq_bool) | apply And.intro)); (all_goals (try exact (fun _ => none))); all_goals (first | exact bool_p (by unfold nLt; omega)))
    | fail
end Go.Proofs.Ytopieffkpdlpbaa
namespace Go.Proofs.Ytopieffkpdlpbaa
open Go Go.RowKit Wx
set_option linter.unusedVariables false
set_option linter.unusedSimpArgs false
set_option maxHeartbeats 4000000
theorem namesok_con (l : List Nm) (hl : l.length ≤ 9223372036854775807) : Con Try.prog 44 [.one (.ro false 3 (l.map eN))] (fun rx rK rt => rx = .val (.bool (namesR l)) ∧ rK = [] ∧ rt = 0) := by
  refine Z.con_ofF tabOk 33 Try.f44 _ Try.func44 (by kernel_rfl) rfl rfl rfl rfl ?_
  unfold namesR
  by_cases hc : l.length ≤ 24
  rotate_left
  · rw [decide_eq_false hc, Bool.false_and]
    repeat' ((conv => whnf); first
      | (with_reducible refine spB_dec ?_ ?_ <;> intro _ <;> (try (exfalso; first | contradiction | omega | (rename_i hz; refine hz ?_; simp; done) | (rename_i hz; simp at hz; done) | (simp only [LN] at *; omega))))
      | fail)
    all_goals (try (conv => whnf))
    all_goals try (show Nat.ble _ _ = true; rfl)
    all_goals try (exfalso; rename_i hz; cases hz; done)
    all_goals try (exfalso; (try simp only [LN] at *) <;> omega)
    all_goals first
      | ((first | (with_reducible apply Z.retF1)); (focus (exact rfl)); (repeat' (first | exact trivial | (with_reducible apply Z.frz_one) | (with_reducible apply Z.fq_bool) | exact rfl | apply And.intro)); (all_goals (try exact (fun _ => none))); all_goals (first | (simp; done)))
      | fail
  rw [decide_eq_true hc, Bool.true_and]
  repeat' ((conv => whnf); first
    | (with_reducible refine spB_dec ?_ ?_ <;> intro _ <;> (try (exfalso; first | contradiction | omega | (rename_i hz; refine hz ?_; simp; done) | (rename_i hz; simp at hz; done) | (simp only [LN] at *; omega))))
    | fail)
  all_goals (try (conv => whnf))
  all_goals try (show Nat.ble _ _ = true; rfl)
  all_goals try (exfalso; rename_i hz; cases hz; done)
  all_goals try (exfalso; (try simp only [LN] at *) <;> omega)
  refine Z.loopK tabOk (fun zq : Nat => [(10, .val (.int .i64 (zq : Int)))]) (fun zq : Nat => ([] : Z.Kr)) (fun zq => zq ≤ l.length ∧ nOk none l = nOk (nPrev l zq) (l.drop zq)) (fun zq => l.length - zq) 0 0 [(0, _), (8, _), (9, _)] ⟨rfl, rfl, rfl, trivial⟩ [] trivial ?_ ?_ rfl rfl ⟨Nat.zero_le _, rfl⟩ ?_
  · repeat' (first | exact trivial | apply And.intro | exact ⟨_, rfl, Z.Imp.refl _⟩)
  · repeat' (first | exact trivial)
  rintro i HINV
  (try dsimp only at HINV); (try dsimp only)
  obtain ⟨HI, HT⟩ := HINV
  by_cases hi : i < l.length
  · obtain ⟨x, hx⟩ := getElem?_some' (xs := l) (i := i) hi
    rw [nOk_at hx] at HT
    have ck := cname_con x
    cases hk : nmOk x
    · rw [hk] at ck HT
      simp only [Bool.false_and] at HT
      try simp only [cond_false] at ck
      rw [HT]
      repeat' ((conv => whnf); first
        | with_reducible first | refine spB_t ?_
        | ((with_reducible apply spB_cong); (focus (simp only [beq_self_eq_true, bne_self_eq_false, Bool.true_bne, Bool.false_bne, Bool.bne_true, Bool.bne_false, Bool.true_beq, Bool.false_beq, Bool.not_true, Bool.not_false, Bool.not_not, Int.reduceBEq, Int.reduceBNe, Int.reduceLE, Int.reduceLT, Int.reduceEq, decide_true, decide_false]; rfl)))
        | (with_reducible refine spB_dec ?_ ?_ <;> intro _ <;> (try (exfalso; first | contradiction | omega | (rename_i hz; refine hz ?_; simp; done) | (rename_i hz; simp at hz; done) | (simp only [LN] at *; omega))))
        | with_reducible first | refine Z.rowN_known hx ?_
        | ((with_reducible apply ixN_litp); (focus (exact rfl)); (focus ((try simp only [LN] at *) <;> omega)))
        | ((first | (with_reducible refine Z.conZ_mz ?_ (ck) ?_)); (focus ((repeat' (first | exact trivial | exact rfl | apply And.intro)); done)))
        | with_reducible first | refine Z.drawZ_rule tabOk mixOk ?_ | refine Z.apZ_mk (by kernel_rfl) ?_
        | fail)
      all_goals (try (conv => whnf))
      all_goals try (show Nat.ble _ _ = true; rfl)
      all_goals try (exfalso; rename_i hz; cases hz; done)
      all_goals try (exfalso; (try simp only [LN] at *) <;> omega)
      all_goals first
        | ((first | (with_reducible apply Z.retF1)); (focus (exact rfl)); (repeat' (first | exact trivial | (with_reducible apply Z.frz_one) | (with_reducible apply Z.fq_bool) | exact rfl | apply And.intro)); (all_goals (try exact (fun _ => none))); all_goals (first | (simp; done)))
        | fail
    rw [hk] at ck HT
    simp only [Bool.true_and] at HT
    try simp only [cond_true] at ck
    rcases i with _ | j
    · have HT2 : nOk none l = nOk (nPrev l 1) (l.drop 1) := by rw [HT]; rfl
      repeat' ((conv => whnf); first
        | ((with_reducible apply spB_cong); (focus (simp only [beq_self_eq_true, bne_self_eq_false, Bool.true_bne, Bool.false_bne, Bool.bne_true, Bool.bne_false, Bool.true_beq, Bool.false_beq, Bool.not_true, Bool.not_false, Bool.not_not, Int.reduceBEq, Int.reduceBNe, Int.reduceLE, Int.reduceLT, Int.reduceEq, decide_true, decide_false]; rfl)))
        | with_reducible first | refine spB_no (by decide) ?_
        | (with_reducible refine spB_dec ?_ ?_ <;> intro _ <;> (try (exfalso; first | contradiction | omega | (rename_i hz; refine hz ?_; simp; done) | (rename_i hz; simp at hz; done) | (simp only [LN] at *; omega))))
        | with_reducible first | refine Z.rowN_known hx ?_
        | ((with_reducible apply ixN_litp); (focus (exact rfl)); (focus ((try simp only [LN] at *) <;> omega)))
        | with_reducible refine wr_i64 (by first | omega | (simp only [LN] at *; omega)) ?_
        | ((first | (with_reducible refine Z.conZ_mz ?_ (ck) ?_)); (focus ((repeat' (first | exact trivial | exact rfl | apply And.intro)); done)))
        | with_reducible first | refine Z.drawZ_rule tabOk mixOk ?_ | refine Z.apZ_mk (by kernel_rfl) ?_
        | fail)
      all_goals (try (conv => whnf))
      all_goals try (show Nat.ble _ _ = true; rfl)
      all_goals try (exfalso; rename_i hz; cases hz; done)
      all_goals try (exfalso; (try simp only [LN] at *) <;> omega)
      all_goals first
        | ((refine Z.rndK (1) (fun s => []) rfl rfl rfl rfl ?_ ?_ ?_ ?_); (focus (repeat' (first | exact trivial | exact rfl | apply And.intro))); (focus (repeat' (first | exact trivial))); (focus (exact ⟨by (try dsimp only); omega, HT2⟩)); ((try dsimp only); omega))
        | fail
    obtain ⟨q, hq⟩ := getElem?_some' (xs := l) (i := j) (by omega)
    have hpr : nPrev l (j + 1) = some q := hq
    rw [hpr] at HT
    simp only at HT
    have cc := ncmp_con q x
    have hcl := nC_lt q x
    generalize nC q x = C at *
    by_cases hlt : nLt q x
    · rw [decide_eq_true hlt] at HT hcl
      have hC : ¬ 0 ≤ C := of_decide_eq_false (by simpa using hcl)
      rw [Bool.true_and] at HT
      repeat' ((conv => whnf); first
        | with_reducible first | refine spB_t ?_
        | ((with_reducible apply spB_cong); (focus (simp only [beq_self_eq_true, bne_self_eq_false, Bool.true_bne, Bool.false_bne, Bool.bne_true, Bool.bne_false, Bool.true_beq, Bool.false_beq, Bool.not_true, Bool.not_false, Bool.not_not, Int.reduceBEq, Int.reduceBNe, Int.reduceLE, Int.reduceLT, Int.reduceEq, decide_true, decide_false]; rfl)))
        | with_reducible first | refine spB_no (by decide) ?_
        | (with_reducible refine spB_dec ?_ ?_ <;> intro _ <;> (try (exfalso; first | contradiction | omega | (rename_i hz; refine hz ?_; simp; done) | (rename_i hz; simp at hz; done) | (simp only [LN] at *; omega))))
        | with_reducible first | refine Z.rowN_known hx ?_ | refine Z.rowN_known hq ?_
        | ((with_reducible refine ixN_mk (j) ?_ ?_ ?_); (focus (first | ((try simp only [LN] at *) <;> omega))); (focus ((try simp only [LN] at *) <;> omega)))
        | ((with_reducible apply ixN_litp); (focus (exact rfl)); (focus ((try simp only [LN] at *) <;> omega)))
        | with_reducible refine wr_i64 (by first | omega | (simp only [LN] at *; omega)) ?_
        | ((first | (with_reducible refine Z.conZ_mz ?_ (ck) ?_) | (with_reducible refine Z.conZ_mz ?_ (cc) ?_)); (focus ((repeat' (first | exact trivial | exact rfl | apply And.intro)); done)))
        | with_reducible first | refine Z.drawZ_rule tabOk mixOk ?_ | refine Z.apZ_mk (by kernel_rfl) ?_
        | fail)
      all_goals (try (conv => whnf))
      all_goals try (show Nat.ble _ _ = true; rfl)
      all_goals try (exfalso; rename_i hz; cases hz; done)
      all_goals try (exfalso; (try simp only [LN] at *) <;> omega)
      all_goals first
        | ((refine Z.rndK ((j + 1 + 1)) (fun s => []) rfl rfl rfl rfl ?_ ?_ ?_ ?_); (focus (repeat' (first | exact trivial | exact rfl | apply And.intro))); (focus (repeat' (first | exact trivial))); (focus (exact ⟨by (try dsimp only); omega, HT⟩)); ((try dsimp only); omega))
        | fail
    · rw [decide_eq_false hlt] at HT hcl
      have hC : 0 ≤ C := of_decide_eq_true (by simpa using hcl)
      rw [Bool.false_and] at HT
      rw [HT]
      repeat' ((conv => whnf); first
        | with_reducible first | refine spB_t ?_
        | ((with_reducible apply spB_cong); (focus (simp only [beq_self_eq_true, bne_self_eq_false, Bool.true_bne, Bool.false_bne, Bool.bne_true, Bool.bne_false, Bool.true_beq, Bool.false_beq, Bool.not_true, Bool.not_false, Bool.not_not, Int.reduceBEq, Int.reduceBNe, Int.reduceLE, Int.reduceLT, Int.reduceEq, decide_true, decide_false]; rfl)))
        | with_reducible first | refine spB_no (by decide) ?_
        | (with_reducible refine spB_dec ?_ ?_ <;> intro _ <;> (try (exfalso; first | contradiction | omega | (rename_i hz; refine hz ?_; simp; done) | (rename_i hz; simp at hz; done) | (simp only [LN] at *; omega))))
        | with_reducible first | refine Z.rowN_known hx ?_ | refine Z.rowN_known hq ?_
        | ((with_reducible refine ixN_mk (j) ?_ ?_ ?_); (focus (first | ((try simp only [LN] at *) <;> omega))); (focus ((try simp only [LN] at *) <;> omega)))
        | ((with_reducible apply ixN_litp); (focus (exact rfl)); (focus ((try simp only [LN] at *) <;> omega)))
        | with_reducible refine wr_i64 (by first | omega | (simp only [LN] at *; omega)) ?_
        | ((first | (with_reducible refine Z.conZ_mz ?_ (ck) ?_) | (with_reducible refine Z.conZ_mz ?_ (cc) ?_)); (focus ((repeat' (first | exact trivial | exact rfl | apply And.intro)); done)))
        | with_reducible first | refine Z.drawZ_rule tabOk mixOk ?_ | refine Z.apZ_mk (by kernel_rfl) ?_
        | fail)
      all_goals (try (conv => whnf))
      all_goals try (show Nat.ble _ _ = true; rfl)
      all_goals try (exfalso; rename_i hz; cases hz; done)
      all_goals try (exfalso; (try simp only [LN] at *) <;> omega)
      all_goals first
        | ((first | (with_reducible apply Z.retF1)); (focus (exact rfl)); (repeat' (first | exact trivial | (with_reducible apply Z.frz_one) | (with_reducible apply Z.fq_bool) | exact rfl | apply And.intro)); (all_goals (try exact (fun _ => none))); all_goals (first | (simp; done)))
        | fail
  have hil : i = l.length := by omega
  subst hil
  rw [List.drop_length] at HT
  have HT3 : nOk none l = true := by rw [HT]; cases nPrev l l.length <;> rfl
  rw [HT3]
  repeat' ((conv => whnf); first
    | (with_reducible refine spB_dec ?_ ?_ <;> intro _ <;> (try (exfalso; first | contradiction | omega | (rename_i hz; refine hz ?_; simp; done) | (rename_i hz; simp at hz; done) | (simp only [LN] at *; omega))))
    | fail)
  all_goals (try (conv => whnf))
  all_goals try (show Nat.ble _ _ = true; rfl)
  all_goals try (exfalso; rename_i hz; cases hz; done)
  all_goals try (exfalso; (try simp only [LN] at *) <;> omega)
  all_goals first
    | ((first | (with_reducible apply Z.retF1)); (focus (exact rfl)); (repeat' (first | exact trivial | (with_reducible apply Z.frz_one) | (with_reducible apply Z.fq_bool) | exact rfl | apply And.intro)); (all_goals (try exact (fun _ => none))); all_goals (first | (simp; done)))
    | fail
end Go.Proofs.Ytopieffkpdlpbaa
namespace Go.Proofs.Ytopieffkpdlpbaa
open Go Go.RowKit Wx
set_option linter.unusedVariables false
set_option linter.unusedSimpArgs false
set_option maxHeartbeats 4000000
def snapR (x : Sn) : Bool := decide ((0 ≤ x.op ∧ x.op < 8) ∧ Tab.okS x.ix x.w) && (offR x.o0 x.o1 x.o2 x.o3 x.o4 x.o5 x.o6 x.o7 x.ix x.w && (namesR x.txs && (Tab.tabR x.rows && decide (Tab.partL x.rows x.ix x.w = x.rows))))
theorem maybe_con (x : Sn) (hr : x.rows.length ≤ 1000) (ht : x.txs.length ≤ 9223372036854775807) : Con Try.prog 48 [.agg [.v (.int .i64 x.op), .v (.int .i64 x.ix), .v (.int .i64 x.w), .v (.bool x.en), .ro false 4 (x.rows.map Tab.eK), .v (.int .i64 x.o0), .v (.int .i64 x.o1), .v (.int .i64 x.o2), .v (.int .i64 x.o3), .v (.int .i64 x.o4), .v (.int .i64 x.o5), .v (.int .i64 x.o6), .v (.int .i64 x.o7), .ro false 3 (x.txs.map eN)]] (fun rx rK rt => rx = .val (.bool (snapR x)) ∧ rK = [] ∧ rt = 0) := by
  refine Z.con_ofF tabOk 51 Try.f48 _ Try.func48 (by kernel_rfl) rfl rfl rfl rfl ?_
  unfold snapR
  by_cases ho : 0 ≤ x.op ∧ x.op < 8
  rotate_left
  · rw [decide_eq_false (fun h => ho h.1), Bool.false_and]
    repeat' ((conv => whnf); first
      | with_reducible first | refine spB_t ?_
      | ((with_reducible apply spB_cong); (focus (simp only [beq_self_eq_true, bne_self_eq_false, Bool.true_bne, Bool.false_bne, Bool.bne_true, Bool.bne_false, Bool.true_beq, Bool.false_beq, Bool.not_true, Bool.not_false, Bool.not_not, Int.reduceBEq, Int.reduceBNe, Int.reduceLE, Int.reduceLT, Int.reduceEq, decide_true, decide_false]; rfl)))
      | with_reducible first | refine spB_no (by decide) ?_ | refine spB_not ?_
      | (with_reducible refine spB_dec ?_ ?_ <;> intro _ <;> (try (exfalso; first | contradiction | omega | (rename_i hz; refine hz ?_; simp; done) | (rename_i hz; simp at hz; done) | (simp only [LN] at *; omega))))
      | with_reducible first | refine Z.callZ_in tabOk 9 Try.f31 _ Try.func31 (by kernel_rfl) rfl rfl rfl ?_
      | ((with_reducible apply ex_and); exact rfl)
      | fail)
    all_goals (try (conv => whnf))
    all_goals try (show Nat.ble _ _ = true; rfl)
    all_goals try (exfalso; rename_i hz; cases hz; done)
    all_goals try (exfalso; (try simp only [LN] at *) <;> omega)
    all_goals first
      | ((first | (with_reducible apply Z.retF1)); (focus (exact rfl)); (repeat' (first | exact trivial | (with_reducible apply Z.frz_one) | (with_reducible apply Z.fq_bool) | exact rfl | apply And.intro)); (all_goals (try exact (fun _ => none))); all_goals (first | (simp; done)))
      | fail
  by_cases hs : Tab.okS x.ix x.w
  rotate_left
  · have cow := Tab.owned_bad x.ix x.w hs
    rw [decide_eq_false (fun h => hs h.2), Bool.false_and]
    repeat' ((conv => whnf); first
      | with_reducible first | refine spB_t ?_
      | ((with_reducible apply spB_cong); (focus (simp only [beq_self_eq_true, bne_self_eq_false, Bool.true_bne, Bool.false_bne, Bool.bne_true, Bool.bne_false, Bool.true_beq, Bool.false_beq, Bool.not_true, Bool.not_false, Bool.not_not, Int.reduceBEq, Int.reduceBNe, Int.reduceLE, Int.reduceLT, Int.reduceEq, decide_true, decide_false]; rfl)))
      | with_reducible first | refine spB_no (by decide) ?_ | refine spB_not ?_
      | (with_reducible refine spB_dec ?_ ?_ <;> intro _ <;> (try (exfalso; first | contradiction | omega | (rename_i hz; refine hz ?_; simp; done) | (rename_i hz; simp at hz; done) | (simp only [LN] at *; omega))))
      | with_reducible first | refine Z.callZ_in tabOk 9 Try.f31 _ Try.func31 (by kernel_rfl) rfl rfl rfl ?_ | refine Z.callZ_in tabOk 15 Try.f32 _ Try.func32 (by kernel_rfl) rfl rfl rfl ?_
      | ((first | (with_reducible refine Z.callZ_mk ?_ (cow) ?_)); (focus ((repeat' (first | exact trivial | exact rfl | apply And.intro)); done)))
      | ((with_reducible apply ex_and); exact rfl)
      | fail)
    all_goals (try (conv => whnf))
    all_goals try (show Nat.ble _ _ = true; rfl)
    all_goals try (exfalso; rename_i hz; cases hz; done)
    all_goals try (exfalso; (try simp only [LN] at *) <;> omega)
    all_goals first
      | ((first | (with_reducible apply Z.retF1)); (focus (exact rfl)); (repeat' (first | exact trivial | (with_reducible apply Z.frz_one) | (with_reducible apply Z.fq_bool) | exact rfl | apply And.intro)); (all_goals (try exact (fun _ => none))); all_goals (first | (simp; done)))
      | fail
  obtain ⟨L, cow⟩ := Tab.owned_ok x.ix x.w hs
  rw [decide_eq_true ⟨ho, hs⟩, Bool.true_and]
  have cof := areoff_con x.o0 x.o1 x.o2 x.o3 x.o4 x.o5 x.o6 x.o7 x.ix x.w hs
  cases hof : offR x.o0 x.o1 x.o2 x.o3 x.o4 x.o5 x.o6 x.o7 x.ix x.w
  all_goals rw [hof] at cof
  · rw [Bool.false_and]
    repeat' ((conv => whnf); first
      | with_reducible first | refine spB_t ?_
      | ((with_reducible apply spB_cong); (focus (simp only [beq_self_eq_true, bne_self_eq_false, Bool.true_bne, Bool.false_bne, Bool.bne_true, Bool.bne_false, Bool.true_beq, Bool.false_beq, Bool.not_true, Bool.not_false, Bool.not_not, Int.reduceBEq, Int.reduceBNe, Int.reduceLE, Int.reduceLT, Int.reduceEq, decide_true, decide_false]; rfl)))
      | with_reducible first | refine spB_no (by decide) ?_ | refine spB_not ?_
      | (with_reducible refine spB_dec ?_ ?_ <;> intro _ <;> (try (exfalso; first | contradiction | omega | (rename_i hz; refine hz ?_; simp; done) | (rename_i hz; simp at hz; done) | (simp only [LN] at *; omega))))
      | with_reducible first | refine Z.callZ_in tabOk 9 Try.f31 _ Try.func31 (by kernel_rfl) rfl rfl rfl ?_ | refine Z.callZ_in tabOk 15 Try.f32 _ Try.func32 (by kernel_rfl) rfl rfl rfl ?_
      | ((first | (with_reducible refine Z.callZ_mk ?_ (cof) ?_) | (with_reducible refine Z.callZ_mk ?_ (cow) ?_)); (focus ((repeat' (first | exact trivial | exact rfl | apply And.intro)); done)))
      | ((with_reducible apply ex_and); exact rfl)
      | fail)
    all_goals (try (conv => whnf))
    all_goals try (show Nat.ble _ _ = true; rfl)
    all_goals try (exfalso; rename_i hz; cases hz; done)
    all_goals try (exfalso; (try simp only [LN] at *) <;> omega)
    all_goals first
      | ((first | (with_reducible apply Z.retF1)); (focus (exact rfl)); (repeat' (first | exact trivial | (with_reducible apply Z.frz_one) | (with_reducible apply Z.fq_bool) | exact rfl | apply And.intro)); (all_goals (try exact (fun _ => none))); all_goals (first | (simp; done)))
      | fail
  rw [Bool.true_and]
  have cnm := namesok_con x.txs ht
  cases hnm : namesR x.txs
  all_goals rw [hnm] at cnm
  · rw [Bool.false_and]
    repeat' ((conv => whnf); first
      | with_reducible first | refine spB_t ?_
      | ((with_reducible apply spB_cong); (focus (simp only [beq_self_eq_true, bne_self_eq_false, Bool.true_bne, Bool.false_bne, Bool.bne_true, Bool.bne_false, Bool.true_beq, Bool.false_beq, Bool.not_true, Bool.not_false, Bool.not_not, Int.reduceBEq, Int.reduceBNe, Int.reduceLE, Int.reduceLT, Int.reduceEq, decide_true, decide_false]; rfl)))
      | with_reducible first | refine spB_no (by decide) ?_ | refine spB_not ?_
      | (with_reducible refine spB_dec ?_ ?_ <;> intro _ <;> (try (exfalso; first | contradiction | omega | (rename_i hz; refine hz ?_; simp; done) | (rename_i hz; simp at hz; done) | (simp only [LN] at *; omega))))
      | with_reducible first | refine Z.callZ_in tabOk 9 Try.f31 _ Try.func31 (by kernel_rfl) rfl rfl rfl ?_ | refine Z.callZ_in tabOk 15 Try.f32 _ Try.func32 (by kernel_rfl) rfl rfl rfl ?_
      | ((first | (with_reducible refine Z.callZ_mk ?_ (cnm) ?_) | (with_reducible refine Z.callZ_mk ?_ (cof) ?_) | (with_reducible refine Z.callZ_mk ?_ (cow) ?_)); (focus ((repeat' (first | exact trivial | exact rfl | apply And.intro)); done)))
      | ((with_reducible apply ex_and); exact rfl)
      | fail)
    all_goals (try (conv => whnf))
    all_goals try (show Nat.ble _ _ = true; rfl)
    all_goals try (exfalso; rename_i hz; cases hz; done)
    all_goals try (exfalso; (try simp only [LN] at *) <;> omega)
    all_goals first
      | ((first | (with_reducible apply Z.retF1)); (focus (exact rfl)); (repeat' (first | exact trivial | (with_reducible apply Z.frz_one) | (with_reducible apply Z.fq_bool) | exact rfl | apply And.intro)); (all_goals (try exact (fun _ => none))); all_goals (first | (simp; done)))
      | fail
  rw [Bool.true_and]
  have cpa := Tab.tpart_con x.rows x.ix x.w hr
  unfold Tab.partT at cpa
  cases htb : Tab.tabR x.rows
  all_goals rw [htb] at cpa
  · rw [if_pos rfl] at cpa
    rw [Bool.false_and]
    repeat' ((conv => whnf); first
      | with_reducible first | refine spB_t ?_
      | ((with_reducible apply spB_cong); (focus (simp only [beq_self_eq_true, bne_self_eq_false, Bool.true_bne, Bool.false_bne, Bool.bne_true, Bool.bne_false, Bool.true_beq, Bool.false_beq, Bool.not_true, Bool.not_false, Bool.not_not, Int.reduceBEq, Int.reduceBNe, Int.reduceLE, Int.reduceLT, Int.reduceEq, decide_true, decide_false]; rfl)))
      | with_reducible first | refine spB_no (by decide) ?_ | refine spB_not ?_
      | (with_reducible refine spB_dec ?_ ?_ <;> intro _ <;> (try (exfalso; first | contradiction | omega | (rename_i hz; refine hz ?_; simp; done) | (rename_i hz; simp at hz; done) | (simp only [LN] at *; omega))))
      | with_reducible first | refine Z.callZ_in tabOk 9 Try.f31 _ Try.func31 (by kernel_rfl) rfl rfl rfl ?_ | refine Z.callZ_in tabOk 15 Try.f32 _ Try.func32 (by kernel_rfl) rfl rfl rfl ?_
      | ((first | (with_reducible refine Z.callZ_mk ?_ (cnm) ?_) | (with_reducible refine Z.callZ_mk ?_ (cof) ?_) | (with_reducible refine Z.callZ_mk ?_ (cpa) ?_) | (with_reducible refine Z.callZ_mk ?_ (cow) ?_)); (focus ((repeat' (first | exact trivial | exact rfl | apply And.intro)); done)))
      | ((with_reducible apply ex_and); exact rfl)
      | fail)
    all_goals (try (conv => whnf))
    all_goals try (show Nat.ble _ _ = true; rfl)
    all_goals try (exfalso; rename_i hz; cases hz; done)
    all_goals try (exfalso; (try simp only [LN] at *) <;> omega)
    all_goals first
      | ((first | (with_reducible apply Z.retF1)); (focus (exact rfl)); (repeat' (first | exact trivial | (with_reducible apply Z.frz_one) | (with_reducible apply Z.fq_bool) | exact rfl | apply And.intro)); (all_goals (try exact (fun _ => none))); all_goals (first | (simp; done)))
      | fail
  rw [if_neg (by decide), if_pos hs] at cpa
  dsimp only at cpa
  rw [Bool.true_and]
  have hpl := @Tab.part_len x.rows x.ix x.w
  have cs := Tab.same_con (Tab.partL x.rows x.ix x.w) x.rows (by omega)
  generalize Tab.partL x.rows x.ix x.w = Q at *
  generalize decide (Q = x.rows) = B at *
  repeat' ((conv => whnf); first
    | with_reducible first | refine spB_t ?_
    | ((with_reducible apply spB_cong); (focus (simp only [beq_self_eq_true, bne_self_eq_false, Bool.true_bne, Bool.false_bne, Bool.bne_true, Bool.bne_false, Bool.true_beq, Bool.false_beq, Bool.not_true, Bool.not_false, Bool.not_not, Int.reduceBEq, Int.reduceBNe, Int.reduceLE, Int.reduceLT, Int.reduceEq, decide_true, decide_false]; rfl)))
    | with_reducible first | refine spB_no (by decide) ?_ | refine spB_not ?_
    | (with_reducible refine spB_dec ?_ ?_ <;> intro _ <;> (try (exfalso; first | contradiction | omega | (rename_i hz; refine hz ?_; simp; done) | (rename_i hz; simp at hz; done) | (simp only [LN] at *; omega))))
    | with_reducible first | refine Z.callZ_in tabOk 9 Try.f31 _ Try.func31 (by kernel_rfl) rfl rfl rfl ?_ | refine Z.callZ_in tabOk 15 Try.f32 _ Try.func32 (by kernel_rfl) rfl rfl rfl ?_
    | ((first | (with_reducible refine Z.callZ_mk ?_ (cnm) ?_) | (with_reducible refine Z.callZ_mk ?_ (cs) ?_) | (with_reducible refine Z.callZ_mk ?_ (cof) ?_) | (with_reducible refine Z.callZ_mk ?_ (cpa) ?_) | (with_reducible refine Z.callZ_mk ?_ (cow) ?_)); (focus ((repeat' (first | exact trivial | exact rfl | apply And.intro)); done)))
    | ((with_reducible apply ex_and); exact rfl)
    | fail)
  all_goals (try (conv => whnf))
  all_goals try (show Nat.ble _ _ = true; rfl)
  all_goals try (exfalso; rename_i hz; cases hz; done)
  all_goals try (exfalso; (try simp only [LN] at *) <;> omega)
  all_goals first
    | ((first | (with_reducible apply Z.retF1)); (focus (exact rfl)); (repeat' (first | exact trivial | exact rfl | apply And.intro)); (all_goals (try exact (fun _ => none))); all_goals (first | (simp; done)))
    | fail
end Go.Proofs.Ytopieffkpdlpbaa
namespace Go.Proofs.Ytopieffkpdlpbaa
open Go Go.RowKit Wx
set_option linter.unusedVariables false
set_option linter.unusedSimpArgs false
set_option maxHeartbeats 4000000
def own1 (g i w o : Int) : Int := if Tab.ownG g w = i then o else 0
def partS (x : Sn) (i w : Int) : Sn := ⟨x.op, i, w, x.en, Tab.partL x.rows i w, own1 0 i w x.o0, own1 1 i w x.o1, own1 2 i w x.o2, own1 3 i w x.o3, own1 4 i w x.o4, own1 5 i w x.o5, own1 6 i w x.o6, own1 7 i w x.o7, []⟩
def zeroS : Sn := ⟨0, 0, 0, false, [], 0, 0, 0, 0, 0, 0, 0, 0, []⟩
def partE (x : Sn) (i w : Int) : Sn × Int := if snapR x = false then (zeroS, 280) else if x.w ≠ 1 then (zeroS, 281) else if Tab.okS i w then (partS x i w, 0) else (zeroS, 2)
theorem partE_len {x : Sn} {i w : Int} (h : x.rows.length ≤ 1000) : (partE x i w).1.rows.length ≤ 1000 ∧ (partE x i w).1.txs = [] := by
  have hp := @Tab.part_len x.rows i w
  unfold partE
  split
  · exact ⟨Nat.zero_le _, rfl⟩
  split
  · exact ⟨Nat.zero_le _, rfl⟩
  split
  · exact ⟨by show (Tab.partL x.rows i w).length ≤ 1000; omega, rfl⟩
  · exact ⟨Nat.zero_le _, rfl⟩
theorem six {i w : Int} (h : Tab.okS i w) : (i = 0 ∧ w = 1) ∨ (i = 0 ∧ w = 2) ∨ (i = 1 ∧ w = 2) ∨ (i = 0 ∧ w = 3) ∨ (i = 1 ∧ w = 3) ∨ (i = 2 ∧ w = 3) := by unfold Tab.okS at h; omega
theorem joined_con (o0 o1 o2 o3 o4 o5 o6 o7 i w : Int) (h : Tab.okS i w) : Con Try.prog 41 [.agg [.v (.int .i64 o0), .v (.int .i64 o1), .v (.int .i64 o2), .v (.int .i64 o3), .v (.int .i64 o4), .v (.int .i64 o5), .v (.int .i64 o6), .v (.int .i64 o7)], .agg [.v (.int .i64 0), .v (.int .i64 0), .v (.int .i64 0), .v (.int .i64 0), .v (.int .i64 0), .v (.int .i64 0), .v (.int .i64 0), .v (.int .i64 0)], .one (.v (.int .i64 i)), .one (.v (.int .i64 w))] (fun rx rK rt => rx = .tup [.agg [.v (.int .i64 (own1 0 i w o0)), .v (.int .i64 (own1 1 i w o1)), .v (.int .i64 (own1 2 i w o2)), .v (.int .i64 (own1 3 i w o3)), .v (.int .i64 (own1 4 i w o4)), .v (.int .i64 (own1 5 i w o5)), .v (.int .i64 (own1 6 i w o6)), .v (.int .i64 (own1 7 i w o7))], .one (.v (.int .i64 0))] ∧ rK = [] ∧ rt = 0) := by
  rcases six h with ⟨rfl, rfl⟩ | ⟨rfl, rfl⟩ | ⟨rfl, rfl⟩ | ⟨rfl, rfl⟩ | ⟨rfl, rfl⟩ | ⟨rfl, rfl⟩
  · exact joined_0_1 o0 o1 o2 o3 o4 o5 o6 o7
  · exact joined_0_2 o0 o1 o2 o3 o4 o5 o6 o7
  · exact joined_1_2 o0 o1 o2 o3 o4 o5 o6 o7
  · exact joined_0_3 o0 o1 o2 o3 o4 o5 o6 o7
  · exact joined_1_3 o0 o1 o2 o3 o4 o5 o6 o7
  · exact joined_2_3 o0 o1 o2 o3 o4 o5 o6 o7
end Go.Proofs.Ytopieffkpdlpbaa
namespace Go.Proofs.Ytopieffkpdlpbaa
open Go Go.RowKit Wx
set_option linter.unusedVariables false
set_option linter.unusedSimpArgs false
set_option maxHeartbeats 4000000
theorem snapR_tab {x : Sn} (h : snapR x = true) : Tab.tabR x.rows = true := by
  unfold snapR at h
  simp only [Bool.and_eq_true] at h
  exact h.2.2.2.1
theorem part_no (x : Sn) (i w : Int) (hr : x.rows.length ≤ 1000) (ht : x.txs.length ≤ 9223372036854775807) (hs : snapR x = false) : Con Try.prog 21 [.agg [.v (.int .i64 x.op), .v (.int .i64 x.ix), .v (.int .i64 x.w), .v (.bool x.en), .ro false 4 (x.rows.map Tab.eK), .v (.int .i64 x.o0), .v (.int .i64 x.o1), .v (.int .i64 x.o2), .v (.int .i64 x.o3), .v (.int .i64 x.o4), .v (.int .i64 x.o5), .v (.int .i64 x.o6), .v (.int .i64 x.o7), .ro false 3 (x.txs.map eN)], .one (.v (.int .i64 i)), .one (.v (.int .i64 w))] (fun rx rK rt => rx = .tup [.agg [.v (.int .i64 zeroS.op), .v (.int .i64 zeroS.ix), .v (.int .i64 zeroS.w), .v (.bool zeroS.en), .ro true 4 (zeroS.rows.map Tab.eK), .v (.int .i64 zeroS.o0), .v (.int .i64 zeroS.o1), .v (.int .i64 zeroS.o2), .v (.int .i64 zeroS.o3), .v (.int .i64 zeroS.o4), .v (.int .i64 zeroS.o5), .v (.int .i64 zeroS.o6), .v (.int .i64 zeroS.o7), .ro true 3 (zeroS.txs.map eN)], .one (.v (.int .i64 280))] ∧ rK = [] ∧ rt = 0) := by
  refine Z.con_ofF tabOk 28 Try.f21 _ Try.func21 (by kernel_rfl) rfl rfl rfl rfl ?_
  have cm := maybe_con x hr ht
  rw [hs] at cm
  repeat' ((conv => whnf); first
    | with_reducible first | refine spB_t ?_
    | ((with_reducible apply spB_cong); (focus (simp only [beq_self_eq_true, bne_self_eq_false, Bool.true_bne, Bool.false_bne, Bool.bne_true, Bool.bne_false, Bool.true_beq, Bool.false_beq, Bool.not_true, Bool.not_false, Bool.not_not, Int.reduceBEq, Int.reduceBNe, Int.reduceLE, Int.reduceLT, Int.reduceEq, decide_true, decide_false]; rfl)))
    | ((first | (with_reducible refine Z.callZ_mk ?_ (cm) ?_)); (focus ((repeat' (first | exact trivial | exact rfl | apply And.intro)); done)))
    | fail)
  all_goals (try (conv => whnf))
  all_goals try (show Nat.ble _ _ = true; rfl)
  all_goals try (exfalso; rename_i hz; cases hz; done)
  all_goals try (exfalso; (try simp only [LN] at *) <;> omega)
  all_goals first
    | ((first | (with_reducible apply Z.retF2)); (focus (exact rfl)); (repeat' (first | exact trivial | (with_reducible apply Z.frz_one) | (with_reducible apply Z.frz_agg) | (with_reducible apply Z.fq_int) | (with_reducible apply Z.fq_bool) | (exact Z.frz_nil) | exact rfl | apply And.intro)); (all_goals (try exact (fun _ => none))); all_goals (first | (simp; done)))
    | fail
theorem part_w (x : Sn) (i w : Int) (hr : x.rows.length ≤ 1000) (ht : x.txs.length ≤ 9223372036854775807) (hs : snapR x = true) (hw : x.w ≠ 1) : Con Try.prog 21 [.agg [.v (.int .i64 x.op), .v (.int .i64 x.ix), .v (.int .i64 x.w), .v (.bool x.en), .ro false 4 (x.rows.map Tab.eK), .v (.int .i64 x.o0), .v (.int .i64 x.o1), .v (.int .i64 x.o2), .v (.int .i64 x.o3), .v (.int .i64 x.o4), .v (.int .i64 x.o5), .v (.int .i64 x.o6), .v (.int .i64 x.o7), .ro false 3 (x.txs.map eN)], .one (.v (.int .i64 i)), .one (.v (.int .i64 w))] (fun rx rK rt => rx = .tup [.agg [.v (.int .i64 zeroS.op), .v (.int .i64 zeroS.ix), .v (.int .i64 zeroS.w), .v (.bool zeroS.en), .ro true 4 (zeroS.rows.map Tab.eK), .v (.int .i64 zeroS.o0), .v (.int .i64 zeroS.o1), .v (.int .i64 zeroS.o2), .v (.int .i64 zeroS.o3), .v (.int .i64 zeroS.o4), .v (.int .i64 zeroS.o5), .v (.int .i64 zeroS.o6), .v (.int .i64 zeroS.o7), .ro true 3 (zeroS.txs.map eN)], .one (.v (.int .i64 281))] ∧ rK = [] ∧ rt = 0) := by
  refine Z.con_ofF tabOk 28 Try.f21 _ Try.func21 (by kernel_rfl) rfl rfl rfl rfl ?_
  have cm := maybe_con x hr ht
  rw [hs] at cm
  repeat' ((conv => whnf); first
    | ((with_reducible apply spB_cong); (focus (simp only [beq_self_eq_true, bne_self_eq_false, Bool.true_bne, Bool.false_bne, Bool.bne_true, Bool.bne_false, Bool.true_beq, Bool.false_beq, Bool.not_true, Bool.not_false, Bool.not_not, Int.reduceBEq, Int.reduceBNe, Int.reduceLE, Int.reduceLT, Int.reduceEq, decide_true, decide_false]; rfl)))
    | with_reducible first | refine spB_no (by decide) ?_
    | (with_reducible refine spB_bne ?_ ?_ <;> intro _ <;> (try (exfalso; first | contradiction | omega | (rename_i hz; refine hz ?_; simp; done) | (rename_i hz; simp at hz; done) | (simp only [LN] at *; omega))))
    | ((first | (with_reducible refine Z.callZ_mk ?_ (cm) ?_)); (focus ((repeat' (first | exact trivial | exact rfl | apply And.intro)); done)))
    | fail)
  all_goals (try (conv => whnf))
  all_goals try (show Nat.ble _ _ = true; rfl)
  all_goals try (exfalso; rename_i hz; cases hz; done)
  all_goals try (exfalso; (try simp only [LN] at *) <;> omega)
  all_goals first
    | ((first | (with_reducible apply Z.retF2)); (focus (exact rfl)); (repeat' (first | exact trivial | (with_reducible apply Z.frz_one) | (with_reducible apply Z.frz_agg) | (with_reducible apply Z.fq_int) | (with_reducible apply Z.fq_bool) | (exact Z.frz_nil) | exact rfl | apply And.intro)); (all_goals (try exact (fun _ => none))); all_goals (first | (simp; done)))
    | fail
theorem part_sh (x : Sn) (i w : Int) (hr : x.rows.length ≤ 1000) (ht : x.txs.length ≤ 9223372036854775807) (hs : snapR x = true) (hw : x.w = 1) (ho : ¬ Tab.okS i w) : Con Try.prog 21 [.agg [.v (.int .i64 x.op), .v (.int .i64 x.ix), .v (.int .i64 x.w), .v (.bool x.en), .ro false 4 (x.rows.map Tab.eK), .v (.int .i64 x.o0), .v (.int .i64 x.o1), .v (.int .i64 x.o2), .v (.int .i64 x.o3), .v (.int .i64 x.o4), .v (.int .i64 x.o5), .v (.int .i64 x.o6), .v (.int .i64 x.o7), .ro false 3 (x.txs.map eN)], .one (.v (.int .i64 i)), .one (.v (.int .i64 w))] (fun rx rK rt => rx = .tup [.agg [.v (.int .i64 zeroS.op), .v (.int .i64 zeroS.ix), .v (.int .i64 zeroS.w), .v (.bool zeroS.en), .ro true 4 (zeroS.rows.map Tab.eK), .v (.int .i64 zeroS.o0), .v (.int .i64 zeroS.o1), .v (.int .i64 zeroS.o2), .v (.int .i64 zeroS.o3), .v (.int .i64 zeroS.o4), .v (.int .i64 zeroS.o5), .v (.int .i64 zeroS.o6), .v (.int .i64 zeroS.o7), .ro true 3 (zeroS.txs.map eN)], .one (.v (.int .i64 2))] ∧ rK = [] ∧ rt = 0) := by
  refine Z.con_ofF tabOk 28 Try.f21 _ Try.func21 (by kernel_rfl) rfl rfl rfl rfl ?_
  have cm := maybe_con x hr ht
  rw [hs] at cm
  have cow := Tab.owned_bad i w ho
  repeat' ((conv => whnf); first
    | with_reducible first | refine spB_t ?_
    | ((with_reducible apply spB_cong); (focus (simp only [beq_self_eq_true, bne_self_eq_false, Bool.true_bne, Bool.false_bne, Bool.bne_true, Bool.bne_false, Bool.true_beq, Bool.false_beq, Bool.not_true, Bool.not_false, Bool.not_not, Int.reduceBEq, Int.reduceBNe, Int.reduceLE, Int.reduceLT, Int.reduceEq, decide_true, decide_false]; rfl)))
    | with_reducible first | refine spB_no (by decide) ?_
    | (with_reducible refine spB_bne ?_ ?_ <;> intro _ <;> (try (exfalso; first | contradiction | omega | (rename_i hz; refine hz ?_; simp; done) | (rename_i hz; simp at hz; done) | (simp only [LN] at *; omega))))
    | with_reducible first | refine Z.callZ_in tabOk 15 Try.f32 _ Try.func32 (by kernel_rfl) rfl rfl rfl ?_
    | ((first | (with_reducible refine Z.callZ_mk ?_ (cm) ?_) | (with_reducible refine Z.callZ_mk ?_ (cow) ?_)); (focus ((repeat' (first | exact trivial | exact rfl | apply And.intro)); done)))
    | ((with_reducible apply ex_and); exact rfl)
    | fail)
  all_goals (try (conv => whnf))
  all_goals try (show Nat.ble _ _ = true; rfl)
  all_goals try (exfalso; rename_i hz; cases hz; done)
  all_goals try (exfalso; (try simp only [LN] at *) <;> omega)
  all_goals first
    | ((first | (with_reducible apply Z.retF2)); (focus (exact rfl)); (repeat' (first | exact trivial | (with_reducible apply Z.frz_one) | (with_reducible apply Z.frz_agg) | (with_reducible apply Z.fq_int) | (with_reducible apply Z.fq_bool) | (exact Z.frz_nil) | exact rfl | apply And.intro)); (all_goals (try exact (fun _ => none))); all_goals (first | (simp; done)))
    | fail
theorem part_okS (x : Sn) (i w : Int) (hr : x.rows.length ≤ 1000) (ht : x.txs.length ≤ 9223372036854775807) (hs : snapR x = true) (hw : x.w = 1) (ho : Tab.okS i w) : Con Try.prog 21 [.agg [.v (.int .i64 x.op), .v (.int .i64 x.ix), .v (.int .i64 x.w), .v (.bool x.en), .ro false 4 (x.rows.map Tab.eK), .v (.int .i64 x.o0), .v (.int .i64 x.o1), .v (.int .i64 x.o2), .v (.int .i64 x.o3), .v (.int .i64 x.o4), .v (.int .i64 x.o5), .v (.int .i64 x.o6), .v (.int .i64 x.o7), .ro false 3 (x.txs.map eN)], .one (.v (.int .i64 i)), .one (.v (.int .i64 w))] (fun rx rK rt => rx = .tup [.agg [.v (.int .i64 (partS x i w).op), .v (.int .i64 (partS x i w).ix), .v (.int .i64 (partS x i w).w), .v (.bool (partS x i w).en), .ro true 4 ((partS x i w).rows.map Tab.eK), .v (.int .i64 (partS x i w).o0), .v (.int .i64 (partS x i w).o1), .v (.int .i64 (partS x i w).o2), .v (.int .i64 (partS x i w).o3), .v (.int .i64 (partS x i w).o4), .v (.int .i64 (partS x i w).o5), .v (.int .i64 (partS x i w).o6), .v (.int .i64 (partS x i w).o7), .ro true 3 ((partS x i w).txs.map eN)], .one (.v (.int .i64 0))] ∧ rK = [] ∧ rt = 0) := by
  refine Z.con_ofF tabOk 28 Try.f21 _ Try.func21 (by kernel_rfl) rfl rfl rfl rfl ?_
  have cm := maybe_con x hr ht
  rw [hs] at cm
  have htb : Tab.tabR x.rows = true := snapR_tab hs
  obtain ⟨L, cow⟩ := Tab.owned_ok i w ho
  have cpa := Tab.part_ok x.rows i w hr htb ho
  have cj := joined_con x.o0 x.o1 x.o2 x.o3 x.o4 x.o5 x.o6 x.o7 i w ho
  repeat' ((conv => whnf); first
    | ((with_reducible apply spB_cong); (focus (simp only [beq_self_eq_true, bne_self_eq_false, Bool.true_bne, Bool.false_bne, Bool.bne_true, Bool.bne_false, Bool.true_beq, Bool.false_beq, Bool.not_true, Bool.not_false, Bool.not_not, Int.reduceBEq, Int.reduceBNe, Int.reduceLE, Int.reduceLT, Int.reduceEq, decide_true, decide_false]; rfl)))
    | with_reducible first | refine spB_no (by decide) ?_
    | (with_reducible refine spB_bne ?_ ?_ <;> intro _ <;> (try (exfalso; first | contradiction | omega | (rename_i hz; refine hz ?_; simp; done) | (rename_i hz; simp at hz; done) | (simp only [LN] at *; omega))))
    | with_reducible first | refine Z.callZ_in tabOk 15 Try.f32 _ Try.func32 (by kernel_rfl) rfl rfl rfl ?_ | refine Z.callZ_in tabOk 30 Try.f49 _ Try.func49 (by kernel_rfl) rfl rfl rfl ?_ | refine Z.callZ_in tabOk 18 Try.f88 _ Try.func88 (by kernel_rfl) rfl rfl rfl ?_
    | ((first | (with_reducible refine Z.callZ_mk ?_ (cm) ?_) | (with_reducible refine Z.callZ_mk ?_ (cpa) ?_) | (with_reducible refine Z.callZ_mk ?_ (cj) ?_) | (with_reducible refine Z.callZ_mk ?_ (cow) ?_)); (focus ((repeat' (first | exact trivial | exact rfl | apply And.intro)); done)))
    | ((with_reducible apply ex_and); exact rfl)
    | with_reducible first | refine Z.drawZ_rule tabOk mixOk ?_ | refine Z.apZ_mk (by kernel_rfl) ?_
    | ((with_reducible refine Z.ConZ.red ?_); (try subst hlb); (apply Z.conZ_all); (focus (repeat (first | exact Z.FK.nil | (apply Z.FK.keep; exact rfl)))); (focus rfl); (focus rfl); (focus (repeat (first | exact trivial | (refine ⟨(fun o ho => (by first | (cases ho; rfl) | (cases ho; exact Z.inL_map fun _ => rfl) | (cases ho; exact Z.inL_mapr fun _ => rfl) | exact Z.inL_gB ho fun _ => rfl)), ?_⟩)))))
    | ((refine ⟨rfl, ?_, rfl⟩); (focus (repeat (first | exact Z.DK.nil | apply Z.DK.cons))))
    | fail)
  all_goals (try (conv => whnf))
  all_goals try (show Nat.ble _ _ = true; rfl)
  all_goals try (exfalso; rename_i hz; cases hz; done)
  all_goals try (exfalso; (try simp only [LN] at *) <;> omega)
  all_goals first
    | ((first | (with_reducible apply Z.retF2)); (focus (exact rfl)); (repeat' (first | exact trivial | (with_reducible apply Z.frz_one) | (with_reducible apply Z.frz_agg) | (with_reducible apply Z.fq_int) | (with_reducible apply Z.fq_bool) | (exact Z.frz_nil) | exact rfl | apply And.intro)); (all_goals (try exact (fun _ => none))); all_goals (first | (simp; done)))
    | fail
abbrev ownS (x : Sn) (i w : Int) : AV → Kr → Nat → Prop := fun rx rK rt => ∃ (cap : Option Nat) (tl : List Tab.Kc), rx = .tup [.agg [.v (.int .i64 x.op), .v (.int .i64 i), .v (.int .i64 w), .v (.bool x.en), .osl 0 0 (Tab.partL x.rows i w).length cap, .v (.int .i64 (own1 0 i w x.o0)), .v (.int .i64 (own1 1 i w x.o1)), .v (.int .i64 (own1 2 i w x.o2)), .v (.int .i64 (own1 3 i w x.o3)), .v (.int .i64 (own1 4 i w x.o4)), .v (.int .i64 (own1 5 i w x.o5)), .v (.int .i64 (own1 6 i w x.o6)), .v (.int .i64 (own1 7 i w x.o7)), .v (.slice none 0 0)], .one (.v (.int .i64 0))] ∧ rK = [(0, some ⟨(Tab.partL x.rows i w ++ tl).map Tab.cK, 4, 70, false⟩)] ∧ rt = 1
theorem part_ownS (x : Sn) (i w : Int) (hr : x.rows.length ≤ 1000) (ht : x.txs.length ≤ 9223372036854775807) (hs : snapR x = true) (hw : x.w = 1) (ho : Tab.okS i w) (hne : Tab.partL x.rows i w ≠ []) : Con Try.prog 21 [.agg [.v (.int .i64 x.op), .v (.int .i64 x.ix), .v (.int .i64 x.w), .v (.bool x.en), .ro false 4 (x.rows.map Tab.eK), .v (.int .i64 x.o0), .v (.int .i64 x.o1), .v (.int .i64 x.o2), .v (.int .i64 x.o3), .v (.int .i64 x.o4), .v (.int .i64 x.o5), .v (.int .i64 x.o6), .v (.int .i64 x.o7), .ro false 3 (x.txs.map eN)], .one (.v (.int .i64 i)), .one (.v (.int .i64 w))] (ownS x i w) := by
  refine Z.con_ofZ tabOk 28 Try.f21 _ Try.func21 (by kernel_rfl) rfl rfl rfl rfl ?_
  have cm := maybe_con x hr ht
  rw [hs] at cm
  have htb : Tab.tabR x.rows = true := snapR_tab hs
  obtain ⟨L, cow⟩ := Tab.owned_ok i w ho
  have cpo := Tab.part_own x.rows i w hr htb ho hne
  have cj := joined_con x.o0 x.o1 x.o2 x.o3 x.o4 x.o5 x.o6 x.o7 i w ho
  repeat' ((conv => whnf); first
    | ((with_reducible apply spB_cong); (focus (simp only [beq_self_eq_true, bne_self_eq_false, Bool.true_bne, Bool.false_bne, Bool.bne_true, Bool.bne_false, Bool.true_beq, Bool.false_beq, Bool.not_true, Bool.not_false, Bool.not_not, Int.reduceBEq, Int.reduceBNe, Int.reduceLE, Int.reduceLT, Int.reduceEq, decide_true, decide_false]; rfl)))
    | with_reducible first | refine spB_no (by decide) ?_
    | (with_reducible refine spB_bne ?_ ?_ <;> intro _ <;> (try (exfalso; first | contradiction | omega | (rename_i hz; refine hz ?_; simp; done) | (rename_i hz; simp at hz; done) | (simp only [LN] at *; omega))))
    | ((with_reducible refine Z.callZ_con ?_ (cpo) ?_); (focus ((repeat' (first | exact trivial | exact rfl | apply And.intro)); done)); (rintro _ _ _ ⟨cap, tl, rfl, rfl, rfl⟩))
    | with_reducible first | refine Z.callZ_in tabOk 15 Try.f32 _ Try.func32 (by kernel_rfl) rfl rfl rfl ?_ | refine Z.callZ_in tabOk 30 Try.f49 _ Try.func49 (by kernel_rfl) rfl rfl rfl ?_ | refine Z.callZ_in tabOk 18 Try.f88 _ Try.func88 (by kernel_rfl) rfl rfl rfl ?_
    | ((first | (with_reducible refine Z.callZ_mk ?_ (cm) ?_) | (with_reducible refine Z.callZ_mk ?_ (cj) ?_) | (with_reducible refine Z.callZ_mk ?_ (cow) ?_)); (focus ((repeat' (first | exact trivial | exact rfl | apply And.intro)); done)))
    | ((with_reducible apply ex_and); exact rfl)
    | with_reducible first | refine Z.drawZ_rule tabOk mixOk ?_ | refine Z.apZ_mk (by kernel_rfl) ?_
    | ((with_reducible refine Z.ConZ.red ?_); (try subst hlb); (apply Z.conZ_all); (focus (repeat (first | exact Z.FK.nil | (apply Z.FK.keep; exact rfl)))); (focus rfl); (focus rfl); (focus (repeat (first | exact trivial | (refine ⟨(fun o ho => (by first | (cases ho; rfl) | (cases ho; exact Z.inL_map fun _ => rfl) | (cases ho; exact Z.inL_mapr fun _ => rfl) | exact Z.inL_gB ho fun _ => rfl)), ?_⟩)))))
    | ((refine ⟨rfl, ?_, rfl⟩); (focus (repeat (first | exact Z.DK.nil | apply Z.DK.cons))))
    | fail)
  all_goals (try (conv => whnf))
  all_goals try (show Nat.ble _ _ = true; rfl)
  all_goals try (exfalso; rename_i hz; cases hz; done)
  all_goals try (exfalso; (try simp only [LN] at *) <;> omega)
  all_goals first
    | (refine ret1b 4 (.tup [.agg [.v (.int .i64 x.op), .v (.int .i64 i), .v (.int .i64 w), .v (.bool x.en), .osl 0 0 (Tab.partL x.rows i w).length cap, .v (.int .i64 (own1 0 i w x.o0)), .v (.int .i64 (own1 1 i w x.o1)), .v (.int .i64 (own1 2 i w x.o2)), .v (.int .i64 (own1 3 i w x.o3)), .v (.int .i64 (own1 4 i w x.o4)), .v (.int .i64 (own1 5 i w x.o5)), .v (.int .i64 (own1 6 i w x.o6)), .v (.int .i64 (own1 7 i w x.o7)), .v (.slice none 0 0)], .one (.v (.int .i64 0))]) ((Tab.partL x.rows i w ++ tl).map Tab.cK) 4 70 false _ rfl (by rfl) rfl ?_ (ren_map fun _ => rfl) rfl (own_map fun _ => rfl) ⟨cap, tl, rfl, rfl, rfl⟩; (first | exact ren_map fun _ => rfl))
    | fail
theorem spart_con (x : Sn) (i w : Int) (hr : x.rows.length ≤ 1000) (ht : x.txs.length ≤ 9223372036854775807) : Con Try.prog 21 [.agg [.v (.int .i64 x.op), .v (.int .i64 x.ix), .v (.int .i64 x.w), .v (.bool x.en), .ro false 4 (x.rows.map Tab.eK), .v (.int .i64 x.o0), .v (.int .i64 x.o1), .v (.int .i64 x.o2), .v (.int .i64 x.o3), .v (.int .i64 x.o4), .v (.int .i64 x.o5), .v (.int .i64 x.o6), .v (.int .i64 x.o7), .ro false 3 (x.txs.map eN)], .one (.v (.int .i64 i)), .one (.v (.int .i64 w))] (fun rx rK rt => rx = .tup [.agg [.v (.int .i64 (partE x i w).1.op), .v (.int .i64 (partE x i w).1.ix), .v (.int .i64 (partE x i w).1.w), .v (.bool (partE x i w).1.en), .ro true 4 ((partE x i w).1.rows.map Tab.eK), .v (.int .i64 (partE x i w).1.o0), .v (.int .i64 (partE x i w).1.o1), .v (.int .i64 (partE x i w).1.o2), .v (.int .i64 (partE x i w).1.o3), .v (.int .i64 (partE x i w).1.o4), .v (.int .i64 (partE x i w).1.o5), .v (.int .i64 (partE x i w).1.o6), .v (.int .i64 (partE x i w).1.o7), .ro true 3 ((partE x i w).1.txs.map eN)], .one (.v (.int .i64 (partE x i w).2))] ∧ rK = [] ∧ rt = 0) := by
  unfold partE
  by_cases hs : snapR x = false
  · rw [if_pos hs]; exact part_no x i w hr ht hs
  have hs2 : snapR x = true := by simpa using hs
  rw [if_neg hs]
  by_cases hw : x.w ≠ 1
  · rw [if_pos hw]; exact part_w x i w hr ht hs2 hw
  rw [if_neg hw]
  by_cases ho : Tab.okS i w
  · rw [if_pos ho]; exact part_okS x i w hr ht hs2 (by omega) ho
  · rw [if_neg ho]; exact part_sh x i w hr ht hs2 (by omega) ho
end Go.Proofs.Ytopieffkpdlpbaa
namespace Go.Proofs.Ytopieffkpdlpbaa
open Go Go.RowKit Wx
set_option linter.unusedVariables false
set_option linter.unusedSimpArgs false
set_option maxHeartbeats 4000000
theorem rown_0_0_1 : Con Try.prog 36 [.one (.v (.int .i64 0)), .one (.v (.int .i64 0)), .one (.v (.int .i64 1))] (fun rx rK rt => rx = .val (.bool true) ∧ rK = [] ∧ rt = 0) := Y.con_eval ftabOk tabOk mixOk 40 12 (by kernel_rfl) (by rfl) (by kernel_rfl)
theorem rown_0_0_2 : Con Try.prog 36 [.one (.v (.int .i64 0)), .one (.v (.int .i64 0)), .one (.v (.int .i64 2))] (fun rx rK rt => rx = .val (.bool true) ∧ rK = [] ∧ rt = 0) := Y.con_eval ftabOk tabOk mixOk 40 12 (by kernel_rfl) (by rfl) (by kernel_rfl)
theorem rown_0_1_2 : Con Try.prog 36 [.one (.v (.int .i64 0)), .one (.v (.int .i64 1)), .one (.v (.int .i64 2))] (fun rx rK rt => rx = .val (.bool false) ∧ rK = [] ∧ rt = 0) := Y.con_eval ftabOk tabOk mixOk 40 12 (by kernel_rfl) (by rfl) (by kernel_rfl)
theorem rown_0_0_3 : Con Try.prog 36 [.one (.v (.int .i64 0)), .one (.v (.int .i64 0)), .one (.v (.int .i64 3))] (fun rx rK rt => rx = .val (.bool true) ∧ rK = [] ∧ rt = 0) := Y.con_eval ftabOk tabOk mixOk 40 12 (by kernel_rfl) (by rfl) (by kernel_rfl)
theorem rown_0_1_3 : Con Try.prog 36 [.one (.v (.int .i64 0)), .one (.v (.int .i64 1)), .one (.v (.int .i64 3))] (fun rx rK rt => rx = .val (.bool false) ∧ rK = [] ∧ rt = 0) := Y.con_eval ftabOk tabOk mixOk 40 12 (by kernel_rfl) (by rfl) (by kernel_rfl)
theorem rown_0_2_3 : Con Try.prog 36 [.one (.v (.int .i64 0)), .one (.v (.int .i64 2)), .one (.v (.int .i64 3))] (fun rx rK rt => rx = .val (.bool false) ∧ rK = [] ∧ rt = 0) := Y.con_eval ftabOk tabOk mixOk 40 12 (by kernel_rfl) (by rfl) (by kernel_rfl)
theorem rown_1_0_1 : Con Try.prog 36 [.one (.v (.int .i64 1)), .one (.v (.int .i64 0)), .one (.v (.int .i64 1))] (fun rx rK rt => rx = .val (.bool true) ∧ rK = [] ∧ rt = 0) := Y.con_eval ftabOk tabOk mixOk 40 12 (by kernel_rfl) (by rfl) (by kernel_rfl)
theorem rown_1_0_2 : Con Try.prog 36 [.one (.v (.int .i64 1)), .one (.v (.int .i64 0)), .one (.v (.int .i64 2))] (fun rx rK rt => rx = .val (.bool true) ∧ rK = [] ∧ rt = 0) := Y.con_eval ftabOk tabOk mixOk 40 12 (by kernel_rfl) (by rfl) (by kernel_rfl)
theorem rown_1_1_2 : Con Try.prog 36 [.one (.v (.int .i64 1)), .one (.v (.int .i64 1)), .one (.v (.int .i64 2))] (fun rx rK rt => rx = .val (.bool false) ∧ rK = [] ∧ rt = 0) := Y.con_eval ftabOk tabOk mixOk 40 12 (by kernel_rfl) (by rfl) (by kernel_rfl)
theorem rown_1_0_3 : Con Try.prog 36 [.one (.v (.int .i64 1)), .one (.v (.int .i64 0)), .one (.v (.int .i64 3))] (fun rx rK rt => rx = .val (.bool true) ∧ rK = [] ∧ rt = 0) := Y.con_eval ftabOk tabOk mixOk 40 12 (by kernel_rfl) (by rfl) (by kernel_rfl)
theorem rown_1_1_3 : Con Try.prog 36 [.one (.v (.int .i64 1)), .one (.v (.int .i64 1)), .one (.v (.int .i64 3))] (fun rx rK rt => rx = .val (.bool false) ∧ rK = [] ∧ rt = 0) := Y.con_eval ftabOk tabOk mixOk 40 12 (by kernel_rfl) (by rfl) (by kernel_rfl)
theorem rown_1_2_3 : Con Try.prog 36 [.one (.v (.int .i64 1)), .one (.v (.int .i64 2)), .one (.v (.int .i64 3))] (fun rx rK rt => rx = .val (.bool false) ∧ rK = [] ∧ rt = 0) := Y.con_eval ftabOk tabOk mixOk 40 12 (by kernel_rfl) (by rfl) (by kernel_rfl)
theorem rown_2_0_1 : Con Try.prog 36 [.one (.v (.int .i64 2)), .one (.v (.int .i64 0)), .one (.v (.int .i64 1))] (fun rx rK rt => rx = .val (.bool true) ∧ rK = [] ∧ rt = 0) := Y.con_eval ftabOk tabOk mixOk 40 12 (by kernel_rfl) (by rfl) (by kernel_rfl)
theorem rown_2_0_2 : Con Try.prog 36 [.one (.v (.int .i64 2)), .one (.v (.int .i64 0)), .one (.v (.int .i64 2))] (fun rx rK rt => rx = .val (.bool true) ∧ rK = [] ∧ rt = 0) := Y.con_eval ftabOk tabOk mixOk 40 12 (by kernel_rfl) (by rfl) (by kernel_rfl)
theorem rown_2_1_2 : Con Try.prog 36 [.one (.v (.int .i64 2)), .one (.v (.int .i64 1)), .one (.v (.int .i64 2))] (fun rx rK rt => rx = .val (.bool false) ∧ rK = [] ∧ rt = 0) := Y.con_eval ftabOk tabOk mixOk 40 12 (by kernel_rfl) (by rfl) (by kernel_rfl)
theorem rown_2_0_3 : Con Try.prog 36 [.one (.v (.int .i64 2)), .one (.v (.int .i64 0)), .one (.v (.int .i64 3))] (fun rx rK rt => rx = .val (.bool true) ∧ rK = [] ∧ rt = 0) := Y.con_eval ftabOk tabOk mixOk 40 12 (by kernel_rfl) (by rfl) (by kernel_rfl)
theorem rown_2_1_3 : Con Try.prog 36 [.one (.v (.int .i64 2)), .one (.v (.int .i64 1)), .one (.v (.int .i64 3))] (fun rx rK rt => rx = .val (.bool false) ∧ rK = [] ∧ rt = 0) := Y.con_eval ftabOk tabOk mixOk 40 12 (by kernel_rfl) (by rfl) (by kernel_rfl)
theorem rown_2_2_3 : Con Try.prog 36 [.one (.v (.int .i64 2)), .one (.v (.int .i64 2)), .one (.v (.int .i64 3))] (fun rx rK rt => rx = .val (.bool false) ∧ rK = [] ∧ rt = 0) := Y.con_eval ftabOk tabOk mixOk 40 12 (by kernel_rfl) (by rfl) (by kernel_rfl)
theorem rown_3_0_1 : Con Try.prog 36 [.one (.v (.int .i64 3)), .one (.v (.int .i64 0)), .one (.v (.int .i64 1))] (fun rx rK rt => rx = .val (.bool true) ∧ rK = [] ∧ rt = 0) := Y.con_eval ftabOk tabOk mixOk 40 12 (by kernel_rfl) (by rfl) (by kernel_rfl)
theorem rown_3_0_2 : Con Try.prog 36 [.one (.v (.int .i64 3)), .one (.v (.int .i64 0)), .one (.v (.int .i64 2))] (fun rx rK rt => rx = .val (.bool true) ∧ rK = [] ∧ rt = 0) := Y.con_eval ftabOk tabOk mixOk 40 12 (by kernel_rfl) (by rfl) (by kernel_rfl)
theorem rown_3_1_2 : Con Try.prog 36 [.one (.v (.int .i64 3)), .one (.v (.int .i64 1)), .one (.v (.int .i64 2))] (fun rx rK rt => rx = .val (.bool false) ∧ rK = [] ∧ rt = 0) := Y.con_eval ftabOk tabOk mixOk 40 12 (by kernel_rfl) (by rfl) (by kernel_rfl)
theorem rown_3_0_3 : Con Try.prog 36 [.one (.v (.int .i64 3)), .one (.v (.int .i64 0)), .one (.v (.int .i64 3))] (fun rx rK rt => rx = .val (.bool false) ∧ rK = [] ∧ rt = 0) := Y.con_eval ftabOk tabOk mixOk 40 12 (by kernel_rfl) (by rfl) (by kernel_rfl)
theorem rown_3_1_3 : Con Try.prog 36 [.one (.v (.int .i64 3)), .one (.v (.int .i64 1)), .one (.v (.int .i64 3))] (fun rx rK rt => rx = .val (.bool true) ∧ rK = [] ∧ rt = 0) := Y.con_eval ftabOk tabOk mixOk 40 12 (by kernel_rfl) (by rfl) (by kernel_rfl)
theorem rown_3_2_3 : Con Try.prog 36 [.one (.v (.int .i64 3)), .one (.v (.int .i64 2)), .one (.v (.int .i64 3))] (fun rx rK rt => rx = .val (.bool false) ∧ rK = [] ∧ rt = 0) := Y.con_eval ftabOk tabOk mixOk 40 12 (by kernel_rfl) (by rfl) (by kernel_rfl)
theorem rown_4_0_1 : Con Try.prog 36 [.one (.v (.int .i64 4)), .one (.v (.int .i64 0)), .one (.v (.int .i64 1))] (fun rx rK rt => rx = .val (.bool true) ∧ rK = [] ∧ rt = 0) := Y.con_eval ftabOk tabOk mixOk 40 12 (by kernel_rfl) (by rfl) (by kernel_rfl)
theorem rown_4_0_2 : Con Try.prog 36 [.one (.v (.int .i64 4)), .one (.v (.int .i64 0)), .one (.v (.int .i64 2))] (fun rx rK rt => rx = .val (.bool false) ∧ rK = [] ∧ rt = 0) := Y.con_eval ftabOk tabOk mixOk 40 12 (by kernel_rfl) (by rfl) (by kernel_rfl)
theorem rown_4_1_2 : Con Try.prog 36 [.one (.v (.int .i64 4)), .one (.v (.int .i64 1)), .one (.v (.int .i64 2))] (fun rx rK rt => rx = .val (.bool true) ∧ rK = [] ∧ rt = 0) := Y.con_eval ftabOk tabOk mixOk 40 12 (by kernel_rfl) (by rfl) (by kernel_rfl)
theorem rown_4_0_3 : Con Try.prog 36 [.one (.v (.int .i64 4)), .one (.v (.int .i64 0)), .one (.v (.int .i64 3))] (fun rx rK rt => rx = .val (.bool false) ∧ rK = [] ∧ rt = 0) := Y.con_eval ftabOk tabOk mixOk 40 12 (by kernel_rfl) (by rfl) (by kernel_rfl)
theorem rown_4_1_3 : Con Try.prog 36 [.one (.v (.int .i64 4)), .one (.v (.int .i64 1)), .one (.v (.int .i64 3))] (fun rx rK rt => rx = .val (.bool true) ∧ rK = [] ∧ rt = 0) := Y.con_eval ftabOk tabOk mixOk 40 12 (by kernel_rfl) (by rfl) (by kernel_rfl)
theorem rown_4_2_3 : Con Try.prog 36 [.one (.v (.int .i64 4)), .one (.v (.int .i64 2)), .one (.v (.int .i64 3))] (fun rx rK rt => rx = .val (.bool false) ∧ rK = [] ∧ rt = 0) := Y.con_eval ftabOk tabOk mixOk 40 12 (by kernel_rfl) (by rfl) (by kernel_rfl)
theorem rown_5_0_1 : Con Try.prog 36 [.one (.v (.int .i64 5)), .one (.v (.int .i64 0)), .one (.v (.int .i64 1))] (fun rx rK rt => rx = .val (.bool true) ∧ rK = [] ∧ rt = 0) := Y.con_eval ftabOk tabOk mixOk 40 12 (by kernel_rfl) (by rfl) (by kernel_rfl)
theorem rown_5_0_2 : Con Try.prog 36 [.one (.v (.int .i64 5)), .one (.v (.int .i64 0)), .one (.v (.int .i64 2))] (fun rx rK rt => rx = .val (.bool false) ∧ rK = [] ∧ rt = 0) := Y.con_eval ftabOk tabOk mixOk 40 12 (by kernel_rfl) (by rfl) (by kernel_rfl)
theorem rown_5_1_2 : Con Try.prog 36 [.one (.v (.int .i64 5)), .one (.v (.int .i64 1)), .one (.v (.int .i64 2))] (fun rx rK rt => rx = .val (.bool true) ∧ rK = [] ∧ rt = 0) := Y.con_eval ftabOk tabOk mixOk 40 12 (by kernel_rfl) (by rfl) (by kernel_rfl)
theorem rown_5_0_3 : Con Try.prog 36 [.one (.v (.int .i64 5)), .one (.v (.int .i64 0)), .one (.v (.int .i64 3))] (fun rx rK rt => rx = .val (.bool false) ∧ rK = [] ∧ rt = 0) := Y.con_eval ftabOk tabOk mixOk 40 12 (by kernel_rfl) (by rfl) (by kernel_rfl)
theorem rown_5_1_3 : Con Try.prog 36 [.one (.v (.int .i64 5)), .one (.v (.int .i64 1)), .one (.v (.int .i64 3))] (fun rx rK rt => rx = .val (.bool true) ∧ rK = [] ∧ rt = 0) := Y.con_eval ftabOk tabOk mixOk 40 12 (by kernel_rfl) (by rfl) (by kernel_rfl)
theorem rown_5_2_3 : Con Try.prog 36 [.one (.v (.int .i64 5)), .one (.v (.int .i64 2)), .one (.v (.int .i64 3))] (fun rx rK rt => rx = .val (.bool false) ∧ rK = [] ∧ rt = 0) := Y.con_eval ftabOk tabOk mixOk 40 12 (by kernel_rfl) (by rfl) (by kernel_rfl)
theorem rown_6_0_1 : Con Try.prog 36 [.one (.v (.int .i64 6)), .one (.v (.int .i64 0)), .one (.v (.int .i64 1))] (fun rx rK rt => rx = .val (.bool true) ∧ rK = [] ∧ rt = 0) := Y.con_eval ftabOk tabOk mixOk 40 12 (by kernel_rfl) (by rfl) (by kernel_rfl)
theorem rown_6_0_2 : Con Try.prog 36 [.one (.v (.int .i64 6)), .one (.v (.int .i64 0)), .one (.v (.int .i64 2))] (fun rx rK rt => rx = .val (.bool false) ∧ rK = [] ∧ rt = 0) := Y.con_eval ftabOk tabOk mixOk 40 12 (by kernel_rfl) (by rfl) (by kernel_rfl)
theorem rown_6_1_2 : Con Try.prog 36 [.one (.v (.int .i64 6)), .one (.v (.int .i64 1)), .one (.v (.int .i64 2))] (fun rx rK rt => rx = .val (.bool true) ∧ rK = [] ∧ rt = 0) := Y.con_eval ftabOk tabOk mixOk 40 12 (by kernel_rfl) (by rfl) (by kernel_rfl)
theorem rown_6_0_3 : Con Try.prog 36 [.one (.v (.int .i64 6)), .one (.v (.int .i64 0)), .one (.v (.int .i64 3))] (fun rx rK rt => rx = .val (.bool false) ∧ rK = [] ∧ rt = 0) := Y.con_eval ftabOk tabOk mixOk 40 12 (by kernel_rfl) (by rfl) (by kernel_rfl)
theorem rown_6_1_3 : Con Try.prog 36 [.one (.v (.int .i64 6)), .one (.v (.int .i64 1)), .one (.v (.int .i64 3))] (fun rx rK rt => rx = .val (.bool false) ∧ rK = [] ∧ rt = 0) := Y.con_eval ftabOk tabOk mixOk 40 12 (by kernel_rfl) (by rfl) (by kernel_rfl)
theorem rown_6_2_3 : Con Try.prog 36 [.one (.v (.int .i64 6)), .one (.v (.int .i64 2)), .one (.v (.int .i64 3))] (fun rx rK rt => rx = .val (.bool true) ∧ rK = [] ∧ rt = 0) := Y.con_eval ftabOk tabOk mixOk 40 12 (by kernel_rfl) (by rfl) (by kernel_rfl)
theorem rown_7_0_1 : Con Try.prog 36 [.one (.v (.int .i64 7)), .one (.v (.int .i64 0)), .one (.v (.int .i64 1))] (fun rx rK rt => rx = .val (.bool true) ∧ rK = [] ∧ rt = 0) := Y.con_eval ftabOk tabOk mixOk 40 12 (by kernel_rfl) (by rfl) (by kernel_rfl)
theorem rown_7_0_2 : Con Try.prog 36 [.one (.v (.int .i64 7)), .one (.v (.int .i64 0)), .one (.v (.int .i64 2))] (fun rx rK rt => rx = .val (.bool false) ∧ rK = [] ∧ rt = 0) := Y.con_eval ftabOk tabOk mixOk 40 12 (by kernel_rfl) (by rfl) (by kernel_rfl)
theorem rown_7_1_2 : Con Try.prog 36 [.one (.v (.int .i64 7)), .one (.v (.int .i64 1)), .one (.v (.int .i64 2))] (fun rx rK rt => rx = .val (.bool true) ∧ rK = [] ∧ rt = 0) := Y.con_eval ftabOk tabOk mixOk 40 12 (by kernel_rfl) (by rfl) (by kernel_rfl)
theorem rown_7_0_3 : Con Try.prog 36 [.one (.v (.int .i64 7)), .one (.v (.int .i64 0)), .one (.v (.int .i64 3))] (fun rx rK rt => rx = .val (.bool false) ∧ rK = [] ∧ rt = 0) := Y.con_eval ftabOk tabOk mixOk 40 12 (by kernel_rfl) (by rfl) (by kernel_rfl)
theorem rown_7_1_3 : Con Try.prog 36 [.one (.v (.int .i64 7)), .one (.v (.int .i64 1)), .one (.v (.int .i64 3))] (fun rx rK rt => rx = .val (.bool false) ∧ rK = [] ∧ rt = 0) := Y.con_eval ftabOk tabOk mixOk 40 12 (by kernel_rfl) (by rfl) (by kernel_rfl)
theorem rown_7_2_3 : Con Try.prog 36 [.one (.v (.int .i64 7)), .one (.v (.int .i64 2)), .one (.v (.int .i64 3))] (fun rx rK rt => rx = .val (.bool true) ∧ rK = [] ∧ rt = 0) := Y.con_eval ftabOk tabOk mixOk 40 12 (by kernel_rfl) (by rfl) (by kernel_rfl)
theorem rowned_ok (g i w : Int) (hg : 0 ≤ g ∧ g < 8) (h : Tab.okS i w) : Con Try.prog 36 [.one (.v (.int .i64 g)), .one (.v (.int .i64 i)), .one (.v (.int .i64 w))] (fun rx rK rt => rx = .val (.bool (decide (Tab.ownG g w = i))) ∧ rK = [] ∧ rt = 0) := by
  have h1 : g = 0 ∨ g = 1 ∨ g = 2 ∨ g = 3 ∨ g = 4 ∨ g = 5 ∨ g = 6 ∨ g = 7 := by omega
  have h2 : (i = 0 ∧ w = 1) ∨ (i = 0 ∧ w = 2) ∨ (i = 1 ∧ w = 2) ∨ (i = 0 ∧ w = 3) ∨ (i = 1 ∧ w = 3) ∨ (i = 2 ∧ w = 3) := by unfold Tab.okS at h; omega
  rcases h1 with rfl | rfl | rfl | rfl | rfl | rfl | rfl | rfl <;> rcases h2 with ⟨rfl, rfl⟩ | ⟨rfl, rfl⟩ | ⟨rfl, rfl⟩ | ⟨rfl, rfl⟩ | ⟨rfl, rfl⟩ | ⟨rfl, rfl⟩
  · exact rown_0_0_1
  · exact rown_0_0_2
  · exact rown_0_1_2
  · exact rown_0_0_3
  · exact rown_0_1_3
  · exact rown_0_2_3
  · exact rown_1_0_1
  · exact rown_1_0_2
  · exact rown_1_1_2
  · exact rown_1_0_3
  · exact rown_1_1_3
  · exact rown_1_2_3
  · exact rown_2_0_1
  · exact rown_2_0_2
  · exact rown_2_1_2
  · exact rown_2_0_3
  · exact rown_2_1_3
  · exact rown_2_2_3
  · exact rown_3_0_1
  · exact rown_3_0_2
  · exact rown_3_1_2
  · exact rown_3_0_3
  · exact rown_3_1_3
  · exact rown_3_2_3
  · exact rown_4_0_1
  · exact rown_4_0_2
  · exact rown_4_1_2
  · exact rown_4_0_3
  · exact rown_4_1_3
  · exact rown_4_2_3
  · exact rown_5_0_1
  · exact rown_5_0_2
  · exact rown_5_1_2
  · exact rown_5_0_3
  · exact rown_5_1_3
  · exact rown_5_2_3
  · exact rown_6_0_1
  · exact rown_6_0_2
  · exact rown_6_1_2
  · exact rown_6_0_3
  · exact rown_6_1_3
  · exact rown_6_2_3
  · exact rown_7_0_1
  · exact rown_7_0_2
  · exact rown_7_1_2
  · exact rown_7_0_3
  · exact rown_7_1_3
  · exact rown_7_2_3
end Go.Proofs.Ytopieffkpdlpbaa
namespace Go.Proofs.Ytopieffkpdlpbaa
open Go Go.RowKit Wx
set_option linter.unusedVariables false
set_option linter.unusedSimpArgs false
set_option maxHeartbeats 4000000
theorem rnamesok_con (l : List Nm) (hl : l.length ≤ 9223372036854775807) : Con Try.prog 35 [.one (.ro false 3 (l.map eN))] (fun rx rK rt => rx = .val (.bool (namesR l)) ∧ rK = [] ∧ rt = 0) := by
  refine Z.con_ofF tabOk 33 Try.f35 _ Try.func35 (by kernel_rfl) rfl rfl rfl rfl ?_
  unfold namesR
  repeat' ((conv => whnf); first
    | with_reducible first | refine spB_t ?_
    | fail)
  all_goals (try (conv => whnf))
  all_goals try (show Nat.ble _ _ = true; rfl)
  all_goals try (exfalso; rename_i hz; cases hz; done)
  all_goals try (exfalso; (try simp only [LN] at *) <;> omega)
  refine Z.loopK tabOk (fun zq : Nat => [(7, .val (.int .i64 (zq : Int)))]) (fun zq : Nat => ([] : Z.Kr)) (fun zq => zq ≤ l.length ∧ nOk none l = nOk (nPrev l zq) (l.drop zq)) (fun zq => l.length - zq) 0 0 [(0, _), (5, _), (6, _)] ⟨rfl, rfl, rfl, trivial⟩ [] trivial ?_ ?_ rfl rfl ⟨Nat.zero_le _, rfl⟩ ?_
  · repeat' (first | exact trivial | apply And.intro | exact ⟨_, rfl, Z.Imp.refl _⟩)
  · repeat' (first | exact trivial)
  rintro i HINV
  (try dsimp only at HINV); (try dsimp only)
  obtain ⟨HI, HT⟩ := HINV
  by_cases hi : i < l.length
  · obtain ⟨x, hx⟩ := getElem?_some' (xs := l) (i := i) hi
    rw [nOk_at hx] at HT
    have ck := rname_con x
    cases hk : nmOk x
    · rw [hk] at ck HT
      simp only [Bool.false_and] at HT
      try simp only [cond_false] at ck
      rw [HT, Bool.and_false]
      repeat' ((conv => whnf); first
        | with_reducible first | refine spB_t ?_
        | ((with_reducible apply spB_cong); (focus (simp only [beq_self_eq_true, bne_self_eq_false, Bool.true_bne, Bool.false_bne, Bool.bne_true, Bool.bne_false, Bool.true_beq, Bool.false_beq, Bool.not_true, Bool.not_false, Bool.not_not, Int.reduceBEq, Int.reduceBNe, Int.reduceLE, Int.reduceLT, Int.reduceEq, decide_true, decide_false]; rfl)))
        | (with_reducible refine spB_dec ?_ ?_ <;> intro _ <;> (try (exfalso; first | contradiction | omega | (rename_i hz; refine hz ?_; simp; done) | (rename_i hz; simp at hz; done) | (simp only [LN] at *; omega))))
        | with_reducible first | refine Z.rowN_known hx ?_
        | ((with_reducible apply ixN_litp); (focus (exact rfl)); (focus ((try simp only [LN] at *) <;> omega)))
        | ((first | (with_reducible refine Z.conZ_mz ?_ (ck) ?_)); (focus ((repeat' (first | exact trivial | exact rfl | apply And.intro)); done)))
        | with_reducible first | refine Z.drawZ_rule tabOk mixOk ?_ | refine Z.apZ_mk (by kernel_rfl) ?_
        | fail)
      all_goals (try (conv => whnf))
      all_goals try (show Nat.ble _ _ = true; rfl)
      all_goals try (exfalso; rename_i hz; cases hz; done)
      all_goals try (exfalso; (try simp only [LN] at *) <;> omega)
      all_goals first
        | ((first | (with_reducible apply Z.retF1)); (focus (exact rfl)); (repeat' (first | exact trivial | (with_reducible apply Z.frz_one) | (with_reducible apply Z.fq_bool) | exact rfl | apply And.intro)); (all_goals (try exact (fun _ => none))); all_goals (first | (simp; done)))
        | fail
    rw [hk] at ck HT
    simp only [Bool.true_and] at HT
    try simp only [cond_true] at ck
    rcases i with _ | j
    · have HT2 : nOk none l = nOk (nPrev l 1) (l.drop 1) := by rw [HT]; rfl
      repeat' ((conv => whnf); first
        | ((with_reducible apply spB_cong); (focus (simp only [beq_self_eq_true, bne_self_eq_false, Bool.true_bne, Bool.false_bne, Bool.bne_true, Bool.bne_false, Bool.true_beq, Bool.false_beq, Bool.not_true, Bool.not_false, Bool.not_not, Int.reduceBEq, Int.reduceBNe, Int.reduceLE, Int.reduceLT, Int.reduceEq, decide_true, decide_false]; rfl)))
        | with_reducible first | refine spB_no (by decide) ?_
        | (with_reducible refine spB_dec ?_ ?_ <;> intro _ <;> (try (exfalso; first | contradiction | omega | (rename_i hz; refine hz ?_; simp; done) | (rename_i hz; simp at hz; done) | (simp only [LN] at *; omega))))
        | with_reducible first | refine Z.rowN_known hx ?_
        | ((with_reducible apply ixN_litp); (focus (exact rfl)); (focus ((try simp only [LN] at *) <;> omega)))
        | with_reducible refine wr_i64 (by first | omega | (simp only [LN] at *; omega)) ?_
        | ((first | (with_reducible refine Z.conZ_mz ?_ (ck) ?_)); (focus ((repeat' (first | exact trivial | exact rfl | apply And.intro)); done)))
        | with_reducible first | refine Z.drawZ_rule tabOk mixOk ?_ | refine Z.apZ_mk (by kernel_rfl) ?_
        | fail)
      all_goals (try (conv => whnf))
      all_goals try (show Nat.ble _ _ = true; rfl)
      all_goals try (exfalso; rename_i hz; cases hz; done)
      all_goals try (exfalso; (try simp only [LN] at *) <;> omega)
      all_goals first
        | ((refine Z.rndK (1) (fun s => []) rfl rfl rfl rfl ?_ ?_ ?_ ?_); (focus (repeat' (first | exact trivial | exact rfl | apply And.intro))); (focus (repeat' (first | exact trivial))); (focus (exact ⟨by (try dsimp only); omega, HT2⟩)); ((try dsimp only); omega))
        | fail
    obtain ⟨q, hq⟩ := getElem?_some' (xs := l) (i := j) (by omega)
    have hpr : nPrev l (j + 1) = some q := hq
    rw [hpr] at HT
    simp only at HT
    have cc := nless_con q x
    by_cases hlt : nLt q x
    · rw [decide_eq_true hlt] at HT cc
      rw [Bool.true_and] at HT
      repeat' ((conv => whnf); first
        | with_reducible first | refine spB_t ?_
        | ((with_reducible apply spB_cong); (focus (simp only [beq_self_eq_true, bne_self_eq_false, Bool.true_bne, Bool.false_bne, Bool.bne_true, Bool.bne_false, Bool.true_beq, Bool.false_beq, Bool.not_true, Bool.not_false, Bool.not_not, Int.reduceBEq, Int.reduceBNe, Int.reduceLE, Int.reduceLT, Int.reduceEq, decide_true, decide_false]; rfl)))
        | with_reducible first | refine spB_no (by decide) ?_
        | (with_reducible refine spB_dec ?_ ?_ <;> intro _ <;> (try (exfalso; first | contradiction | omega | (rename_i hz; refine hz ?_; simp; done) | (rename_i hz; simp at hz; done) | (simp only [LN] at *; omega))))
        | with_reducible first | refine Z.rowN_known hx ?_ | refine Z.rowN_known hq ?_
        | ((with_reducible refine ixN_mk (j) ?_ ?_ ?_); (focus (first | ((try simp only [LN] at *) <;> omega))); (focus ((try simp only [LN] at *) <;> omega)))
        | ((with_reducible apply ixN_litp); (focus (exact rfl)); (focus ((try simp only [LN] at *) <;> omega)))
        | with_reducible refine wr_i64 (by first | omega | (simp only [LN] at *; omega)) ?_
        | ((first | (with_reducible refine Z.conZ_mz ?_ (ck) ?_) | (with_reducible refine Z.conZ_mz ?_ (cc) ?_)); (focus ((repeat' (first | exact trivial | exact rfl | apply And.intro)); done)))
        | with_reducible first | refine Z.drawZ_rule tabOk mixOk ?_ | refine Z.apZ_mk (by kernel_rfl) ?_
        | fail)
      all_goals (try (conv => whnf))
      all_goals try (show Nat.ble _ _ = true; rfl)
      all_goals try (exfalso; rename_i hz; cases hz; done)
      all_goals try (exfalso; (try simp only [LN] at *) <;> omega)
      all_goals first
        | ((refine Z.rndK ((j + 1 + 1)) (fun s => []) rfl rfl rfl rfl ?_ ?_ ?_ ?_); (focus (repeat' (first | exact trivial | exact rfl | apply And.intro))); (focus (repeat' (first | exact trivial))); (focus (exact ⟨by (try dsimp only); omega, HT⟩)); ((try dsimp only); omega))
        | fail
    · rw [decide_eq_false hlt] at HT cc
      rw [Bool.false_and] at HT
      rw [HT, Bool.and_false]
      repeat' ((conv => whnf); first
        | with_reducible first | refine spB_t ?_
        | ((with_reducible apply spB_cong); (focus (simp only [beq_self_eq_true, bne_self_eq_false, Bool.true_bne, Bool.false_bne, Bool.bne_true, Bool.bne_false, Bool.true_beq, Bool.false_beq, Bool.not_true, Bool.not_false, Bool.not_not, Int.reduceBEq, Int.reduceBNe, Int.reduceLE, Int.reduceLT, Int.reduceEq, decide_true, decide_false]; rfl)))
        | with_reducible first | refine spB_no (by decide) ?_
        | (with_reducible refine spB_dec ?_ ?_ <;> intro _ <;> (try (exfalso; first | contradiction | omega | (rename_i hz; refine hz ?_; simp; done) | (rename_i hz; simp at hz; done) | (simp only [LN] at *; omega))))
        | with_reducible first | refine Z.rowN_known hx ?_ | refine Z.rowN_known hq ?_
        | ((with_reducible refine ixN_mk (j) ?_ ?_ ?_); (focus (first | ((try simp only [LN] at *) <;> omega))); (focus ((try simp only [LN] at *) <;> omega)))
        | ((with_reducible apply ixN_litp); (focus (exact rfl)); (focus ((try simp only [LN] at *) <;> omega)))
        | with_reducible refine wr_i64 (by first | omega | (simp only [LN] at *; omega)) ?_
        | ((first | (with_reducible refine Z.conZ_mz ?_ (ck) ?_) | (with_reducible refine Z.conZ_mz ?_ (cc) ?_)); (focus ((repeat' (first | exact trivial | exact rfl | apply And.intro)); done)))
        | with_reducible first | refine Z.drawZ_rule tabOk mixOk ?_ | refine Z.apZ_mk (by kernel_rfl) ?_
        | fail)
      all_goals (try (conv => whnf))
      all_goals try (show Nat.ble _ _ = true; rfl)
      all_goals try (exfalso; rename_i hz; cases hz; done)
      all_goals try (exfalso; (try simp only [LN] at *) <;> omega)
      all_goals first
        | ((first | (with_reducible apply Z.retF1)); (focus (exact rfl)); (repeat' (first | exact trivial | (with_reducible apply Z.frz_one) | (with_reducible apply Z.fq_bool) | exact rfl | apply And.intro)); (all_goals (try exact (fun _ => none))); all_goals (first | (simp; done)))
        | fail
  have hil : i = l.length := by omega
  subst hil
  rw [List.drop_length] at HT
  have HT3 : nOk none l = true := by rw [HT]; cases nPrev l l.length <;> rfl
  rw [HT3]
  rw [Bool.and_true]
  by_cases hc : l.length ≤ 24
  · rw [decide_eq_true hc]
    repeat' ((conv => whnf); first
      | (with_reducible refine spB_dec ?_ ?_ <;> intro _ <;> (try (exfalso; first | contradiction | omega | (rename_i hz; refine hz ?_; simp; done) | (rename_i hz; simp at hz; done) | (simp only [LN] at *; omega))))
      | fail)
    all_goals (try (conv => whnf))
    all_goals try (show Nat.ble _ _ = true; rfl)
    all_goals try (exfalso; rename_i hz; cases hz; done)
    all_goals try (exfalso; (try simp only [LN] at *) <;> omega)
    all_goals first
      | ((first | (with_reducible apply Z.retF1)); (focus (exact rfl)); (repeat' (first | exact trivial | (with_reducible apply Z.frz_one) | (with_reducible apply Z.fq_bool) | apply And.intro)); (all_goals (try exact (fun _ => none))); all_goals (first | (simp; omega)))
      | fail
  · rw [decide_eq_false hc]
    repeat' ((conv => whnf); first
      | (with_reducible refine spB_dec ?_ ?_ <;> intro _ <;> (try (exfalso; first | contradiction | omega | (rename_i hz; refine hz ?_; simp; done) | (rename_i hz; simp at hz; done) | (simp only [LN] at *; omega))))
      | fail)
    all_goals (try (conv => whnf))
    all_goals try (show Nat.ble _ _ = true; rfl)
    all_goals try (exfalso; rename_i hz; cases hz; done)
    all_goals try (exfalso; (try simp only [LN] at *) <;> omega)
    all_goals first
      | ((first | (with_reducible apply Z.retF1)); (focus (exact rfl)); (repeat' (first | exact trivial | (with_reducible apply Z.frz_one) | (with_reducible apply Z.fq_bool) | apply And.intro)); (all_goals (try exact (fun _ => none))); all_goals (first | (simp; omega)))
      | fail
end Go.Proofs.Ytopieffkpdlpbaa
namespace Go.Proofs.Ytopieffkpdlpbaa
open Go Go.RowKit Wx
set_option linter.unusedVariables false
set_option linter.unusedSimpArgs false
set_option maxHeartbeats 4000000
namespace Tab
theorem rcheck_con (l : List Kc) (hl : l.length ≤ 9223372036854775807) : Con Try.prog 34 [.agg [.ro false 4 (l.map eK)]] (fun rx rK rt => rx = .val (.bool (tabR l)) ∧ rK = [] ∧ rt = 0) := by
  refine Z.con_ofF tabOk 41 Try.f34 _ Try.func34 (by kernel_rfl) rfl rfl rfl rfl ?_
  repeat' ((conv => whnf); first
    | with_reducible first | refine spB_t ?_
    | ((with_reducible apply spB_cong); (focus (simp only [beq_self_eq_true, bne_self_eq_false, Bool.true_bne, Bool.false_bne, Bool.bne_true, Bool.bne_false, Bool.true_beq, Bool.false_beq, Bool.not_true, Bool.not_false, Bool.not_not, Int.reduceBEq, Int.reduceBNe, Int.reduceLE, Int.reduceLT, Int.reduceEq, decide_true, decide_false]; rfl)))
    | with_reducible first | refine spB_yes (by decide) ?_ | refine spB_no (by decide) ?_ | refine spB_f ?_ | refine spB_not ?_ | refine spB_yes (by assumption) ?_ | refine spB_no (by assumption) ?_
    | (with_reducible refine spB_dec ?_ ?_ <;> intro _ <;> (try (exfalso; first | contradiction | omega | (rename_i hz; refine hz ?_; simp; done) | (rename_i hz; simp at hz; done) | (simp only [LN] at *; omega))))
    | (with_reducible refine spB_beq ?_ ?_ <;> intro _ <;> (try (exfalso; first | contradiction | omega | (rename_i hz; refine hz ?_; simp; done) | (rename_i hz; simp at hz; done) | (simp only [LN] at *; omega))))
    | (with_reducible refine spB_bne ?_ ?_ <;> intro _ <;> (try (exfalso; first | contradiction | omega | (rename_i hz; refine hz ?_; simp; done) | (rename_i hz; simp at hz; done) | (simp only [LN] at *; omega))))
    | (with_reducible refine spB_mk ?_ ?_ <;> intro _ <;> (try (exfalso; first | contradiction | omega | (rename_i hz; refine hz ?_; simp; done) | (rename_i hz; simp at hz; done) | (simp only [LN] at *; omega))))
    | ((with_reducible apply rowN_mk); (focus rfl))
    | ((with_reducible apply ixN_lit); (focus (exact rfl)); (focus (exact rfl)))
    | ((with_reducible apply ixN_litp); (focus (exact rfl)); (focus ((try simp only [LN] at *) <;> omega)))
    | ((with_reducible refine eqN_mk2 ?_ ?_); (focus rfl))
    | with_reducible refine wr_i64 (by first | omega | (simp only [LN] at *; omega)) ?_
    | with_reducible refine wr_u64 (by omega) ?_
    | with_reducible refine wr_u8 (by omega) ?_
    | with_reducible refine wr_u32 (by omega) ?_
    | with_reducible first | refine wr_mk _ rfl ?_
    | ((with_reducible refine ixN_nat ?_ ?_); (focus ((try simp only [LN] at *) <;> omega)))
    | ((with_reducible refine rowN_map ?_ ?_); (focus ((try simp only [LN] at *) <;> omega)); intro x hx)
    | with_reducible refine eqN_dec (by omega) ?_
    | with_reducible first | refine apN_mk (by kernel_rfl) ?_ | refine Z.callZ_in tabOk 8 Try.f74 _ Try.func74 (by kernel_rfl) rfl rfl rfl ?_
    | ((with_reducible refine eqN_mk2 ?_ ?_); (focus (exact Z.kb_some rfl)))
    | ((with_reducible apply ex_and); exact rfl)
    | with_reducible first | refine Z.drawZ_rule tabOk mixOk ?_ | refine Z.apZ_mk (by kernel_rfl) ?_
    | ((with_reducible refine Z.ConZ.red ?_); (try subst hlb); (apply Z.conZ_all); (focus (repeat (first | exact Z.FK.nil | (apply Z.FK.keep; exact rfl)))); (focus rfl); (focus rfl); (focus (repeat (first | exact trivial | (refine ⟨(fun o ho => (by first | (cases ho; rfl) | (cases ho; exact Z.inL_map fun _ => rfl) | (cases ho; exact Z.inL_mapr fun _ => rfl) | exact Z.inL_gB ho fun _ => rfl)), ?_⟩)))))
    | ((refine ⟨rfl, ?_, rfl⟩); (focus (repeat (first | exact Z.DK.nil | apply Z.DK.cons))))
    | (focus (exact (rfl : Nat.ble _ _ = true))))
  all_goals (try (conv => whnf))
  all_goals try (show Nat.ble _ _ = true; rfl)
  all_goals try (exfalso; rename_i hz; cases hz; done)
  all_goals try (exfalso; (try simp only [LN] at *) <;> omega)
  refine Z.loopK tabOk (fun zq : Nat => [(8, .val (.int .i64 (zq : Int)))]) (fun zq : Nat => ([(0, some (Z.Ob.b ⟨[[.ro false 4 (l.map eK)]], 1, 28, true⟩))] : Z.Kr)) (fun zq => zq ≤ l.length ∧ tabR l = okT (prevR l zq) (l.drop zq)) (fun zq => l.length - zq) 0 1 [(1, _), (6, _), (7, _)] ⟨rfl, rfl, rfl, trivial⟩ [] trivial ?_ ?_ rfl rfl ⟨Nat.zero_le _, rfl⟩ ?_
  · repeat' (first | exact trivial | apply And.intro | exact ⟨_, rfl, rfl⟩ | exact ⟨_, rfl, Z.Imp.refl _⟩ | exact ⟨_, rfl, Z.Imp.nilg _⟩ | exact ⟨_, rfl, Z.Imp.nilr _ _⟩)
  · repeat' (first | exact trivial | (intro b hb; cases hb; done) | exact (fun b hb => ⟨b, hb, Z.ImpO.refl b⟩) | (intro b hb; cases hb; refine ⟨_, rfl, ⟨rfl, rfl, rfl⟩, ?_⟩; (repeat' (first | exact trivial | apply And.intro | exact Z.Imp.refl _ | exact Z.Imp.nilg _ | exact Z.Imp.nilr _ _)); done) | apply And.intro)
  rintro i HINV
  (try dsimp only at HINV); (try dsimp only)
  obtain ⟨HI, HT⟩ := HINV
  by_cases hi : i < l.length
  · obtain ⟨x, hx⟩ := getElem?_some' (xs := l) (i := i) hi
    rw [okT_at hx] at HT
    have ck := rrec_con x.src x.key 0
    cases hk : keyOk x.src x.key
    · rw [hk] at ck HT
      simp only [Bool.false_and, cond_false] at ck HT
      rw [HT]
      try simp only [cond_false]
      repeat' ((conv => whnf); first
        | with_reducible first | refine spB_t ?_
        | ((with_reducible apply spB_cong); (focus (simp only [beq_self_eq_true, bne_self_eq_false, Bool.true_bne, Bool.false_bne, Bool.bne_true, Bool.bne_false, Bool.true_beq, Bool.false_beq, Bool.not_true, Bool.not_false, Bool.not_not, Int.reduceBEq, Int.reduceBNe, Int.reduceLE, Int.reduceLT, Int.reduceEq, decide_true, decide_false]; rfl)))
        | with_reducible first | refine spB_yes (by decide) ?_ | refine spB_no (by decide) ?_ | refine spB_f ?_ | refine spB_not ?_ | refine spB_yes (by assumption) ?_ | refine spB_no (by assumption) ?_
        | (with_reducible refine spB_dec ?_ ?_ <;> intro _ <;> (try (exfalso; first | contradiction | omega | (rename_i hz; refine hz ?_; simp; done) | (rename_i hz; simp at hz; done) | (simp only [LN] at *; omega))))
        | (with_reducible refine spB_beq ?_ ?_ <;> intro _ <;> (try (exfalso; first | contradiction | omega | (rename_i hz; refine hz ?_; simp; done) | (rename_i hz; simp at hz; done) | (simp only [LN] at *; omega))))
        | (with_reducible refine spB_bne ?_ ?_ <;> intro _ <;> (try (exfalso; first | contradiction | omega | (rename_i hz; refine hz ?_; simp; done) | (rename_i hz; simp at hz; done) | (simp only [LN] at *; omega))))
        | (with_reducible refine spB_mk ?_ ?_ <;> intro _ <;> (try (exfalso; first | contradiction | omega | (rename_i hz; refine hz ?_; simp; done) | (rename_i hz; simp at hz; done) | (simp only [LN] at *; omega))))
        | with_reducible first | refine Z.rowN_known hx ?_
        | ((with_reducible apply rowN_mk); (focus rfl))
        | ((with_reducible apply ixN_lit); (focus (exact rfl)); (focus (exact rfl)))
        | ((with_reducible apply ixN_litp); (focus (exact rfl)); (focus ((try simp only [LN] at *) <;> omega)))
        | ((with_reducible refine eqN_mk2 ?_ ?_); (focus rfl))
        | with_reducible refine wr_i64 (by first | omega | (simp only [LN] at *; omega)) ?_
        | with_reducible refine wr_u64 (by omega) ?_
        | with_reducible refine wr_u8 (by omega) ?_
        | with_reducible refine wr_u32 (by omega) ?_
        | with_reducible first | refine wr_mk _ rfl ?_
        | ((with_reducible refine ixN_nat ?_ ?_); (focus ((try simp only [LN] at *) <;> omega)))
        | ((with_reducible refine rowN_map ?_ ?_); (focus ((try simp only [LN] at *) <;> omega)); intro x hx)
        | with_reducible refine eqN_dec (by omega) ?_
        | with_reducible first | refine apN_mk (by kernel_rfl) ?_ | refine Z.callZ_in tabOk 8 Try.f74 _ Try.func74 (by kernel_rfl) rfl rfl rfl ?_
        | ((first | (with_reducible refine Z.conZ_mz ?_ (ck) ?_) | (with_reducible refine Z.callZ_mk ?_ (ck) ?_)); (focus ((repeat' (first | exact trivial | exact rfl | exact Z.low_nil | exact Z.low_nil2 | exact low_osl (fun _ => rfl) | (refine Z.low_osln ?_ (fun _ => rfl); (simp only [List.length_map]; done)) | exact low_oslr (fun _ => rfl) | exact Z.low_gslm (by first | rfl | exact Z.kb_some rfl) (fun _ => rfl) | exact .inl rfl | exact .inr ⟨_, rfl⟩ | apply And.intro)); done)))
        | ((with_reducible refine eqN_mk2 ?_ ?_); (focus (exact Z.kb_some rfl)))
        | ((with_reducible apply ex_and); exact rfl)
        | with_reducible first | refine Z.drawZ_rule tabOk mixOk ?_ | refine Z.apZ_mk (by kernel_rfl) ?_
        | ((with_reducible refine Z.ConZ.red ?_); (try subst hlb); (apply Z.conZ_all); (focus (repeat (first | exact Z.FK.nil | (apply Z.FK.keep; exact rfl)))); (focus rfl); (focus rfl); (focus (repeat (first | exact trivial | (refine ⟨(fun o ho => (by first | (cases ho; rfl) | (cases ho; exact Z.inL_map fun _ => rfl) | (cases ho; exact Z.inL_mapr fun _ => rfl) | exact Z.inL_gB ho fun _ => rfl)), ?_⟩)))))
        | ((refine ⟨rfl, ?_, rfl⟩); (focus (repeat (first | exact Z.DK.nil | apply Z.DK.cons))))
        | (focus (exact (rfl : Nat.ble _ _ = true))))
      all_goals (try (conv => whnf))
      all_goals try (show Nat.ble _ _ = true; rfl)
      all_goals try (exfalso; rename_i hz; cases hz; done)
      all_goals try (exfalso; (try simp only [LN] at *) <;> omega)
      all_goals first
        | ((first | (with_reducible apply Z.retF1) | (with_reducible apply Z.retF2) | (with_reducible apply Z.retF0)); (focus (exact rfl)); (repeat' (first | exact trivial | (with_reducible apply Z.frz_one) | (with_reducible apply Z.frz_agg) | (with_reducible apply Z.fq_int) | (with_reducible apply Z.fq_bool) | (exact Z.frz_nil) | (exact Z.frz_osl0 rfl rfl rfl) | (with_reducible apply Z.fq_nil) | (with_reducible apply Z.fq_ro) | ((with_reducible apply Z.fq_gsl); (focus (first | rfl | exact Z.isB_map _ | exact Z.gB_snoc.symm)); (focus (exact fun _ => rfl))) | ((with_reducible apply Z.fq_osl); (focus (exact rfl)); (focus (first | exact rfl | (simp only [List.length_map, Nat.zero_add]; done) | ((try simp only [LN] at *) <;> omega))); (focus (exact fun _ => rfl))) | ((with_reducible apply Z.fq_src); (focus (exact rfl)); (focus (first | exact rfl | (simp only [List.length_map, Nat.zero_add]; done) | ((try simp only [LN] at *) <;> omega))); (focus (exact fun _ => rfl))) | exact rfl | ((apply Z.fq_osl); (focus (exact rfl)); (focus (first | exact rfl | (simp only [List.length_map, Nat.zero_add]; done) | ((try simp only [LN] at *) <;> omega))); (focus (exact fun _ => rfl))) | ((apply Z.fq_src); (focus (exact rfl)); (focus (first | exact rfl | (simp only [List.length_map, Nat.zero_add]; done) | ((try simp only [LN] at *) <;> omega))); (focus (exact fun _ => rfl))) | (apply Z.fq_ro) | (apply Z.fq_int) | (apply Z.fq_bool) | apply And.intro)); (all_goals (try exact (fun _ => none))); all_goals (first | rfl | (simp; done)))
        | (exfalso; rename_i hz; cases hz; done)
        | (exfalso; (try simp only [LN] at *) <;> omega)
        | (fail)
    rw [hk] at ck HT
    simp only [Bool.true_and, cond_true] at ck HT
    by_cases hc : 0 < x.cnt
    rotate_left
    · rw [decide_eq_false hc, Bool.false_and, Bool.false_and] at HT
      rw [HT]
      try simp only [cond_false]
      repeat' ((conv => whnf); first
        | with_reducible first | refine spB_t ?_
        | ((with_reducible apply spB_cong); (focus (simp only [beq_self_eq_true, bne_self_eq_false, Bool.true_bne, Bool.false_bne, Bool.bne_true, Bool.bne_false, Bool.true_beq, Bool.false_beq, Bool.not_true, Bool.not_false, Bool.not_not, Int.reduceBEq, Int.reduceBNe, Int.reduceLE, Int.reduceLT, Int.reduceEq, decide_true, decide_false]; rfl)))
        | with_reducible first | refine spB_yes (by decide) ?_ | refine spB_no (by decide) ?_ | refine spB_f ?_ | refine spB_not ?_ | refine spB_yes (by assumption) ?_ | refine spB_no (by assumption) ?_
        | (with_reducible refine spB_dec ?_ ?_ <;> intro _ <;> (try (exfalso; first | contradiction | omega | (rename_i hz; refine hz ?_; simp; done) | (rename_i hz; simp at hz; done) | (simp only [LN] at *; omega))))
        | (with_reducible refine spB_beq ?_ ?_ <;> intro _ <;> (try (exfalso; first | contradiction | omega | (rename_i hz; refine hz ?_; simp; done) | (rename_i hz; simp at hz; done) | (simp only [LN] at *; omega))))
        | (with_reducible refine spB_bne ?_ ?_ <;> intro _ <;> (try (exfalso; first | contradiction | omega | (rename_i hz; refine hz ?_; simp; done) | (rename_i hz; simp at hz; done) | (simp only [LN] at *; omega))))
        | (with_reducible refine spB_mk ?_ ?_ <;> intro _ <;> (try (exfalso; first | contradiction | omega | (rename_i hz; refine hz ?_; simp; done) | (rename_i hz; simp at hz; done) | (simp only [LN] at *; omega))))
        | with_reducible first | refine Z.rowN_known hx ?_
        | ((with_reducible apply rowN_mk); (focus rfl))
        | ((with_reducible apply ixN_lit); (focus (exact rfl)); (focus (exact rfl)))
        | ((with_reducible apply ixN_litp); (focus (exact rfl)); (focus ((try simp only [LN] at *) <;> omega)))
        | ((with_reducible refine eqN_mk2 ?_ ?_); (focus rfl))
        | with_reducible refine wr_i64 (by first | omega | (simp only [LN] at *; omega)) ?_
        | with_reducible refine wr_u64 (by omega) ?_
        | with_reducible refine wr_u8 (by omega) ?_
        | with_reducible refine wr_u32 (by omega) ?_
        | with_reducible first | refine wr_mk _ rfl ?_
        | ((with_reducible refine ixN_nat ?_ ?_); (focus ((try simp only [LN] at *) <;> omega)))
        | ((with_reducible refine rowN_map ?_ ?_); (focus ((try simp only [LN] at *) <;> omega)); intro x hx)
        | with_reducible refine eqN_dec (by omega) ?_
        | with_reducible first | refine apN_mk (by kernel_rfl) ?_ | refine Z.callZ_in tabOk 8 Try.f74 _ Try.func74 (by kernel_rfl) rfl rfl rfl ?_
        | ((first | (with_reducible refine Z.conZ_mz ?_ (ck) ?_) | (with_reducible refine Z.callZ_mk ?_ (ck) ?_)); (focus ((repeat' (first | exact trivial | exact rfl | exact Z.low_nil | exact Z.low_nil2 | exact low_osl (fun _ => rfl) | (refine Z.low_osln ?_ (fun _ => rfl); (simp only [List.length_map]; done)) | exact low_oslr (fun _ => rfl) | exact Z.low_gslm (by first | rfl | exact Z.kb_some rfl) (fun _ => rfl) | exact .inl rfl | exact .inr ⟨_, rfl⟩ | apply And.intro)); done)))
        | ((with_reducible refine eqN_mk2 ?_ ?_); (focus (exact Z.kb_some rfl)))
        | ((with_reducible apply ex_and); exact rfl)
        | with_reducible first | refine Z.drawZ_rule tabOk mixOk ?_ | refine Z.apZ_mk (by kernel_rfl) ?_
        | ((with_reducible refine Z.ConZ.red ?_); (try subst hlb); (apply Z.conZ_all); (focus (repeat (first | exact Z.FK.nil | (apply Z.FK.keep; exact rfl)))); (focus rfl); (focus rfl); (focus (repeat (first | exact trivial | (refine ⟨(fun o ho => (by first | (cases ho; rfl) | (cases ho; exact Z.inL_map fun _ => rfl) | (cases ho; exact Z.inL_mapr fun _ => rfl) | exact Z.inL_gB ho fun _ => rfl)), ?_⟩)))))
        | ((refine ⟨rfl, ?_, rfl⟩); (focus (repeat (first | exact Z.DK.nil | apply Z.DK.cons))))
        | (focus (exact (rfl : Nat.ble _ _ = true))))
      all_goals (try (conv => whnf))
      all_goals try (show Nat.ble _ _ = true; rfl)
      all_goals try (exfalso; rename_i hz; cases hz; done)
      all_goals try (exfalso; (try simp only [LN] at *) <;> omega)
      all_goals first
        | ((first | (with_reducible apply Z.retF1) | (with_reducible apply Z.retF2) | (with_reducible apply Z.retF0)); (focus (exact rfl)); (repeat' (first | exact trivial | (with_reducible apply Z.frz_one) | (with_reducible apply Z.frz_agg) | (with_reducible apply Z.fq_int) | (with_reducible apply Z.fq_bool) | (exact Z.frz_nil) | (exact Z.frz_osl0 rfl rfl rfl) | (with_reducible apply Z.fq_nil) | (with_reducible apply Z.fq_ro) | ((with_reducible apply Z.fq_gsl); (focus (first | rfl | exact Z.isB_map _ | exact Z.gB_snoc.symm)); (focus (exact fun _ => rfl))) | ((with_reducible apply Z.fq_osl); (focus (exact rfl)); (focus (first | exact rfl | (simp only [List.length_map, Nat.zero_add]; done) | ((try simp only [LN] at *) <;> omega))); (focus (exact fun _ => rfl))) | ((with_reducible apply Z.fq_src); (focus (exact rfl)); (focus (first | exact rfl | (simp only [List.length_map, Nat.zero_add]; done) | ((try simp only [LN] at *) <;> omega))); (focus (exact fun _ => rfl))) | exact rfl | ((apply Z.fq_osl); (focus (exact rfl)); (focus (first | exact rfl | (simp only [List.length_map, Nat.zero_add]; done) | ((try simp only [LN] at *) <;> omega))); (focus (exact fun _ => rfl))) | ((apply Z.fq_src); (focus (exact rfl)); (focus (first | exact rfl | (simp only [List.length_map, Nat.zero_add]; done) | ((try simp only [LN] at *) <;> omega))); (focus (exact fun _ => rfl))) | (apply Z.fq_ro) | (apply Z.fq_int) | (apply Z.fq_bool) | apply And.intro)); (all_goals (try exact (fun _ => none))); all_goals (first | rfl | (simp; done)))
        | (exfalso; rename_i hz; cases hz; done)
        | (exfalso; (try simp only [LN] at *) <;> omega)
        | (fail)
    rw [decide_eq_true hc, Bool.true_and] at HT
    rcases i with _ | j
    · have HT2 : tabR l = okT (prevR l 1) (l.drop 1) := by rw [HT]; rfl
      repeat' ((conv => whnf); first
        | with_reducible first | refine spB_t ?_
        | ((with_reducible apply spB_cong); (focus (simp only [beq_self_eq_true, bne_self_eq_false, Bool.true_bne, Bool.false_bne, Bool.bne_true, Bool.bne_false, Bool.true_beq, Bool.false_beq, Bool.not_true, Bool.not_false, Bool.not_not, Int.reduceBEq, Int.reduceBNe, Int.reduceLE, Int.reduceLT, Int.reduceEq, decide_true, decide_false]; rfl)))
        | with_reducible first | refine spB_yes (by decide) ?_ | refine spB_no (by decide) ?_ | refine spB_f ?_ | refine spB_not ?_ | refine spB_yes (by assumption) ?_ | refine spB_no (by assumption) ?_
        | (with_reducible refine spB_dec ?_ ?_ <;> intro _ <;> (try (exfalso; first | contradiction | omega | (rename_i hz; refine hz ?_; simp; done) | (rename_i hz; simp at hz; done) | (simp only [LN] at *; omega))))
        | (with_reducible refine spB_beq ?_ ?_ <;> intro _ <;> (try (exfalso; first | contradiction | omega | (rename_i hz; refine hz ?_; simp; done) | (rename_i hz; simp at hz; done) | (simp only [LN] at *; omega))))
        | (with_reducible refine spB_bne ?_ ?_ <;> intro _ <;> (try (exfalso; first | contradiction | omega | (rename_i hz; refine hz ?_; simp; done) | (rename_i hz; simp at hz; done) | (simp only [LN] at *; omega))))
        | (with_reducible refine spB_mk ?_ ?_ <;> intro _ <;> (try (exfalso; first | contradiction | omega | (rename_i hz; refine hz ?_; simp; done) | (rename_i hz; simp at hz; done) | (simp only [LN] at *; omega))))
        | with_reducible first | refine Z.rowN_known hx ?_
        | ((with_reducible apply rowN_mk); (focus rfl))
        | ((with_reducible apply ixN_lit); (focus (exact rfl)); (focus (exact rfl)))
        | ((with_reducible apply ixN_litp); (focus (exact rfl)); (focus ((try simp only [LN] at *) <;> omega)))
        | ((with_reducible refine eqN_mk2 ?_ ?_); (focus rfl))
        | with_reducible refine wr_i64 (by first | omega | (simp only [LN] at *; omega)) ?_
        | with_reducible refine wr_u64 (by omega) ?_
        | with_reducible refine wr_u8 (by omega) ?_
        | with_reducible refine wr_u32 (by omega) ?_
        | with_reducible first | refine wr_mk _ rfl ?_
        | ((with_reducible refine ixN_nat ?_ ?_); (focus ((try simp only [LN] at *) <;> omega)))
        | ((with_reducible refine rowN_map ?_ ?_); (focus ((try simp only [LN] at *) <;> omega)); intro x hx)
        | with_reducible refine eqN_dec (by omega) ?_
        | with_reducible first | refine apN_mk (by kernel_rfl) ?_ | refine Z.callZ_in tabOk 8 Try.f74 _ Try.func74 (by kernel_rfl) rfl rfl rfl ?_
        | ((first | (with_reducible refine Z.conZ_mz ?_ (ck) ?_) | (with_reducible refine Z.callZ_mk ?_ (ck) ?_)); (focus ((repeat' (first | exact trivial | exact rfl | exact Z.low_nil | exact Z.low_nil2 | exact low_osl (fun _ => rfl) | (refine Z.low_osln ?_ (fun _ => rfl); (simp only [List.length_map]; done)) | exact low_oslr (fun _ => rfl) | exact Z.low_gslm (by first | rfl | exact Z.kb_some rfl) (fun _ => rfl) | exact .inl rfl | exact .inr ⟨_, rfl⟩ | apply And.intro)); done)))
        | ((with_reducible refine eqN_mk2 ?_ ?_); (focus (exact Z.kb_some rfl)))
        | ((with_reducible apply ex_and); exact rfl)
        | with_reducible first | refine Z.drawZ_rule tabOk mixOk ?_ | refine Z.apZ_mk (by kernel_rfl) ?_
        | ((with_reducible refine Z.ConZ.red ?_); (try subst hlb); (apply Z.conZ_all); (focus (repeat (first | exact Z.FK.nil | (apply Z.FK.keep; exact rfl)))); (focus rfl); (focus rfl); (focus (repeat (first | exact trivial | (refine ⟨(fun o ho => (by first | (cases ho; rfl) | (cases ho; exact Z.inL_map fun _ => rfl) | (cases ho; exact Z.inL_mapr fun _ => rfl) | exact Z.inL_gB ho fun _ => rfl)), ?_⟩)))))
        | ((refine ⟨rfl, ?_, rfl⟩); (focus (repeat (first | exact Z.DK.nil | apply Z.DK.cons))))
        | (focus (exact (rfl : Nat.ble _ _ = true))))
      all_goals (try (conv => whnf))
      all_goals try (show Nat.ble _ _ = true; rfl)
      all_goals try (exfalso; rename_i hz; cases hz; done)
      all_goals try (exfalso; (try simp only [LN] at *) <;> omega)
      all_goals first
        | ((refine Z.rndK (1) (fun s => [0]) rfl rfl rfl rfl ?_ ?_ ?_ ?_); (focus (repeat' (first | exact trivial | exact Z.map_sub (Z.MapL.ren HM0 fun _ => rfl) rfl | exact Z.it_sub rfl | exact rfl | (rw [List.map_append]; exact rfl) | apply And.intro))); (focus (repeat' (first | exact trivial | exact Z.map_sub (Z.MapL.ren HM0 fun _ => rfl) rfl | exact Z.it_sub rfl | (intro b hb; cases hb; rfl) | (intro b hb; cases hb; subst hlb; rfl) | (intro b hb; cases hb; rw [List.map_append]; rfl) | (intro b hb; cases hb; done) | exact Z.blk_sub rfl rfl (ren_map fun _ => rfl) | exact Z.blk_sub rfl rfl (Z.ren_app (ren_map fun _ => rfl) (ren_map fun _ => rfl)) | exact Z.blk_sub rfl (by first | (rw [List.map_append]; rfl) | (rw [List.map_set]; rfl) | simp only [List.map_append, List.map_cons, List.map_nil, List.map_set]) (ren_map fun _ => rfl) | exact Z.gB_sub rfl rfl (ren_map fun _ => rfl) | exact Z.gB_sub' rfl (by first | rfl | (rw [List.map_append]; rfl) | simp only [List.map_append, List.map_cons, List.map_nil]) (ren_map fun _ => rfl) | apply And.intro))); (focus (exact ⟨by (try dsimp only); omega, HT2⟩)); ((try dsimp only); omega))
        | (exfalso; rename_i hz; cases hz; done)
        | (exfalso; (try simp only [LN] at *) <;> omega)
        | (fail)
    obtain ⟨q, hq⟩ := getElem?_some' (xs := l) (i := j) (by omega)
    have hpr : prevR l (j + 1) = some q := hq
    rw [hpr] at HT
    simp only at HT
    have cc := rcompare_con q.src q.key 0 x.src x.key 0
    have hcl := @cmp_lt q.src q.key x.src x.key
    generalize cmpR q.src q.key x.src x.key = C at *
    by_cases hlt : kLt q.src q.key x.src x.key
    · rw [decide_eq_true hlt] at HT hcl
      have hC : ¬ 0 ≤ C := of_decide_eq_false (by simpa using hcl)
      rw [Bool.true_and] at HT
      repeat' ((conv => whnf); first
        | with_reducible first | refine spB_t ?_
        | ((with_reducible apply spB_cong); (focus (simp only [beq_self_eq_true, bne_self_eq_false, Bool.true_bne, Bool.false_bne, Bool.bne_true, Bool.bne_false, Bool.true_beq, Bool.false_beq, Bool.not_true, Bool.not_false, Bool.not_not, Int.reduceBEq, Int.reduceBNe, Int.reduceLE, Int.reduceLT, Int.reduceEq, decide_true, decide_false]; rfl)))
        | with_reducible first | refine spB_yes (by decide) ?_ | refine spB_no (by decide) ?_ | refine spB_f ?_ | refine spB_not ?_ | refine spB_yes (by assumption) ?_ | refine spB_no (by assumption) ?_
        | (with_reducible refine spB_dec ?_ ?_ <;> intro _ <;> (try (exfalso; first | contradiction | omega | (rename_i hz; refine hz ?_; simp; done) | (rename_i hz; simp at hz; done) | (simp only [LN] at *; omega))))
        | (with_reducible refine spB_beq ?_ ?_ <;> intro _ <;> (try (exfalso; first | contradiction | omega | (rename_i hz; refine hz ?_; simp; done) | (rename_i hz; simp at hz; done) | (simp only [LN] at *; omega))))
        | (with_reducible refine spB_bne ?_ ?_ <;> intro _ <;> (try (exfalso; first | contradiction | omega | (rename_i hz; refine hz ?_; simp; done) | (rename_i hz; simp at hz; done) | (simp only [LN] at *; omega))))
        | (with_reducible refine spB_mk ?_ ?_ <;> intro _ <;> (try (exfalso; first | contradiction | omega | (rename_i hz; refine hz ?_; simp; done) | (rename_i hz; simp at hz; done) | (simp only [LN] at *; omega))))
        | with_reducible first | refine Z.rowN_known hx ?_ | refine Z.rowN_known hq ?_
        | ((with_reducible refine ixN_mk (j) ?_ ?_ ?_); (focus (first | rfl | ((try simp only [LN] at *) <;> omega))); (focus ((try simp only [LN] at *) <;> omega)))
        | ((with_reducible apply rowN_mk); (focus rfl))
        | ((with_reducible apply ixN_lit); (focus (exact rfl)); (focus (exact rfl)))
        | ((with_reducible apply ixN_litp); (focus (exact rfl)); (focus ((try simp only [LN] at *) <;> omega)))
        | ((with_reducible refine eqN_mk2 ?_ ?_); (focus rfl))
        | with_reducible refine wr_i64 (by first | omega | (simp only [LN] at *; omega)) ?_
        | with_reducible refine wr_u64 (by omega) ?_
        | with_reducible refine wr_u8 (by omega) ?_
        | with_reducible refine wr_u32 (by omega) ?_
        | with_reducible first | refine wr_mk _ rfl ?_
        | ((with_reducible refine ixN_nat ?_ ?_); (focus ((try simp only [LN] at *) <;> omega)))
        | ((with_reducible refine rowN_map ?_ ?_); (focus ((try simp only [LN] at *) <;> omega)); intro x hx)
        | with_reducible refine eqN_dec (by omega) ?_
        | with_reducible first | refine apN_mk (by kernel_rfl) ?_ | refine Z.callZ_in tabOk 8 Try.f74 _ Try.func74 (by kernel_rfl) rfl rfl rfl ?_
        | ((first | (with_reducible refine Z.conZ_mz ?_ (ck) ?_) | (with_reducible refine Z.callZ_mk ?_ (ck) ?_) | (with_reducible refine Z.conZ_mz ?_ (cc) ?_) | (with_reducible refine Z.callZ_mk ?_ (cc) ?_)); (focus ((repeat' (first | exact trivial | exact rfl | exact Z.low_nil | exact Z.low_nil2 | exact low_osl (fun _ => rfl) | (refine Z.low_osln ?_ (fun _ => rfl); (simp only [List.length_map]; done)) | exact low_oslr (fun _ => rfl) | exact Z.low_gslm (by first | rfl | exact Z.kb_some rfl) (fun _ => rfl) | exact .inl rfl | exact .inr ⟨_, rfl⟩ | apply And.intro)); done)))
        | ((with_reducible refine eqN_mk2 ?_ ?_); (focus (exact Z.kb_some rfl)))
        | ((with_reducible apply ex_and); exact rfl)
        | with_reducible first | refine Z.drawZ_rule tabOk mixOk ?_ | refine Z.apZ_mk (by kernel_rfl) ?_
        | ((with_reducible refine Z.ConZ.red ?_); (try subst hlb); (apply Z.conZ_all); (focus (repeat (first | exact Z.FK.nil | (apply Z.FK.keep; exact rfl)))); (focus rfl); (focus rfl); (focus (repeat (first | exact trivial | (refine ⟨(fun o ho => (by first | (cases ho; rfl) | (cases ho; exact Z.inL_map fun _ => rfl) | (cases ho; exact Z.inL_mapr fun _ => rfl) | exact Z.inL_gB ho fun _ => rfl)), ?_⟩)))))
        | ((refine ⟨rfl, ?_, rfl⟩); (focus (repeat (first | exact Z.DK.nil | apply Z.DK.cons))))
        | (focus (exact (rfl : Nat.ble _ _ = true))))
      all_goals (try (conv => whnf))
      all_goals try (show Nat.ble _ _ = true; rfl)
      all_goals try (exfalso; rename_i hz; cases hz; done)
      all_goals try (exfalso; (try simp only [LN] at *) <;> omega)
      all_goals first
        | ((refine Z.rndK ((j + 1 + 1)) (fun s => [0]) rfl rfl rfl rfl ?_ ?_ ?_ ?_); (focus (repeat' (first | exact trivial | exact Z.map_sub (Z.MapL.ren HM0 fun _ => rfl) rfl | exact Z.it_sub rfl | exact rfl | (rw [List.map_append]; exact rfl) | apply And.intro))); (focus (repeat' (first | exact trivial | exact Z.map_sub (Z.MapL.ren HM0 fun _ => rfl) rfl | exact Z.it_sub rfl | (intro b hb; cases hb; rfl) | (intro b hb; cases hb; subst hlb; rfl) | (intro b hb; cases hb; rw [List.map_append]; rfl) | (intro b hb; cases hb; done) | exact Z.blk_sub rfl rfl (ren_map fun _ => rfl) | exact Z.blk_sub rfl rfl (Z.ren_app (ren_map fun _ => rfl) (ren_map fun _ => rfl)) | exact Z.blk_sub rfl (by first | (rw [List.map_append]; rfl) | (rw [List.map_set]; rfl) | simp only [List.map_append, List.map_cons, List.map_nil, List.map_set]) (ren_map fun _ => rfl) | exact Z.gB_sub rfl rfl (ren_map fun _ => rfl) | exact Z.gB_sub' rfl (by first | rfl | (rw [List.map_append]; rfl) | simp only [List.map_append, List.map_cons, List.map_nil]) (ren_map fun _ => rfl) | apply And.intro))); (focus (exact ⟨by (try dsimp only); omega, HT⟩)); ((try dsimp only); omega))
        | (exfalso; rename_i hz; cases hz; done)
        | (exfalso; (try simp only [LN] at *) <;> omega)
        | (fail)
    · rw [decide_eq_false hlt] at HT hcl
      have hC : 0 ≤ C := of_decide_eq_true (by simpa using hcl)
      rw [Bool.false_and] at HT
      rw [HT]
      try simp only [cond_false]
      repeat' ((conv => whnf); first
        | with_reducible first | refine spB_t ?_
        | ((with_reducible apply spB_cong); (focus (simp only [beq_self_eq_true, bne_self_eq_false, Bool.true_bne, Bool.false_bne, Bool.bne_true, Bool.bne_false, Bool.true_beq, Bool.false_beq, Bool.not_true, Bool.not_false, Bool.not_not, Int.reduceBEq, Int.reduceBNe, Int.reduceLE, Int.reduceLT, Int.reduceEq, decide_true, decide_false]; rfl)))
        | with_reducible first | refine spB_yes (by decide) ?_ | refine spB_no (by decide) ?_ | refine spB_f ?_ | refine spB_not ?_ | refine spB_yes (by assumption) ?_ | refine spB_no (by assumption) ?_
        | (with_reducible refine spB_dec ?_ ?_ <;> intro _ <;> (try (exfalso; first | contradiction | omega | (rename_i hz; refine hz ?_; simp; done) | (rename_i hz; simp at hz; done) | (simp only [LN] at *; omega))))
        | (with_reducible refine spB_beq ?_ ?_ <;> intro _ <;> (try (exfalso; first | contradiction | omega | (rename_i hz; refine hz ?_; simp; done) | (rename_i hz; simp at hz; done) | (simp only [LN] at *; omega))))
        | (with_reducible refine spB_bne ?_ ?_ <;> intro _ <;> (try (exfalso; first | contradiction | omega | (rename_i hz; refine hz ?_; simp; done) | (rename_i hz; simp at hz; done) | (simp only [LN] at *; omega))))
        | (with_reducible refine spB_mk ?_ ?_ <;> intro _ <;> (try (exfalso; first | contradiction | omega | (rename_i hz; refine hz ?_; simp; done) | (rename_i hz; simp at hz; done) | (simp only [LN] at *; omega))))
        | with_reducible first | refine Z.rowN_known hx ?_ | refine Z.rowN_known hq ?_
        | ((with_reducible refine ixN_mk (j) ?_ ?_ ?_); (focus (first | rfl | ((try simp only [LN] at *) <;> omega))); (focus ((try simp only [LN] at *) <;> omega)))
        | ((with_reducible apply rowN_mk); (focus rfl))
        | ((with_reducible apply ixN_lit); (focus (exact rfl)); (focus (exact rfl)))
        | ((with_reducible apply ixN_litp); (focus (exact rfl)); (focus ((try simp only [LN] at *) <;> omega)))
        | ((with_reducible refine eqN_mk2 ?_ ?_); (focus rfl))
        | with_reducible refine wr_i64 (by first | omega | (simp only [LN] at *; omega)) ?_
        | with_reducible refine wr_u64 (by omega) ?_
        | with_reducible refine wr_u8 (by omega) ?_
        | with_reducible refine wr_u32 (by omega) ?_
        | with_reducible first | refine wr_mk _ rfl ?_
        | ((with_reducible refine ixN_nat ?_ ?_); (focus ((try simp only [LN] at *) <;> omega)))
        | ((with_reducible refine rowN_map ?_ ?_); (focus ((try simp only [LN] at *) <;> omega)); intro x hx)
        | with_reducible refine eqN_dec (by omega) ?_
        | with_reducible first | refine apN_mk (by kernel_rfl) ?_ | refine Z.callZ_in tabOk 8 Try.f74 _ Try.func74 (by kernel_rfl) rfl rfl rfl ?_
        | ((first | (with_reducible refine Z.conZ_mz ?_ (ck) ?_) | (with_reducible refine Z.callZ_mk ?_ (ck) ?_) | (with_reducible refine Z.conZ_mz ?_ (cc) ?_) | (with_reducible refine Z.callZ_mk ?_ (cc) ?_)); (focus ((repeat' (first | exact trivial | exact rfl | exact Z.low_nil | exact Z.low_nil2 | exact low_osl (fun _ => rfl) | (refine Z.low_osln ?_ (fun _ => rfl); (simp only [List.length_map]; done)) | exact low_oslr (fun _ => rfl) | exact Z.low_gslm (by first | rfl | exact Z.kb_some rfl) (fun _ => rfl) | exact .inl rfl | exact .inr ⟨_, rfl⟩ | apply And.intro)); done)))
        | ((with_reducible refine eqN_mk2 ?_ ?_); (focus (exact Z.kb_some rfl)))
        | ((with_reducible apply ex_and); exact rfl)
        | with_reducible first | refine Z.drawZ_rule tabOk mixOk ?_ | refine Z.apZ_mk (by kernel_rfl) ?_
        | ((with_reducible refine Z.ConZ.red ?_); (try subst hlb); (apply Z.conZ_all); (focus (repeat (first | exact Z.FK.nil | (apply Z.FK.keep; exact rfl)))); (focus rfl); (focus rfl); (focus (repeat (first | exact trivial | (refine ⟨(fun o ho => (by first | (cases ho; rfl) | (cases ho; exact Z.inL_map fun _ => rfl) | (cases ho; exact Z.inL_mapr fun _ => rfl) | exact Z.inL_gB ho fun _ => rfl)), ?_⟩)))))
        | ((refine ⟨rfl, ?_, rfl⟩); (focus (repeat (first | exact Z.DK.nil | apply Z.DK.cons))))
        | (focus (exact (rfl : Nat.ble _ _ = true))))
      all_goals (try (conv => whnf))
      all_goals try (show Nat.ble _ _ = true; rfl)
      all_goals try (exfalso; rename_i hz; cases hz; done)
      all_goals try (exfalso; (try simp only [LN] at *) <;> omega)
      all_goals first
        | ((first | (with_reducible apply Z.retF1) | (with_reducible apply Z.retF2) | (with_reducible apply Z.retF0)); (focus (exact rfl)); (repeat' (first | exact trivial | (with_reducible apply Z.frz_one) | (with_reducible apply Z.frz_agg) | (with_reducible apply Z.fq_int) | (with_reducible apply Z.fq_bool) | (exact Z.frz_nil) | (exact Z.frz_osl0 rfl rfl rfl) | (with_reducible apply Z.fq_nil) | (with_reducible apply Z.fq_ro) | ((with_reducible apply Z.fq_gsl); (focus (first | rfl | exact Z.isB_map _ | exact Z.gB_snoc.symm)); (focus (exact fun _ => rfl))) | ((with_reducible apply Z.fq_osl); (focus (exact rfl)); (focus (first | exact rfl | (simp only [List.length_map, Nat.zero_add]; done) | ((try simp only [LN] at *) <;> omega))); (focus (exact fun _ => rfl))) | ((with_reducible apply Z.fq_src); (focus (exact rfl)); (focus (first | exact rfl | (simp only [List.length_map, Nat.zero_add]; done) | ((try simp only [LN] at *) <;> omega))); (focus (exact fun _ => rfl))) | exact rfl | ((apply Z.fq_osl); (focus (exact rfl)); (focus (first | exact rfl | (simp only [List.length_map, Nat.zero_add]; done) | ((try simp only [LN] at *) <;> omega))); (focus (exact fun _ => rfl))) | ((apply Z.fq_src); (focus (exact rfl)); (focus (first | exact rfl | (simp only [List.length_map, Nat.zero_add]; done) | ((try simp only [LN] at *) <;> omega))); (focus (exact fun _ => rfl))) | (apply Z.fq_ro) | (apply Z.fq_int) | (apply Z.fq_bool) | apply And.intro)); (all_goals (try exact (fun _ => none))); all_goals (first | rfl | (simp; done)))
        | (exfalso; rename_i hz; cases hz; done)
        | (exfalso; (try simp only [LN] at *) <;> omega)
        | (fail)
  have hil : i = l.length := by omega
  subst hil
  rw [List.drop_length] at HT
  have HT3 : tabR l = true := by rw [HT]; cases prevR l l.length <;> rfl
  rw [HT3]
  try simp only [cond_true]
  repeat' ((conv => whnf); first
    | with_reducible first | refine spB_t ?_
    | ((with_reducible apply spB_cong); (focus (simp only [beq_self_eq_true, bne_self_eq_false, Bool.true_bne, Bool.false_bne, Bool.bne_true, Bool.bne_false, Bool.true_beq, Bool.false_beq, Bool.not_true, Bool.not_false, Bool.not_not, Int.reduceBEq, Int.reduceBNe, Int.reduceLE, Int.reduceLT, Int.reduceEq, decide_true, decide_false]; rfl)))
    | with_reducible first | refine spB_yes (by decide) ?_ | refine spB_no (by decide) ?_ | refine spB_f ?_ | refine spB_not ?_ | refine spB_yes (by assumption) ?_ | refine spB_no (by assumption) ?_
    | (with_reducible refine spB_dec ?_ ?_ <;> intro _ <;> (try (exfalso; first | contradiction | omega | (rename_i hz; refine hz ?_; simp; done) | (rename_i hz; simp at hz; done) | (simp only [LN] at *; omega))))
    | (with_reducible refine spB_beq ?_ ?_ <;> intro _ <;> (try (exfalso; first | contradiction | omega | (rename_i hz; refine hz ?_; simp; done) | (rename_i hz; simp at hz; done) | (simp only [LN] at *; omega))))
    | (with_reducible refine spB_bne ?_ ?_ <;> intro _ <;> (try (exfalso; first | contradiction | omega | (rename_i hz; refine hz ?_; simp; done) | (rename_i hz; simp at hz; done) | (simp only [LN] at *; omega))))
    | (with_reducible refine spB_mk ?_ ?_ <;> intro _ <;> (try (exfalso; first | contradiction | omega | (rename_i hz; refine hz ?_; simp; done) | (rename_i hz; simp at hz; done) | (simp only [LN] at *; omega))))
    | ((with_reducible apply rowN_mk); (focus rfl))
    | ((with_reducible apply ixN_lit); (focus (exact rfl)); (focus (exact rfl)))
    | ((with_reducible apply ixN_litp); (focus (exact rfl)); (focus ((try simp only [LN] at *) <;> omega)))
    | ((with_reducible refine eqN_mk2 ?_ ?_); (focus rfl))
    | with_reducible refine wr_i64 (by first | omega | (simp only [LN] at *; omega)) ?_
    | with_reducible refine wr_u64 (by omega) ?_
    | with_reducible refine wr_u8 (by omega) ?_
    | with_reducible refine wr_u32 (by omega) ?_
    | with_reducible first | refine wr_mk _ rfl ?_
    | ((with_reducible refine ixN_nat ?_ ?_); (focus ((try simp only [LN] at *) <;> omega)))
    | ((with_reducible refine rowN_map ?_ ?_); (focus ((try simp only [LN] at *) <;> omega)); intro x hx)
    | with_reducible refine eqN_dec (by omega) ?_
    | with_reducible first | refine apN_mk (by kernel_rfl) ?_ | refine Z.callZ_in tabOk 8 Try.f74 _ Try.func74 (by kernel_rfl) rfl rfl rfl ?_
    | ((with_reducible refine eqN_mk2 ?_ ?_); (focus (exact Z.kb_some rfl)))
    | ((with_reducible apply ex_and); exact rfl)
    | with_reducible first | refine Z.drawZ_rule tabOk mixOk ?_ | refine Z.apZ_mk (by kernel_rfl) ?_
    | ((with_reducible refine Z.ConZ.red ?_); (try subst hlb); (apply Z.conZ_all); (focus (repeat (first | exact Z.FK.nil | (apply Z.FK.keep; exact rfl)))); (focus rfl); (focus rfl); (focus (repeat (first | exact trivial | (refine ⟨(fun o ho => (by first | (cases ho; rfl) | (cases ho; exact Z.inL_map fun _ => rfl) | (cases ho; exact Z.inL_mapr fun _ => rfl) | exact Z.inL_gB ho fun _ => rfl)), ?_⟩)))))
    | ((refine ⟨rfl, ?_, rfl⟩); (focus (repeat (first | exact Z.DK.nil | apply Z.DK.cons))))
    | (focus (exact (rfl : Nat.ble _ _ = true))))
  all_goals (try (conv => whnf))
  all_goals try (show Nat.ble _ _ = true; rfl)
  all_goals try (exfalso; rename_i hz; cases hz; done)
  all_goals try (exfalso; (try simp only [LN] at *) <;> omega)
  all_goals first
    | ((first | (with_reducible apply Z.retF1) | (with_reducible apply Z.retF2) | (with_reducible apply Z.retF0)); (focus (exact rfl)); (repeat' (first | exact trivial | (with_reducible apply Z.frz_one) | (with_reducible apply Z.frz_agg) | (with_reducible apply Z.fq_int) | (with_reducible apply Z.fq_bool) | (exact Z.frz_nil) | (exact Z.frz_osl0 rfl rfl rfl) | (with_reducible apply Z.fq_nil) | (with_reducible apply Z.fq_ro) | ((with_reducible apply Z.fq_gsl); (focus (first | rfl | exact Z.isB_map _ | exact Z.gB_snoc.symm)); (focus (exact fun _ => rfl))) | ((with_reducible apply Z.fq_osl); (focus (exact rfl)); (focus (first | exact rfl | (simp only [List.length_map, Nat.zero_add]; done) | ((try simp only [LN] at *) <;> omega))); (focus (exact fun _ => rfl))) | ((with_reducible apply Z.fq_src); (focus (exact rfl)); (focus (first | exact rfl | (simp only [List.length_map, Nat.zero_add]; done) | ((try simp only [LN] at *) <;> omega))); (focus (exact fun _ => rfl))) | exact rfl | ((apply Z.fq_osl); (focus (exact rfl)); (focus (first | exact rfl | (simp only [List.length_map, Nat.zero_add]; done) | ((try simp only [LN] at *) <;> omega))); (focus (exact fun _ => rfl))) | ((apply Z.fq_src); (focus (exact rfl)); (focus (first | exact rfl | (simp only [List.length_map, Nat.zero_add]; done) | ((try simp only [LN] at *) <;> omega))); (focus (exact fun _ => rfl))) | (apply Z.fq_ro) | (apply Z.fq_int) | (apply Z.fq_bool) | apply And.intro)); (all_goals (try exact (fun _ => none))); all_goals (first | rfl | (simp; done)))
    | (exfalso; rename_i hz; cases hz; done)
    | (exfalso; (try simp only [LN] at *) <;> omega)
    | (fail)
end Tab
end Go.Proofs.Ytopieffkpdlpbaa
namespace Go.Proofs.Ytopieffkpdlpbaa
open Go Go.RowKit Wx
set_option linter.unusedVariables false
set_option linter.unusedSimpArgs false
set_option maxHeartbeats 4000000
namespace Tab
theorem part_mine {T : List Kc} {i w : Int} (h : tabR T = true) (hs : okS i w) : partL T i w = T.filter fun x => decide (ownG (x.key % 8) w = i) := by
  unfold partL
  refine List.filter_congr fun x hx => ?_
  unfold mineB
  rw [((tab_iff.1 h).1 x hx).1, decide_eq_true hs]
  rfl
end Tab
end Go.Proofs.Ytopieffkpdlpbaa
