import Derived.Test.YtopieffkpdlpbaaOwn6
set_option linter.unusedVariables false
set_option linter.unusedSimpArgs false
namespace Go.Proofs.Ytopieffkpdlpbaa
open Go Go.RowKit Wx
set_option maxHeartbeats 40000000
namespace Tab
theorem dec_a (b : List Int) (N i : Nat) (acc : List Kc)  (hB : isB ([] : List Int)) (hL : (([] : List Int) : List Int).length ≤ 1099511627776) (HC : acc.length + (i + 1) = N) (HD : decK N b = preK acc (decK (i + 1) ([] : List Int))) (hN : N ≤ 65535)  {Q : Exit → Z.S → Prop} : Z.codeZ Try.prog tab 59 0 none (lbody Try.f60) ⟨dCH (i + 1, ([] : List Int), acc, 0) ++ dFk, dCK (i + 1, ([] : List Int), acc, 0) ++ dKk, 6⟩ (loopPost (dRnd b N (i + 1, ([] : List Int), acc, 0)) Q) := by
 dsimp only [dCH, dFk, dCK, dKk, dRnd]
 have hj1 : IntKind.i64.wrap (((i + 1 : Nat) : Int) - 1) = (i : Int) := by
  rw [show (((i + 1 : Nat) : Int) - 1) = (i : Int) by omega]
  simp [IntKind.wrap, IntKind.bits, IntKind.signed]; omega
 repeat' ((conv => whnf); first
  | with_reducible first | refine spB_t ?_
  | ((with_reducible apply spB_cong); (focus (simp only [splQ, Int.reduceBEq, Int.reduceBNe]; rfl)))
  | with_reducible first | refine spB_yes (by decide) ?_ | refine spB_no (by decide) ?_ | refine spB_f ?_ | refine spB_not ?_ | refine spB_yes (by assumption) ?_ | refine spB_no (by assumption) ?_
  | (with_reducible refine spB_dec ?_ ?_ <;> intro _ <;> (try (exfalso; first | contradiction | omega | (rename_i hz; refine hz ?_; simp; done) | (rename_i hz; simp at hz; done) | (simp only [LN] at *; omega))))
  | (with_reducible refine spB_beq ?_ ?_ <;> intro _ <;> (try (exfalso; first | contradiction | omega | (rename_i hz; refine hz ?_; simp; done) | (rename_i hz; simp at hz; done) | (simp only [LN] at *; omega))))
  | (with_reducible refine spB_bne ?_ ?_ <;> intro _ <;> (try (exfalso; first | contradiction | omega | (rename_i hz; refine hz ?_; simp; done) | (rename_i hz; simp at hz; done) | (simp only [LN] at *; omega))))
  | (with_reducible refine spB_mk ?_ ?_ <;> intro _ <;> (try (exfalso; first | contradiction | omega | (rename_i hz; refine hz ?_; simp; done) | (rename_i hz; simp at hz; done) | (simp only [LN] at *; omega))))
  | (refine Z.updN.mk ⟨_, rfl, ?_⟩)
  | (refine Z.lookN.mk ⟨_, _, rfl, ?_⟩)
  | with_reducible first | refine Z.callZ_mfa ?_
  | ((refine sl3N_mk 0 1 1 rfl rfl rfl ?_ ?_ ?_ ?_ ?_); (iterate 4 (focus (first | exact .inl rfl | ((try simp only [LN] at *) <;> omega)))))
  | ((refine sl3N_mk 0 8 8 rfl rfl rfl ?_ ?_ ?_ ?_ ?_); (iterate 4 (focus (first | exact .inl rfl | ((try simp only [LN] at *) <;> omega)))))
  | ((with_reducible refine Z.slN_lo 1 ?_ ?_ ?_); (focus rfl); (focus ((try simp only [LN] at *) <;> omega)))
  | ((with_reducible refine Z.slN_lo 8 ?_ ?_ ?_); (focus rfl); (focus ((try simp only [LN] at *) <;> omega)))
  | (refine loopZ_unr1 tabOk rfl ?_)
  | ((with_reducible refine wr_shl8 ?_ ?_); (focus omega))
  | ((with_reducible refine wr_or0 ?_ ?_); (focus omega))
  | with_reducible first | refine rowN_mk _ rfl ?_
  | ((with_reducible refine wr_mk (i : Int) hj1 ?_))
  | ((with_reducible refine posE_pos ?_ ?_); (focus ((try simp only [LN] at *) <;> omega)))
  | ((with_reducible refine posE_nil ?_ ?_); (focus rfl))
  | ((with_reducible apply rowN_mk); (focus rfl))
  | ((with_reducible apply ixN_lit); (focus rfl); (focus rfl))
  | ((with_reducible apply ixN_litp); (focus rfl); (focus ((try simp only [LN] at *) <;> omega)))
  | ((with_reducible refine eqN_mk2 ?_ ?_); (focus rfl))
  | ((with_reducible refine posN_mk2 ?_ ?_); (focus (first | decide | ((try simp only [LN] at *) <;> omega))))
  | ((with_reducible refine apdE_r ?_); (with_reducible refine aprN.mk ⟨_, rfl, ?_⟩ ?_ ?_ ?_ ?_); (focus ((try simp only [LN] at *) <;> omega)); (focus (first | rfl | (simp; done) | ((try simp only [LN] at *) <;> omega))); (focus (first | exact one_all (by rfl) | exact one_map (fun _ => rfl) | exact one_map2 (fun _ => rfl) | exact one_drop (fun _ => rfl))); (focus ((try simp only [LN] at *) <;> omega)))
  | ((with_reducible refine apdE_k ?_); (with_reducible refine apkN.mk ⟨_, rfl, ?_⟩ ?_); (focus ((try simp only [LN] at *) <;> omega)))
  | with_reducible first | refine apdE_n ?_
  | ((with_reducible refine slE_a ?_ ?_); (focus ((try simp only [LN] at *) <;> omega)))
  | ((with_reducible refine slE_b ?_ ?_); (focus ((try simp only [LN] at *) <;> omega)))
  | ((with_reducible refine slE_split ?_ ?_ ?_); (focus ((try simp only [LN] at *) <;> omega)); (all_goals intro _))
  | ((with_reducible apply sl3N_mk); (focus rfl); (focus rfl); (focus rfl); (focus ((try simp only [LN] at *) <;> omega)); (focus ((try simp only [LN] at *) <;> omega)); (focus ((try simp only [LN] at *) <;> omega)); (focus ((try simp only [LN] at *) <;> omega)))
  | ((with_reducible refine apdN.mk ?_ ?_ ?_ ?_ ?_ ?_); (focus (first | rfl | (simp; done))); (focus (first | exact one_all (by rfl) | exact one_map (fun _ => rfl) | exact one_map2 (fun _ => rfl))); (focus ((try simp only [LN] at *) <;> omega)); (focus ((try simp only [LN] at *) <;> omega)); (focus ((try simp only [LN] at *) <;> omega)))
  | with_reducible refine wr_i64 (by first | omega | (simp only [LN] at *; omega)) ?_
  | with_reducible refine wr_u64 (by omega) ?_
  | with_reducible refine wr_u8 (by omega) ?_
  | with_reducible refine wr_u32 (by omega) ?_
  | with_reducible first | refine wr_mk _ rfl ?_
  | ((with_reducible refine ixN_nat ?_ ?_); (focus ((try simp only [LN] at *) <;> omega)))
  | ((with_reducible refine rowN_map ?_ ?_); (focus ((try simp only [LN] at *) <;> omega)); intro x hx)
  | ((with_reducible refine posE_nil (by rfl) ?_))
  | ((with_reducible refine posE_pos (by decide) ?_))
  | with_reducible refine vN_mod (by omega) ?_
  | with_reducible first | refine vN_mk ?_
  | with_reducible refine nzN_mk (by omega) ?_
  | with_reducible refine eqN_dec (by omega) ?_
  | with_reducible first | refine apN_mk (by kernel_rfl) ?_ | refine Z.callZ_in tabOk 18 Try.f111 _ Try.func111 (by kernel_rfl) rfl rfl rfl ?_ | refine Z.callZ_in tabOk 8 Try.f55 _ Try.func55 (by kernel_rfl) rfl rfl rfl ?_ | refine Z.callZ_in tabOk 6 Try.f56 _ Try.func56 (by kernel_rfl) rfl rfl rfl ?_ | refine Z.callZ_in tabOk 10 Try.f59 _ Try.func59 (by kernel_rfl) rfl rfl rfl ?_ | refine Z.callZ_in tabOk 11 Try.f61 _ Try.func61 (by kernel_rfl) rfl rfl rfl ?_ | refine Z.callZ_in tabOk 6 Try.f95 _ Try.func95 (by kernel_rfl) rfl rfl rfl ?_ | refine Z.callZ_in tabOk 5 Try.f97 _ Try.func97 (by kernel_rfl) rfl rfl rfl ?_ | refine Z.callZ_in tabOk 10 Try.f94 _ Try.func94 (by kernel_rfl) rfl rfl rfl ?_ | refine Z.callZ_in tabOk 58 Try.f110 _ Try.func110 (by kernel_rfl) rfl rfl rfl ?_
  | ((first | (with_reducible refine Z.conZ_mz ?_ (cc) ?_) | (with_reducible refine Z.callZ_mk ?_ (cc) ?_) | (with_reducible refine Z.conZ_mz ?_ (ccp) ?_) | (with_reducible refine Z.callZ_mk ?_ (ccp) ?_)); (focus ((repeat' (first | exact trivial | exact rfl | exact Z.low_nil | exact Z.low_nil2 | exact low_osl (fun _ => rfl) | (refine Z.low_osln ?_ (fun _ => rfl); (simp only [List.length_map]; done)) | exact low_oslr (fun _ => rfl) | exact Z.low_gslm (by first | rfl | exact Z.kb_some rfl) (fun _ => rfl) | exact .inl rfl | exact .inr ⟨_, rfl⟩ | apply And.intro)); done)))
  | ((with_reducible refine eqN_mk2 ?_ ?_); (focus (exact Z.kb_some rfl)))
  | ((with_reducible apply ex_and); exact rfl)
  | with_reducible first | refine Z.drawZ_rule tabOk mixOk ?_ | refine Z.apZ_mk (by kernel_rfl) ?_
  | ((with_reducible refine Z.ConZ.red ?_); (try subst hlb); (apply Z.conZ_all); (focus (repeat (first | exact Z.FK.nil | (apply Z.FK.keep; exact rfl)))); (focus rfl); (focus rfl); (focus (repeat (first | exact trivial | (refine ⟨(fun o ho => (by first | (cases ho; rfl) | (cases ho; exact Z.inL_map fun _ => rfl) | (cases ho; exact Z.inL_mapr fun _ => rfl) | exact Z.inL_gB ho fun _ => rfl)), ?_⟩)))))
  | ((refine ⟨rfl, ?_, rfl⟩); (focus (repeat (first | exact Z.DK.nil | apply Z.DK.cons))))
  | (focus (exact (rfl : Nat.ble _ _ = true))))
 all_goals (try (conv => whnf))
 all_goals try first | (show Nat.ble _ _ = true; rfl) | (exfalso; rename_i hz; cases hz; done) | (exfalso; (try simp only [LN] at *) <;> omega)
 all_goals first
  | ((refine Z.rndK ((i, ([] : List Int), acc ++ [(⟨0, 0, 0, 0⟩ : Kc)], 7)) (fun s => [0, 1, 2, 3, 4, s.idIn 2 0]) rfl rfl rfl rfl ?_ ?_ ?_ ?_); (focus (repeat' (first | exact trivial | exact Z.map_sub (Z.MapL.ren HM0 fun _ => rfl) rfl | exact Z.it_sub rfl | exact rfl | (rw [List.map_append]; exact rfl) | apply And.intro))); (focus (repeat' (first | exact trivial | exact Z.map_sub (Z.MapL.ren HM0 fun _ => rfl) rfl | exact Z.it_sub rfl | (intro b hb; cases hb; rfl) | (intro b hb; cases hb; subst hlb; rfl) | (intro b hb; cases hb; rw [List.map_append]; rfl) | (intro b hb; cases hb; done) | exact Z.blk_sub rfl rfl (ren_map fun _ => rfl) | exact Z.blk_sub rfl rfl (Z.ren_app (ren_map fun _ => rfl) (ren_map fun _ => rfl)) | exact Z.blk_sub rfl (by first | (rw [List.map_append]; rfl) | (rw [List.map_set]; rfl) | simp only [List.map_append, List.map_cons, List.map_nil, List.map_set]) (ren_map fun _ => rfl) | exact Z.gB_sub rfl rfl (ren_map fun _ => rfl) | exact Z.gB_sub' rfl (by first | rfl | (rw [List.map_append]; rfl) | simp only [List.map_append, List.map_cons, List.map_nil]) (ren_map fun _ => rfl) | apply And.intro))); (focus (exact ⟨by (try dsimp only); omega, ⟨by (try dsimp only); first | (intro x hx; cases hx; done) | exact hBr | exact isB_drop hBr, by (try dsimp only); (try simp only [List.length_cons, List.length_drop, List.length_nil] at *); omega⟩, by (try dsimp only); simp only [List.length_append, List.length_cons, List.length_nil]; omega, .inr ⟨rfl, by (try dsimp only); rw [HD]; exact preK_bad (by simp only [List.length_cons, List.length_nil]; omega)⟩⟩)); ((try dsimp only); omega))
  | (exfalso; rename_i hz; cases hz; done)
  | (exfalso; (try simp only [LN] at *) <;> omega)
  | (fail)
end Tab
end Go.Proofs.Ytopieffkpdlpbaa
namespace Go.Proofs.Ytopieffkpdlpbaa
open Go Go.RowKit Wx
set_option maxHeartbeats 40000000
namespace Tab
theorem dec_b (b : List Int) (N i : Nat) (acc : List Kc) (t : Int) (hB : isB [t]) (hL : ([t] : List Int).length ≤ 1099511627776) (HC : acc.length + (i + 1) = N) (HD : decK N b = preK acc (decK (i + 1) [t])) (hN : N ≤ 65535)  {Q : Exit → Z.S → Prop} : Z.codeZ Try.prog tab 59 0 none (lbody Try.f60) ⟨dCH (i + 1, [t], acc, 0) ++ dFk, dCK (i + 1, [t], acc, 0) ++ dKk, 6⟩ (loopPost (dRnd b N (i + 1, [t], acc, 0)) Q) := by
 dsimp only [dCH, dFk, dCK, dKk, dRnd]
 have hj1 : IntKind.i64.wrap (((i + 1 : Nat) : Int) - 1) = (i : Int) := by
  rw [show (((i + 1 : Nat) : Int) - 1) = (i : Int) by omega]
  simp [IntKind.wrap, IntKind.bits, IntKind.signed]; omega
 have hb_t := hB t (by simp)
 repeat' ((conv => whnf); first
  | with_reducible first | refine spB_t ?_
  | ((with_reducible apply spB_cong); (focus (simp only [splQ, Int.reduceBEq, Int.reduceBNe]; rfl)))
  | with_reducible first | refine spB_yes (by decide) ?_ | refine spB_no (by decide) ?_ | refine spB_f ?_ | refine spB_not ?_ | refine spB_yes (by assumption) ?_ | refine spB_no (by assumption) ?_
  | (with_reducible refine spB_dec ?_ ?_ <;> intro _ <;> (try (exfalso; first | contradiction | omega | (rename_i hz; refine hz ?_; simp; done) | (rename_i hz; simp at hz; done) | (simp only [LN] at *; omega))))
  | (with_reducible refine spB_beq ?_ ?_ <;> intro _ <;> (try (exfalso; first | contradiction | omega | (rename_i hz; refine hz ?_; simp; done) | (rename_i hz; simp at hz; done) | (simp only [LN] at *; omega))))
  | (with_reducible refine spB_bne ?_ ?_ <;> intro _ <;> (try (exfalso; first | contradiction | omega | (rename_i hz; refine hz ?_; simp; done) | (rename_i hz; simp at hz; done) | (simp only [LN] at *; omega))))
  | (with_reducible refine spB_mk ?_ ?_ <;> intro _ <;> (try (exfalso; first | contradiction | omega | (rename_i hz; refine hz ?_; simp; done) | (rename_i hz; simp at hz; done) | (simp only [LN] at *; omega))))
  | (refine Z.updN.mk ⟨_, rfl, ?_⟩)
  | (refine Z.lookN.mk ⟨_, _, rfl, ?_⟩)
  | with_reducible first | refine Z.callZ_mfa ?_
  | ((refine sl3N_mk 0 1 1 rfl rfl rfl ?_ ?_ ?_ ?_ ?_); (iterate 4 (focus (first | exact .inl rfl | ((try simp only [LN] at *) <;> omega)))))
  | ((refine sl3N_mk 0 8 8 rfl rfl rfl ?_ ?_ ?_ ?_ ?_); (iterate 4 (focus (first | exact .inl rfl | ((try simp only [LN] at *) <;> omega)))))
  | ((with_reducible refine Z.slN_lo 1 ?_ ?_ ?_); (focus rfl); (focus ((try simp only [LN] at *) <;> omega)))
  | ((with_reducible refine Z.slN_lo 8 ?_ ?_ ?_); (focus rfl); (focus ((try simp only [LN] at *) <;> omega)))
  | (refine loopZ_unr1 tabOk rfl ?_)
  | ((with_reducible refine wr_shl8 ?_ ?_); (focus omega))
  | ((with_reducible refine wr_or0 ?_ ?_); (focus omega))
  | with_reducible first | refine rowN_mk _ rfl ?_
  | ((with_reducible refine wr_mk (i : Int) hj1 ?_))
  | ((with_reducible refine posE_pos ?_ ?_); (focus ((try simp only [LN] at *) <;> omega)))
  | ((with_reducible refine posE_nil ?_ ?_); (focus rfl))
  | ((with_reducible apply rowN_mk); (focus rfl))
  | ((with_reducible apply ixN_lit); (focus rfl); (focus rfl))
  | ((with_reducible apply ixN_litp); (focus rfl); (focus ((try simp only [LN] at *) <;> omega)))
  | ((with_reducible refine eqN_mk2 ?_ ?_); (focus rfl))
  | ((with_reducible refine posN_mk2 ?_ ?_); (focus (first | decide | ((try simp only [LN] at *) <;> omega))))
  | ((with_reducible refine apdE_r ?_); (with_reducible refine aprN.mk ⟨_, rfl, ?_⟩ ?_ ?_ ?_ ?_); (focus ((try simp only [LN] at *) <;> omega)); (focus (first | rfl | (simp; done) | ((try simp only [LN] at *) <;> omega))); (focus (first | exact one_all (by rfl) | exact one_map (fun _ => rfl) | exact one_map2 (fun _ => rfl) | exact one_drop (fun _ => rfl))); (focus ((try simp only [LN] at *) <;> omega)))
  | ((with_reducible refine apdE_k ?_); (with_reducible refine apkN.mk ⟨_, rfl, ?_⟩ ?_); (focus ((try simp only [LN] at *) <;> omega)))
  | with_reducible first | refine apdE_n ?_
  | ((with_reducible refine slE_a ?_ ?_); (focus ((try simp only [LN] at *) <;> omega)))
  | ((with_reducible refine slE_b ?_ ?_); (focus ((try simp only [LN] at *) <;> omega)))
  | ((with_reducible refine slE_split ?_ ?_ ?_); (focus ((try simp only [LN] at *) <;> omega)); (all_goals intro _))
  | ((with_reducible apply sl3N_mk); (focus rfl); (focus rfl); (focus rfl); (focus ((try simp only [LN] at *) <;> omega)); (focus ((try simp only [LN] at *) <;> omega)); (focus ((try simp only [LN] at *) <;> omega)); (focus ((try simp only [LN] at *) <;> omega)))
  | ((with_reducible refine apdN.mk ?_ ?_ ?_ ?_ ?_ ?_); (focus (first | rfl | (simp; done))); (focus (first | exact one_all (by rfl) | exact one_map (fun _ => rfl) | exact one_map2 (fun _ => rfl))); (focus ((try simp only [LN] at *) <;> omega)); (focus ((try simp only [LN] at *) <;> omega)); (focus ((try simp only [LN] at *) <;> omega)))
  | with_reducible refine wr_i64 (by first | omega | (simp only [LN] at *; omega)) ?_
  | with_reducible refine wr_u64 (by omega) ?_
  | with_reducible refine wr_u8 (by omega) ?_
  | with_reducible refine wr_u32 (by omega) ?_
  | with_reducible first | refine wr_mk _ rfl ?_
  | ((with_reducible refine ixN_nat ?_ ?_); (focus ((try simp only [LN] at *) <;> omega)))
  | ((with_reducible refine rowN_map ?_ ?_); (focus ((try simp only [LN] at *) <;> omega)); intro x hx)
  | ((with_reducible refine posE_nil (by rfl) ?_))
  | ((with_reducible refine posE_pos (by decide) ?_))
  | with_reducible refine vN_mod (by omega) ?_
  | with_reducible first | refine vN_mk ?_
  | with_reducible refine nzN_mk (by omega) ?_
  | with_reducible refine eqN_dec (by omega) ?_
  | with_reducible first | refine apN_mk (by kernel_rfl) ?_ | refine Z.callZ_in tabOk 18 Try.f111 _ Try.func111 (by kernel_rfl) rfl rfl rfl ?_ | refine Z.callZ_in tabOk 8 Try.f55 _ Try.func55 (by kernel_rfl) rfl rfl rfl ?_ | refine Z.callZ_in tabOk 6 Try.f56 _ Try.func56 (by kernel_rfl) rfl rfl rfl ?_ | refine Z.callZ_in tabOk 10 Try.f59 _ Try.func59 (by kernel_rfl) rfl rfl rfl ?_ | refine Z.callZ_in tabOk 11 Try.f61 _ Try.func61 (by kernel_rfl) rfl rfl rfl ?_ | refine Z.callZ_in tabOk 6 Try.f95 _ Try.func95 (by kernel_rfl) rfl rfl rfl ?_ | refine Z.callZ_in tabOk 5 Try.f97 _ Try.func97 (by kernel_rfl) rfl rfl rfl ?_ | refine Z.callZ_in tabOk 10 Try.f94 _ Try.func94 (by kernel_rfl) rfl rfl rfl ?_ | refine Z.callZ_in tabOk 58 Try.f110 _ Try.func110 (by kernel_rfl) rfl rfl rfl ?_
  | ((first | (with_reducible refine Z.conZ_mz ?_ (cc) ?_) | (with_reducible refine Z.callZ_mk ?_ (cc) ?_) | (with_reducible refine Z.conZ_mz ?_ (ccp) ?_) | (with_reducible refine Z.callZ_mk ?_ (ccp) ?_)); (focus ((repeat' (first | exact trivial | exact rfl | exact Z.low_nil | exact Z.low_nil2 | exact low_osl (fun _ => rfl) | (refine Z.low_osln ?_ (fun _ => rfl); (simp only [List.length_map]; done)) | exact low_oslr (fun _ => rfl) | exact Z.low_gslm (by first | rfl | exact Z.kb_some rfl) (fun _ => rfl) | exact .inl rfl | exact .inr ⟨_, rfl⟩ | apply And.intro)); done)))
  | ((with_reducible refine eqN_mk2 ?_ ?_); (focus (exact Z.kb_some rfl)))
  | ((with_reducible apply ex_and); exact rfl)
  | with_reducible first | refine Z.drawZ_rule tabOk mixOk ?_ | refine Z.apZ_mk (by kernel_rfl) ?_
  | ((with_reducible refine Z.ConZ.red ?_); (try subst hlb); (apply Z.conZ_all); (focus (repeat (first | exact Z.FK.nil | (apply Z.FK.keep; exact rfl)))); (focus rfl); (focus rfl); (focus (repeat (first | exact trivial | (refine ⟨(fun o ho => (by first | (cases ho; rfl) | (cases ho; exact Z.inL_map fun _ => rfl) | (cases ho; exact Z.inL_mapr fun _ => rfl) | exact Z.inL_gB ho fun _ => rfl)), ?_⟩)))))
  | ((refine ⟨rfl, ?_, rfl⟩); (focus (repeat (first | exact Z.DK.nil | apply Z.DK.cons))))
  | (focus (exact (rfl : Nat.ble _ _ = true))))
 all_goals (try (conv => whnf))
 all_goals try first | (show Nat.ble _ _ = true; rfl) | (exfalso; rename_i hz; cases hz; done) | (exfalso; (try simp only [LN] at *) <;> omega)
 all_goals first
  | ((refine Z.rndK ((i, ([] : List Int), acc ++ [(⟨t, 0, 0, 0⟩ : Kc)], 7)) (fun s => [0, 1, 2, 3, 4, s.idIn 2 0]) rfl rfl rfl rfl ?_ ?_ ?_ ?_); (focus (repeat' (first | exact trivial | exact Z.map_sub (Z.MapL.ren HM0 fun _ => rfl) rfl | exact Z.it_sub rfl | exact rfl | (rw [List.map_append]; exact rfl) | apply And.intro))); (focus (repeat' (first | exact trivial | exact Z.map_sub (Z.MapL.ren HM0 fun _ => rfl) rfl | exact Z.it_sub rfl | (intro b hb; cases hb; rfl) | (intro b hb; cases hb; subst hlb; rfl) | (intro b hb; cases hb; rw [List.map_append]; rfl) | (intro b hb; cases hb; done) | exact Z.blk_sub rfl rfl (ren_map fun _ => rfl) | exact Z.blk_sub rfl rfl (Z.ren_app (ren_map fun _ => rfl) (ren_map fun _ => rfl)) | exact Z.blk_sub rfl (by first | (rw [List.map_append]; rfl) | (rw [List.map_set]; rfl) | simp only [List.map_append, List.map_cons, List.map_nil, List.map_set]) (ren_map fun _ => rfl) | exact Z.gB_sub rfl rfl (ren_map fun _ => rfl) | exact Z.gB_sub' rfl (by first | rfl | (rw [List.map_append]; rfl) | simp only [List.map_append, List.map_cons, List.map_nil]) (ren_map fun _ => rfl) | apply And.intro))); (focus (exact ⟨by (try dsimp only); omega, ⟨by (try dsimp only); first | (intro x hx; cases hx; done) | exact hBr | exact isB_drop hBr, by (try dsimp only); (try simp only [List.length_cons, List.length_drop, List.length_nil] at *); omega⟩, by (try dsimp only); simp only [List.length_append, List.length_cons, List.length_nil]; omega, .inr ⟨rfl, by (try dsimp only); rw [HD]; exact preK_bad (by simp only [List.length_cons, List.length_nil]; omega)⟩⟩)); ((try dsimp only); omega))
  | (exfalso; rename_i hz; cases hz; done)
  | (exfalso; (try simp only [LN] at *) <;> omega)
  | (fail)
end Tab
end Go.Proofs.Ytopieffkpdlpbaa
namespace Go.Proofs.Ytopieffkpdlpbaa
open Go Go.RowKit Wx
set_option maxHeartbeats 40000000
namespace Tab
theorem dec_c (b : List Int) (N i : Nat) (acc : List Kc) (t w : Int) (r : List Int) (hB : isB (t :: w :: r)) (hL : ((t :: w :: r) : List Int).length ≤ 1099511627776) (HC : acc.length + (i + 1) = N) (HD : decK N b = preK acc (decK (i + 1) (t :: w :: r))) (hN : N ≤ 65535) (h4 : r.length < 8) {Q : Exit → Z.S → Prop} : Z.codeZ Try.prog tab 59 0 none (lbody Try.f60) ⟨dCH (i + 1, (t :: w :: r), acc, 0) ++ dFk, dCK (i + 1, (t :: w :: r), acc, 0) ++ dKk, 6⟩ (loopPost (dRnd b N (i + 1, (t :: w :: r), acc, 0)) Q) := by
 dsimp only [dCH, dFk, dCK, dKk, dRnd]
 have hj1 : IntKind.i64.wrap (((i + 1 : Nat) : Int) - 1) = (i : Int) := by
  rw [show (((i + 1 : Nat) : Int) - 1) = (i : Int) by omega]
  simp [IntKind.wrap, IntKind.bits, IntKind.signed]; omega
 have hb_t := hB t (by simp)
 have hb_w := hB w (by simp)
 have hBr : isB r := fun x hx => hB x (by simp [hx])
 repeat' ((conv => whnf); first
  | with_reducible first | refine spB_t ?_
  | ((with_reducible apply spB_cong); (focus (simp only [splQ, Int.reduceBEq, Int.reduceBNe]; rfl)))
  | with_reducible first | refine spB_yes (by decide) ?_ | refine spB_no (by decide) ?_ | refine spB_f ?_ | refine spB_not ?_ | refine spB_yes (by assumption) ?_ | refine spB_no (by assumption) ?_
  | (with_reducible refine spB_dec ?_ ?_ <;> intro _ <;> (try (exfalso; first | contradiction | omega | (rename_i hz; refine hz ?_; simp; done) | (rename_i hz; simp at hz; done) | (simp only [LN] at *; omega))))
  | (with_reducible refine spB_beq ?_ ?_ <;> intro _ <;> (try (exfalso; first | contradiction | omega | (rename_i hz; refine hz ?_; simp; done) | (rename_i hz; simp at hz; done) | (simp only [LN] at *; omega))))
  | (with_reducible refine spB_bne ?_ ?_ <;> intro _ <;> (try (exfalso; first | contradiction | omega | (rename_i hz; refine hz ?_; simp; done) | (rename_i hz; simp at hz; done) | (simp only [LN] at *; omega))))
  | (with_reducible refine spB_mk ?_ ?_ <;> intro _ <;> (try (exfalso; first | contradiction | omega | (rename_i hz; refine hz ?_; simp; done) | (rename_i hz; simp at hz; done) | (simp only [LN] at *; omega))))
  | (refine Z.updN.mk ⟨_, rfl, ?_⟩)
  | (refine Z.lookN.mk ⟨_, _, rfl, ?_⟩)
  | with_reducible first | refine Z.callZ_mfa ?_
  | ((refine sl3N_mk 0 1 1 rfl rfl rfl ?_ ?_ ?_ ?_ ?_); (iterate 4 (focus (first | exact .inl rfl | ((try simp only [LN] at *) <;> omega)))))
  | ((refine sl3N_mk 0 8 8 rfl rfl rfl ?_ ?_ ?_ ?_ ?_); (iterate 4 (focus (first | exact .inl rfl | ((try simp only [LN] at *) <;> omega)))))
  | ((with_reducible refine Z.slN_lo 1 ?_ ?_ ?_); (focus rfl); (focus ((try simp only [LN] at *) <;> omega)))
  | ((with_reducible refine Z.slN_lo 8 ?_ ?_ ?_); (focus rfl); (focus ((try simp only [LN] at *) <;> omega)))
  | (refine loopZ_unr1 tabOk rfl ?_)
  | ((with_reducible refine wr_shl8 ?_ ?_); (focus omega))
  | ((with_reducible refine wr_or0 ?_ ?_); (focus omega))
  | with_reducible first | refine rowN_mk _ rfl ?_
  | ((with_reducible refine wr_mk (i : Int) hj1 ?_))
  | ((with_reducible refine posE_pos ?_ ?_); (focus ((try simp only [LN] at *) <;> omega)))
  | ((with_reducible refine posE_nil ?_ ?_); (focus rfl))
  | ((with_reducible apply rowN_mk); (focus rfl))
  | ((with_reducible apply ixN_lit); (focus rfl); (focus rfl))
  | ((with_reducible apply ixN_litp); (focus rfl); (focus ((try simp only [LN] at *) <;> omega)))
  | ((with_reducible refine eqN_mk2 ?_ ?_); (focus rfl))
  | ((with_reducible refine posN_mk2 ?_ ?_); (focus (first | decide | ((try simp only [LN] at *) <;> omega))))
  | ((with_reducible refine apdE_r ?_); (with_reducible refine aprN.mk ⟨_, rfl, ?_⟩ ?_ ?_ ?_ ?_); (focus ((try simp only [LN] at *) <;> omega)); (focus (first | rfl | (simp; done) | ((try simp only [LN] at *) <;> omega))); (focus (first | exact one_all (by rfl) | exact one_map (fun _ => rfl) | exact one_map2 (fun _ => rfl) | exact one_drop (fun _ => rfl))); (focus ((try simp only [LN] at *) <;> omega)))
  | ((with_reducible refine apdE_k ?_); (with_reducible refine apkN.mk ⟨_, rfl, ?_⟩ ?_); (focus ((try simp only [LN] at *) <;> omega)))
  | with_reducible first | refine apdE_n ?_
  | ((with_reducible refine slE_a ?_ ?_); (focus ((try simp only [LN] at *) <;> omega)))
  | ((with_reducible refine slE_b ?_ ?_); (focus ((try simp only [LN] at *) <;> omega)))
  | ((with_reducible refine slE_split ?_ ?_ ?_); (focus ((try simp only [LN] at *) <;> omega)); (all_goals intro _))
  | ((with_reducible apply sl3N_mk); (focus rfl); (focus rfl); (focus rfl); (focus ((try simp only [LN] at *) <;> omega)); (focus ((try simp only [LN] at *) <;> omega)); (focus ((try simp only [LN] at *) <;> omega)); (focus ((try simp only [LN] at *) <;> omega)))
  | ((with_reducible refine apdN.mk ?_ ?_ ?_ ?_ ?_ ?_); (focus (first | rfl | (simp; done))); (focus (first | exact one_all (by rfl) | exact one_map (fun _ => rfl) | exact one_map2 (fun _ => rfl))); (focus ((try simp only [LN] at *) <;> omega)); (focus ((try simp only [LN] at *) <;> omega)); (focus ((try simp only [LN] at *) <;> omega)))
  | with_reducible refine wr_i64 (by first | omega | (simp only [LN] at *; omega)) ?_
  | with_reducible refine wr_u64 (by omega) ?_
  | with_reducible refine wr_u8 (by omega) ?_
  | with_reducible refine wr_u32 (by omega) ?_
  | with_reducible first | refine wr_mk _ rfl ?_
  | ((with_reducible refine ixN_nat ?_ ?_); (focus ((try simp only [LN] at *) <;> omega)))
  | ((with_reducible refine rowN_map ?_ ?_); (focus ((try simp only [LN] at *) <;> omega)); intro x hx)
  | ((with_reducible refine posE_nil (by rfl) ?_))
  | ((with_reducible refine posE_pos (by decide) ?_))
  | with_reducible refine vN_mod (by omega) ?_
  | with_reducible first | refine vN_mk ?_
  | with_reducible refine nzN_mk (by omega) ?_
  | with_reducible refine eqN_dec (by omega) ?_
  | with_reducible first | refine apN_mk (by kernel_rfl) ?_ | refine Z.callZ_in tabOk 18 Try.f111 _ Try.func111 (by kernel_rfl) rfl rfl rfl ?_ | refine Z.callZ_in tabOk 8 Try.f55 _ Try.func55 (by kernel_rfl) rfl rfl rfl ?_ | refine Z.callZ_in tabOk 6 Try.f56 _ Try.func56 (by kernel_rfl) rfl rfl rfl ?_ | refine Z.callZ_in tabOk 10 Try.f59 _ Try.func59 (by kernel_rfl) rfl rfl rfl ?_ | refine Z.callZ_in tabOk 11 Try.f61 _ Try.func61 (by kernel_rfl) rfl rfl rfl ?_ | refine Z.callZ_in tabOk 6 Try.f95 _ Try.func95 (by kernel_rfl) rfl rfl rfl ?_ | refine Z.callZ_in tabOk 5 Try.f97 _ Try.func97 (by kernel_rfl) rfl rfl rfl ?_ | refine Z.callZ_in tabOk 10 Try.f94 _ Try.func94 (by kernel_rfl) rfl rfl rfl ?_ | refine Z.callZ_in tabOk 58 Try.f110 _ Try.func110 (by kernel_rfl) rfl rfl rfl ?_
  | ((first | (with_reducible refine Z.conZ_mz ?_ (cc) ?_) | (with_reducible refine Z.callZ_mk ?_ (cc) ?_) | (with_reducible refine Z.conZ_mz ?_ (ccp) ?_) | (with_reducible refine Z.callZ_mk ?_ (ccp) ?_)); (focus ((repeat' (first | exact trivial | exact rfl | exact Z.low_nil | exact Z.low_nil2 | exact low_osl (fun _ => rfl) | (refine Z.low_osln ?_ (fun _ => rfl); (simp only [List.length_map]; done)) | exact low_oslr (fun _ => rfl) | exact Z.low_gslm (by first | rfl | exact Z.kb_some rfl) (fun _ => rfl) | exact .inl rfl | exact .inr ⟨_, rfl⟩ | apply And.intro)); done)))
  | ((with_reducible refine eqN_mk2 ?_ ?_); (focus (exact Z.kb_some rfl)))
  | ((with_reducible apply ex_and); exact rfl)
  | with_reducible first | refine Z.drawZ_rule tabOk mixOk ?_ | refine Z.apZ_mk (by kernel_rfl) ?_
  | ((with_reducible refine Z.ConZ.red ?_); (try subst hlb); (apply Z.conZ_all); (focus (repeat (first | exact Z.FK.nil | (apply Z.FK.keep; exact rfl)))); (focus rfl); (focus rfl); (focus (repeat (first | exact trivial | (refine ⟨(fun o ho => (by first | (cases ho; rfl) | (cases ho; exact Z.inL_map fun _ => rfl) | (cases ho; exact Z.inL_mapr fun _ => rfl) | exact Z.inL_gB ho fun _ => rfl)), ?_⟩)))))
  | ((refine ⟨rfl, ?_, rfl⟩); (focus (repeat (first | exact Z.DK.nil | apply Z.DK.cons))))
  | (focus (exact (rfl : Nat.ble _ _ = true))))
 all_goals (try (conv => whnf))
 all_goals try first | (show Nat.ble _ _ = true; rfl) | (exfalso; rename_i hz; cases hz; done) | (exfalso; (try simp only [LN] at *) <;> omega)
 all_goals first
  | ((refine Z.rnd_bi 1 [[.ro true 1 (r.map eB), _]] rfl rfl ⟨⟨Z.Imp.of_eq (congrArg (Ce.ro true 1) (by first | ((try simp only [tk_drop]); simp only [← List.map_drop, List.drop_drop, List.map_cons, List.drop_succ_cons, List.drop_zero]; done) | (simp; done) | (simp [tk_map]; done))), Z.Imp.refl _, trivial⟩, trivial⟩ ?_); ((refine Z.rndK ((i, r, acc ++ [(⟨t, w, 0, 0⟩ : Kc)], 7)) (fun s => [0, 1, 2, 3, 4, s.idIn 2 0]) rfl rfl rfl rfl ?_ ?_ ?_ ?_); (focus (repeat' (first | exact trivial | exact Z.map_sub (Z.MapL.ren HM0 fun _ => rfl) rfl | exact Z.it_sub rfl | exact rfl | (rw [List.map_append]; exact rfl) | apply And.intro))); (focus (repeat' (first | exact trivial | exact Z.map_sub (Z.MapL.ren HM0 fun _ => rfl) rfl | exact Z.it_sub rfl | (intro b hb; cases hb; rfl) | (intro b hb; cases hb; subst hlb; rfl) | (intro b hb; cases hb; rw [List.map_append]; rfl) | (intro b hb; cases hb; done) | exact Z.blk_sub rfl rfl (ren_map fun _ => rfl) | exact Z.blk_sub rfl rfl (Z.ren_app (ren_map fun _ => rfl) (ren_map fun _ => rfl)) | exact Z.blk_sub rfl (by first | (rw [List.map_append]; rfl) | (rw [List.map_set]; rfl) | simp only [List.map_append, List.map_cons, List.map_nil, List.map_set]) (ren_map fun _ => rfl) | exact Z.gB_sub rfl rfl (ren_map fun _ => rfl) | exact Z.gB_sub' rfl (by first | rfl | (rw [List.map_append]; rfl) | simp only [List.map_append, List.map_cons, List.map_nil]) (ren_map fun _ => rfl) | apply And.intro))); (focus (exact ⟨by (try dsimp only); omega, ⟨by (try dsimp only); first | (intro x hx; cases hx; done) | exact hBr | exact isB_drop hBr, by (try dsimp only); (try simp only [List.length_cons, List.length_drop, List.length_nil] at *); omega⟩, by (try dsimp only); simp only [List.length_append, List.length_cons, List.length_nil]; omega, .inr ⟨rfl, by (try dsimp only); rw [HD]; exact preK_bad (by simp only [List.length_cons, List.length_nil]; omega)⟩⟩)); ((try dsimp only); omega)))
  | (exfalso; rename_i hz; cases hz; done)
  | (exfalso; (try simp only [LN] at *) <;> omega)
  | (fail)
end Tab
end Go.Proofs.Ytopieffkpdlpbaa
namespace Go.Proofs.Ytopieffkpdlpbaa
open Go Go.RowKit Wx
set_option maxHeartbeats 40000000
namespace Tab
theorem dec_d (b : List Int) (N i : Nat) (acc : List Kc) (t w : Int) (r : List Int) (hB : isB (t :: w :: r)) (hL : ((t :: w :: r) : List Int).length ≤ 1099511627776) (HC : acc.length + (i + 1) = N) (HD : decK N b = preK acc (decK (i + 1) (t :: w :: r))) (hN : N ≤ 65535) (h4 : 8 ≤ r.length) (h5 : r.length < 16) {Q : Exit → Z.S → Prop} : Z.codeZ Try.prog tab 59 0 none (lbody Try.f60) ⟨dCH (i + 1, (t :: w :: r), acc, 0) ++ dFk, dCK (i + 1, (t :: w :: r), acc, 0) ++ dKk, 6⟩ (loopPost (dRnd b N (i + 1, (t :: w :: r), acc, 0)) Q) := by
 dsimp only [dCH, dFk, dCK, dKk, dRnd]
 have hj1 : IntKind.i64.wrap (((i + 1 : Nat) : Int) - 1) = (i : Int) := by
  rw [show (((i + 1 : Nat) : Int) - 1) = (i : Int) by omega]
  simp [IntKind.wrap, IntKind.bits, IntKind.signed]; omega
 have hb_t := hB t (by simp)
 have hb_w := hB w (by simp)
 have hBr : isB r := fun x hx => hB x (by simp [hx])
 repeat' ((conv => whnf); first
  | with_reducible first | refine spB_t ?_
  | ((with_reducible apply spB_cong); (focus (simp only [splQ, Int.reduceBEq, Int.reduceBNe]; rfl)))
  | with_reducible first | refine spB_yes (by decide) ?_ | refine spB_no (by decide) ?_ | refine spB_f ?_ | refine spB_not ?_ | refine spB_yes (by assumption) ?_ | refine spB_no (by assumption) ?_
  | (with_reducible refine spB_dec ?_ ?_ <;> intro _ <;> (try (exfalso; first | contradiction | omega | (rename_i hz; refine hz ?_; simp; done) | (rename_i hz; simp at hz; done) | (simp only [LN] at *; omega))))
  | (with_reducible refine spB_beq ?_ ?_ <;> intro _ <;> (try (exfalso; first | contradiction | omega | (rename_i hz; refine hz ?_; simp; done) | (rename_i hz; simp at hz; done) | (simp only [LN] at *; omega))))
  | (with_reducible refine spB_bne ?_ ?_ <;> intro _ <;> (try (exfalso; first | contradiction | omega | (rename_i hz; refine hz ?_; simp; done) | (rename_i hz; simp at hz; done) | (simp only [LN] at *; omega))))
  | (with_reducible refine spB_mk ?_ ?_ <;> intro _ <;> (try (exfalso; first | contradiction | omega | (rename_i hz; refine hz ?_; simp; done) | (rename_i hz; simp at hz; done) | (simp only [LN] at *; omega))))
  | (refine Z.updN.mk ⟨_, rfl, ?_⟩)
  | (refine Z.lookN.mk ⟨_, _, rfl, ?_⟩)
  | with_reducible first | refine Z.callZ_mfa ?_
  | ((refine sl3N_mk 0 1 1 rfl rfl rfl ?_ ?_ ?_ ?_ ?_); (iterate 4 (focus (first | exact .inl rfl | ((try simp only [LN] at *) <;> omega)))))
  | ((refine sl3N_mk 0 8 8 rfl rfl rfl ?_ ?_ ?_ ?_ ?_); (iterate 4 (focus (first | exact .inl rfl | ((try simp only [LN] at *) <;> omega)))))
  | ((with_reducible refine Z.slN_lo 1 ?_ ?_ ?_); (focus rfl); (focus ((try simp only [LN] at *) <;> omega)))
  | ((with_reducible refine Z.slN_lo 8 ?_ ?_ ?_); (focus rfl); (focus ((try simp only [LN] at *) <;> omega)))
  | (refine loopZ_unr1 tabOk rfl ?_)
  | ((with_reducible refine wr_shl8 ?_ ?_); (focus omega))
  | ((with_reducible refine wr_or0 ?_ ?_); (focus omega))
  | with_reducible first | refine rowN_mk _ rfl ?_
  | ((with_reducible refine wr_mk (i : Int) hj1 ?_))
  | ((with_reducible refine posE_pos ?_ ?_); (focus ((try simp only [LN] at *) <;> omega)))
  | ((with_reducible refine posE_nil ?_ ?_); (focus rfl))
  | ((with_reducible apply rowN_mk); (focus rfl))
  | ((with_reducible apply ixN_lit); (focus rfl); (focus rfl))
  | ((with_reducible apply ixN_litp); (focus rfl); (focus ((try simp only [LN] at *) <;> omega)))
  | ((with_reducible refine eqN_mk2 ?_ ?_); (focus rfl))
  | ((with_reducible refine posN_mk2 ?_ ?_); (focus (first | decide | ((try simp only [LN] at *) <;> omega))))
  | ((with_reducible refine apdE_r ?_); (with_reducible refine aprN.mk ⟨_, rfl, ?_⟩ ?_ ?_ ?_ ?_); (focus ((try simp only [LN] at *) <;> omega)); (focus (first | rfl | (simp; done) | ((try simp only [LN] at *) <;> omega))); (focus (first | exact one_all (by rfl) | exact one_map (fun _ => rfl) | exact one_map2 (fun _ => rfl) | exact one_drop (fun _ => rfl))); (focus ((try simp only [LN] at *) <;> omega)))
  | ((with_reducible refine apdE_k ?_); (with_reducible refine apkN.mk ⟨_, rfl, ?_⟩ ?_); (focus ((try simp only [LN] at *) <;> omega)))
  | with_reducible first | refine apdE_n ?_
  | ((with_reducible refine slE_a ?_ ?_); (focus ((try simp only [LN] at *) <;> omega)))
  | ((with_reducible refine slE_b ?_ ?_); (focus ((try simp only [LN] at *) <;> omega)))
  | ((with_reducible refine slE_split ?_ ?_ ?_); (focus ((try simp only [LN] at *) <;> omega)); (all_goals intro _))
  | ((with_reducible apply sl3N_mk); (focus rfl); (focus rfl); (focus rfl); (focus ((try simp only [LN] at *) <;> omega)); (focus ((try simp only [LN] at *) <;> omega)); (focus ((try simp only [LN] at *) <;> omega)); (focus ((try simp only [LN] at *) <;> omega)))
  | ((with_reducible refine apdN.mk ?_ ?_ ?_ ?_ ?_ ?_); (focus (first | rfl | (simp; done))); (focus (first | exact one_all (by rfl) | exact one_map (fun _ => rfl) | exact one_map2 (fun _ => rfl))); (focus ((try simp only [LN] at *) <;> omega)); (focus ((try simp only [LN] at *) <;> omega)); (focus ((try simp only [LN] at *) <;> omega)))
  | with_reducible refine wr_i64 (by first | omega | (simp only [LN] at *; omega)) ?_
  | with_reducible refine wr_u64 (by omega) ?_
  | with_reducible refine wr_u8 (by omega) ?_
  | with_reducible refine wr_u32 (by omega) ?_
  | with_reducible first | refine wr_mk _ rfl ?_
  | ((with_reducible refine ixN_nat ?_ ?_); (focus ((try simp only [LN] at *) <;> omega)))
  | ((with_reducible refine rowN_map ?_ ?_); (focus ((try simp only [LN] at *) <;> omega)); intro x hx)
  | ((with_reducible refine posE_nil (by rfl) ?_))
  | ((with_reducible refine posE_pos (by decide) ?_))
  | with_reducible refine vN_mod (by omega) ?_
  | with_reducible first | refine vN_mk ?_
  | with_reducible refine nzN_mk (by omega) ?_
  | with_reducible refine eqN_dec (by omega) ?_
  | with_reducible first | refine apN_mk (by kernel_rfl) ?_ | refine Z.callZ_in tabOk 18 Try.f111 _ Try.func111 (by kernel_rfl) rfl rfl rfl ?_ | refine Z.callZ_in tabOk 8 Try.f55 _ Try.func55 (by kernel_rfl) rfl rfl rfl ?_ | refine Z.callZ_in tabOk 6 Try.f56 _ Try.func56 (by kernel_rfl) rfl rfl rfl ?_ | refine Z.callZ_in tabOk 10 Try.f59 _ Try.func59 (by kernel_rfl) rfl rfl rfl ?_ | refine Z.callZ_in tabOk 11 Try.f61 _ Try.func61 (by kernel_rfl) rfl rfl rfl ?_ | refine Z.callZ_in tabOk 6 Try.f95 _ Try.func95 (by kernel_rfl) rfl rfl rfl ?_ | refine Z.callZ_in tabOk 5 Try.f97 _ Try.func97 (by kernel_rfl) rfl rfl rfl ?_ | refine Z.callZ_in tabOk 10 Try.f94 _ Try.func94 (by kernel_rfl) rfl rfl rfl ?_ | refine Z.callZ_in tabOk 58 Try.f110 _ Try.func110 (by kernel_rfl) rfl rfl rfl ?_
  | ((first | (with_reducible refine Z.conZ_mz ?_ (cc) ?_) | (with_reducible refine Z.callZ_mk ?_ (cc) ?_) | (with_reducible refine Z.conZ_mz ?_ (ccp) ?_) | (with_reducible refine Z.callZ_mk ?_ (ccp) ?_)); (focus ((repeat' (first | exact trivial | exact rfl | exact Z.low_nil | exact Z.low_nil2 | exact low_osl (fun _ => rfl) | (refine Z.low_osln ?_ (fun _ => rfl); (simp only [List.length_map]; done)) | exact low_oslr (fun _ => rfl) | exact Z.low_gslm (by first | rfl | exact Z.kb_some rfl) (fun _ => rfl) | exact .inl rfl | exact .inr ⟨_, rfl⟩ | apply And.intro)); done)))
  | ((with_reducible refine eqN_mk2 ?_ ?_); (focus (exact Z.kb_some rfl)))
  | ((with_reducible apply ex_and); exact rfl)
  | with_reducible first | refine Z.drawZ_rule tabOk mixOk ?_ | refine Z.apZ_mk (by kernel_rfl) ?_
  | ((with_reducible refine Z.ConZ.red ?_); (try subst hlb); (apply Z.conZ_all); (focus (repeat (first | exact Z.FK.nil | (apply Z.FK.keep; exact rfl)))); (focus rfl); (focus rfl); (focus (repeat (first | exact trivial | (refine ⟨(fun o ho => (by first | (cases ho; rfl) | (cases ho; exact Z.inL_map fun _ => rfl) | (cases ho; exact Z.inL_mapr fun _ => rfl) | exact Z.inL_gB ho fun _ => rfl)), ?_⟩)))))
  | ((refine ⟨rfl, ?_, rfl⟩); (focus (repeat (first | exact Z.DK.nil | apply Z.DK.cons))))
  | (focus (exact (rfl : Nat.ble _ _ = true))))
 all_goals (try (conv => whnf))
 all_goals try first | (show Nat.ble _ _ = true; rfl) | (exfalso; rename_i hz; cases hz; done) | (exfalso; (try simp only [LN] at *) <;> omega)
 all_goals (
  apply loopQ3
  ·intro Q0 hq9
   refine Z.loopK tabOk (fun zq : Nat => [(6, .val (.int .i64 (zq : Int)))]) (fun zq : Nat => ([(12, some (Z.Ob.b ⟨[[.v (.int .u64 (numR (r.take zq)))]], 1, 132, true⟩)), (0, some (Z.Ob.b ⟨[[.v (.slice none 0 0)]], 1, 28, true⟩)), (1, some (Z.Ob.b ⟨[[.ro true 1 (r.map eB), .v (.int .i64 0)]], 2, 138, true⟩)), (2, some (Z.Ob.b ⟨[[.gsl 5 (acc.map cK)]], 1, 28, true⟩)), (5, (gB 4 70 (acc.map cK)).map Z.Ob.b), (10, some (Z.Ob.b ⟨[[.v (.int .i64 t), .v (.int .i64 w), .v (.int .i64 0), .v (.int .i64 0)]], 4, 70, true⟩))] : Z.Kr)) (fun zq => zq ≤ 8) (fun zq => 8 - zq) 0 13 [(0, _), (2, _), (5, _)] ⟨rfl, rfl, rfl, trivial⟩ [] trivial ?_ ?_ rfl rfl (Nat.zero_le _) ?_
   ·repeat' (first | exact trivial | apply And.intro | exact ⟨_, rfl, rfl⟩ | exact ⟨_, rfl, Z.Imp.refl _⟩ | exact ⟨_, rfl, Z.Imp.nilg _⟩ | exact ⟨_, rfl, Z.Imp.nilr _ _⟩)
   ·repeat' (first | exact trivial | (intro b hb; cases hb; done) | exact (fun b hb => ⟨b, hb, Z.ImpO.refl b⟩) | (intro b hb; cases hb; refine ⟨_, rfl, ⟨rfl, rfl, rfl⟩, ⟨⟨Z.Imp.of_eq (congrArg (Ce.ro true 1) (by first | ((try simp only [tk_drop]); simp only [← List.map_drop, List.drop_drop, List.map_cons, List.drop_succ_cons, List.drop_zero]; done) | (simp [tk_map]; done) | (simp [tk_map, List.take_of_length_le]; done))), Z.Imp.refl _, trivial⟩, trivial⟩⟩; done) | (intro b hb; cases hb; refine ⟨_, rfl, ⟨rfl, rfl, rfl⟩, ?_⟩; (repeat' (first | exact trivial | apply And.intro | exact Z.Imp.refl _ | exact Z.Imp.nilg _ | exact Z.Imp.nilr _ _)); done) | (intro b hb; cases hb; refine ⟨_, rfl, ⟨rfl, rfl, rfl⟩, Z.imp_eq ?_⟩; first | rfl | (simp [tk_map]; done); done) | apply And.intro)
   rintro j HINV
   (try dsimp only at HINV); (try dsimp only)
   by_cases hj : j < 8
   ·obtain ⟨z9, hzr⟩ := getElem?_some' (xs := r) (i := j) (by (try rw [List.length_drop]); omega)
    have hzd : (r.take 8)[j]? = some z9 := by rw [List.getElem?_take, if_pos hj]; exact hzr
    have hzb := hBr z9 (List.mem_of_getElem? hzr)
    have hnl := num_lt (l := r) (i := j) (by omega) (by (try rw [List.length_drop]); omega) hBr
    generalize hnv : numR (r.take j) = nv at *
    repeat' ((conv => whnf); first
     | with_reducible first | refine spB_t ?_
     | ((with_reducible apply spB_cong); (focus (simp only [splQ, Int.reduceBEq, Int.reduceBNe]; rfl)))
     | with_reducible first | refine spB_yes (by decide) ?_ | refine spB_no (by decide) ?_ | refine spB_f ?_ | refine spB_not ?_ | refine spB_yes (by assumption) ?_ | refine spB_no (by assumption) ?_
     | (with_reducible refine spB_dec ?_ ?_ <;> intro _ <;> (try (exfalso; first | contradiction | omega | (rename_i hz; refine hz ?_; simp; done) | (rename_i hz; simp at hz; done) | (simp only [LN] at *; omega))))
     | (with_reducible refine spB_beq ?_ ?_ <;> intro _ <;> (try (exfalso; first | contradiction | omega | (rename_i hz; refine hz ?_; simp; done) | (rename_i hz; simp at hz; done) | (simp only [LN] at *; omega))))
     | (with_reducible refine spB_bne ?_ ?_ <;> intro _ <;> (try (exfalso; first | contradiction | omega | (rename_i hz; refine hz ?_; simp; done) | (rename_i hz; simp at hz; done) | (simp only [LN] at *; omega))))
     | (with_reducible refine spB_mk ?_ ?_ <;> intro _ <;> (try (exfalso; first | contradiction | omega | (rename_i hz; refine hz ?_; simp; done) | (rename_i hz; simp at hz; done) | (simp only [LN] at *; omega))))
     | ((with_reducible refine Z.slN_lo 1 ?_ ?_ ?_); (focus rfl); (focus ((try simp only [LN] at *) <;> omega)))
     | ((with_reducible refine Z.slN_lo 8 ?_ ?_ ?_); (focus rfl); (focus ((try simp only [LN] at *) <;> omega)))
     | (refine loopZ_unr1 tabOk rfl ?_)
     | ((with_reducible refine wr_shl8 ?_ ?_); (focus omega))
     | ((with_reducible refine wr_or0 ?_ ?_); (focus omega))
     | ((with_reducible refine rowN_mk (eB z9) ?_ ?_); (focus (exact rest_at (by first | ((try simp only [tk_drop]); simp only [Nat.sub_zero, List.drop_zero, ← List.map_drop, ← List.map_take, List.map_cons, List.drop_succ_cons]; done) | (simp [tk_map]; done)) hzd)))
     | ((with_reducible refine ixN_mk (j) ?_ ?_ ?_); (focus (first | rfl | ((try simp only [LN] at *) <;> omega))); (focus ((try simp only [LN] at *) <;> omega)))
     | ((with_reducible apply rowN_mk); (focus rfl))
     | ((with_reducible apply ixN_lit); (focus rfl); (focus rfl))
     | ((with_reducible apply ixN_litp); (focus rfl); (focus ((try simp only [LN] at *) <;> omega)))
     | ((with_reducible refine eqN_mk2 ?_ ?_); (focus rfl))
     | with_reducible refine wr_i64 (by first | omega | (simp only [LN] at *; omega)) ?_
     | with_reducible refine wr_u64 (by omega) ?_
     | with_reducible refine wr_u8 (by omega) ?_
     | with_reducible refine wr_u32 (by omega) ?_
     | with_reducible first | refine wr_mk _ rfl ?_
     | ((with_reducible refine ixN_nat ?_ ?_); (focus ((try simp only [LN] at *) <;> omega)))
     | ((with_reducible refine rowN_map ?_ ?_); (focus ((try simp only [LN] at *) <;> omega)); intro x hx)
     | with_reducible refine vN_mod (by omega) ?_
     | with_reducible first | refine vN_mk ?_
     | with_reducible refine nzN_mk (by omega) ?_
     | with_reducible refine eqN_dec (by omega) ?_
     | with_reducible first | refine apN_mk (by kernel_rfl) ?_
     | ((with_reducible refine eqN_mk2 ?_ ?_); (focus (exact Z.kb_some rfl)))
     | ((with_reducible apply ex_and); exact rfl)
     | with_reducible first | refine Z.drawZ_rule tabOk mixOk ?_ | refine Z.apZ_mk (by kernel_rfl) ?_
     | ((with_reducible refine Z.ConZ.red ?_); (try subst hlb); (apply Z.conZ_all); (focus (repeat (first | exact Z.FK.nil | (apply Z.FK.keep; exact rfl)))); (focus rfl); (focus rfl); (focus (repeat (first | exact trivial | (refine ⟨(fun o ho => (by first | (cases ho; rfl) | (cases ho; exact Z.inL_map fun _ => rfl) | (cases ho; exact Z.inL_mapr fun _ => rfl) | exact Z.inL_gB ho fun _ => rfl)), ?_⟩)))))
     | ((refine ⟨rfl, ?_, rfl⟩); (focus (repeat (first | exact Z.DK.nil | apply Z.DK.cons))))
     | (focus (exact (rfl : Nat.ble _ _ = true))))
    all_goals (try (conv => whnf))
    all_goals try first | (show Nat.ble _ _ = true; rfl) | (exfalso; rename_i hz; cases hz; done) | (exfalso; (try simp only [LN] at *) <;> omega)
    all_goals first
     | ((refine Z.rnd_rw 12 ([[.v (.int .u64 (numR (r.take (j + 1))))]]) rfl rfl ?_ ?_); (focus (rw [take_snoc hzr, numR_snoc, hnv]; exact congrArg (fun z => [[Ce.v (.int .u64 z)]]) (or_add hnl hzb))); ((refine Z.rndK ((j + 1)) (fun s => [0, 1, 2, 3, 4, 5, 6, 7, 8, 9, 10, 11, 12]) rfl rfl rfl rfl ?_ ?_ ?_ ?_); (focus (repeat' (first | exact trivial | exact Z.map_sub (Z.MapL.ren HM0 fun _ => rfl) rfl | exact Z.it_sub rfl | exact rfl | (rw [List.map_append]; exact rfl) | apply And.intro))); (focus (repeat' (first | exact trivial | exact Z.map_sub (Z.MapL.ren HM0 fun _ => rfl) rfl | exact Z.it_sub rfl | (intro b hb; cases hb; rfl) | (intro b hb; cases hb; subst hlb; rfl) | (intro b hb; cases hb; rw [List.map_append]; rfl) | (intro b hb; cases hb; done) | exact Z.blk_sub rfl rfl (ren_map fun _ => rfl) | exact Z.blk_sub rfl rfl (Z.ren_app (ren_map fun _ => rfl) (ren_map fun _ => rfl)) | exact Z.blk_sub rfl (by first | (rw [List.map_append]; rfl) | (rw [List.map_set]; rfl) | simp only [List.map_append, List.map_cons, List.map_nil, List.map_set]) (ren_map fun _ => rfl) | exact Z.gB_sub rfl rfl (ren_map fun _ => rfl) | exact Z.gB_sub' rfl (by first | rfl | (rw [List.map_append]; rfl) | simp only [List.map_append, List.map_cons, List.map_nil]) (ren_map fun _ => rfl) | apply And.intro))); (focus (((try dsimp only); omega))); ((try dsimp only); omega)))
     | (exfalso; rename_i hz; cases hz; done)
     | (exfalso; (try simp only [LN] at *) <;> omega)
     | (fail)
   have hj8 : j = 8 := by omega
   repeat' ((conv => whnf); first
    | with_reducible first | refine spB_t ?_
    | ((with_reducible apply spB_cong); (focus (simp only [splQ, Int.reduceBEq, Int.reduceBNe]; rfl)))
    | with_reducible first | refine spB_yes (by decide) ?_ | refine spB_no (by decide) ?_ | refine spB_f ?_ | refine spB_not ?_ | refine spB_yes (by assumption) ?_ | refine spB_no (by assumption) ?_
    | (with_reducible refine spB_dec ?_ ?_ <;> intro _ <;> (try (exfalso; first | contradiction | omega | (rename_i hz; refine hz ?_; simp; done) | (rename_i hz; simp at hz; done) | (simp only [LN] at *; omega))))
    | (with_reducible refine spB_beq ?_ ?_ <;> intro _ <;> (try (exfalso; first | contradiction | omega | (rename_i hz; refine hz ?_; simp; done) | (rename_i hz; simp at hz; done) | (simp only [LN] at *; omega))))
    | (with_reducible refine spB_bne ?_ ?_ <;> intro _ <;> (try (exfalso; first | contradiction | omega | (rename_i hz; refine hz ?_; simp; done) | (rename_i hz; simp at hz; done) | (simp only [LN] at *; omega))))
    | (with_reducible refine spB_mk ?_ ?_ <;> intro _ <;> (try (exfalso; first | contradiction | omega | (rename_i hz; refine hz ?_; simp; done) | (rename_i hz; simp at hz; done) | (simp only [LN] at *; omega))))
    | ((with_reducible refine Z.slN_lo 1 ?_ ?_ ?_); (focus rfl); (focus ((try simp only [LN] at *) <;> omega)))
    | ((with_reducible refine Z.slN_lo 8 ?_ ?_ ?_); (focus rfl); (focus ((try simp only [LN] at *) <;> omega)))
    | (refine loopZ_unr1 tabOk rfl ?_)
    | ((with_reducible refine wr_shl8 ?_ ?_); (focus omega))
    | ((with_reducible refine wr_or0 ?_ ?_); (focus omega))
    | ((with_reducible apply rowN_mk); (focus rfl))
    | ((with_reducible apply ixN_lit); (focus rfl); (focus rfl))
    | ((with_reducible apply ixN_litp); (focus rfl); (focus ((try simp only [LN] at *) <;> omega)))
    | ((with_reducible refine eqN_mk2 ?_ ?_); (focus rfl))
    | with_reducible refine wr_i64 (by first | omega | (simp only [LN] at *; omega)) ?_
    | with_reducible refine wr_u64 (by omega) ?_
    | with_reducible refine wr_u8 (by omega) ?_
    | with_reducible refine wr_u32 (by omega) ?_
    | with_reducible first | refine wr_mk _ rfl ?_
    | ((with_reducible refine ixN_nat ?_ ?_); (focus ((try simp only [LN] at *) <;> omega)))
    | ((with_reducible refine rowN_map ?_ ?_); (focus ((try simp only [LN] at *) <;> omega)); intro x hx)
    | with_reducible refine vN_mod (by omega) ?_
    | with_reducible first | refine vN_mk ?_
    | with_reducible refine nzN_mk (by omega) ?_
    | with_reducible refine eqN_dec (by omega) ?_
    | with_reducible first | refine apN_mk (by kernel_rfl) ?_
    | ((with_reducible refine eqN_mk2 ?_ ?_); (focus (exact Z.kb_some rfl)))
    | ((with_reducible apply ex_and); exact rfl)
    | with_reducible first | refine Z.drawZ_rule tabOk mixOk ?_ | refine Z.apZ_mk (by kernel_rfl) ?_
    | ((with_reducible refine Z.ConZ.red ?_); (try subst hlb); (apply Z.conZ_all); (focus (repeat (first | exact Z.FK.nil | (apply Z.FK.keep; exact rfl)))); (focus rfl); (focus rfl); (focus (repeat (first | exact trivial | (refine ⟨(fun o ho => (by first | (cases ho; rfl) | (cases ho; exact Z.inL_map fun _ => rfl) | (cases ho; exact Z.inL_mapr fun _ => rfl) | exact Z.inL_gB ho fun _ => rfl)), ?_⟩)))))
    | ((refine ⟨rfl, ?_, rfl⟩); (focus (repeat (first | exact Z.DK.nil | apply Z.DK.cons))))
    | (focus (exact (rfl : Nat.ble _ _ = true))))
   all_goals (try (conv => whnf))
   subst hj8
   exact hq9
  generalize hnv8 : numR (r.take 8) = v8 at *)
 repeat' ((conv => whnf); first
  | with_reducible first | refine spB_t ?_
  | ((with_reducible apply spB_cong); (focus (simp only [splQ, Int.reduceBEq, Int.reduceBNe]; rfl)))
  | with_reducible first | refine spB_yes (by decide) ?_ | refine spB_no (by decide) ?_ | refine spB_f ?_ | refine spB_not ?_ | refine spB_yes (by assumption) ?_ | refine spB_no (by assumption) ?_
  | (with_reducible refine spB_dec ?_ ?_ <;> intro _ <;> (try (exfalso; first | contradiction | omega | (rename_i hz; refine hz ?_; simp; done) | (rename_i hz; simp at hz; done) | (simp only [LN] at *; omega))))
  | (with_reducible refine spB_beq ?_ ?_ <;> intro _ <;> (try (exfalso; first | contradiction | omega | (rename_i hz; refine hz ?_; simp; done) | (rename_i hz; simp at hz; done) | (simp only [LN] at *; omega))))
  | (with_reducible refine spB_bne ?_ ?_ <;> intro _ <;> (try (exfalso; first | contradiction | omega | (rename_i hz; refine hz ?_; simp; done) | (rename_i hz; simp at hz; done) | (simp only [LN] at *; omega))))
  | (with_reducible refine spB_mk ?_ ?_ <;> intro _ <;> (try (exfalso; first | contradiction | omega | (rename_i hz; refine hz ?_; simp; done) | (rename_i hz; simp at hz; done) | (simp only [LN] at *; omega))))
  | (refine Z.updN.mk ⟨_, rfl, ?_⟩)
  | (refine Z.lookN.mk ⟨_, _, rfl, ?_⟩)
  | with_reducible first | refine Z.callZ_mfa ?_
  | ((refine sl3N_mk 0 1 1 rfl rfl rfl ?_ ?_ ?_ ?_ ?_); (iterate 4 (focus (first | exact .inl rfl | ((try simp only [LN] at *) <;> omega)))))
  | ((refine sl3N_mk 0 8 8 rfl rfl rfl ?_ ?_ ?_ ?_ ?_); (iterate 4 (focus (first | exact .inl rfl | ((try simp only [LN] at *) <;> omega)))))
  | ((with_reducible refine Z.slN_lo 1 ?_ ?_ ?_); (focus rfl); (focus ((try simp only [LN] at *) <;> omega)))
  | ((with_reducible refine Z.slN_lo 8 ?_ ?_ ?_); (focus rfl); (focus ((try simp only [LN] at *) <;> omega)))
  | (refine loopZ_unr1 tabOk rfl ?_)
  | ((with_reducible refine wr_shl8 ?_ ?_); (focus omega))
  | ((with_reducible refine wr_or0 ?_ ?_); (focus omega))
  | with_reducible first | refine rowN_mk _ rfl ?_
  | ((with_reducible refine wr_mk (i : Int) hj1 ?_))
  | (refine wr_mk (IntKind.i64.wrap v8) rfl ?_)
  | ((with_reducible refine posE_pos ?_ ?_); (focus ((try simp only [LN] at *) <;> omega)))
  | ((with_reducible refine posE_nil ?_ ?_); (focus rfl))
  | ((with_reducible apply rowN_mk); (focus rfl))
  | ((with_reducible apply ixN_lit); (focus rfl); (focus rfl))
  | ((with_reducible apply ixN_litp); (focus rfl); (focus ((try simp only [LN] at *) <;> omega)))
  | ((with_reducible refine eqN_mk2 ?_ ?_); (focus rfl))
  | ((with_reducible refine posN_mk2 ?_ ?_); (focus (first | decide | ((try simp only [LN] at *) <;> omega))))
  | ((with_reducible refine apdE_r ?_); (with_reducible refine aprN.mk ⟨_, rfl, ?_⟩ ?_ ?_ ?_ ?_); (focus ((try simp only [LN] at *) <;> omega)); (focus (first | rfl | (simp; done) | ((try simp only [LN] at *) <;> omega))); (focus (first | exact one_all (by rfl) | exact one_map (fun _ => rfl) | exact one_map2 (fun _ => rfl) | exact one_drop (fun _ => rfl))); (focus ((try simp only [LN] at *) <;> omega)))
  | ((with_reducible refine apdE_k ?_); (with_reducible refine apkN.mk ⟨_, rfl, ?_⟩ ?_); (focus ((try simp only [LN] at *) <;> omega)))
  | with_reducible first | refine apdE_n ?_
  | ((with_reducible refine slE_a ?_ ?_); (focus ((try simp only [LN] at *) <;> omega)))
  | ((with_reducible refine slE_b ?_ ?_); (focus ((try simp only [LN] at *) <;> omega)))
  | ((with_reducible refine slE_split ?_ ?_ ?_); (focus ((try simp only [LN] at *) <;> omega)); (all_goals intro _))
  | ((with_reducible apply sl3N_mk); (focus rfl); (focus rfl); (focus rfl); (focus ((try simp only [LN] at *) <;> omega)); (focus ((try simp only [LN] at *) <;> omega)); (focus ((try simp only [LN] at *) <;> omega)); (focus ((try simp only [LN] at *) <;> omega)))
  | ((with_reducible refine apdN.mk ?_ ?_ ?_ ?_ ?_ ?_); (focus (first | rfl | (simp; done))); (focus (first | exact one_all (by rfl) | exact one_map (fun _ => rfl) | exact one_map2 (fun _ => rfl))); (focus ((try simp only [LN] at *) <;> omega)); (focus ((try simp only [LN] at *) <;> omega)); (focus ((try simp only [LN] at *) <;> omega)))
  | with_reducible refine wr_i64 (by first | omega | (simp only [LN] at *; omega)) ?_
  | with_reducible refine wr_u64 (by omega) ?_
  | with_reducible refine wr_u8 (by omega) ?_
  | with_reducible refine wr_u32 (by omega) ?_
  | with_reducible first | refine wr_mk _ rfl ?_
  | ((with_reducible refine ixN_nat ?_ ?_); (focus ((try simp only [LN] at *) <;> omega)))
  | ((with_reducible refine rowN_map ?_ ?_); (focus ((try simp only [LN] at *) <;> omega)); intro x hx)
  | ((with_reducible refine posE_nil (by rfl) ?_))
  | ((with_reducible refine posE_pos (by decide) ?_))
  | with_reducible refine vN_mod (by omega) ?_
  | with_reducible first | refine vN_mk ?_
  | with_reducible refine nzN_mk (by omega) ?_
  | with_reducible refine eqN_dec (by omega) ?_
  | with_reducible first | refine apN_mk (by kernel_rfl) ?_ | refine Z.callZ_in tabOk 18 Try.f111 _ Try.func111 (by kernel_rfl) rfl rfl rfl ?_ | refine Z.callZ_in tabOk 8 Try.f55 _ Try.func55 (by kernel_rfl) rfl rfl rfl ?_ | refine Z.callZ_in tabOk 6 Try.f56 _ Try.func56 (by kernel_rfl) rfl rfl rfl ?_ | refine Z.callZ_in tabOk 10 Try.f59 _ Try.func59 (by kernel_rfl) rfl rfl rfl ?_ | refine Z.callZ_in tabOk 11 Try.f61 _ Try.func61 (by kernel_rfl) rfl rfl rfl ?_ | refine Z.callZ_in tabOk 6 Try.f95 _ Try.func95 (by kernel_rfl) rfl rfl rfl ?_ | refine Z.callZ_in tabOk 5 Try.f97 _ Try.func97 (by kernel_rfl) rfl rfl rfl ?_ | refine Z.callZ_in tabOk 10 Try.f94 _ Try.func94 (by kernel_rfl) rfl rfl rfl ?_ | refine Z.callZ_in tabOk 58 Try.f110 _ Try.func110 (by kernel_rfl) rfl rfl rfl ?_
  | ((first | (with_reducible refine Z.conZ_mz ?_ (cc) ?_) | (with_reducible refine Z.callZ_mk ?_ (cc) ?_) | (with_reducible refine Z.conZ_mz ?_ (ccp) ?_) | (with_reducible refine Z.callZ_mk ?_ (ccp) ?_)); (focus ((repeat' (first | exact trivial | exact rfl | exact Z.low_nil | exact Z.low_nil2 | exact low_osl (fun _ => rfl) | (refine Z.low_osln ?_ (fun _ => rfl); (simp only [List.length_map]; done)) | exact low_oslr (fun _ => rfl) | exact Z.low_gslm (by first | rfl | exact Z.kb_some rfl) (fun _ => rfl) | exact .inl rfl | exact .inr ⟨_, rfl⟩ | apply And.intro)); done)))
  | ((with_reducible refine eqN_mk2 ?_ ?_); (focus (exact Z.kb_some rfl)))
  | ((with_reducible apply ex_and); exact rfl)
  | with_reducible first | refine Z.drawZ_rule tabOk mixOk ?_ | refine Z.apZ_mk (by kernel_rfl) ?_
  | ((with_reducible refine Z.ConZ.red ?_); (try subst hlb); (apply Z.conZ_all); (focus (repeat (first | exact Z.FK.nil | (apply Z.FK.keep; exact rfl)))); (focus rfl); (focus rfl); (focus (repeat (first | exact trivial | (refine ⟨(fun o ho => (by first | (cases ho; rfl) | (cases ho; exact Z.inL_map fun _ => rfl) | (cases ho; exact Z.inL_mapr fun _ => rfl) | exact Z.inL_gB ho fun _ => rfl)), ?_⟩)))))
  | ((refine ⟨rfl, ?_, rfl⟩); (focus (repeat (first | exact Z.DK.nil | apply Z.DK.cons))))
  | (focus (exact (rfl : Nat.ble _ _ = true))))
 all_goals (try (conv => whnf))
 all_goals try first | (show Nat.ble _ _ = true; rfl) | (exfalso; rename_i hz; cases hz; done) | (exfalso; (try simp only [LN] at *) <;> omega)
 all_goals first
  | ((refine Z.rnd_bi 1 [[.ro true 1 ((r.drop 8).map eB), _]] rfl rfl ⟨⟨Z.Imp.of_eq (congrArg (Ce.ro true 1) (by first | ((try simp only [tk_drop]); simp only [← List.map_drop, List.drop_drop, List.map_cons, List.drop_succ_cons, List.drop_zero]; done) | (simp; done) | (simp [tk_map]; done))), Z.Imp.refl _, trivial⟩, trivial⟩ ?_); ((refine Z.rndK ((i, (r.drop 8), acc ++ [(⟨t, w, IntKind.i64.wrap v8, 0⟩ : Kc)], 7)) (fun s => [0, 1, 2, 3, 4, s.idIn 2 0]) rfl rfl rfl rfl ?_ ?_ ?_ ?_); (focus (repeat' (first | exact trivial | exact Z.map_sub (Z.MapL.ren HM0 fun _ => rfl) rfl | exact Z.it_sub rfl | exact rfl | (rw [List.map_append]; exact rfl) | apply And.intro))); (focus (repeat' (first | exact trivial | exact Z.map_sub (Z.MapL.ren HM0 fun _ => rfl) rfl | exact Z.it_sub rfl | (intro b hb; cases hb; rfl) | (intro b hb; cases hb; subst hlb; rfl) | (intro b hb; cases hb; rw [List.map_append]; rfl) | (intro b hb; cases hb; done) | exact Z.blk_sub rfl rfl (ren_map fun _ => rfl) | exact Z.blk_sub rfl rfl (Z.ren_app (ren_map fun _ => rfl) (ren_map fun _ => rfl)) | exact Z.blk_sub rfl (by first | (rw [List.map_append]; rfl) | (rw [List.map_set]; rfl) | simp only [List.map_append, List.map_cons, List.map_nil, List.map_set]) (ren_map fun _ => rfl) | exact Z.gB_sub rfl rfl (ren_map fun _ => rfl) | exact Z.gB_sub' rfl (by first | rfl | (rw [List.map_append]; rfl) | simp only [List.map_append, List.map_cons, List.map_nil]) (ren_map fun _ => rfl) | apply And.intro))); (focus (exact ⟨by (try dsimp only); omega, ⟨by (try dsimp only); first | (intro x hx; cases hx; done) | exact hBr | exact isB_drop hBr, by (try dsimp only); (try simp only [List.length_cons, List.length_drop, List.length_nil] at *); omega⟩, by (try dsimp only); simp only [List.length_append, List.length_cons, List.length_nil]; omega, .inr ⟨rfl, by (try dsimp only); rw [HD]; exact preK_bad (by simp only [List.length_cons, List.length_nil]; omega)⟩⟩)); ((try dsimp only); omega)))
  | (exfalso; rename_i hz; cases hz; done)
  | (exfalso; (try simp only [LN] at *) <;> omega)
  | (fail)
end Tab
end Go.Proofs.Ytopieffkpdlpbaa
namespace Go.Proofs.Ytopieffkpdlpbaa
open Go Go.RowKit Wx
set_option maxHeartbeats 40000000
namespace Tab
theorem dec_e (b : List Int) (N i : Nat) (acc : List Kc) (t w : Int) (r : List Int) (hB : isB (t :: w :: r)) (hL : ((t :: w :: r) : List Int).length ≤ 1099511627776) (HC : acc.length + (i + 1) = N) (HD : decK N b = preK acc (decK (i + 1) (t :: w :: r))) (hN : N ≤ 65535) (h4 : 16 ≤ r.length) {Q : Exit → Z.S → Prop} : Z.codeZ Try.prog tab 59 0 none (lbody Try.f60) ⟨dCH (i + 1, (t :: w :: r), acc, 0) ++ dFk, dCK (i + 1, (t :: w :: r), acc, 0) ++ dKk, 6⟩ (loopPost (dRnd b N (i + 1, (t :: w :: r), acc, 0)) Q) := by
 dsimp only [dCH, dFk, dCK, dKk, dRnd]
 have hj1 : IntKind.i64.wrap (((i + 1 : Nat) : Int) - 1) = (i : Int) := by
  rw [show (((i + 1 : Nat) : Int) - 1) = (i : Int) by omega]
  simp [IntKind.wrap, IntKind.bits, IntKind.signed]; omega
 have hb_t := hB t (by simp)
 have hb_w := hB w (by simp)
 have hBr : isB r := fun x hx => hB x (by simp [hx])
 repeat' ((conv => whnf); first
  | with_reducible first | refine spB_t ?_
  | ((with_reducible apply spB_cong); (focus (simp only [splQ, Int.reduceBEq, Int.reduceBNe]; rfl)))
  | with_reducible first | refine spB_yes (by decide) ?_ | refine spB_no (by decide) ?_ | refine spB_f ?_ | refine spB_not ?_ | refine spB_yes (by assumption) ?_ | refine spB_no (by assumption) ?_
  | (with_reducible refine spB_dec ?_ ?_ <;> intro _ <;> (try (exfalso; first | contradiction | omega | (rename_i hz; refine hz ?_; simp; done) | (rename_i hz; simp at hz; done) | (simp only [LN] at *; omega))))
  | (with_reducible refine spB_beq ?_ ?_ <;> intro _ <;> (try (exfalso; first | contradiction | omega | (rename_i hz; refine hz ?_; simp; done) | (rename_i hz; simp at hz; done) | (simp only [LN] at *; omega))))
  | (with_reducible refine spB_bne ?_ ?_ <;> intro _ <;> (try (exfalso; first | contradiction | omega | (rename_i hz; refine hz ?_; simp; done) | (rename_i hz; simp at hz; done) | (simp only [LN] at *; omega))))
  | (with_reducible refine spB_mk ?_ ?_ <;> intro _ <;> (try (exfalso; first | contradiction | omega | (rename_i hz; refine hz ?_; simp; done) | (rename_i hz; simp at hz; done) | (simp only [LN] at *; omega))))
  | (refine Z.updN.mk ⟨_, rfl, ?_⟩)
  | (refine Z.lookN.mk ⟨_, _, rfl, ?_⟩)
  | with_reducible first | refine Z.callZ_mfa ?_
  | ((refine sl3N_mk 0 1 1 rfl rfl rfl ?_ ?_ ?_ ?_ ?_); (iterate 4 (focus (first | exact .inl rfl | ((try simp only [LN] at *) <;> omega)))))
  | ((refine sl3N_mk 0 8 8 rfl rfl rfl ?_ ?_ ?_ ?_ ?_); (iterate 4 (focus (first | exact .inl rfl | ((try simp only [LN] at *) <;> omega)))))
  | ((with_reducible refine Z.slN_lo 1 ?_ ?_ ?_); (focus rfl); (focus ((try simp only [LN] at *) <;> omega)))
  | ((with_reducible refine Z.slN_lo 8 ?_ ?_ ?_); (focus rfl); (focus ((try simp only [LN] at *) <;> omega)))
  | (refine loopZ_unr1 tabOk rfl ?_)
  | ((with_reducible refine wr_shl8 ?_ ?_); (focus omega))
  | ((with_reducible refine wr_or0 ?_ ?_); (focus omega))
  | with_reducible first | refine rowN_mk _ rfl ?_
  | ((with_reducible refine wr_mk (i : Int) hj1 ?_))
  | ((with_reducible refine posE_pos ?_ ?_); (focus ((try simp only [LN] at *) <;> omega)))
  | ((with_reducible refine posE_nil ?_ ?_); (focus rfl))
  | ((with_reducible apply rowN_mk); (focus rfl))
  | ((with_reducible apply ixN_lit); (focus rfl); (focus rfl))
  | ((with_reducible apply ixN_litp); (focus rfl); (focus ((try simp only [LN] at *) <;> omega)))
  | ((with_reducible refine eqN_mk2 ?_ ?_); (focus rfl))
  | ((with_reducible refine posN_mk2 ?_ ?_); (focus (first | decide | ((try simp only [LN] at *) <;> omega))))
  | ((with_reducible refine apdE_r ?_); (with_reducible refine aprN.mk ⟨_, rfl, ?_⟩ ?_ ?_ ?_ ?_); (focus ((try simp only [LN] at *) <;> omega)); (focus (first | rfl | (simp; done) | ((try simp only [LN] at *) <;> omega))); (focus (first | exact one_all (by rfl) | exact one_map (fun _ => rfl) | exact one_map2 (fun _ => rfl) | exact one_drop (fun _ => rfl))); (focus ((try simp only [LN] at *) <;> omega)))
  | ((with_reducible refine apdE_k ?_); (with_reducible refine apkN.mk ⟨_, rfl, ?_⟩ ?_); (focus ((try simp only [LN] at *) <;> omega)))
  | with_reducible first | refine apdE_n ?_
  | ((with_reducible refine slE_a ?_ ?_); (focus ((try simp only [LN] at *) <;> omega)))
  | ((with_reducible refine slE_b ?_ ?_); (focus ((try simp only [LN] at *) <;> omega)))
  | ((with_reducible refine slE_split ?_ ?_ ?_); (focus ((try simp only [LN] at *) <;> omega)); (all_goals intro _))
  | ((with_reducible apply sl3N_mk); (focus rfl); (focus rfl); (focus rfl); (focus ((try simp only [LN] at *) <;> omega)); (focus ((try simp only [LN] at *) <;> omega)); (focus ((try simp only [LN] at *) <;> omega)); (focus ((try simp only [LN] at *) <;> omega)))
  | ((with_reducible refine apdN.mk ?_ ?_ ?_ ?_ ?_ ?_); (focus (first | rfl | (simp; done))); (focus (first | exact one_all (by rfl) | exact one_map (fun _ => rfl) | exact one_map2 (fun _ => rfl))); (focus ((try simp only [LN] at *) <;> omega)); (focus ((try simp only [LN] at *) <;> omega)); (focus ((try simp only [LN] at *) <;> omega)))
  | with_reducible refine wr_i64 (by first | omega | (simp only [LN] at *; omega)) ?_
  | with_reducible refine wr_u64 (by omega) ?_
  | with_reducible refine wr_u8 (by omega) ?_
  | with_reducible refine wr_u32 (by omega) ?_
  | with_reducible first | refine wr_mk _ rfl ?_
  | ((with_reducible refine ixN_nat ?_ ?_); (focus ((try simp only [LN] at *) <;> omega)))
  | ((with_reducible refine rowN_map ?_ ?_); (focus ((try simp only [LN] at *) <;> omega)); intro x hx)
  | ((with_reducible refine posE_nil (by rfl) ?_))
  | ((with_reducible refine posE_pos (by decide) ?_))
  | with_reducible refine vN_mod (by omega) ?_
  | with_reducible first | refine vN_mk ?_
  | with_reducible refine nzN_mk (by omega) ?_
  | with_reducible refine eqN_dec (by omega) ?_
  | with_reducible first | refine apN_mk (by kernel_rfl) ?_ | refine Z.callZ_in tabOk 18 Try.f111 _ Try.func111 (by kernel_rfl) rfl rfl rfl ?_ | refine Z.callZ_in tabOk 8 Try.f55 _ Try.func55 (by kernel_rfl) rfl rfl rfl ?_ | refine Z.callZ_in tabOk 6 Try.f56 _ Try.func56 (by kernel_rfl) rfl rfl rfl ?_ | refine Z.callZ_in tabOk 10 Try.f59 _ Try.func59 (by kernel_rfl) rfl rfl rfl ?_ | refine Z.callZ_in tabOk 11 Try.f61 _ Try.func61 (by kernel_rfl) rfl rfl rfl ?_ | refine Z.callZ_in tabOk 6 Try.f95 _ Try.func95 (by kernel_rfl) rfl rfl rfl ?_ | refine Z.callZ_in tabOk 5 Try.f97 _ Try.func97 (by kernel_rfl) rfl rfl rfl ?_ | refine Z.callZ_in tabOk 10 Try.f94 _ Try.func94 (by kernel_rfl) rfl rfl rfl ?_ | refine Z.callZ_in tabOk 58 Try.f110 _ Try.func110 (by kernel_rfl) rfl rfl rfl ?_
  | ((first | (with_reducible refine Z.conZ_mz ?_ (cc) ?_) | (with_reducible refine Z.callZ_mk ?_ (cc) ?_) | (with_reducible refine Z.conZ_mz ?_ (ccp) ?_) | (with_reducible refine Z.callZ_mk ?_ (ccp) ?_)); (focus ((repeat' (first | exact trivial | exact rfl | exact Z.low_nil | exact Z.low_nil2 | exact low_osl (fun _ => rfl) | (refine Z.low_osln ?_ (fun _ => rfl); (simp only [List.length_map]; done)) | exact low_oslr (fun _ => rfl) | exact Z.low_gslm (by first | rfl | exact Z.kb_some rfl) (fun _ => rfl) | exact .inl rfl | exact .inr ⟨_, rfl⟩ | apply And.intro)); done)))
  | ((with_reducible refine eqN_mk2 ?_ ?_); (focus (exact Z.kb_some rfl)))
  | ((with_reducible apply ex_and); exact rfl)
  | with_reducible first | refine Z.drawZ_rule tabOk mixOk ?_ | refine Z.apZ_mk (by kernel_rfl) ?_
  | ((with_reducible refine Z.ConZ.red ?_); (try subst hlb); (apply Z.conZ_all); (focus (repeat (first | exact Z.FK.nil | (apply Z.FK.keep; exact rfl)))); (focus rfl); (focus rfl); (focus (repeat (first | exact trivial | (refine ⟨(fun o ho => (by first | (cases ho; rfl) | (cases ho; exact Z.inL_map fun _ => rfl) | (cases ho; exact Z.inL_mapr fun _ => rfl) | exact Z.inL_gB ho fun _ => rfl)), ?_⟩)))))
  | ((refine ⟨rfl, ?_, rfl⟩); (focus (repeat (first | exact Z.DK.nil | apply Z.DK.cons))))
  | (focus (exact (rfl : Nat.ble _ _ = true))))
 all_goals (try (conv => whnf))
 all_goals try first | (show Nat.ble _ _ = true; rfl) | (exfalso; rename_i hz; cases hz; done) | (exfalso; (try simp only [LN] at *) <;> omega)
 all_goals (
  apply loopQ3
  ·intro Q0 hq9
   refine Z.loopK tabOk (fun zq : Nat => [(6, .val (.int .i64 (zq : Int)))]) (fun zq : Nat => ([(12, some (Z.Ob.b ⟨[[.v (.int .u64 (numR (r.take zq)))]], 1, 132, true⟩)), (0, some (Z.Ob.b ⟨[[.v (.slice none 0 0)]], 1, 28, true⟩)), (1, some (Z.Ob.b ⟨[[.ro true 1 (r.map eB), .v (.int .i64 0)]], 2, 138, true⟩)), (2, some (Z.Ob.b ⟨[[.gsl 5 (acc.map cK)]], 1, 28, true⟩)), (5, (gB 4 70 (acc.map cK)).map Z.Ob.b), (10, some (Z.Ob.b ⟨[[.v (.int .i64 t), .v (.int .i64 w), .v (.int .i64 0), .v (.int .i64 0)]], 4, 70, true⟩))] : Z.Kr)) (fun zq => zq ≤ 8) (fun zq => 8 - zq) 0 13 [(0, _), (2, _), (5, _)] ⟨rfl, rfl, rfl, trivial⟩ [] trivial ?_ ?_ rfl rfl (Nat.zero_le _) ?_
   ·repeat' (first | exact trivial | apply And.intro | exact ⟨_, rfl, rfl⟩ | exact ⟨_, rfl, Z.Imp.refl _⟩ | exact ⟨_, rfl, Z.Imp.nilg _⟩ | exact ⟨_, rfl, Z.Imp.nilr _ _⟩)
   ·repeat' (first | exact trivial | (intro b hb; cases hb; done) | exact (fun b hb => ⟨b, hb, Z.ImpO.refl b⟩) | (intro b hb; cases hb; refine ⟨_, rfl, ⟨rfl, rfl, rfl⟩, ⟨⟨Z.Imp.of_eq (congrArg (Ce.ro true 1) (by first | ((try simp only [tk_drop]); simp only [← List.map_drop, List.drop_drop, List.map_cons, List.drop_succ_cons, List.drop_zero]; done) | (simp [tk_map]; done) | (simp [tk_map, List.take_of_length_le]; done))), Z.Imp.refl _, trivial⟩, trivial⟩⟩; done) | (intro b hb; cases hb; refine ⟨_, rfl, ⟨rfl, rfl, rfl⟩, ?_⟩; (repeat' (first | exact trivial | apply And.intro | exact Z.Imp.refl _ | exact Z.Imp.nilg _ | exact Z.Imp.nilr _ _)); done) | (intro b hb; cases hb; refine ⟨_, rfl, ⟨rfl, rfl, rfl⟩, Z.imp_eq ?_⟩; first | rfl | (simp [tk_map]; done); done) | apply And.intro)
   rintro j HINV
   (try dsimp only at HINV); (try dsimp only)
   by_cases hj : j < 8
   ·obtain ⟨z9, hzr⟩ := getElem?_some' (xs := r) (i := j) (by (try rw [List.length_drop]); omega)
    have hzd : (r.take 8)[j]? = some z9 := by rw [List.getElem?_take, if_pos hj]; exact hzr
    have hzb := hBr z9 (List.mem_of_getElem? hzr)
    have hnl := num_lt (l := r) (i := j) (by omega) (by (try rw [List.length_drop]); omega) hBr
    generalize hnv : numR (r.take j) = nv at *
    repeat' ((conv => whnf); first
     | with_reducible first | refine spB_t ?_
     | ((with_reducible apply spB_cong); (focus (simp only [splQ, Int.reduceBEq, Int.reduceBNe]; rfl)))
     | with_reducible first | refine spB_yes (by decide) ?_ | refine spB_no (by decide) ?_ | refine spB_f ?_ | refine spB_not ?_ | refine spB_yes (by assumption) ?_ | refine spB_no (by assumption) ?_
     | (with_reducible refine spB_dec ?_ ?_ <;> intro _ <;> (try (exfalso; first | contradiction | omega | (rename_i hz; refine hz ?_; simp; done) | (rename_i hz; simp at hz; done) | (simp only [LN] at *; omega))))
     | (with_reducible refine spB_beq ?_ ?_ <;> intro _ <;> (try (exfalso; first | contradiction | omega | (rename_i hz; refine hz ?_; simp; done) | (rename_i hz; simp at hz; done) | (simp only [LN] at *; omega))))
     | (with_reducible refine spB_bne ?_ ?_ <;> intro _ <;> (try (exfalso; first | contradiction | omega | (rename_i hz; refine hz ?_; simp; done) | (rename_i hz; simp at hz; done) | (simp only [LN] at *; omega))))
     | (with_reducible refine spB_mk ?_ ?_ <;> intro _ <;> (try (exfalso; first | contradiction | omega | (rename_i hz; refine hz ?_; simp; done) | (rename_i hz; simp at hz; done) | (simp only [LN] at *; omega))))
     | ((with_reducible refine Z.slN_lo 1 ?_ ?_ ?_); (focus rfl); (focus ((try simp only [LN] at *) <;> omega)))
     | ((with_reducible refine Z.slN_lo 8 ?_ ?_ ?_); (focus rfl); (focus ((try simp only [LN] at *) <;> omega)))
     | (refine loopZ_unr1 tabOk rfl ?_)
     | ((with_reducible refine wr_shl8 ?_ ?_); (focus omega))
     | ((with_reducible refine wr_or0 ?_ ?_); (focus omega))
     | ((with_reducible refine rowN_mk (eB z9) ?_ ?_); (focus (exact rest_at (by first | ((try simp only [tk_drop]); simp only [Nat.sub_zero, List.drop_zero, ← List.map_drop, ← List.map_take, List.map_cons, List.drop_succ_cons]; done) | (simp [tk_map]; done)) hzd)))
     | ((with_reducible refine ixN_mk (j) ?_ ?_ ?_); (focus (first | rfl | ((try simp only [LN] at *) <;> omega))); (focus ((try simp only [LN] at *) <;> omega)))
     | ((with_reducible apply rowN_mk); (focus rfl))
     | ((with_reducible apply ixN_lit); (focus rfl); (focus rfl))
     | ((with_reducible apply ixN_litp); (focus rfl); (focus ((try simp only [LN] at *) <;> omega)))
     | ((with_reducible refine eqN_mk2 ?_ ?_); (focus rfl))
     | with_reducible refine wr_i64 (by first | omega | (simp only [LN] at *; omega)) ?_
     | with_reducible refine wr_u64 (by omega) ?_
     | with_reducible refine wr_u8 (by omega) ?_
     | with_reducible refine wr_u32 (by omega) ?_
     | with_reducible first | refine wr_mk _ rfl ?_
     | ((with_reducible refine ixN_nat ?_ ?_); (focus ((try simp only [LN] at *) <;> omega)))
     | ((with_reducible refine rowN_map ?_ ?_); (focus ((try simp only [LN] at *) <;> omega)); intro x hx)
     | with_reducible refine vN_mod (by omega) ?_
     | with_reducible first | refine vN_mk ?_
     | with_reducible refine nzN_mk (by omega) ?_
     | with_reducible refine eqN_dec (by omega) ?_
     | with_reducible first | refine apN_mk (by kernel_rfl) ?_
     | ((with_reducible refine eqN_mk2 ?_ ?_); (focus (exact Z.kb_some rfl)))
     | ((with_reducible apply ex_and); exact rfl)
     | with_reducible first | refine Z.drawZ_rule tabOk mixOk ?_ | refine Z.apZ_mk (by kernel_rfl) ?_
     | ((with_reducible refine Z.ConZ.red ?_); (try subst hlb); (apply Z.conZ_all); (focus (repeat (first | exact Z.FK.nil | (apply Z.FK.keep; exact rfl)))); (focus rfl); (focus rfl); (focus (repeat (first | exact trivial | (refine ⟨(fun o ho => (by first | (cases ho; rfl) | (cases ho; exact Z.inL_map fun _ => rfl) | (cases ho; exact Z.inL_mapr fun _ => rfl) | exact Z.inL_gB ho fun _ => rfl)), ?_⟩)))))
     | ((refine ⟨rfl, ?_, rfl⟩); (focus (repeat (first | exact Z.DK.nil | apply Z.DK.cons))))
     | (focus (exact (rfl : Nat.ble _ _ = true))))
    all_goals (try (conv => whnf))
    all_goals try first | (show Nat.ble _ _ = true; rfl) | (exfalso; rename_i hz; cases hz; done) | (exfalso; (try simp only [LN] at *) <;> omega)
    all_goals first
     | ((refine Z.rnd_rw 12 ([[.v (.int .u64 (numR (r.take (j + 1))))]]) rfl rfl ?_ ?_); (focus (rw [take_snoc hzr, numR_snoc, hnv]; exact congrArg (fun z => [[Ce.v (.int .u64 z)]]) (or_add hnl hzb))); ((refine Z.rndK ((j + 1)) (fun s => [0, 1, 2, 3, 4, 5, 6, 7, 8, 9, 10, 11, 12]) rfl rfl rfl rfl ?_ ?_ ?_ ?_); (focus (repeat' (first | exact trivial | exact Z.map_sub (Z.MapL.ren HM0 fun _ => rfl) rfl | exact Z.it_sub rfl | exact rfl | (rw [List.map_append]; exact rfl) | apply And.intro))); (focus (repeat' (first | exact trivial | exact Z.map_sub (Z.MapL.ren HM0 fun _ => rfl) rfl | exact Z.it_sub rfl | (intro b hb; cases hb; rfl) | (intro b hb; cases hb; subst hlb; rfl) | (intro b hb; cases hb; rw [List.map_append]; rfl) | (intro b hb; cases hb; done) | exact Z.blk_sub rfl rfl (ren_map fun _ => rfl) | exact Z.blk_sub rfl rfl (Z.ren_app (ren_map fun _ => rfl) (ren_map fun _ => rfl)) | exact Z.blk_sub rfl (by first | (rw [List.map_append]; rfl) | (rw [List.map_set]; rfl) | simp only [List.map_append, List.map_cons, List.map_nil, List.map_set]) (ren_map fun _ => rfl) | exact Z.gB_sub rfl rfl (ren_map fun _ => rfl) | exact Z.gB_sub' rfl (by first | rfl | (rw [List.map_append]; rfl) | simp only [List.map_append, List.map_cons, List.map_nil]) (ren_map fun _ => rfl) | apply And.intro))); (focus (((try dsimp only); omega))); ((try dsimp only); omega)))
     | (exfalso; rename_i hz; cases hz; done)
     | (exfalso; (try simp only [LN] at *) <;> omega)
     | (fail)
   have hj8 : j = 8 := by omega
   repeat' ((conv => whnf); first
    | with_reducible first | refine spB_t ?_
    | ((with_reducible apply spB_cong); (focus (simp only [splQ, Int.reduceBEq, Int.reduceBNe]; rfl)))
    | with_reducible first | refine spB_yes (by decide) ?_ | refine spB_no (by decide) ?_ | refine spB_f ?_ | refine spB_not ?_ | refine spB_yes (by assumption) ?_ | refine spB_no (by assumption) ?_
    | (with_reducible refine spB_dec ?_ ?_ <;> intro _ <;> (try (exfalso; first | contradiction | omega | (rename_i hz; refine hz ?_; simp; done) | (rename_i hz; simp at hz; done) | (simp only [LN] at *; omega))))
    | (with_reducible refine spB_beq ?_ ?_ <;> intro _ <;> (try (exfalso; first | contradiction | omega | (rename_i hz; refine hz ?_; simp; done) | (rename_i hz; simp at hz; done) | (simp only [LN] at *; omega))))
    | (with_reducible refine spB_bne ?_ ?_ <;> intro _ <;> (try (exfalso; first | contradiction | omega | (rename_i hz; refine hz ?_; simp; done) | (rename_i hz; simp at hz; done) | (simp only [LN] at *; omega))))
    | (with_reducible refine spB_mk ?_ ?_ <;> intro _ <;> (try (exfalso; first | contradiction | omega | (rename_i hz; refine hz ?_; simp; done) | (rename_i hz; simp at hz; done) | (simp only [LN] at *; omega))))
    | ((with_reducible refine Z.slN_lo 1 ?_ ?_ ?_); (focus rfl); (focus ((try simp only [LN] at *) <;> omega)))
    | ((with_reducible refine Z.slN_lo 8 ?_ ?_ ?_); (focus rfl); (focus ((try simp only [LN] at *) <;> omega)))
    | (refine loopZ_unr1 tabOk rfl ?_)
    | ((with_reducible refine wr_shl8 ?_ ?_); (focus omega))
    | ((with_reducible refine wr_or0 ?_ ?_); (focus omega))
    | ((with_reducible apply rowN_mk); (focus rfl))
    | ((with_reducible apply ixN_lit); (focus rfl); (focus rfl))
    | ((with_reducible apply ixN_litp); (focus rfl); (focus ((try simp only [LN] at *) <;> omega)))
    | ((with_reducible refine eqN_mk2 ?_ ?_); (focus rfl))
    | with_reducible refine wr_i64 (by first | omega | (simp only [LN] at *; omega)) ?_
    | with_reducible refine wr_u64 (by omega) ?_
    | with_reducible refine wr_u8 (by omega) ?_
    | with_reducible refine wr_u32 (by omega) ?_
    | with_reducible first | refine wr_mk _ rfl ?_
    | ((with_reducible refine ixN_nat ?_ ?_); (focus ((try simp only [LN] at *) <;> omega)))
    | ((with_reducible refine rowN_map ?_ ?_); (focus ((try simp only [LN] at *) <;> omega)); intro x hx)
    | with_reducible refine vN_mod (by omega) ?_
    | with_reducible first | refine vN_mk ?_
    | with_reducible refine nzN_mk (by omega) ?_
    | with_reducible refine eqN_dec (by omega) ?_
    | with_reducible first | refine apN_mk (by kernel_rfl) ?_
    | ((with_reducible refine eqN_mk2 ?_ ?_); (focus (exact Z.kb_some rfl)))
    | ((with_reducible apply ex_and); exact rfl)
    | with_reducible first | refine Z.drawZ_rule tabOk mixOk ?_ | refine Z.apZ_mk (by kernel_rfl) ?_
    | ((with_reducible refine Z.ConZ.red ?_); (try subst hlb); (apply Z.conZ_all); (focus (repeat (first | exact Z.FK.nil | (apply Z.FK.keep; exact rfl)))); (focus rfl); (focus rfl); (focus (repeat (first | exact trivial | (refine ⟨(fun o ho => (by first | (cases ho; rfl) | (cases ho; exact Z.inL_map fun _ => rfl) | (cases ho; exact Z.inL_mapr fun _ => rfl) | exact Z.inL_gB ho fun _ => rfl)), ?_⟩)))))
    | ((refine ⟨rfl, ?_, rfl⟩); (focus (repeat (first | exact Z.DK.nil | apply Z.DK.cons))))
    | (focus (exact (rfl : Nat.ble _ _ = true))))
   all_goals (try (conv => whnf))
   subst hj8
   exact hq9
  generalize hnv8 : numR (r.take 8) = v8 at *)
 repeat' ((conv => whnf); first
  | with_reducible first | refine spB_t ?_
  | ((with_reducible apply spB_cong); (focus (simp only [splQ, Int.reduceBEq, Int.reduceBNe]; rfl)))
  | with_reducible first | refine spB_yes (by decide) ?_ | refine spB_no (by decide) ?_ | refine spB_f ?_ | refine spB_not ?_ | refine spB_yes (by assumption) ?_ | refine spB_no (by assumption) ?_
  | (with_reducible refine spB_dec ?_ ?_ <;> intro _ <;> (try (exfalso; first | contradiction | omega | (rename_i hz; refine hz ?_; simp; done) | (rename_i hz; simp at hz; done) | (simp only [LN] at *; omega))))
  | (with_reducible refine spB_beq ?_ ?_ <;> intro _ <;> (try (exfalso; first | contradiction | omega | (rename_i hz; refine hz ?_; simp; done) | (rename_i hz; simp at hz; done) | (simp only [LN] at *; omega))))
  | (with_reducible refine spB_bne ?_ ?_ <;> intro _ <;> (try (exfalso; first | contradiction | omega | (rename_i hz; refine hz ?_; simp; done) | (rename_i hz; simp at hz; done) | (simp only [LN] at *; omega))))
  | (with_reducible refine spB_mk ?_ ?_ <;> intro _ <;> (try (exfalso; first | contradiction | omega | (rename_i hz; refine hz ?_; simp; done) | (rename_i hz; simp at hz; done) | (simp only [LN] at *; omega))))
  | (refine Z.updN.mk ⟨_, rfl, ?_⟩)
  | (refine Z.lookN.mk ⟨_, _, rfl, ?_⟩)
  | with_reducible first | refine Z.callZ_mfa ?_
  | ((refine sl3N_mk 0 1 1 rfl rfl rfl ?_ ?_ ?_ ?_ ?_); (iterate 4 (focus (first | exact .inl rfl | ((try simp only [LN] at *) <;> omega)))))
  | ((refine sl3N_mk 0 8 8 rfl rfl rfl ?_ ?_ ?_ ?_ ?_); (iterate 4 (focus (first | exact .inl rfl | ((try simp only [LN] at *) <;> omega)))))
  | ((with_reducible refine Z.slN_lo 1 ?_ ?_ ?_); (focus rfl); (focus ((try simp only [LN] at *) <;> omega)))
  | ((with_reducible refine Z.slN_lo 8 ?_ ?_ ?_); (focus rfl); (focus ((try simp only [LN] at *) <;> omega)))
  | (refine loopZ_unr1 tabOk rfl ?_)
  | ((with_reducible refine wr_shl8 ?_ ?_); (focus omega))
  | ((with_reducible refine wr_or0 ?_ ?_); (focus omega))
  | with_reducible first | refine rowN_mk _ rfl ?_
  | ((with_reducible refine wr_mk (i : Int) hj1 ?_))
  | (refine wr_mk (IntKind.i64.wrap v8) rfl ?_)
  | ((with_reducible refine posE_pos ?_ ?_); (focus ((try simp only [LN] at *) <;> omega)))
  | ((with_reducible refine posE_nil ?_ ?_); (focus rfl))
  | ((with_reducible apply rowN_mk); (focus rfl))
  | ((with_reducible apply ixN_lit); (focus rfl); (focus rfl))
  | ((with_reducible apply ixN_litp); (focus rfl); (focus ((try simp only [LN] at *) <;> omega)))
  | ((with_reducible refine eqN_mk2 ?_ ?_); (focus rfl))
  | ((with_reducible refine posN_mk2 ?_ ?_); (focus (first | decide | ((try simp only [LN] at *) <;> omega))))
  | ((with_reducible refine apdE_r ?_); (with_reducible refine aprN.mk ⟨_, rfl, ?_⟩ ?_ ?_ ?_ ?_); (focus ((try simp only [LN] at *) <;> omega)); (focus (first | rfl | (simp; done) | ((try simp only [LN] at *) <;> omega))); (focus (first | exact one_all (by rfl) | exact one_map (fun _ => rfl) | exact one_map2 (fun _ => rfl) | exact one_drop (fun _ => rfl))); (focus ((try simp only [LN] at *) <;> omega)))
  | ((with_reducible refine apdE_k ?_); (with_reducible refine apkN.mk ⟨_, rfl, ?_⟩ ?_); (focus ((try simp only [LN] at *) <;> omega)))
  | with_reducible first | refine apdE_n ?_
  | ((with_reducible refine slE_a ?_ ?_); (focus ((try simp only [LN] at *) <;> omega)))
  | ((with_reducible refine slE_b ?_ ?_); (focus ((try simp only [LN] at *) <;> omega)))
  | ((with_reducible refine slE_split ?_ ?_ ?_); (focus ((try simp only [LN] at *) <;> omega)); (all_goals intro _))
  | ((with_reducible apply sl3N_mk); (focus rfl); (focus rfl); (focus rfl); (focus ((try simp only [LN] at *) <;> omega)); (focus ((try simp only [LN] at *) <;> omega)); (focus ((try simp only [LN] at *) <;> omega)); (focus ((try simp only [LN] at *) <;> omega)))
  | ((with_reducible refine apdN.mk ?_ ?_ ?_ ?_ ?_ ?_); (focus (first | rfl | (simp; done))); (focus (first | exact one_all (by rfl) | exact one_map (fun _ => rfl) | exact one_map2 (fun _ => rfl))); (focus ((try simp only [LN] at *) <;> omega)); (focus ((try simp only [LN] at *) <;> omega)); (focus ((try simp only [LN] at *) <;> omega)))
  | with_reducible refine wr_i64 (by first | omega | (simp only [LN] at *; omega)) ?_
  | with_reducible refine wr_u64 (by omega) ?_
  | with_reducible refine wr_u8 (by omega) ?_
  | with_reducible refine wr_u32 (by omega) ?_
  | with_reducible first | refine wr_mk _ rfl ?_
  | ((with_reducible refine ixN_nat ?_ ?_); (focus ((try simp only [LN] at *) <;> omega)))
  | ((with_reducible refine rowN_map ?_ ?_); (focus ((try simp only [LN] at *) <;> omega)); intro x hx)
  | ((with_reducible refine posE_nil (by rfl) ?_))
  | ((with_reducible refine posE_pos (by decide) ?_))
  | with_reducible refine vN_mod (by omega) ?_
  | with_reducible first | refine vN_mk ?_
  | with_reducible refine nzN_mk (by omega) ?_
  | with_reducible refine eqN_dec (by omega) ?_
  | with_reducible first | refine apN_mk (by kernel_rfl) ?_ | refine Z.callZ_in tabOk 18 Try.f111 _ Try.func111 (by kernel_rfl) rfl rfl rfl ?_ | refine Z.callZ_in tabOk 8 Try.f55 _ Try.func55 (by kernel_rfl) rfl rfl rfl ?_ | refine Z.callZ_in tabOk 6 Try.f56 _ Try.func56 (by kernel_rfl) rfl rfl rfl ?_ | refine Z.callZ_in tabOk 10 Try.f59 _ Try.func59 (by kernel_rfl) rfl rfl rfl ?_ | refine Z.callZ_in tabOk 11 Try.f61 _ Try.func61 (by kernel_rfl) rfl rfl rfl ?_ | refine Z.callZ_in tabOk 6 Try.f95 _ Try.func95 (by kernel_rfl) rfl rfl rfl ?_ | refine Z.callZ_in tabOk 5 Try.f97 _ Try.func97 (by kernel_rfl) rfl rfl rfl ?_ | refine Z.callZ_in tabOk 10 Try.f94 _ Try.func94 (by kernel_rfl) rfl rfl rfl ?_ | refine Z.callZ_in tabOk 58 Try.f110 _ Try.func110 (by kernel_rfl) rfl rfl rfl ?_
  | ((first | (with_reducible refine Z.conZ_mz ?_ (cc) ?_) | (with_reducible refine Z.callZ_mk ?_ (cc) ?_) | (with_reducible refine Z.conZ_mz ?_ (ccp) ?_) | (with_reducible refine Z.callZ_mk ?_ (ccp) ?_)); (focus ((repeat' (first | exact trivial | exact rfl | exact Z.low_nil | exact Z.low_nil2 | exact low_osl (fun _ => rfl) | (refine Z.low_osln ?_ (fun _ => rfl); (simp only [List.length_map]; done)) | exact low_oslr (fun _ => rfl) | exact Z.low_gslm (by first | rfl | exact Z.kb_some rfl) (fun _ => rfl) | exact .inl rfl | exact .inr ⟨_, rfl⟩ | apply And.intro)); done)))
  | ((with_reducible refine eqN_mk2 ?_ ?_); (focus (exact Z.kb_some rfl)))
  | ((with_reducible apply ex_and); exact rfl)
  | with_reducible first | refine Z.drawZ_rule tabOk mixOk ?_ | refine Z.apZ_mk (by kernel_rfl) ?_
  | ((with_reducible refine Z.ConZ.red ?_); (try subst hlb); (apply Z.conZ_all); (focus (repeat (first | exact Z.FK.nil | (apply Z.FK.keep; exact rfl)))); (focus rfl); (focus rfl); (focus (repeat (first | exact trivial | (refine ⟨(fun o ho => (by first | (cases ho; rfl) | (cases ho; exact Z.inL_map fun _ => rfl) | (cases ho; exact Z.inL_mapr fun _ => rfl) | exact Z.inL_gB ho fun _ => rfl)), ?_⟩)))))
  | ((refine ⟨rfl, ?_, rfl⟩); (focus (repeat (first | exact Z.DK.nil | apply Z.DK.cons))))
  | (focus (exact (rfl : Nat.ble _ _ = true))))
 all_goals (try (conv => whnf))
 all_goals try first | (show Nat.ble _ _ = true; rfl) | (exfalso; rename_i hz; cases hz; done) | (exfalso; (try simp only [LN] at *) <;> omega)
 all_goals (
  apply loopQ3
  ·intro Q0 hq9
   refine Z.loopK tabOk (fun zq : Nat => [(6, .val (.int .i64 (zq : Int)))]) (fun zq : Nat => ([(14, some (Z.Ob.b ⟨[[.v (.int .u64 (numR ((r.drop 8).take zq)))]], 1, 132, true⟩)), (0, some (Z.Ob.b ⟨[[.v (.slice none 0 0)]], 1, 28, true⟩)), (1, some (Z.Ob.b ⟨[[.ro true 1 ((r.drop 8).map eB), .v (.int .i64 0)]], 2, 138, true⟩)), (2, some (Z.Ob.b ⟨[[.gsl 5 (acc.map cK)]], 1, 28, true⟩)), (5, (gB 4 70 (acc.map cK)).map Z.Ob.b), (10, some (Z.Ob.b ⟨[[.v (.int .i64 t), .v (.int .i64 w), .v (.int .i64 0), .v (.int .i64 0)]], 4, 70, true⟩))] : Z.Kr)) (fun zq => zq ≤ 8) (fun zq => 8 - zq) 0 15 [(0, _), (2, _), (5, _)] ⟨rfl, rfl, rfl, trivial⟩ [] trivial ?_ ?_ rfl rfl (Nat.zero_le _) ?_
   ·repeat' (first | exact trivial | apply And.intro | exact ⟨_, rfl, rfl⟩ | exact ⟨_, rfl, Z.Imp.refl _⟩ | exact ⟨_, rfl, Z.Imp.nilg _⟩ | exact ⟨_, rfl, Z.Imp.nilr _ _⟩)
   ·repeat' (first | exact trivial | (intro b hb; cases hb; done) | exact (fun b hb => ⟨b, hb, Z.ImpO.refl b⟩) | (intro b hb; cases hb; refine ⟨_, rfl, ⟨rfl, rfl, rfl⟩, ⟨⟨Z.Imp.of_eq (congrArg (Ce.ro true 1) (by first | ((try simp only [tk_drop]); simp only [← List.map_drop, List.drop_drop, List.map_cons, List.drop_succ_cons, List.drop_zero]; done) | (simp [tk_map]; done) | (simp [tk_map, List.take_of_length_le]; done))), Z.Imp.refl _, trivial⟩, trivial⟩⟩; done) | (intro b hb; cases hb; refine ⟨_, rfl, ⟨rfl, rfl, rfl⟩, ?_⟩; (repeat' (first | exact trivial | apply And.intro | exact Z.Imp.refl _ | exact Z.Imp.nilg _ | exact Z.Imp.nilr _ _)); done) | (intro b hb; cases hb; refine ⟨_, rfl, ⟨rfl, rfl, rfl⟩, Z.imp_eq ?_⟩; first | rfl | (simp [tk_map]; done); done) | apply And.intro)
   rintro j HINV
   (try dsimp only at HINV); (try dsimp only)
   by_cases hj : j < 8
   ·obtain ⟨z9, hzr⟩ := getElem?_some' (xs := (r.drop 8)) (i := j) (by (try rw [List.length_drop]); omega)
    have hzd : ((r.drop 8).take 8)[j]? = some z9 := by rw [List.getElem?_take, if_pos hj]; exact hzr
    have hzb := (isB_drop hBr) z9 (List.mem_of_getElem? hzr)
    have hnl := num_lt (l := (r.drop 8)) (i := j) (by omega) (by (try rw [List.length_drop]); omega) (isB_drop hBr)
    generalize hnv : numR ((r.drop 8).take j) = nv at *
    repeat' ((conv => whnf); first
     | with_reducible first | refine spB_t ?_
     | ((with_reducible apply spB_cong); (focus (simp only [splQ, Int.reduceBEq, Int.reduceBNe]; rfl)))
     | with_reducible first | refine spB_yes (by decide) ?_ | refine spB_no (by decide) ?_ | refine spB_f ?_ | refine spB_not ?_ | refine spB_yes (by assumption) ?_ | refine spB_no (by assumption) ?_
     | (with_reducible refine spB_dec ?_ ?_ <;> intro _ <;> (try (exfalso; first | contradiction | omega | (rename_i hz; refine hz ?_; simp; done) | (rename_i hz; simp at hz; done) | (simp only [LN] at *; omega))))
     | (with_reducible refine spB_beq ?_ ?_ <;> intro _ <;> (try (exfalso; first | contradiction | omega | (rename_i hz; refine hz ?_; simp; done) | (rename_i hz; simp at hz; done) | (simp only [LN] at *; omega))))
     | (with_reducible refine spB_bne ?_ ?_ <;> intro _ <;> (try (exfalso; first | contradiction | omega | (rename_i hz; refine hz ?_; simp; done) | (rename_i hz; simp at hz; done) | (simp only [LN] at *; omega))))
     | (with_reducible refine spB_mk ?_ ?_ <;> intro _ <;> (try (exfalso; first | contradiction | omega | (rename_i hz; refine hz ?_; simp; done) | (rename_i hz; simp at hz; done) | (simp only [LN] at *; omega))))
     | ((with_reducible refine Z.slN_lo 1 ?_ ?_ ?_); (focus rfl); (focus ((try simp only [LN] at *) <;> omega)))
     | ((with_reducible refine Z.slN_lo 8 ?_ ?_ ?_); (focus rfl); (focus ((try simp only [LN] at *) <;> omega)))
     | (refine loopZ_unr1 tabOk rfl ?_)
     | ((with_reducible refine wr_shl8 ?_ ?_); (focus omega))
     | ((with_reducible refine wr_or0 ?_ ?_); (focus omega))
     | ((with_reducible refine rowN_mk (eB z9) ?_ ?_); (focus (exact rest_at (by first | ((try simp only [tk_drop]); simp only [Nat.sub_zero, List.drop_zero, ← List.map_drop, ← List.map_take, List.map_cons, List.drop_succ_cons]; done) | (simp [tk_map]; done)) hzd)))
     | ((with_reducible refine ixN_mk (j) ?_ ?_ ?_); (focus (first | rfl | ((try simp only [LN] at *) <;> omega))); (focus ((try simp only [LN] at *) <;> omega)))
     | ((with_reducible apply rowN_mk); (focus rfl))
     | ((with_reducible apply ixN_lit); (focus rfl); (focus rfl))
     | ((with_reducible apply ixN_litp); (focus rfl); (focus ((try simp only [LN] at *) <;> omega)))
     | ((with_reducible refine eqN_mk2 ?_ ?_); (focus rfl))
     | with_reducible refine wr_i64 (by first | omega | (simp only [LN] at *; omega)) ?_
     | with_reducible refine wr_u64 (by omega) ?_
     | with_reducible refine wr_u8 (by omega) ?_
     | with_reducible refine wr_u32 (by omega) ?_
     | with_reducible first | refine wr_mk _ rfl ?_
     | ((with_reducible refine ixN_nat ?_ ?_); (focus ((try simp only [LN] at *) <;> omega)))
     | ((with_reducible refine rowN_map ?_ ?_); (focus ((try simp only [LN] at *) <;> omega)); intro x hx)
     | with_reducible refine vN_mod (by omega) ?_
     | with_reducible first | refine vN_mk ?_
     | with_reducible refine nzN_mk (by omega) ?_
     | with_reducible refine eqN_dec (by omega) ?_
     | with_reducible first | refine apN_mk (by kernel_rfl) ?_
     | ((with_reducible refine eqN_mk2 ?_ ?_); (focus (exact Z.kb_some rfl)))
     | ((with_reducible apply ex_and); exact rfl)
     | with_reducible first | refine Z.drawZ_rule tabOk mixOk ?_ | refine Z.apZ_mk (by kernel_rfl) ?_
     | ((with_reducible refine Z.ConZ.red ?_); (try subst hlb); (apply Z.conZ_all); (focus (repeat (first | exact Z.FK.nil | (apply Z.FK.keep; exact rfl)))); (focus rfl); (focus rfl); (focus (repeat (first | exact trivial | (refine ⟨(fun o ho => (by first | (cases ho; rfl) | (cases ho; exact Z.inL_map fun _ => rfl) | (cases ho; exact Z.inL_mapr fun _ => rfl) | exact Z.inL_gB ho fun _ => rfl)), ?_⟩)))))
     | ((refine ⟨rfl, ?_, rfl⟩); (focus (repeat (first | exact Z.DK.nil | apply Z.DK.cons))))
     | (focus (exact (rfl : Nat.ble _ _ = true))))
    all_goals (try (conv => whnf))
    all_goals try first | (show Nat.ble _ _ = true; rfl) | (exfalso; rename_i hz; cases hz; done) | (exfalso; (try simp only [LN] at *) <;> omega)
    all_goals first
     | ((refine Z.rnd_rw 14 ([[.v (.int .u64 (numR ((r.drop 8).take (j + 1))))]]) rfl rfl ?_ ?_); (focus (rw [take_snoc hzr, numR_snoc, hnv]; exact congrArg (fun z => [[Ce.v (.int .u64 z)]]) (or_add hnl hzb))); ((refine Z.rndK ((j + 1)) (fun s => [0, 1, 2, 3, 4, 5, 6, 7, 8, 9, 10, 11, 12, 13, 14]) rfl rfl rfl rfl ?_ ?_ ?_ ?_); (focus (repeat' (first | exact trivial | exact Z.map_sub (Z.MapL.ren HM0 fun _ => rfl) rfl | exact Z.it_sub rfl | exact rfl | (rw [List.map_append]; exact rfl) | apply And.intro))); (focus (repeat' (first | exact trivial | exact Z.map_sub (Z.MapL.ren HM0 fun _ => rfl) rfl | exact Z.it_sub rfl | (intro b hb; cases hb; rfl) | (intro b hb; cases hb; subst hlb; rfl) | (intro b hb; cases hb; rw [List.map_append]; rfl) | (intro b hb; cases hb; done) | exact Z.blk_sub rfl rfl (ren_map fun _ => rfl) | exact Z.blk_sub rfl rfl (Z.ren_app (ren_map fun _ => rfl) (ren_map fun _ => rfl)) | exact Z.blk_sub rfl (by first | (rw [List.map_append]; rfl) | (rw [List.map_set]; rfl) | simp only [List.map_append, List.map_cons, List.map_nil, List.map_set]) (ren_map fun _ => rfl) | exact Z.gB_sub rfl rfl (ren_map fun _ => rfl) | exact Z.gB_sub' rfl (by first | rfl | (rw [List.map_append]; rfl) | simp only [List.map_append, List.map_cons, List.map_nil]) (ren_map fun _ => rfl) | apply And.intro))); (focus (((try dsimp only); omega))); ((try dsimp only); omega)))
     | (exfalso; rename_i hz; cases hz; done)
     | (exfalso; (try simp only [LN] at *) <;> omega)
     | (fail)
   have hj8 : j = 8 := by omega
   repeat' ((conv => whnf); first
    | with_reducible first | refine spB_t ?_
    | ((with_reducible apply spB_cong); (focus (simp only [splQ, Int.reduceBEq, Int.reduceBNe]; rfl)))
    | with_reducible first | refine spB_yes (by decide) ?_ | refine spB_no (by decide) ?_ | refine spB_f ?_ | refine spB_not ?_ | refine spB_yes (by assumption) ?_ | refine spB_no (by assumption) ?_
    | (with_reducible refine spB_dec ?_ ?_ <;> intro _ <;> (try (exfalso; first | contradiction | omega | (rename_i hz; refine hz ?_; simp; done) | (rename_i hz; simp at hz; done) | (simp only [LN] at *; omega))))
    | (with_reducible refine spB_beq ?_ ?_ <;> intro _ <;> (try (exfalso; first | contradiction | omega | (rename_i hz; refine hz ?_; simp; done) | (rename_i hz; simp at hz; done) | (simp only [LN] at *; omega))))
    | (with_reducible refine spB_bne ?_ ?_ <;> intro _ <;> (try (exfalso; first | contradiction | omega | (rename_i hz; refine hz ?_; simp; done) | (rename_i hz; simp at hz; done) | (simp only [LN] at *; omega))))
    | (with_reducible refine spB_mk ?_ ?_ <;> intro _ <;> (try (exfalso; first | contradiction | omega | (rename_i hz; refine hz ?_; simp; done) | (rename_i hz; simp at hz; done) | (simp only [LN] at *; omega))))
    | ((with_reducible refine Z.slN_lo 1 ?_ ?_ ?_); (focus rfl); (focus ((try simp only [LN] at *) <;> omega)))
    | ((with_reducible refine Z.slN_lo 8 ?_ ?_ ?_); (focus rfl); (focus ((try simp only [LN] at *) <;> omega)))
    | (refine loopZ_unr1 tabOk rfl ?_)
    | ((with_reducible refine wr_shl8 ?_ ?_); (focus omega))
    | ((with_reducible refine wr_or0 ?_ ?_); (focus omega))
    | ((with_reducible apply rowN_mk); (focus rfl))
    | ((with_reducible apply ixN_lit); (focus rfl); (focus rfl))
    | ((with_reducible apply ixN_litp); (focus rfl); (focus ((try simp only [LN] at *) <;> omega)))
    | ((with_reducible refine eqN_mk2 ?_ ?_); (focus rfl))
    | with_reducible refine wr_i64 (by first | omega | (simp only [LN] at *; omega)) ?_
    | with_reducible refine wr_u64 (by omega) ?_
    | with_reducible refine wr_u8 (by omega) ?_
    | with_reducible refine wr_u32 (by omega) ?_
    | with_reducible first | refine wr_mk _ rfl ?_
    | ((with_reducible refine ixN_nat ?_ ?_); (focus ((try simp only [LN] at *) <;> omega)))
    | ((with_reducible refine rowN_map ?_ ?_); (focus ((try simp only [LN] at *) <;> omega)); intro x hx)
    | with_reducible refine vN_mod (by omega) ?_
    | with_reducible first | refine vN_mk ?_
    | with_reducible refine nzN_mk (by omega) ?_
    | with_reducible refine eqN_dec (by omega) ?_
    | with_reducible first | refine apN_mk (by kernel_rfl) ?_
    | ((with_reducible refine eqN_mk2 ?_ ?_); (focus (exact Z.kb_some rfl)))
    | ((with_reducible apply ex_and); exact rfl)
    | with_reducible first | refine Z.drawZ_rule tabOk mixOk ?_ | refine Z.apZ_mk (by kernel_rfl) ?_
    | ((with_reducible refine Z.ConZ.red ?_); (try subst hlb); (apply Z.conZ_all); (focus (repeat (first | exact Z.FK.nil | (apply Z.FK.keep; exact rfl)))); (focus rfl); (focus rfl); (focus (repeat (first | exact trivial | (refine ⟨(fun o ho => (by first | (cases ho; rfl) | (cases ho; exact Z.inL_map fun _ => rfl) | (cases ho; exact Z.inL_mapr fun _ => rfl) | exact Z.inL_gB ho fun _ => rfl)), ?_⟩)))))
    | ((refine ⟨rfl, ?_, rfl⟩); (focus (repeat (first | exact Z.DK.nil | apply Z.DK.cons))))
    | (focus (exact (rfl : Nat.ble _ _ = true))))
   all_goals (try (conv => whnf))
   subst hj8
   exact hq9
  generalize hnv9 : numR ((r.drop 8).take 8) = v9 at *
  have hd1 : rowD (t :: w :: r) = ⟨t, w, IntKind.i64.wrap v8, IntKind.i64.wrap v9⟩ := by rw [← hnv8, ← hnv9]; rfl)
 repeat' ((conv => whnf); first
  | with_reducible first | refine spB_t ?_
  | ((with_reducible apply spB_cong); (focus (simp only [splQ, Int.reduceBEq, Int.reduceBNe]; rfl)))
  | with_reducible first | refine spB_yes (by decide) ?_ | refine spB_no (by decide) ?_ | refine spB_f ?_ | refine spB_not ?_ | refine spB_yes (by assumption) ?_ | refine spB_no (by assumption) ?_
  | (with_reducible refine spB_dec ?_ ?_ <;> intro _ <;> (try (exfalso; first | contradiction | omega | (rename_i hz; refine hz ?_; simp; done) | (rename_i hz; simp at hz; done) | (simp only [LN] at *; omega))))
  | (with_reducible refine spB_beq ?_ ?_ <;> intro _ <;> (try (exfalso; first | contradiction | omega | (rename_i hz; refine hz ?_; simp; done) | (rename_i hz; simp at hz; done) | (simp only [LN] at *; omega))))
  | (with_reducible refine spB_bne ?_ ?_ <;> intro _ <;> (try (exfalso; first | contradiction | omega | (rename_i hz; refine hz ?_; simp; done) | (rename_i hz; simp at hz; done) | (simp only [LN] at *; omega))))
  | (with_reducible refine spB_mk ?_ ?_ <;> intro _ <;> (try (exfalso; first | contradiction | omega | (rename_i hz; refine hz ?_; simp; done) | (rename_i hz; simp at hz; done) | (simp only [LN] at *; omega))))
  | (refine Z.updN.mk ⟨_, rfl, ?_⟩)
  | (refine Z.lookN.mk ⟨_, _, rfl, ?_⟩)
  | with_reducible first | refine Z.callZ_mfa ?_
  | ((refine sl3N_mk 0 1 1 rfl rfl rfl ?_ ?_ ?_ ?_ ?_); (iterate 4 (focus (first | exact .inl rfl | ((try simp only [LN] at *) <;> omega)))))
  | ((refine sl3N_mk 0 8 8 rfl rfl rfl ?_ ?_ ?_ ?_ ?_); (iterate 4 (focus (first | exact .inl rfl | ((try simp only [LN] at *) <;> omega)))))
  | ((with_reducible refine Z.slN_lo 1 ?_ ?_ ?_); (focus rfl); (focus ((try simp only [LN] at *) <;> omega)))
  | ((with_reducible refine Z.slN_lo 8 ?_ ?_ ?_); (focus rfl); (focus ((try simp only [LN] at *) <;> omega)))
  | (refine loopZ_unr1 tabOk rfl ?_)
  | ((with_reducible refine wr_shl8 ?_ ?_); (focus omega))
  | ((with_reducible refine wr_or0 ?_ ?_); (focus omega))
  | with_reducible first | refine rowN_mk _ rfl ?_
  | ((with_reducible refine wr_mk (i : Int) hj1 ?_))
  | (refine wr_mk (IntKind.i64.wrap v8) rfl ?_)
  | (refine wr_mk (IntKind.i64.wrap v9) rfl ?_)
  | ((with_reducible refine posE_pos ?_ ?_); (focus ((try simp only [LN] at *) <;> omega)))
  | ((with_reducible refine posE_nil ?_ ?_); (focus rfl))
  | ((with_reducible apply rowN_mk); (focus rfl))
  | ((with_reducible apply ixN_lit); (focus rfl); (focus rfl))
  | ((with_reducible apply ixN_litp); (focus rfl); (focus ((try simp only [LN] at *) <;> omega)))
  | ((with_reducible refine eqN_mk2 ?_ ?_); (focus rfl))
  | ((with_reducible refine posN_mk2 ?_ ?_); (focus (first | decide | ((try simp only [LN] at *) <;> omega))))
  | ((with_reducible refine apdE_r ?_); (with_reducible refine aprN.mk ⟨_, rfl, ?_⟩ ?_ ?_ ?_ ?_); (focus ((try simp only [LN] at *) <;> omega)); (focus (first | rfl | (simp; done) | ((try simp only [LN] at *) <;> omega))); (focus (first | exact one_all (by rfl) | exact one_map (fun _ => rfl) | exact one_map2 (fun _ => rfl) | exact one_drop (fun _ => rfl))); (focus ((try simp only [LN] at *) <;> omega)))
  | ((with_reducible refine apdE_k ?_); (with_reducible refine apkN.mk ⟨_, rfl, ?_⟩ ?_); (focus ((try simp only [LN] at *) <;> omega)))
  | with_reducible first | refine apdE_n ?_
  | ((with_reducible refine slE_a ?_ ?_); (focus ((try simp only [LN] at *) <;> omega)))
  | ((with_reducible refine slE_b ?_ ?_); (focus ((try simp only [LN] at *) <;> omega)))
  | ((with_reducible refine slE_split ?_ ?_ ?_); (focus ((try simp only [LN] at *) <;> omega)); (all_goals intro _))
  | ((with_reducible apply sl3N_mk); (focus rfl); (focus rfl); (focus rfl); (focus ((try simp only [LN] at *) <;> omega)); (focus ((try simp only [LN] at *) <;> omega)); (focus ((try simp only [LN] at *) <;> omega)); (focus ((try simp only [LN] at *) <;> omega)))
  | ((with_reducible refine apdN.mk ?_ ?_ ?_ ?_ ?_ ?_); (focus (first | rfl | (simp; done))); (focus (first | exact one_all (by rfl) | exact one_map (fun _ => rfl) | exact one_map2 (fun _ => rfl))); (focus ((try simp only [LN] at *) <;> omega)); (focus ((try simp only [LN] at *) <;> omega)); (focus ((try simp only [LN] at *) <;> omega)))
  | with_reducible refine wr_i64 (by first | omega | (simp only [LN] at *; omega)) ?_
  | with_reducible refine wr_u64 (by omega) ?_
  | with_reducible refine wr_u8 (by omega) ?_
  | with_reducible refine wr_u32 (by omega) ?_
  | with_reducible first | refine wr_mk _ rfl ?_
  | ((with_reducible refine ixN_nat ?_ ?_); (focus ((try simp only [LN] at *) <;> omega)))
  | ((with_reducible refine rowN_map ?_ ?_); (focus ((try simp only [LN] at *) <;> omega)); intro x hx)
  | ((with_reducible refine posE_nil (by rfl) ?_))
  | ((with_reducible refine posE_pos (by decide) ?_))
  | with_reducible refine vN_mod (by omega) ?_
  | with_reducible first | refine vN_mk ?_
  | with_reducible refine nzN_mk (by omega) ?_
  | with_reducible refine eqN_dec (by omega) ?_
  | with_reducible first | refine apN_mk (by kernel_rfl) ?_ | refine Z.callZ_in tabOk 18 Try.f111 _ Try.func111 (by kernel_rfl) rfl rfl rfl ?_ | refine Z.callZ_in tabOk 8 Try.f55 _ Try.func55 (by kernel_rfl) rfl rfl rfl ?_ | refine Z.callZ_in tabOk 6 Try.f56 _ Try.func56 (by kernel_rfl) rfl rfl rfl ?_ | refine Z.callZ_in tabOk 10 Try.f59 _ Try.func59 (by kernel_rfl) rfl rfl rfl ?_ | refine Z.callZ_in tabOk 11 Try.f61 _ Try.func61 (by kernel_rfl) rfl rfl rfl ?_ | refine Z.callZ_in tabOk 6 Try.f95 _ Try.func95 (by kernel_rfl) rfl rfl rfl ?_ | refine Z.callZ_in tabOk 5 Try.f97 _ Try.func97 (by kernel_rfl) rfl rfl rfl ?_ | refine Z.callZ_in tabOk 10 Try.f94 _ Try.func94 (by kernel_rfl) rfl rfl rfl ?_ | refine Z.callZ_in tabOk 58 Try.f110 _ Try.func110 (by kernel_rfl) rfl rfl rfl ?_
  | ((first | (with_reducible refine Z.conZ_mz ?_ (cc) ?_) | (with_reducible refine Z.callZ_mk ?_ (cc) ?_) | (with_reducible refine Z.conZ_mz ?_ (ccp) ?_) | (with_reducible refine Z.callZ_mk ?_ (ccp) ?_)); (focus ((repeat' (first | exact trivial | exact rfl | exact Z.low_nil | exact Z.low_nil2 | exact low_osl (fun _ => rfl) | (refine Z.low_osln ?_ (fun _ => rfl); (simp only [List.length_map]; done)) | exact low_oslr (fun _ => rfl) | exact Z.low_gslm (by first | rfl | exact Z.kb_some rfl) (fun _ => rfl) | exact .inl rfl | exact .inr ⟨_, rfl⟩ | apply And.intro)); done)))
  | ((with_reducible refine eqN_mk2 ?_ ?_); (focus (exact Z.kb_some rfl)))
  | ((with_reducible apply ex_and); exact rfl)
  | with_reducible first | refine Z.drawZ_rule tabOk mixOk ?_ | refine Z.apZ_mk (by kernel_rfl) ?_
  | ((with_reducible refine Z.ConZ.red ?_); (try subst hlb); (apply Z.conZ_all); (focus (repeat (first | exact Z.FK.nil | (apply Z.FK.keep; exact rfl)))); (focus rfl); (focus rfl); (focus (repeat (first | exact trivial | (refine ⟨(fun o ho => (by first | (cases ho; rfl) | (cases ho; exact Z.inL_map fun _ => rfl) | (cases ho; exact Z.inL_mapr fun _ => rfl) | exact Z.inL_gB ho fun _ => rfl)), ?_⟩)))))
  | ((refine ⟨rfl, ?_, rfl⟩); (focus (repeat (first | exact Z.DK.nil | apply Z.DK.cons))))
  | (focus (exact (rfl : Nat.ble _ _ = true))))
 all_goals (try (conv => whnf))
 all_goals try first | (show Nat.ble _ _ = true; rfl) | (exfalso; rename_i hz; cases hz; done) | (exfalso; (try simp only [LN] at *) <;> omega)
 all_goals first
  | ((refine Z.rnd_bi 1 [[.ro true 1 ((r.drop 16).map eB), _]] rfl rfl ⟨⟨Z.Imp.of_eq (congrArg (Ce.ro true 1) (by first | ((try simp only [tk_drop]); simp only [← List.map_drop, List.drop_drop, List.map_cons, List.drop_succ_cons, List.drop_zero]; done) | (simp; done) | (simp [tk_map]; done))), Z.Imp.refl _, trivial⟩, trivial⟩ ?_); ((refine Z.rndK ((i, (r.drop 16), acc ++ [(⟨t, w, IntKind.i64.wrap v8, IntKind.i64.wrap v9⟩ : Kc)], 0)) (fun s => [0, 1, 2, 3, 4, s.idIn 2 0]) rfl rfl rfl rfl ?_ ?_ ?_ ?_); (focus (repeat' (first | exact trivial | exact Z.map_sub (Z.MapL.ren HM0 fun _ => rfl) rfl | exact Z.it_sub rfl | exact rfl | (rw [List.map_append]; exact rfl) | apply And.intro))); (focus (repeat' (first | exact trivial | exact Z.map_sub (Z.MapL.ren HM0 fun _ => rfl) rfl | exact Z.it_sub rfl | (intro b hb; cases hb; rfl) | (intro b hb; cases hb; subst hlb; rfl) | (intro b hb; cases hb; rw [List.map_append]; rfl) | (intro b hb; cases hb; done) | exact Z.blk_sub rfl rfl (ren_map fun _ => rfl) | exact Z.blk_sub rfl rfl (Z.ren_app (ren_map fun _ => rfl) (ren_map fun _ => rfl)) | exact Z.blk_sub rfl (by first | (rw [List.map_append]; rfl) | (rw [List.map_set]; rfl) | simp only [List.map_append, List.map_cons, List.map_nil, List.map_set]) (ren_map fun _ => rfl) | exact Z.gB_sub rfl rfl (ren_map fun _ => rfl) | exact Z.gB_sub' rfl (by first | rfl | (rw [List.map_append]; rfl) | simp only [List.map_append, List.map_cons, List.map_nil]) (ren_map fun _ => rfl) | apply And.intro))); (focus (exact ⟨by (try dsimp only); omega, ⟨by (try dsimp only); first | (intro x hx; cases hx; done) | exact hBr | exact isB_drop hBr, by (try dsimp only); (try simp only [List.length_cons, List.length_drop, List.length_nil] at *); omega⟩, by (try dsimp only); simp only [List.length_append, List.length_cons, List.length_nil]; omega, .inl ⟨rfl, by (try dsimp only); rw [HD, preK_step (by simp only [List.length_cons]; omega) hd1]; rfl⟩⟩)); ((try dsimp only); omega)))
  | (exfalso; rename_i hz; cases hz; done)
  | (exfalso; (try simp only [LN] at *) <;> omega)
  | (fail)
end Tab
end Go.Proofs.Ytopieffkpdlpbaa
namespace Go.Proofs.Ytopieffkpdlpbaa
open Go Go.RowKit Wx
set_option maxHeartbeats 4000000
namespace Tab
theorem decode_con (b : List Int) (hl : b.length ≤ 1099511627776) (hB : isB b) : Con Try.prog 60 [.one (.ro false 1 (b.map eB))] (fun rx rK rt => rx = .tup [.agg [.ro true 4 ((decT b).1.map eK)], .one (.v (.int .i64 (decT b).2))] ∧ rK = [] ∧ rt = 0) := by
 refine Z.con_ofF tabOk 59 Try.f60 _ Try.func60 (by kernel_rfl) rfl rfl rfl rfl ?_
 rcases b with _ | ⟨n0, b⟩
 ·have ccp := copied_con [] (by simp)
  repeat' ((conv => whnf); first
   | with_reducible first | refine spB_t ?_
   | ((with_reducible apply spB_cong); (focus (simp only [splQ, Int.reduceBEq, Int.reduceBNe]; rfl)))
   | with_reducible first | refine spB_yes (by decide) ?_ | refine spB_no (by decide) ?_ | refine spB_f ?_ | refine spB_not ?_ | refine spB_yes (by assumption) ?_ | refine spB_no (by assumption) ?_
   | (with_reducible refine spB_dec ?_ ?_ <;> intro _ <;> (try (exfalso; first | contradiction | omega | (rename_i hz; refine hz ?_; simp; done) | (rename_i hz; simp at hz; done) | (simp only [LN] at *; omega))))
   | (with_reducible refine spB_beq ?_ ?_ <;> intro _ <;> (try (exfalso; first | contradiction | omega | (rename_i hz; refine hz ?_; simp; done) | (rename_i hz; simp at hz; done) | (simp only [LN] at *; omega))))
   | (with_reducible refine spB_bne ?_ ?_ <;> intro _ <;> (try (exfalso; first | contradiction | omega | (rename_i hz; refine hz ?_; simp; done) | (rename_i hz; simp at hz; done) | (simp only [LN] at *; omega))))
   | (with_reducible refine spB_mk ?_ ?_ <;> intro _ <;> (try (exfalso; first | contradiction | omega | (rename_i hz; refine hz ?_; simp; done) | (rename_i hz; simp at hz; done) | (simp only [LN] at *; omega))))
   | (refine Z.updN.mk ⟨_, rfl, ?_⟩)
   | (refine Z.lookN.mk ⟨_, _, rfl, ?_⟩)
   | with_reducible first | refine Z.callZ_mfa ?_
   | ((refine sl3N_mk 0 1 1 rfl rfl rfl ?_ ?_ ?_ ?_ ?_); (iterate 4 (focus (first | exact .inl rfl | ((try simp only [LN] at *) <;> omega)))))
   | ((refine sl3N_mk 0 8 8 rfl rfl rfl ?_ ?_ ?_ ?_ ?_); (iterate 4 (focus (first | exact .inl rfl | ((try simp only [LN] at *) <;> omega)))))
   | ((with_reducible refine Z.slN_lo 1 ?_ ?_ ?_); (focus rfl); (focus ((try simp only [LN] at *) <;> omega)))
   | ((with_reducible refine Z.slN_lo 8 ?_ ?_ ?_); (focus rfl); (focus ((try simp only [LN] at *) <;> omega)))
   | (refine loopZ_unr1 tabOk rfl ?_)
   | ((with_reducible refine wr_shl8 ?_ ?_); (focus omega))
   | ((with_reducible refine wr_or0 ?_ ?_); (focus omega))
   | with_reducible first | refine rowN_mk _ rfl ?_
   | ((with_reducible refine sl3N_mk 0 2 2 rfl rfl rfl ?_ ?_ ?_ ?_ ?_); (iterate 4 (focus (first | exact .inl rfl | ((try simp only [LN] at *) <;> omega)))))
   | ((with_reducible refine Z.slN_lo 2 ?_ ?_ ?_); (focus rfl); (focus ((try simp only [LN] at *) <;> omega)))
   | (refine loopZ_unr2 tabOk rfl ?_)
   | (refine wr_n16 hn0 hn1 ?_)
   | ((with_reducible refine posE_pos ?_ ?_); (focus ((try simp only [LN] at *) <;> omega)))
   | ((with_reducible refine posE_nil ?_ ?_); (focus rfl))
   | ((with_reducible apply rowN_mk); (focus rfl))
   | ((with_reducible apply ixN_lit); (focus rfl); (focus rfl))
   | ((with_reducible apply ixN_litp); (focus rfl); (focus ((try simp only [LN] at *) <;> omega)))
   | ((with_reducible refine eqN_mk2 ?_ ?_); (focus rfl))
   | ((with_reducible refine posN_mk2 ?_ ?_); (focus (first | decide | ((try simp only [LN] at *) <;> omega))))
   | ((with_reducible refine apdE_r ?_); (with_reducible refine aprN.mk ⟨_, rfl, ?_⟩ ?_ ?_ ?_ ?_); (focus ((try simp only [LN] at *) <;> omega)); (focus (first | rfl | (simp; done) | ((try simp only [LN] at *) <;> omega))); (focus (first | exact one_all (by rfl) | exact one_map (fun _ => rfl) | exact one_map2 (fun _ => rfl) | exact one_drop (fun _ => rfl))); (focus ((try simp only [LN] at *) <;> omega)))
   | ((with_reducible refine apdE_k ?_); (with_reducible refine apkN.mk ⟨_, rfl, ?_⟩ ?_); (focus ((try simp only [LN] at *) <;> omega)))
   | with_reducible first | refine apdE_n ?_
   | ((with_reducible refine slE_a ?_ ?_); (focus ((try simp only [LN] at *) <;> omega)))
   | ((with_reducible refine slE_b ?_ ?_); (focus ((try simp only [LN] at *) <;> omega)))
   | ((with_reducible refine slE_split ?_ ?_ ?_); (focus ((try simp only [LN] at *) <;> omega)); (all_goals intro _))
   | ((with_reducible apply sl3N_mk); (focus rfl); (focus rfl); (focus rfl); (focus ((try simp only [LN] at *) <;> omega)); (focus ((try simp only [LN] at *) <;> omega)); (focus ((try simp only [LN] at *) <;> omega)); (focus ((try simp only [LN] at *) <;> omega)))
   | ((with_reducible refine apdN.mk ?_ ?_ ?_ ?_ ?_ ?_); (focus (first | rfl | (simp; done))); (focus (first | exact one_all (by rfl) | exact one_map (fun _ => rfl) | exact one_map2 (fun _ => rfl))); (focus ((try simp only [LN] at *) <;> omega)); (focus ((try simp only [LN] at *) <;> omega)); (focus ((try simp only [LN] at *) <;> omega)))
   | with_reducible refine wr_i64 (by first | omega | (simp only [LN] at *; omega)) ?_
   | with_reducible refine wr_u64 (by omega) ?_
   | with_reducible refine wr_u8 (by omega) ?_
   | with_reducible refine wr_u32 (by omega) ?_
   | with_reducible first | refine wr_mk _ rfl ?_
   | ((with_reducible refine ixN_nat ?_ ?_); (focus ((try simp only [LN] at *) <;> omega)))
   | ((with_reducible refine rowN_map ?_ ?_); (focus ((try simp only [LN] at *) <;> omega)); intro x hx)
   | ((with_reducible refine posE_nil (by rfl) ?_))
   | ((with_reducible refine posE_pos (by decide) ?_))
   | with_reducible refine vN_mod (by omega) ?_
   | with_reducible first | refine vN_mk ?_
   | with_reducible refine nzN_mk (by omega) ?_
   | with_reducible refine eqN_dec (by omega) ?_
   | with_reducible first | refine apN_mk (by kernel_rfl) ?_ | refine Z.callZ_in tabOk 18 Try.f111 _ Try.func111 (by kernel_rfl) rfl rfl rfl ?_ | refine Z.callZ_in tabOk 8 Try.f55 _ Try.func55 (by kernel_rfl) rfl rfl rfl ?_ | refine Z.callZ_in tabOk 6 Try.f56 _ Try.func56 (by kernel_rfl) rfl rfl rfl ?_ | refine Z.callZ_in tabOk 10 Try.f59 _ Try.func59 (by kernel_rfl) rfl rfl rfl ?_ | refine Z.callZ_in tabOk 11 Try.f61 _ Try.func61 (by kernel_rfl) rfl rfl rfl ?_ | refine Z.callZ_in tabOk 6 Try.f95 _ Try.func95 (by kernel_rfl) rfl rfl rfl ?_ | refine Z.callZ_in tabOk 5 Try.f97 _ Try.func97 (by kernel_rfl) rfl rfl rfl ?_ | refine Z.callZ_in tabOk 10 Try.f94 _ Try.func94 (by kernel_rfl) rfl rfl rfl ?_ | refine Z.callZ_in tabOk 58 Try.f110 _ Try.func110 (by kernel_rfl) rfl rfl rfl ?_
   | ((first | (with_reducible refine Z.conZ_mz ?_ (cc) ?_) | (with_reducible refine Z.callZ_mk ?_ (cc) ?_) | (with_reducible refine Z.conZ_mz ?_ (ccp) ?_) | (with_reducible refine Z.callZ_mk ?_ (ccp) ?_)); (focus ((repeat' (first | exact trivial | exact rfl | exact Z.low_nil | exact Z.low_nil2 | exact low_osl (fun _ => rfl) | (refine Z.low_osln ?_ (fun _ => rfl); (simp only [List.length_map]; done)) | exact low_oslr (fun _ => rfl) | exact Z.low_gslm (by first | rfl | exact Z.kb_some rfl) (fun _ => rfl) | exact .inl rfl | exact .inr ⟨_, rfl⟩ | apply And.intro)); done)))
   | ((with_reducible refine eqN_mk2 ?_ ?_); (focus (exact Z.kb_some rfl)))
   | ((with_reducible apply ex_and); exact rfl)
   | with_reducible first | refine Z.drawZ_rule tabOk mixOk ?_ | refine Z.apZ_mk (by kernel_rfl) ?_
   | ((with_reducible refine Z.ConZ.red ?_); (try subst hlb); (apply Z.conZ_all); (focus (repeat (first | exact Z.FK.nil | (apply Z.FK.keep; exact rfl)))); (focus rfl); (focus rfl); (focus (repeat (first | exact trivial | (refine ⟨(fun o ho => (by first | (cases ho; rfl) | (cases ho; exact Z.inL_map fun _ => rfl) | (cases ho; exact Z.inL_mapr fun _ => rfl) | exact Z.inL_gB ho fun _ => rfl)), ?_⟩)))))
   | ((refine ⟨rfl, ?_, rfl⟩); (focus (repeat (first | exact Z.DK.nil | apply Z.DK.cons))))
   | (focus (exact (rfl : Nat.ble _ _ = true))))
  all_goals (try (conv => whnf))
  all_goals try first | (show Nat.ble _ _ = true; rfl) | (exfalso; rename_i hz; cases hz; done) | (exfalso; (try simp only [LN] at *) <;> omega)
  all_goals (refine Z.loopZ_unroll tabOk 1 ?_)
  repeat' ((conv => whnf); first
   | with_reducible first | refine spB_t ?_
   | ((with_reducible apply spB_cong); (focus (simp only [splQ, Int.reduceBEq, Int.reduceBNe]; rfl)))
   | with_reducible first | refine spB_yes (by decide) ?_ | refine spB_no (by decide) ?_ | refine spB_f ?_ | refine spB_not ?_ | refine spB_yes (by assumption) ?_ | refine spB_no (by assumption) ?_
   | (with_reducible refine spB_dec ?_ ?_ <;> intro _ <;> (try (exfalso; first | contradiction | omega | (rename_i hz; refine hz ?_; simp; done) | (rename_i hz; simp at hz; done) | (simp only [LN] at *; omega))))
   | (with_reducible refine spB_beq ?_ ?_ <;> intro _ <;> (try (exfalso; first | contradiction | omega | (rename_i hz; refine hz ?_; simp; done) | (rename_i hz; simp at hz; done) | (simp only [LN] at *; omega))))
   | (with_reducible refine spB_bne ?_ ?_ <;> intro _ <;> (try (exfalso; first | contradiction | omega | (rename_i hz; refine hz ?_; simp; done) | (rename_i hz; simp at hz; done) | (simp only [LN] at *; omega))))
   | (with_reducible refine spB_mk ?_ ?_ <;> intro _ <;> (try (exfalso; first | contradiction | omega | (rename_i hz; refine hz ?_; simp; done) | (rename_i hz; simp at hz; done) | (simp only [LN] at *; omega))))
   | (refine Z.updN.mk ⟨_, rfl, ?_⟩)
   | (refine Z.lookN.mk ⟨_, _, rfl, ?_⟩)
   | with_reducible first | refine Z.callZ_mfa ?_
   | ((refine sl3N_mk 0 1 1 rfl rfl rfl ?_ ?_ ?_ ?_ ?_); (iterate 4 (focus (first | exact .inl rfl | ((try simp only [LN] at *) <;> omega)))))
   | ((refine sl3N_mk 0 8 8 rfl rfl rfl ?_ ?_ ?_ ?_ ?_); (iterate 4 (focus (first | exact .inl rfl | ((try simp only [LN] at *) <;> omega)))))
   | ((with_reducible refine Z.slN_lo 1 ?_ ?_ ?_); (focus rfl); (focus ((try simp only [LN] at *) <;> omega)))
   | ((with_reducible refine Z.slN_lo 8 ?_ ?_ ?_); (focus rfl); (focus ((try simp only [LN] at *) <;> omega)))
   | (refine loopZ_unr1 tabOk rfl ?_)
   | ((with_reducible refine wr_shl8 ?_ ?_); (focus omega))
   | ((with_reducible refine wr_or0 ?_ ?_); (focus omega))
   | with_reducible first | refine rowN_mk _ rfl ?_
   | ((with_reducible refine sl3N_mk 0 2 2 rfl rfl rfl ?_ ?_ ?_ ?_ ?_); (iterate 4 (focus (first | exact .inl rfl | ((try simp only [LN] at *) <;> omega)))))
   | ((with_reducible refine Z.slN_lo 2 ?_ ?_ ?_); (focus rfl); (focus ((try simp only [LN] at *) <;> omega)))
   | (refine loopZ_unr2 tabOk rfl ?_)
   | (refine wr_n16 hn0 hn1 ?_)
   | ((with_reducible refine posE_pos ?_ ?_); (focus ((try simp only [LN] at *) <;> omega)))
   | ((with_reducible refine posE_nil ?_ ?_); (focus rfl))
   | ((with_reducible apply rowN_mk); (focus rfl))
   | ((with_reducible apply ixN_lit); (focus rfl); (focus rfl))
   | ((with_reducible apply ixN_litp); (focus rfl); (focus ((try simp only [LN] at *) <;> omega)))
   | ((with_reducible refine eqN_mk2 ?_ ?_); (focus rfl))
   | ((with_reducible refine posN_mk2 ?_ ?_); (focus (first | decide | ((try simp only [LN] at *) <;> omega))))
   | ((with_reducible refine apdE_r ?_); (with_reducible refine aprN.mk ⟨_, rfl, ?_⟩ ?_ ?_ ?_ ?_); (focus ((try simp only [LN] at *) <;> omega)); (focus (first | rfl | (simp; done) | ((try simp only [LN] at *) <;> omega))); (focus (first | exact one_all (by rfl) | exact one_map (fun _ => rfl) | exact one_map2 (fun _ => rfl) | exact one_drop (fun _ => rfl))); (focus ((try simp only [LN] at *) <;> omega)))
   | ((with_reducible refine apdE_k ?_); (with_reducible refine apkN.mk ⟨_, rfl, ?_⟩ ?_); (focus ((try simp only [LN] at *) <;> omega)))
   | with_reducible first | refine apdE_n ?_
   | ((with_reducible refine slE_a ?_ ?_); (focus ((try simp only [LN] at *) <;> omega)))
   | ((with_reducible refine slE_b ?_ ?_); (focus ((try simp only [LN] at *) <;> omega)))
   | ((with_reducible refine slE_split ?_ ?_ ?_); (focus ((try simp only [LN] at *) <;> omega)); (all_goals intro _))
   | ((with_reducible apply sl3N_mk); (focus rfl); (focus rfl); (focus rfl); (focus ((try simp only [LN] at *) <;> omega)); (focus ((try simp only [LN] at *) <;> omega)); (focus ((try simp only [LN] at *) <;> omega)); (focus ((try simp only [LN] at *) <;> omega)))
   | ((with_reducible refine apdN.mk ?_ ?_ ?_ ?_ ?_ ?_); (focus (first | rfl | (simp; done))); (focus (first | exact one_all (by rfl) | exact one_map (fun _ => rfl) | exact one_map2 (fun _ => rfl))); (focus ((try simp only [LN] at *) <;> omega)); (focus ((try simp only [LN] at *) <;> omega)); (focus ((try simp only [LN] at *) <;> omega)))
   | with_reducible refine wr_i64 (by first | omega | (simp only [LN] at *; omega)) ?_
   | with_reducible refine wr_u64 (by omega) ?_
   | with_reducible refine wr_u8 (by omega) ?_
   | with_reducible refine wr_u32 (by omega) ?_
   | with_reducible first | refine wr_mk _ rfl ?_
   | ((with_reducible refine ixN_nat ?_ ?_); (focus ((try simp only [LN] at *) <;> omega)))
   | ((with_reducible refine rowN_map ?_ ?_); (focus ((try simp only [LN] at *) <;> omega)); intro x hx)
   | ((with_reducible refine posE_nil (by rfl) ?_))
   | ((with_reducible refine posE_pos (by decide) ?_))
   | with_reducible refine vN_mod (by omega) ?_
   | with_reducible first | refine vN_mk ?_
   | with_reducible refine nzN_mk (by omega) ?_
   | with_reducible refine eqN_dec (by omega) ?_
   | with_reducible first | refine apN_mk (by kernel_rfl) ?_ | refine Z.callZ_in tabOk 18 Try.f111 _ Try.func111 (by kernel_rfl) rfl rfl rfl ?_ | refine Z.callZ_in tabOk 8 Try.f55 _ Try.func55 (by kernel_rfl) rfl rfl rfl ?_ | refine Z.callZ_in tabOk 6 Try.f56 _ Try.func56 (by kernel_rfl) rfl rfl rfl ?_ | refine Z.callZ_in tabOk 10 Try.f59 _ Try.func59 (by kernel_rfl) rfl rfl rfl ?_ | refine Z.callZ_in tabOk 11 Try.f61 _ Try.func61 (by kernel_rfl) rfl rfl rfl ?_ | refine Z.callZ_in tabOk 6 Try.f95 _ Try.func95 (by kernel_rfl) rfl rfl rfl ?_ | refine Z.callZ_in tabOk 5 Try.f97 _ Try.func97 (by kernel_rfl) rfl rfl rfl ?_ | refine Z.callZ_in tabOk 10 Try.f94 _ Try.func94 (by kernel_rfl) rfl rfl rfl ?_ | refine Z.callZ_in tabOk 58 Try.f110 _ Try.func110 (by kernel_rfl) rfl rfl rfl ?_
   | ((first | (with_reducible refine Z.conZ_mz ?_ (cc) ?_) | (with_reducible refine Z.callZ_mk ?_ (cc) ?_) | (with_reducible refine Z.conZ_mz ?_ (ccp) ?_) | (with_reducible refine Z.callZ_mk ?_ (ccp) ?_)); (focus ((repeat' (first | exact trivial | exact rfl | exact Z.low_nil | exact Z.low_nil2 | exact low_osl (fun _ => rfl) | (refine Z.low_osln ?_ (fun _ => rfl); (simp only [List.length_map]; done)) | exact low_oslr (fun _ => rfl) | exact Z.low_gslm (by first | rfl | exact Z.kb_some rfl) (fun _ => rfl) | exact .inl rfl | exact .inr ⟨_, rfl⟩ | apply And.intro)); done)))
   | ((with_reducible refine eqN_mk2 ?_ ?_); (focus (exact Z.kb_some rfl)))
   | ((with_reducible apply ex_and); exact rfl)
   | with_reducible first | refine Z.drawZ_rule tabOk mixOk ?_ | refine Z.apZ_mk (by kernel_rfl) ?_
   | ((with_reducible refine Z.ConZ.red ?_); (try subst hlb); (apply Z.conZ_all); (focus (repeat (first | exact Z.FK.nil | (apply Z.FK.keep; exact rfl)))); (focus rfl); (focus rfl); (focus (repeat (first | exact trivial | (refine ⟨(fun o ho => (by first | (cases ho; rfl) | (cases ho; exact Z.inL_map fun _ => rfl) | (cases ho; exact Z.inL_mapr fun _ => rfl) | exact Z.inL_gB ho fun _ => rfl)), ?_⟩)))))
   | ((refine ⟨rfl, ?_, rfl⟩); (focus (repeat (first | exact Z.DK.nil | apply Z.DK.cons))))
   | (focus (exact (rfl : Nat.ble _ _ = true))))
  all_goals (try (conv => whnf))
  all_goals try first | (show Nat.ble _ _ = true; rfl) | (exfalso; rename_i hz; cases hz; done) | (exfalso; (try simp only [LN] at *) <;> omega)
  all_goals first
   | ((first | (with_reducible apply Z.retF1) | (with_reducible apply Z.retF2) | (with_reducible apply Z.retF0)); (focus rfl); (repeat' (first | exact trivial | (with_reducible apply Z.frz_one) | (with_reducible apply Z.frz_agg) | (with_reducible apply Z.fq_int) | (with_reducible apply Z.fq_bool) | (exact Z.frz_nil) | (exact Z.frz_osl0 rfl rfl rfl) | (with_reducible apply Z.fq_nil) | (with_reducible apply Z.fq_ro) | ((with_reducible apply Z.fq_gsl); (focus (first | rfl | exact Z.isB_map _ | exact Z.gB_snoc.symm)); (focus (exact fun _ => rfl))) | ((with_reducible apply Z.fq_osl); (focus rfl); (focus (first | exact rfl | (simp only [List.length_map, Nat.zero_add]; done) | ((try simp only [LN] at *) <;> omega))); (focus (exact fun _ => rfl))) | ((with_reducible apply Z.fq_src); (focus rfl); (focus (first | exact rfl | (simp only [List.length_map, Nat.zero_add]; done) | ((try simp only [LN] at *) <;> omega))); (focus (exact fun _ => rfl))) | exact rfl | ((apply Z.fq_osl); (focus rfl); (focus (first | exact rfl | (simp only [List.length_map, Nat.zero_add]; done) | ((try simp only [LN] at *) <;> omega))); (focus (exact fun _ => rfl))) | ((apply Z.fq_src); (focus rfl); (focus (first | exact rfl | (simp only [List.length_map, Nat.zero_add]; done) | ((try simp only [LN] at *) <;> omega))); (focus (exact fun _ => rfl))) | (apply Z.fq_ro) | (apply Z.fq_int) | (apply Z.fq_bool) | apply And.intro)); (all_goals (try exact (fun _ => none))); all_goals (first | rfl | (simp; done)))
   | (exfalso; rename_i hz; cases hz; done)
   | (exfalso; (try simp only [LN] at *) <;> omega)
   | (fail)
 have hn0 := hB n0 (List.mem_cons_self ..)
 rcases b with _ | ⟨n1, b⟩
 ·have ccp := copied_con [n0] (by simp)
  repeat' ((conv => whnf); first
   | with_reducible first | refine spB_t ?_
   | ((with_reducible apply spB_cong); (focus (simp only [splQ, Int.reduceBEq, Int.reduceBNe]; rfl)))
   | with_reducible first | refine spB_yes (by decide) ?_ | refine spB_no (by decide) ?_ | refine spB_f ?_ | refine spB_not ?_ | refine spB_yes (by assumption) ?_ | refine spB_no (by assumption) ?_
   | (with_reducible refine spB_dec ?_ ?_ <;> intro _ <;> (try (exfalso; first | contradiction | omega | (rename_i hz; refine hz ?_; simp; done) | (rename_i hz; simp at hz; done) | (simp only [LN] at *; omega))))
   | (with_reducible refine spB_beq ?_ ?_ <;> intro _ <;> (try (exfalso; first | contradiction | omega | (rename_i hz; refine hz ?_; simp; done) | (rename_i hz; simp at hz; done) | (simp only [LN] at *; omega))))
   | (with_reducible refine spB_bne ?_ ?_ <;> intro _ <;> (try (exfalso; first | contradiction | omega | (rename_i hz; refine hz ?_; simp; done) | (rename_i hz; simp at hz; done) | (simp only [LN] at *; omega))))
   | (with_reducible refine spB_mk ?_ ?_ <;> intro _ <;> (try (exfalso; first | contradiction | omega | (rename_i hz; refine hz ?_; simp; done) | (rename_i hz; simp at hz; done) | (simp only [LN] at *; omega))))
   | (refine Z.updN.mk ⟨_, rfl, ?_⟩)
   | (refine Z.lookN.mk ⟨_, _, rfl, ?_⟩)
   | with_reducible first | refine Z.callZ_mfa ?_
   | ((refine sl3N_mk 0 1 1 rfl rfl rfl ?_ ?_ ?_ ?_ ?_); (iterate 4 (focus (first | exact .inl rfl | ((try simp only [LN] at *) <;> omega)))))
   | ((refine sl3N_mk 0 8 8 rfl rfl rfl ?_ ?_ ?_ ?_ ?_); (iterate 4 (focus (first | exact .inl rfl | ((try simp only [LN] at *) <;> omega)))))
   | ((with_reducible refine Z.slN_lo 1 ?_ ?_ ?_); (focus rfl); (focus ((try simp only [LN] at *) <;> omega)))
   | ((with_reducible refine Z.slN_lo 8 ?_ ?_ ?_); (focus rfl); (focus ((try simp only [LN] at *) <;> omega)))
   | (refine loopZ_unr1 tabOk rfl ?_)
   | ((with_reducible refine wr_shl8 ?_ ?_); (focus omega))
   | ((with_reducible refine wr_or0 ?_ ?_); (focus omega))
   | with_reducible first | refine rowN_mk _ rfl ?_
   | ((with_reducible refine sl3N_mk 0 2 2 rfl rfl rfl ?_ ?_ ?_ ?_ ?_); (iterate 4 (focus (first | exact .inl rfl | ((try simp only [LN] at *) <;> omega)))))
   | ((with_reducible refine Z.slN_lo 2 ?_ ?_ ?_); (focus rfl); (focus ((try simp only [LN] at *) <;> omega)))
   | (refine loopZ_unr2 tabOk rfl ?_)
   | (refine wr_n16 hn0 hn1 ?_)
   | ((with_reducible refine posE_pos ?_ ?_); (focus ((try simp only [LN] at *) <;> omega)))
   | ((with_reducible refine posE_nil ?_ ?_); (focus rfl))
   | ((with_reducible apply rowN_mk); (focus rfl))
   | ((with_reducible apply ixN_lit); (focus rfl); (focus rfl))
   | ((with_reducible apply ixN_litp); (focus rfl); (focus ((try simp only [LN] at *) <;> omega)))
   | ((with_reducible refine eqN_mk2 ?_ ?_); (focus rfl))
   | ((with_reducible refine posN_mk2 ?_ ?_); (focus (first | decide | ((try simp only [LN] at *) <;> omega))))
   | ((with_reducible refine apdE_r ?_); (with_reducible refine aprN.mk ⟨_, rfl, ?_⟩ ?_ ?_ ?_ ?_); (focus ((try simp only [LN] at *) <;> omega)); (focus (first | rfl | (simp; done) | ((try simp only [LN] at *) <;> omega))); (focus (first | exact one_all (by rfl) | exact one_map (fun _ => rfl) | exact one_map2 (fun _ => rfl) | exact one_drop (fun _ => rfl))); (focus ((try simp only [LN] at *) <;> omega)))
   | ((with_reducible refine apdE_k ?_); (with_reducible refine apkN.mk ⟨_, rfl, ?_⟩ ?_); (focus ((try simp only [LN] at *) <;> omega)))
   | with_reducible first | refine apdE_n ?_
   | ((with_reducible refine slE_a ?_ ?_); (focus ((try simp only [LN] at *) <;> omega)))
   | ((with_reducible refine slE_b ?_ ?_); (focus ((try simp only [LN] at *) <;> omega)))
   | ((with_reducible refine slE_split ?_ ?_ ?_); (focus ((try simp only [LN] at *) <;> omega)); (all_goals intro _))
   | ((with_reducible apply sl3N_mk); (focus rfl); (focus rfl); (focus rfl); (focus ((try simp only [LN] at *) <;> omega)); (focus ((try simp only [LN] at *) <;> omega)); (focus ((try simp only [LN] at *) <;> omega)); (focus ((try simp only [LN] at *) <;> omega)))
   | ((with_reducible refine apdN.mk ?_ ?_ ?_ ?_ ?_ ?_); (focus (first | rfl | (simp; done))); (focus (first | exact one_all (by rfl) | exact one_map (fun _ => rfl) | exact one_map2 (fun _ => rfl))); (focus ((try simp only [LN] at *) <;> omega)); (focus ((try simp only [LN] at *) <;> omega)); (focus ((try simp only [LN] at *) <;> omega)))
   | with_reducible refine wr_i64 (by first | omega | (simp only [LN] at *; omega)) ?_
   | with_reducible refine wr_u64 (by omega) ?_
   | with_reducible refine wr_u8 (by omega) ?_
   | with_reducible refine wr_u32 (by omega) ?_
   | with_reducible first | refine wr_mk _ rfl ?_
   | ((with_reducible refine ixN_nat ?_ ?_); (focus ((try simp only [LN] at *) <;> omega)))
   | ((with_reducible refine rowN_map ?_ ?_); (focus ((try simp only [LN] at *) <;> omega)); intro x hx)
   | ((with_reducible refine posE_nil (by rfl) ?_))
   | ((with_reducible refine posE_pos (by decide) ?_))
   | with_reducible refine vN_mod (by omega) ?_
   | with_reducible first | refine vN_mk ?_
   | with_reducible refine nzN_mk (by omega) ?_
   | with_reducible refine eqN_dec (by omega) ?_
   | with_reducible first | refine apN_mk (by kernel_rfl) ?_ | refine Z.callZ_in tabOk 18 Try.f111 _ Try.func111 (by kernel_rfl) rfl rfl rfl ?_ | refine Z.callZ_in tabOk 8 Try.f55 _ Try.func55 (by kernel_rfl) rfl rfl rfl ?_ | refine Z.callZ_in tabOk 6 Try.f56 _ Try.func56 (by kernel_rfl) rfl rfl rfl ?_ | refine Z.callZ_in tabOk 10 Try.f59 _ Try.func59 (by kernel_rfl) rfl rfl rfl ?_ | refine Z.callZ_in tabOk 11 Try.f61 _ Try.func61 (by kernel_rfl) rfl rfl rfl ?_ | refine Z.callZ_in tabOk 6 Try.f95 _ Try.func95 (by kernel_rfl) rfl rfl rfl ?_ | refine Z.callZ_in tabOk 5 Try.f97 _ Try.func97 (by kernel_rfl) rfl rfl rfl ?_ | refine Z.callZ_in tabOk 10 Try.f94 _ Try.func94 (by kernel_rfl) rfl rfl rfl ?_ | refine Z.callZ_in tabOk 58 Try.f110 _ Try.func110 (by kernel_rfl) rfl rfl rfl ?_
   | ((first | (with_reducible refine Z.conZ_mz ?_ (cc) ?_) | (with_reducible refine Z.callZ_mk ?_ (cc) ?_) | (with_reducible refine Z.conZ_mz ?_ (ccp) ?_) | (with_reducible refine Z.callZ_mk ?_ (ccp) ?_)); (focus ((repeat' (first | exact trivial | exact rfl | exact Z.low_nil | exact Z.low_nil2 | exact low_osl (fun _ => rfl) | (refine Z.low_osln ?_ (fun _ => rfl); (simp only [List.length_map]; done)) | exact low_oslr (fun _ => rfl) | exact Z.low_gslm (by first | rfl | exact Z.kb_some rfl) (fun _ => rfl) | exact .inl rfl | exact .inr ⟨_, rfl⟩ | apply And.intro)); done)))
   | ((with_reducible refine eqN_mk2 ?_ ?_); (focus (exact Z.kb_some rfl)))
   | ((with_reducible apply ex_and); exact rfl)
   | with_reducible first | refine Z.drawZ_rule tabOk mixOk ?_ | refine Z.apZ_mk (by kernel_rfl) ?_
   | ((with_reducible refine Z.ConZ.red ?_); (try subst hlb); (apply Z.conZ_all); (focus (repeat (first | exact Z.FK.nil | (apply Z.FK.keep; exact rfl)))); (focus rfl); (focus rfl); (focus (repeat (first | exact trivial | (refine ⟨(fun o ho => (by first | (cases ho; rfl) | (cases ho; exact Z.inL_map fun _ => rfl) | (cases ho; exact Z.inL_mapr fun _ => rfl) | exact Z.inL_gB ho fun _ => rfl)), ?_⟩)))))
   | ((refine ⟨rfl, ?_, rfl⟩); (focus (repeat (first | exact Z.DK.nil | apply Z.DK.cons))))
   | (focus (exact (rfl : Nat.ble _ _ = true))))
  all_goals (try (conv => whnf))
  all_goals try first | (show Nat.ble _ _ = true; rfl) | (exfalso; rename_i hz; cases hz; done) | (exfalso; (try simp only [LN] at *) <;> omega)
  all_goals (refine Z.loopZ_unroll tabOk 1 ?_)
  repeat' ((conv => whnf); first
   | with_reducible first | refine spB_t ?_
   | ((with_reducible apply spB_cong); (focus (simp only [splQ, Int.reduceBEq, Int.reduceBNe]; rfl)))
   | with_reducible first | refine spB_yes (by decide) ?_ | refine spB_no (by decide) ?_ | refine spB_f ?_ | refine spB_not ?_ | refine spB_yes (by assumption) ?_ | refine spB_no (by assumption) ?_
   | (with_reducible refine spB_dec ?_ ?_ <;> intro _ <;> (try (exfalso; first | contradiction | omega | (rename_i hz; refine hz ?_; simp; done) | (rename_i hz; simp at hz; done) | (simp only [LN] at *; omega))))
   | (with_reducible refine spB_beq ?_ ?_ <;> intro _ <;> (try (exfalso; first | contradiction | omega | (rename_i hz; refine hz ?_; simp; done) | (rename_i hz; simp at hz; done) | (simp only [LN] at *; omega))))
   | (with_reducible refine spB_bne ?_ ?_ <;> intro _ <;> (try (exfalso; first | contradiction | omega | (rename_i hz; refine hz ?_; simp; done) | (rename_i hz; simp at hz; done) | (simp only [LN] at *; omega))))
   | (with_reducible refine spB_mk ?_ ?_ <;> intro _ <;> (try (exfalso; first | contradiction | omega | (rename_i hz; refine hz ?_; simp; done) | (rename_i hz; simp at hz; done) | (simp only [LN] at *; omega))))
   | (refine Z.updN.mk ⟨_, rfl, ?_⟩)
   | (refine Z.lookN.mk ⟨_, _, rfl, ?_⟩)
   | with_reducible first | refine Z.callZ_mfa ?_
   | ((refine sl3N_mk 0 1 1 rfl rfl rfl ?_ ?_ ?_ ?_ ?_); (iterate 4 (focus (first | exact .inl rfl | ((try simp only [LN] at *) <;> omega)))))
   | ((refine sl3N_mk 0 8 8 rfl rfl rfl ?_ ?_ ?_ ?_ ?_); (iterate 4 (focus (first | exact .inl rfl | ((try simp only [LN] at *) <;> omega)))))
   | ((with_reducible refine Z.slN_lo 1 ?_ ?_ ?_); (focus rfl); (focus ((try simp only [LN] at *) <;> omega)))
   | ((with_reducible refine Z.slN_lo 8 ?_ ?_ ?_); (focus rfl); (focus ((try simp only [LN] at *) <;> omega)))
   | (refine loopZ_unr1 tabOk rfl ?_)
   | ((with_reducible refine wr_shl8 ?_ ?_); (focus omega))
   | ((with_reducible refine wr_or0 ?_ ?_); (focus omega))
   | with_reducible first | refine rowN_mk _ rfl ?_
   | ((with_reducible refine sl3N_mk 0 2 2 rfl rfl rfl ?_ ?_ ?_ ?_ ?_); (iterate 4 (focus (first | exact .inl rfl | ((try simp only [LN] at *) <;> omega)))))
   | ((with_reducible refine Z.slN_lo 2 ?_ ?_ ?_); (focus rfl); (focus ((try simp only [LN] at *) <;> omega)))
   | (refine loopZ_unr2 tabOk rfl ?_)
   | (refine wr_n16 hn0 hn1 ?_)
   | ((with_reducible refine posE_pos ?_ ?_); (focus ((try simp only [LN] at *) <;> omega)))
   | ((with_reducible refine posE_nil ?_ ?_); (focus rfl))
   | ((with_reducible apply rowN_mk); (focus rfl))
   | ((with_reducible apply ixN_lit); (focus rfl); (focus rfl))
   | ((with_reducible apply ixN_litp); (focus rfl); (focus ((try simp only [LN] at *) <;> omega)))
   | ((with_reducible refine eqN_mk2 ?_ ?_); (focus rfl))
   | ((with_reducible refine posN_mk2 ?_ ?_); (focus (first | decide | ((try simp only [LN] at *) <;> omega))))
   | ((with_reducible refine apdE_r ?_); (with_reducible refine aprN.mk ⟨_, rfl, ?_⟩ ?_ ?_ ?_ ?_); (focus ((try simp only [LN] at *) <;> omega)); (focus (first | rfl | (simp; done) | ((try simp only [LN] at *) <;> omega))); (focus (first | exact one_all (by rfl) | exact one_map (fun _ => rfl) | exact one_map2 (fun _ => rfl) | exact one_drop (fun _ => rfl))); (focus ((try simp only [LN] at *) <;> omega)))
   | ((with_reducible refine apdE_k ?_); (with_reducible refine apkN.mk ⟨_, rfl, ?_⟩ ?_); (focus ((try simp only [LN] at *) <;> omega)))
   | with_reducible first | refine apdE_n ?_
   | ((with_reducible refine slE_a ?_ ?_); (focus ((try simp only [LN] at *) <;> omega)))
   | ((with_reducible refine slE_b ?_ ?_); (focus ((try simp only [LN] at *) <;> omega)))
   | ((with_reducible refine slE_split ?_ ?_ ?_); (focus ((try simp only [LN] at *) <;> omega)); (all_goals intro _))
   | ((with_reducible apply sl3N_mk); (focus rfl); (focus rfl); (focus rfl); (focus ((try simp only [LN] at *) <;> omega)); (focus ((try simp only [LN] at *) <;> omega)); (focus ((try simp only [LN] at *) <;> omega)); (focus ((try simp only [LN] at *) <;> omega)))
   | ((with_reducible refine apdN.mk ?_ ?_ ?_ ?_ ?_ ?_); (focus (first | rfl | (simp; done))); (focus (first | exact one_all (by rfl) | exact one_map (fun _ => rfl) | exact one_map2 (fun _ => rfl))); (focus ((try simp only [LN] at *) <;> omega)); (focus ((try simp only [LN] at *) <;> omega)); (focus ((try simp only [LN] at *) <;> omega)))
   | with_reducible refine wr_i64 (by first | omega | (simp only [LN] at *; omega)) ?_
   | with_reducible refine wr_u64 (by omega) ?_
   | with_reducible refine wr_u8 (by omega) ?_
   | with_reducible refine wr_u32 (by omega) ?_
   | with_reducible first | refine wr_mk _ rfl ?_
   | ((with_reducible refine ixN_nat ?_ ?_); (focus ((try simp only [LN] at *) <;> omega)))
   | ((with_reducible refine rowN_map ?_ ?_); (focus ((try simp only [LN] at *) <;> omega)); intro x hx)
   | ((with_reducible refine posE_nil (by rfl) ?_))
   | ((with_reducible refine posE_pos (by decide) ?_))
   | with_reducible refine vN_mod (by omega) ?_
   | with_reducible first | refine vN_mk ?_
   | with_reducible refine nzN_mk (by omega) ?_
   | with_reducible refine eqN_dec (by omega) ?_
   | with_reducible first | refine apN_mk (by kernel_rfl) ?_ | refine Z.callZ_in tabOk 18 Try.f111 _ Try.func111 (by kernel_rfl) rfl rfl rfl ?_ | refine Z.callZ_in tabOk 8 Try.f55 _ Try.func55 (by kernel_rfl) rfl rfl rfl ?_ | refine Z.callZ_in tabOk 6 Try.f56 _ Try.func56 (by kernel_rfl) rfl rfl rfl ?_ | refine Z.callZ_in tabOk 10 Try.f59 _ Try.func59 (by kernel_rfl) rfl rfl rfl ?_ | refine Z.callZ_in tabOk 11 Try.f61 _ Try.func61 (by kernel_rfl) rfl rfl rfl ?_ | refine Z.callZ_in tabOk 6 Try.f95 _ Try.func95 (by kernel_rfl) rfl rfl rfl ?_ | refine Z.callZ_in tabOk 5 Try.f97 _ Try.func97 (by kernel_rfl) rfl rfl rfl ?_ | refine Z.callZ_in tabOk 10 Try.f94 _ Try.func94 (by kernel_rfl) rfl rfl rfl ?_ | refine Z.callZ_in tabOk 58 Try.f110 _ Try.func110 (by kernel_rfl) rfl rfl rfl ?_
   | ((first | (with_reducible refine Z.conZ_mz ?_ (cc) ?_) | (with_reducible refine Z.callZ_mk ?_ (cc) ?_) | (with_reducible refine Z.conZ_mz ?_ (ccp) ?_) | (with_reducible refine Z.callZ_mk ?_ (ccp) ?_)); (focus ((repeat' (first | exact trivial | exact rfl | exact Z.low_nil | exact Z.low_nil2 | exact low_osl (fun _ => rfl) | (refine Z.low_osln ?_ (fun _ => rfl); (simp only [List.length_map]; done)) | exact low_oslr (fun _ => rfl) | exact Z.low_gslm (by first | rfl | exact Z.kb_some rfl) (fun _ => rfl) | exact .inl rfl | exact .inr ⟨_, rfl⟩ | apply And.intro)); done)))
   | ((with_reducible refine eqN_mk2 ?_ ?_); (focus (exact Z.kb_some rfl)))
   | ((with_reducible apply ex_and); exact rfl)
   | with_reducible first | refine Z.drawZ_rule tabOk mixOk ?_ | refine Z.apZ_mk (by kernel_rfl) ?_
   | ((with_reducible refine Z.ConZ.red ?_); (try subst hlb); (apply Z.conZ_all); (focus (repeat (first | exact Z.FK.nil | (apply Z.FK.keep; exact rfl)))); (focus rfl); (focus rfl); (focus (repeat (first | exact trivial | (refine ⟨(fun o ho => (by first | (cases ho; rfl) | (cases ho; exact Z.inL_map fun _ => rfl) | (cases ho; exact Z.inL_mapr fun _ => rfl) | exact Z.inL_gB ho fun _ => rfl)), ?_⟩)))))
   | ((refine ⟨rfl, ?_, rfl⟩); (focus (repeat (first | exact Z.DK.nil | apply Z.DK.cons))))
   | (focus (exact (rfl : Nat.ble _ _ = true))))
  all_goals (try (conv => whnf))
  all_goals try first | (show Nat.ble _ _ = true; rfl) | (exfalso; rename_i hz; cases hz; done) | (exfalso; (try simp only [LN] at *) <;> omega)
  all_goals first
   | ((first | (with_reducible apply Z.retF1) | (with_reducible apply Z.retF2) | (with_reducible apply Z.retF0)); (focus rfl); (repeat' (first | exact trivial | (with_reducible apply Z.frz_one) | (with_reducible apply Z.frz_agg) | (with_reducible apply Z.fq_int) | (with_reducible apply Z.fq_bool) | (exact Z.frz_nil) | (exact Z.frz_osl0 rfl rfl rfl) | (with_reducible apply Z.fq_nil) | (with_reducible apply Z.fq_ro) | ((with_reducible apply Z.fq_gsl); (focus (first | rfl | exact Z.isB_map _ | exact Z.gB_snoc.symm)); (focus (exact fun _ => rfl))) | ((with_reducible apply Z.fq_osl); (focus rfl); (focus (first | exact rfl | (simp only [List.length_map, Nat.zero_add]; done) | ((try simp only [LN] at *) <;> omega))); (focus (exact fun _ => rfl))) | ((with_reducible apply Z.fq_src); (focus rfl); (focus (first | exact rfl | (simp only [List.length_map, Nat.zero_add]; done) | ((try simp only [LN] at *) <;> omega))); (focus (exact fun _ => rfl))) | exact rfl | ((apply Z.fq_osl); (focus rfl); (focus (first | exact rfl | (simp only [List.length_map, Nat.zero_add]; done) | ((try simp only [LN] at *) <;> omega))); (focus (exact fun _ => rfl))) | ((apply Z.fq_src); (focus rfl); (focus (first | exact rfl | (simp only [List.length_map, Nat.zero_add]; done) | ((try simp only [LN] at *) <;> omega))); (focus (exact fun _ => rfl))) | (apply Z.fq_ro) | (apply Z.fq_int) | (apply Z.fq_bool) | apply And.intro)); (all_goals (try exact (fun _ => none))); all_goals (first | rfl | (simp; done)))
   | (exfalso; rename_i hz; cases hz; done)
   | (exfalso; (try simp only [LN] at *) <;> omega)
   | (fail)
 have hn1 := hB n1 (by simp)
 have hBb : isB b := fun x hx => hB x (by simp [hx])
 have ccp := copied_con (n0 :: n1 :: b) hl
 have hll : b.length + 2 ≤ 1099511627776 := by simpa using hl
 obtain ⟨N, hNn⟩ : ∃ N : Nat, n0 * 256 + n1 = (N : Int) := ⟨(n0 * 256 + n1).toNat, by omega⟩
 have hN : N ≤ 65535 := by omega
 have hNe : Z.ImpV (AV.val (Value.int .i64 (n0 * 256 + n1))) (AV.val (Value.int .i64 (N : Int))) := by rw [hNn]; exact Z.ImpV.refl _
 have hdT : decT (n0 :: n1 :: b) = if (decK N b).2.1 = 0 then (if tabR (decK N b).1 = true ∧ (decK N b).2.2 = [] then ((decK N b).1, 0) else ([], 220)) else ([], 7) := by
  have e : numR ((n0 :: n1 :: b).take 2) = (N : Int) := by rw [← hNn]; show (0 * 256 + n0) * 256 + n1 = _; omega
  unfold decT
  rw [if_neg (by simp), e, Int.toNat_natCast]
  rfl
 rw [hdT]
 repeat' ((conv => whnf); first
  | with_reducible first | refine spB_t ?_
  | ((with_reducible apply spB_cong); (focus (simp only [splQ, Int.reduceBEq, Int.reduceBNe]; rfl)))
  | with_reducible first | refine spB_yes (by decide) ?_ | refine spB_no (by decide) ?_ | refine spB_f ?_ | refine spB_not ?_ | refine spB_yes (by assumption) ?_ | refine spB_no (by assumption) ?_
  | (with_reducible refine spB_dec ?_ ?_ <;> intro _ <;> (try (exfalso; first | contradiction | omega | (rename_i hz; refine hz ?_; simp; done) | (rename_i hz; simp at hz; done) | (simp only [LN] at *; omega))))
  | (with_reducible refine spB_beq ?_ ?_ <;> intro _ <;> (try (exfalso; first | contradiction | omega | (rename_i hz; refine hz ?_; simp; done) | (rename_i hz; simp at hz; done) | (simp only [LN] at *; omega))))
  | (with_reducible refine spB_bne ?_ ?_ <;> intro _ <;> (try (exfalso; first | contradiction | omega | (rename_i hz; refine hz ?_; simp; done) | (rename_i hz; simp at hz; done) | (simp only [LN] at *; omega))))
  | (with_reducible refine spB_mk ?_ ?_ <;> intro _ <;> (try (exfalso; first | contradiction | omega | (rename_i hz; refine hz ?_; simp; done) | (rename_i hz; simp at hz; done) | (simp only [LN] at *; omega))))
  | (refine Z.updN.mk ⟨_, rfl, ?_⟩)
  | (refine Z.lookN.mk ⟨_, _, rfl, ?_⟩)
  | with_reducible first | refine Z.callZ_mfa ?_
  | ((refine sl3N_mk 0 1 1 rfl rfl rfl ?_ ?_ ?_ ?_ ?_); (iterate 4 (focus (first | exact .inl rfl | ((try simp only [LN] at *) <;> omega)))))
  | ((refine sl3N_mk 0 8 8 rfl rfl rfl ?_ ?_ ?_ ?_ ?_); (iterate 4 (focus (first | exact .inl rfl | ((try simp only [LN] at *) <;> omega)))))
  | ((with_reducible refine Z.slN_lo 1 ?_ ?_ ?_); (focus rfl); (focus ((try simp only [LN] at *) <;> omega)))
  | ((with_reducible refine Z.slN_lo 8 ?_ ?_ ?_); (focus rfl); (focus ((try simp only [LN] at *) <;> omega)))
  | (refine loopZ_unr1 tabOk rfl ?_)
  | ((with_reducible refine wr_shl8 ?_ ?_); (focus omega))
  | ((with_reducible refine wr_or0 ?_ ?_); (focus omega))
  | with_reducible first | refine rowN_mk _ rfl ?_
  | ((with_reducible refine sl3N_mk 0 2 2 rfl rfl rfl ?_ ?_ ?_ ?_ ?_); (iterate 4 (focus (first | exact .inl rfl | ((try simp only [LN] at *) <;> omega)))))
  | ((with_reducible refine Z.slN_lo 2 ?_ ?_ ?_); (focus rfl); (focus ((try simp only [LN] at *) <;> omega)))
  | (refine loopZ_unr2 tabOk rfl ?_)
  | (refine wr_n16 hn0 hn1 ?_)
  | ((with_reducible refine posE_pos ?_ ?_); (focus ((try simp only [LN] at *) <;> omega)))
  | ((with_reducible refine posE_nil ?_ ?_); (focus rfl))
  | ((with_reducible apply rowN_mk); (focus rfl))
  | ((with_reducible apply ixN_lit); (focus rfl); (focus rfl))
  | ((with_reducible apply ixN_litp); (focus rfl); (focus ((try simp only [LN] at *) <;> omega)))
  | ((with_reducible refine eqN_mk2 ?_ ?_); (focus rfl))
  | ((with_reducible refine posN_mk2 ?_ ?_); (focus (first | decide | ((try simp only [LN] at *) <;> omega))))
  | ((with_reducible refine apdE_r ?_); (with_reducible refine aprN.mk ⟨_, rfl, ?_⟩ ?_ ?_ ?_ ?_); (focus ((try simp only [LN] at *) <;> omega)); (focus (first | rfl | (simp; done) | ((try simp only [LN] at *) <;> omega))); (focus (first | exact one_all (by rfl) | exact one_map (fun _ => rfl) | exact one_map2 (fun _ => rfl) | exact one_drop (fun _ => rfl))); (focus ((try simp only [LN] at *) <;> omega)))
  | ((with_reducible refine apdE_k ?_); (with_reducible refine apkN.mk ⟨_, rfl, ?_⟩ ?_); (focus ((try simp only [LN] at *) <;> omega)))
  | with_reducible first | refine apdE_n ?_
  | ((with_reducible refine slE_a ?_ ?_); (focus ((try simp only [LN] at *) <;> omega)))
  | ((with_reducible refine slE_b ?_ ?_); (focus ((try simp only [LN] at *) <;> omega)))
  | ((with_reducible refine slE_split ?_ ?_ ?_); (focus ((try simp only [LN] at *) <;> omega)); (all_goals intro _))
  | ((with_reducible apply sl3N_mk); (focus rfl); (focus rfl); (focus rfl); (focus ((try simp only [LN] at *) <;> omega)); (focus ((try simp only [LN] at *) <;> omega)); (focus ((try simp only [LN] at *) <;> omega)); (focus ((try simp only [LN] at *) <;> omega)))
  | ((with_reducible refine apdN.mk ?_ ?_ ?_ ?_ ?_ ?_); (focus (first | rfl | (simp; done))); (focus (first | exact one_all (by rfl) | exact one_map (fun _ => rfl) | exact one_map2 (fun _ => rfl))); (focus ((try simp only [LN] at *) <;> omega)); (focus ((try simp only [LN] at *) <;> omega)); (focus ((try simp only [LN] at *) <;> omega)))
  | with_reducible refine wr_i64 (by first | omega | (simp only [LN] at *; omega)) ?_
  | with_reducible refine wr_u64 (by omega) ?_
  | with_reducible refine wr_u8 (by omega) ?_
  | with_reducible refine wr_u32 (by omega) ?_
  | with_reducible first | refine wr_mk _ rfl ?_
  | ((with_reducible refine ixN_nat ?_ ?_); (focus ((try simp only [LN] at *) <;> omega)))
  | ((with_reducible refine rowN_map ?_ ?_); (focus ((try simp only [LN] at *) <;> omega)); intro x hx)
  | ((with_reducible refine posE_nil (by rfl) ?_))
  | ((with_reducible refine posE_pos (by decide) ?_))
  | with_reducible refine vN_mod (by omega) ?_
  | with_reducible first | refine vN_mk ?_
  | with_reducible refine nzN_mk (by omega) ?_
  | with_reducible refine eqN_dec (by omega) ?_
  | with_reducible first | refine apN_mk (by kernel_rfl) ?_ | refine Z.callZ_in tabOk 18 Try.f111 _ Try.func111 (by kernel_rfl) rfl rfl rfl ?_ | refine Z.callZ_in tabOk 8 Try.f55 _ Try.func55 (by kernel_rfl) rfl rfl rfl ?_ | refine Z.callZ_in tabOk 6 Try.f56 _ Try.func56 (by kernel_rfl) rfl rfl rfl ?_ | refine Z.callZ_in tabOk 10 Try.f59 _ Try.func59 (by kernel_rfl) rfl rfl rfl ?_ | refine Z.callZ_in tabOk 11 Try.f61 _ Try.func61 (by kernel_rfl) rfl rfl rfl ?_ | refine Z.callZ_in tabOk 6 Try.f95 _ Try.func95 (by kernel_rfl) rfl rfl rfl ?_ | refine Z.callZ_in tabOk 5 Try.f97 _ Try.func97 (by kernel_rfl) rfl rfl rfl ?_ | refine Z.callZ_in tabOk 10 Try.f94 _ Try.func94 (by kernel_rfl) rfl rfl rfl ?_ | refine Z.callZ_in tabOk 58 Try.f110 _ Try.func110 (by kernel_rfl) rfl rfl rfl ?_
  | ((first | (with_reducible refine Z.conZ_mz ?_ (cc) ?_) | (with_reducible refine Z.callZ_mk ?_ (cc) ?_) | (with_reducible refine Z.conZ_mz ?_ (ccp) ?_) | (with_reducible refine Z.callZ_mk ?_ (ccp) ?_)); (focus ((repeat' (first | exact trivial | exact rfl | exact Z.low_nil | exact Z.low_nil2 | exact low_osl (fun _ => rfl) | (refine Z.low_osln ?_ (fun _ => rfl); (simp only [List.length_map]; done)) | exact low_oslr (fun _ => rfl) | exact Z.low_gslm (by first | rfl | exact Z.kb_some rfl) (fun _ => rfl) | exact .inl rfl | exact .inr ⟨_, rfl⟩ | apply And.intro)); done)))
  | ((with_reducible refine eqN_mk2 ?_ ?_); (focus (exact Z.kb_some rfl)))
  | ((with_reducible apply ex_and); exact rfl)
  | with_reducible first | refine Z.drawZ_rule tabOk mixOk ?_ | refine Z.apZ_mk (by kernel_rfl) ?_
  | ((with_reducible refine Z.ConZ.red ?_); (try subst hlb); (apply Z.conZ_all); (focus (repeat (first | exact Z.FK.nil | (apply Z.FK.keep; exact rfl)))); (focus rfl); (focus rfl); (focus (repeat (first | exact trivial | (refine ⟨(fun o ho => (by first | (cases ho; rfl) | (cases ho; exact Z.inL_map fun _ => rfl) | (cases ho; exact Z.inL_mapr fun _ => rfl) | exact Z.inL_gB ho fun _ => rfl)), ?_⟩)))))
  | ((refine ⟨rfl, ?_, rfl⟩); (focus (repeat (first | exact Z.DK.nil | apply Z.DK.cons))))
  | (focus (exact (rfl : Nat.ble _ _ = true))))
 all_goals (try (conv => whnf))
 all_goals try first | (show Nat.ble _ _ = true; rfl) | (exfalso; rename_i hz; cases hz; done) | (exfalso; (try simp only [LN] at *) <;> omega)
 refine Z.loopK tabOk dCH dCK (dInv b N) (fun zq => zq.1) (N, b, [], 0) 6 dFk ⟨rfl, rfl, rfl, trivial⟩ dKk ⟨rfl, trivial⟩ ?_ ?_ rfl rfl ⟨Nat.le_refl _, ⟨hBb, by (try dsimp only); omega⟩, by simp, .inl ⟨rfl, preK_nil N b⟩⟩ ?_
 ·repeat' (first | exact trivial | apply And.intro | exact ⟨_, rfl, hNe⟩ | exact ⟨_, rfl, rfl⟩ | exact ⟨_, rfl, Z.Imp.refl _⟩ | exact ⟨_, rfl, Z.Imp.nilg _⟩ | exact ⟨_, rfl, Z.Imp.nilr _ _⟩)
 ·repeat' (first | exact trivial | (intro b hb; cases hb; done) | exact (fun b hb => ⟨b, hb, Z.ImpO.refl b⟩) | (intro b hb; cases hb; refine ⟨_, rfl, ⟨rfl, rfl, rfl⟩, ?_⟩; (try exact ⟨⟨Z.Imp.of_eq (congrArg (Ce.ro true 1) (by simp [tk_map])), Z.Imp.refl _, trivial⟩, trivial⟩); (repeat' (first | exact trivial | apply And.intro | exact Z.Imp.refl _ | exact Z.Imp.nilg _ | exact Z.Imp.nilr _ _)); done) | apply And.intro)
 rintro ⟨i, r, acc, rf⟩ HINV
 obtain ⟨HI, ⟨HBr, HLr⟩, HC, HD⟩ := HINV
 dsimp only at HI HBr HLr HC HD
 rcases HD with ⟨rfl, HD⟩ | ⟨rfl, HD⟩
 rotate_left
 ·rw [HD]
  dsimp only [dCH, dFk, dCK, dKk]
  simp only [show ((7 : Int) = 0) = False by simp, if_false]
  rcases i with _ | i
  all_goals (
  repeat' ((conv => whnf); first
   | with_reducible first | refine spB_t ?_
   | ((with_reducible apply spB_cong); (focus (simp only [splQ, Int.reduceBEq, Int.reduceBNe]; rfl)))
   | with_reducible first | refine spB_yes (by decide) ?_ | refine spB_no (by decide) ?_ | refine spB_f ?_ | refine spB_not ?_ | refine spB_yes (by assumption) ?_ | refine spB_no (by assumption) ?_
   | (with_reducible refine spB_dec ?_ ?_ <;> intro _ <;> (try (exfalso; first | contradiction | omega | (rename_i hz; refine hz ?_; simp; done) | (rename_i hz; simp at hz; done) | (simp only [LN] at *; omega) | (simp_all; done))))
   | (with_reducible refine spB_beq ?_ ?_ <;> intro _ <;> (try (exfalso; first | contradiction | omega | (rename_i hz; refine hz ?_; simp; done) | (rename_i hz; simp at hz; done) | (simp only [LN] at *; omega) | (simp_all; done))))
   | (with_reducible refine spB_bne ?_ ?_ <;> intro _ <;> (try (exfalso; first | contradiction | omega | (rename_i hz; refine hz ?_; simp; done) | (rename_i hz; simp at hz; done) | (simp only [LN] at *; omega) | (simp_all; done))))
   | (with_reducible refine spB_mk ?_ ?_ <;> intro _ <;> (try (exfalso; first | contradiction | omega | (rename_i hz; refine hz ?_; simp; done) | (rename_i hz; simp at hz; done) | (simp only [LN] at *; omega) | (simp_all; done))))
   | (refine Z.updN.mk ⟨_, rfl, ?_⟩)
   | (refine Z.lookN.mk ⟨_, _, rfl, ?_⟩)
   | with_reducible first | refine Z.callZ_mfa ?_
   | ((refine sl3N_mk 0 1 1 rfl rfl rfl ?_ ?_ ?_ ?_ ?_); (iterate 4 (focus (first | exact .inl rfl | ((try simp only [LN] at *) <;> omega)))))
   | ((refine sl3N_mk 0 8 8 rfl rfl rfl ?_ ?_ ?_ ?_ ?_); (iterate 4 (focus (first | exact .inl rfl | ((try simp only [LN] at *) <;> omega)))))
   | ((with_reducible refine Z.slN_lo 1 ?_ ?_ ?_); (focus rfl); (focus ((try simp only [LN] at *) <;> omega)))
   | ((with_reducible refine Z.slN_lo 8 ?_ ?_ ?_); (focus rfl); (focus ((try simp only [LN] at *) <;> omega)))
   | (refine loopZ_unr1 tabOk rfl ?_)
   | ((with_reducible refine wr_shl8 ?_ ?_); (focus omega))
   | ((with_reducible refine wr_or0 ?_ ?_); (focus omega))
   | with_reducible first | refine rowN_mk _ rfl ?_
   | ((with_reducible refine sl3N_mk 0 2 2 rfl rfl rfl ?_ ?_ ?_ ?_ ?_); (iterate 4 (focus (first | exact .inl rfl | ((try simp only [LN] at *) <;> omega)))))
   | ((with_reducible refine Z.slN_lo 2 ?_ ?_ ?_); (focus rfl); (focus ((try simp only [LN] at *) <;> omega)))
   | (refine loopZ_unr2 tabOk rfl ?_)
   | (refine wr_n16 hn0 hn1 ?_)
   | ((with_reducible refine posE_pos ?_ ?_); (focus ((try simp only [LN] at *) <;> omega)))
   | ((with_reducible refine posE_nil ?_ ?_); (focus rfl))
   | ((with_reducible apply rowN_mk); (focus rfl))
   | ((with_reducible apply ixN_lit); (focus rfl); (focus rfl))
   | ((with_reducible apply ixN_litp); (focus rfl); (focus ((try simp only [LN] at *) <;> omega)))
   | ((with_reducible refine eqN_mk2 ?_ ?_); (focus rfl))
   | ((with_reducible refine posN_mk2 ?_ ?_); (focus (first | decide | ((try simp only [LN] at *) <;> omega))))
   | ((with_reducible refine apdE_r ?_); (with_reducible refine aprN.mk ⟨_, rfl, ?_⟩ ?_ ?_ ?_ ?_); (focus ((try simp only [LN] at *) <;> omega)); (focus (first | rfl | (simp; done) | ((try simp only [LN] at *) <;> omega))); (focus (first | exact one_all (by rfl) | exact one_map (fun _ => rfl) | exact one_map2 (fun _ => rfl) | exact one_drop (fun _ => rfl))); (focus ((try simp only [LN] at *) <;> omega)))
   | ((with_reducible refine apdE_k ?_); (with_reducible refine apkN.mk ⟨_, rfl, ?_⟩ ?_); (focus ((try simp only [LN] at *) <;> omega)))
   | with_reducible first | refine apdE_n ?_
   | ((with_reducible refine slE_a ?_ ?_); (focus ((try simp only [LN] at *) <;> omega)))
   | ((with_reducible refine slE_b ?_ ?_); (focus ((try simp only [LN] at *) <;> omega)))
   | ((with_reducible refine slE_split ?_ ?_ ?_); (focus ((try simp only [LN] at *) <;> omega)); (all_goals intro _))
   | ((with_reducible apply sl3N_mk); (focus rfl); (focus rfl); (focus rfl); (focus ((try simp only [LN] at *) <;> omega)); (focus ((try simp only [LN] at *) <;> omega)); (focus ((try simp only [LN] at *) <;> omega)); (focus ((try simp only [LN] at *) <;> omega)))
   | ((with_reducible refine apdN.mk ?_ ?_ ?_ ?_ ?_ ?_); (focus (first | rfl | (simp; done))); (focus (first | exact one_all (by rfl) | exact one_map (fun _ => rfl) | exact one_map2 (fun _ => rfl))); (focus ((try simp only [LN] at *) <;> omega)); (focus ((try simp only [LN] at *) <;> omega)); (focus ((try simp only [LN] at *) <;> omega)))
   | with_reducible refine wr_i64 (by first | omega | (simp only [LN] at *; omega)) ?_
   | with_reducible refine wr_u64 (by omega) ?_
   | with_reducible refine wr_u8 (by omega) ?_
   | with_reducible refine wr_u32 (by omega) ?_
   | with_reducible first | refine wr_mk _ rfl ?_
   | ((with_reducible refine ixN_nat ?_ ?_); (focus ((try simp only [LN] at *) <;> omega)))
   | ((with_reducible refine rowN_map ?_ ?_); (focus ((try simp only [LN] at *) <;> omega)); intro x hx)
   | ((with_reducible refine posE_nil (by rfl) ?_))
   | ((with_reducible refine posE_pos (by decide) ?_))
   | with_reducible refine vN_mod (by omega) ?_
   | with_reducible first | refine vN_mk ?_
   | with_reducible refine nzN_mk (by omega) ?_
   | with_reducible refine eqN_dec (by omega) ?_
   | with_reducible first | refine apN_mk (by kernel_rfl) ?_ | refine Z.callZ_in tabOk 8 Try.f55 _ Try.func55 (by kernel_rfl) rfl rfl rfl ?_ | refine Z.callZ_in tabOk 6 Try.f56 _ Try.func56 (by kernel_rfl) rfl rfl rfl ?_ | refine Z.callZ_in tabOk 10 Try.f59 _ Try.func59 (by kernel_rfl) rfl rfl rfl ?_ | refine Z.callZ_in tabOk 11 Try.f61 _ Try.func61 (by kernel_rfl) rfl rfl rfl ?_ | refine Z.callZ_in tabOk 6 Try.f95 _ Try.func95 (by kernel_rfl) rfl rfl rfl ?_ | refine Z.callZ_in tabOk 5 Try.f97 _ Try.func97 (by kernel_rfl) rfl rfl rfl ?_ | refine Z.callZ_in tabOk 10 Try.f94 _ Try.func94 (by kernel_rfl) rfl rfl rfl ?_ | refine Z.callZ_in tabOk 58 Try.f110 _ Try.func110 (by kernel_rfl) rfl rfl rfl ?_ | refine Z.callZ_in tabOk 18 Try.f111 _ Try.func111 (by kernel_rfl) rfl rfl rfl ?_
   | ((first | (with_reducible refine Z.conZ_mz ?_ (cc) ?_) | (with_reducible refine Z.callZ_mk ?_ (cc) ?_) | (with_reducible refine Z.conZ_mz ?_ (ccp) ?_) | (with_reducible refine Z.callZ_mk ?_ (ccp) ?_)); (focus ((repeat' (first | exact trivial | exact rfl | exact Z.low_nil | exact Z.low_nil2 | exact low_osl (fun _ => rfl) | (refine Z.low_osln ?_ (fun _ => rfl); (simp only [List.length_map]; done)) | exact low_oslr (fun _ => rfl) | exact Z.low_gslm (by first | rfl | exact Z.kb_some rfl) (fun _ => rfl) | exact .inl rfl | exact .inr ⟨_, rfl⟩ | apply And.intro)); done)))
   | ((with_reducible refine eqN_mk2 ?_ ?_); (focus (exact Z.kb_some rfl)))
   | ((with_reducible apply ex_and); exact rfl)
   | with_reducible first | refine Z.drawZ_rule tabOk mixOk ?_ | refine Z.apZ_mk (by kernel_rfl) ?_
   | ((with_reducible refine Z.ConZ.red ?_); (try subst hlb); (apply Z.conZ_all); (focus (repeat (first | exact Z.FK.nil | (apply Z.FK.keep; exact rfl)))); (focus rfl); (focus rfl); (focus (repeat (first | exact trivial | (refine ⟨(fun o ho => (by first | (cases ho; rfl) | (cases ho; exact Z.inL_map fun _ => rfl) | (cases ho; exact Z.inL_mapr fun _ => rfl) | exact Z.inL_gB ho fun _ => rfl)), ?_⟩)))))
   | ((refine ⟨rfl, ?_, rfl⟩); (focus (repeat (first | exact Z.DK.nil | apply Z.DK.cons))))
   | (focus (exact (rfl : Nat.ble _ _ = true))))
  all_goals (try (conv => whnf)))
  all_goals try first | (show Nat.ble _ _ = true; rfl) | (exfalso; rename_i hz; cases hz; done) | (exfalso; (try simp only [LN] at *) <;> omega)
  all_goals first
   | ((first | (with_reducible apply Z.retF1) | (with_reducible apply Z.retF2) | (with_reducible apply Z.retF0)); (focus rfl); (repeat' (first | exact trivial | (with_reducible apply Z.frz_one) | (with_reducible apply Z.frz_agg) | (with_reducible apply Z.fq_int) | (with_reducible apply Z.fq_bool) | (exact Z.frz_nil) | (exact Z.frz_osl0 rfl rfl rfl) | (with_reducible apply Z.fq_nil) | (with_reducible apply Z.fq_ro) | ((with_reducible apply Z.fq_gsl); (focus (first | rfl | exact Z.isB_map _ | exact Z.gB_snoc.symm)); (focus (exact fun _ => rfl))) | ((with_reducible apply Z.fq_osl); (focus rfl); (focus (first | exact rfl | (simp only [List.length_map, Nat.zero_add]; done) | ((try simp only [LN] at *) <;> omega))); (focus (exact fun _ => rfl))) | ((with_reducible apply Z.fq_src); (focus rfl); (focus (first | exact rfl | (simp only [List.length_map, Nat.zero_add]; done) | ((try simp only [LN] at *) <;> omega))); (focus (exact fun _ => rfl))) | exact rfl | ((apply Z.fq_osl); (focus rfl); (focus (first | exact rfl | (simp only [List.length_map, Nat.zero_add]; done) | ((try simp only [LN] at *) <;> omega))); (focus (exact fun _ => rfl))) | ((apply Z.fq_src); (focus rfl); (focus (first | exact rfl | (simp only [List.length_map, Nat.zero_add]; done) | ((try simp only [LN] at *) <;> omega))); (focus (exact fun _ => rfl))) | (apply Z.fq_ro) | (apply Z.fq_int) | (apply Z.fq_bool) | apply And.intro)); (all_goals (try exact (fun _ => none))); all_goals (first | rfl | (simp; done)))
   | (exfalso; rename_i hz; cases hz; done)
   | (exfalso; (try simp only [LN] at *) <;> omega)
   | (fail)
 rcases i with _ | i
 rotate_left
 ·rcases r with _ | ⟨t, r⟩
  ·exact dec_a b N i acc HBr HLr HC HD (by omega)
  rcases r with _ | ⟨w, r⟩
  ·exact dec_b b N i acc t HBr HLr HC HD (by omega)
  by_cases h4 : r.length < 8
  ·exact dec_c b N i acc t w r HBr HLr HC HD (by omega) h4
  by_cases h5 : r.length < 16
  ·exact dec_d b N i acc t w r HBr HLr HC HD (by omega) (by omega) h5
  exact dec_e b N i acc t w r HBr HLr HC HD (by omega) (by omega)
 have hD9 : decK N b = (acc, 0, r) := by rw [HD]; simp [preK, decK]
 rw [hD9]
 dsimp only [dCH, dFk, dCK, dKk]
 simp only [if_true]
 have cc := check_con acc (by omega)
 cases hk : tabR acc
 all_goals rw [hk] at cc
 all_goals simp only [cond_true, cond_false] at cc
 all_goals rcases r with _ | ⟨x, r⟩
 all_goals simp only [true_and, if_true, reduceCtorEq, if_false, and_false, false_and, Bool.false_eq_true]
 all_goals (
  repeat' ((conv => whnf); first
   | with_reducible first | refine spB_t ?_
   | ((with_reducible apply spB_cong); (focus (simp only [splQ, Int.reduceBEq, Int.reduceBNe]; rfl)))
   | with_reducible first | refine spB_yes (by decide) ?_ | refine spB_no (by decide) ?_ | refine spB_f ?_ | refine spB_not ?_ | refine spB_yes (by assumption) ?_ | refine spB_no (by assumption) ?_
   | (with_reducible refine spB_dec ?_ ?_ <;> intro _ <;> (try (exfalso; first | contradiction | omega | (rename_i hz; refine hz ?_; simp; done) | (rename_i hz; simp at hz; done) | (simp only [LN] at *; omega))))
   | (with_reducible refine spB_beq ?_ ?_ <;> intro _ <;> (try (exfalso; first | contradiction | omega | (rename_i hz; refine hz ?_; simp; done) | (rename_i hz; simp at hz; done) | (simp only [LN] at *; omega))))
   | (with_reducible refine spB_bne ?_ ?_ <;> intro _ <;> (try (exfalso; first | contradiction | omega | (rename_i hz; refine hz ?_; simp; done) | (rename_i hz; simp at hz; done) | (simp only [LN] at *; omega))))
   | (with_reducible refine spB_mk ?_ ?_ <;> intro _ <;> (try (exfalso; first | contradiction | omega | (rename_i hz; refine hz ?_; simp; done) | (rename_i hz; simp at hz; done) | (simp only [LN] at *; omega))))
   | (refine Z.updN.mk ⟨_, rfl, ?_⟩)
   | (refine Z.lookN.mk ⟨_, _, rfl, ?_⟩)
   | with_reducible first | refine Z.callZ_mfa ?_
   | ((refine sl3N_mk 0 1 1 rfl rfl rfl ?_ ?_ ?_ ?_ ?_); (iterate 4 (focus (first | exact .inl rfl | ((try simp only [LN] at *) <;> omega)))))
   | ((refine sl3N_mk 0 8 8 rfl rfl rfl ?_ ?_ ?_ ?_ ?_); (iterate 4 (focus (first | exact .inl rfl | ((try simp only [LN] at *) <;> omega)))))
   | ((with_reducible refine Z.slN_lo 1 ?_ ?_ ?_); (focus rfl); (focus ((try simp only [LN] at *) <;> omega)))
   | ((with_reducible refine Z.slN_lo 8 ?_ ?_ ?_); (focus rfl); (focus ((try simp only [LN] at *) <;> omega)))
   | (refine loopZ_unr1 tabOk rfl ?_)
   | ((with_reducible refine wr_shl8 ?_ ?_); (focus omega))
   | ((with_reducible refine wr_or0 ?_ ?_); (focus omega))
   | with_reducible first | refine rowN_mk _ rfl ?_
   | ((with_reducible refine sl3N_mk 0 2 2 rfl rfl rfl ?_ ?_ ?_ ?_ ?_); (iterate 4 (focus (first | exact .inl rfl | ((try simp only [LN] at *) <;> omega)))))
   | ((with_reducible refine Z.slN_lo 2 ?_ ?_ ?_); (focus rfl); (focus ((try simp only [LN] at *) <;> omega)))
   | (refine loopZ_unr2 tabOk rfl ?_)
   | (refine wr_n16 hn0 hn1 ?_)
   | ((with_reducible refine posE_pos ?_ ?_); (focus ((try simp only [LN] at *) <;> omega)))
   | ((with_reducible refine posE_nil ?_ ?_); (focus rfl))
   | ((with_reducible apply rowN_mk); (focus rfl))
   | ((with_reducible apply ixN_lit); (focus rfl); (focus rfl))
   | ((with_reducible apply ixN_litp); (focus rfl); (focus ((try simp only [LN] at *) <;> omega)))
   | ((with_reducible refine eqN_mk2 ?_ ?_); (focus rfl))
   | ((with_reducible refine posN_mk2 ?_ ?_); (focus (first | decide | ((try simp only [LN] at *) <;> omega))))
   | ((with_reducible refine apdE_r ?_); (with_reducible refine aprN.mk ⟨_, rfl, ?_⟩ ?_ ?_ ?_ ?_); (focus ((try simp only [LN] at *) <;> omega)); (focus (first | rfl | (simp; done) | ((try simp only [LN] at *) <;> omega))); (focus (first | exact one_all (by rfl) | exact one_map (fun _ => rfl) | exact one_map2 (fun _ => rfl) | exact one_drop (fun _ => rfl))); (focus ((try simp only [LN] at *) <;> omega)))
   | ((with_reducible refine apdE_k ?_); (with_reducible refine apkN.mk ⟨_, rfl, ?_⟩ ?_); (focus ((try simp only [LN] at *) <;> omega)))
   | with_reducible first | refine apdE_n ?_
   | ((with_reducible refine slE_a ?_ ?_); (focus ((try simp only [LN] at *) <;> omega)))
   | ((with_reducible refine slE_b ?_ ?_); (focus ((try simp only [LN] at *) <;> omega)))
   | ((with_reducible refine slE_split ?_ ?_ ?_); (focus ((try simp only [LN] at *) <;> omega)); (all_goals intro _))
   | ((with_reducible apply sl3N_mk); (focus rfl); (focus rfl); (focus rfl); (focus ((try simp only [LN] at *) <;> omega)); (focus ((try simp only [LN] at *) <;> omega)); (focus ((try simp only [LN] at *) <;> omega)); (focus ((try simp only [LN] at *) <;> omega)))
   | ((with_reducible refine apdN.mk ?_ ?_ ?_ ?_ ?_ ?_); (focus (first | rfl | (simp; done))); (focus (first | exact one_all (by rfl) | exact one_map (fun _ => rfl) | exact one_map2 (fun _ => rfl))); (focus ((try simp only [LN] at *) <;> omega)); (focus ((try simp only [LN] at *) <;> omega)); (focus ((try simp only [LN] at *) <;> omega)))
   | with_reducible refine wr_i64 (by first | omega | (simp only [LN] at *; omega)) ?_
   | with_reducible refine wr_u64 (by omega) ?_
   | with_reducible refine wr_u8 (by omega) ?_
   | with_reducible refine wr_u32 (by omega) ?_
   | with_reducible first | refine wr_mk _ rfl ?_
   | ((with_reducible refine ixN_nat ?_ ?_); (focus ((try simp only [LN] at *) <;> omega)))
   | ((with_reducible refine rowN_map ?_ ?_); (focus ((try simp only [LN] at *) <;> omega)); intro x hx)
   | ((with_reducible refine posE_nil (by rfl) ?_))
   | ((with_reducible refine posE_pos (by decide) ?_))
   | with_reducible refine vN_mod (by omega) ?_
   | with_reducible first | refine vN_mk ?_
   | with_reducible refine nzN_mk (by omega) ?_
   | with_reducible refine eqN_dec (by omega) ?_
   | with_reducible first | refine apN_mk (by kernel_rfl) ?_ | refine Z.callZ_in tabOk 8 Try.f55 _ Try.func55 (by kernel_rfl) rfl rfl rfl ?_ | refine Z.callZ_in tabOk 6 Try.f56 _ Try.func56 (by kernel_rfl) rfl rfl rfl ?_ | refine Z.callZ_in tabOk 10 Try.f59 _ Try.func59 (by kernel_rfl) rfl rfl rfl ?_ | refine Z.callZ_in tabOk 11 Try.f61 _ Try.func61 (by kernel_rfl) rfl rfl rfl ?_ | refine Z.callZ_in tabOk 6 Try.f95 _ Try.func95 (by kernel_rfl) rfl rfl rfl ?_ | refine Z.callZ_in tabOk 5 Try.f97 _ Try.func97 (by kernel_rfl) rfl rfl rfl ?_ | refine Z.callZ_in tabOk 10 Try.f94 _ Try.func94 (by kernel_rfl) rfl rfl rfl ?_ | refine Z.callZ_in tabOk 58 Try.f110 _ Try.func110 (by kernel_rfl) rfl rfl rfl ?_ | refine Z.callZ_in tabOk 18 Try.f111 _ Try.func111 (by kernel_rfl) rfl rfl rfl ?_
   | ((first | (with_reducible refine Z.conZ_mz ?_ (cc) ?_) | (with_reducible refine Z.callZ_mk ?_ (cc) ?_) | (with_reducible refine Z.conZ_mz ?_ (ccp) ?_) | (with_reducible refine Z.callZ_mk ?_ (ccp) ?_)); (focus ((repeat' (first | exact trivial | exact rfl | exact Z.low_nil | exact Z.low_nil2 | exact low_osl (fun _ => rfl) | (refine Z.low_osln ?_ (fun _ => rfl); (simp only [List.length_map]; done)) | exact low_oslr (fun _ => rfl) | exact Z.low_gslm (by first | rfl | exact Z.kb_some rfl) (fun _ => rfl) | exact .inl rfl | exact .inr ⟨_, rfl⟩ | apply And.intro)); done)))
   | ((with_reducible refine eqN_mk2 ?_ ?_); (focus (exact Z.kb_some rfl)))
   | ((with_reducible apply ex_and); exact rfl)
   | with_reducible first | refine Z.drawZ_rule tabOk mixOk ?_ | refine Z.apZ_mk (by kernel_rfl) ?_
   | ((with_reducible refine Z.ConZ.red ?_); (try subst hlb); (apply Z.conZ_all); (focus (repeat (first | exact Z.FK.nil | (apply Z.FK.keep; exact rfl)))); (focus rfl); (focus rfl); (focus (repeat (first | exact trivial | (refine ⟨(fun o ho => (by first | (cases ho; rfl) | (cases ho; exact Z.inL_map fun _ => rfl) | (cases ho; exact Z.inL_mapr fun _ => rfl) | exact Z.inL_gB ho fun _ => rfl)), ?_⟩)))))
   | ((refine ⟨rfl, ?_, rfl⟩); (focus (repeat (first | exact Z.DK.nil | apply Z.DK.cons))))
   | (focus (exact (rfl : Nat.ble _ _ = true))))
  all_goals (try (conv => whnf)))
 all_goals try first | (show Nat.ble _ _ = true; rfl) | (exfalso; rename_i hz; cases hz; done) | (exfalso; (try simp only [LN] at *) <;> omega)
 all_goals first
  | ((first | (with_reducible apply Z.retF1) | (with_reducible apply Z.retF2) | (with_reducible apply Z.retF0)); (focus rfl); (repeat' (first | exact trivial | (with_reducible apply Z.frz_one) | (with_reducible apply Z.frz_agg) | (with_reducible apply Z.fq_int) | (with_reducible apply Z.fq_bool) | (exact Z.frz_nil) | (exact Z.frz_osl0 rfl rfl rfl) | (with_reducible apply Z.fq_nil) | (with_reducible apply Z.fq_ro) | ((with_reducible apply Z.fq_gsl); (focus (first | rfl | exact Z.isB_map _ | exact Z.gB_snoc.symm)); (focus (exact fun _ => rfl))) | ((with_reducible apply Z.fq_osl); (focus rfl); (focus (first | exact rfl | (simp only [List.length_map, Nat.zero_add]; done) | ((try simp only [LN] at *) <;> omega))); (focus (exact fun _ => rfl))) | ((with_reducible apply Z.fq_src); (focus rfl); (focus (first | exact rfl | (simp only [List.length_map, Nat.zero_add]; done) | ((try simp only [LN] at *) <;> omega))); (focus (exact fun _ => rfl))) | exact rfl | ((apply Z.fq_osl); (focus rfl); (focus (first | exact rfl | (simp only [List.length_map, Nat.zero_add]; done) | ((try simp only [LN] at *) <;> omega))); (focus (exact fun _ => rfl))) | ((apply Z.fq_src); (focus rfl); (focus (first | exact rfl | (simp only [List.length_map, Nat.zero_add]; done) | ((try simp only [LN] at *) <;> omega))); (focus (exact fun _ => rfl))) | (apply Z.fq_ro) | (apply Z.fq_int) | (apply Z.fq_bool) | apply And.intro)); (all_goals (try exact (fun _ => none))); all_goals (first | rfl | (simp; done)))
  | (exfalso; rename_i hz; cases hz; done)
  | (exfalso; (try simp only [LN] at *) <;> omega)
  | (fail)
end Tab
end Go.Proofs.Ytopieffkpdlpbaa
namespace Go.Proofs.Ytopieffkpdlpbaa
open Go Go.RowKit Wx
set_option maxHeartbeats 4000000
namespace Tab
theorem putO_con (b : List Int) (x : Int) (n : Nat) (hb : b.length ≤ 1099511627776) (hn : n ≤ 8) (hx : 0 ≤ x ∧ x < 18446744073709551616) : Con Try.prog 92 [.one (.ro false 1 (b.map eB)), .one (.v (.int .u64 x)), .one (.v (.int .i64 (n : Int)))] (fun rx rK rt => rx = .c (.osl 0 0 (b.length + n) (some (b.length + n))) ∧ rK = [(0, some ⟨(b ++ be n x).map cB, 1, 5, false⟩)] ∧ rt = 1) := by
 refine Z.con_ofZ tabOk 34 Try.f92 _ Try.func92 (by kernel_rfl) rfl rfl rfl rfl ?_
 repeat' ((conv => whnf); first
  | ((with_reducible refine mkN_any (b.length + n) ?_ ?_ ?_ ?_ ?_); (iterate 4 (focus ((try simp only [LN] at *) <;> omega))))
  | ((with_reducible refine cpyN.mk ?_ ?_ ?_ ?_); (focus (first | (simp; done))); (focus (first | exact one_map2 (fun _ => rfl))); (focus ((try simp only [LN] at *) <;> omega)))
  | with_reducible refine wr_i64 (by first | omega | (simp only [LN] at *; omega)) ?_
  | fail)
 all_goals (try (conv => whnf))
 all_goals try first | (show Nat.ble _ _ = true; rfl) | (exfalso; rename_i hz; cases hz; done) | (exfalso; (try simp only [LN] at *) <;> omega)
 refine Z.loopK tabOk (fun zq : Nat × Int × List Int => [(18, .val (.int .i64 (zq.1 : Int))), (1, .val (.int .u64 zq.2.1))]) (fun zq : Nat × Int × List Int => ([(0, some (Z.Ob.b ⟨(b ++ List.replicate (n - zq.1) 0 ++ zq.2.2).map cB, 1, 5, false⟩))] : Z.Kr)) (fun zq => zq.1 ≤ n ∧ zq.2.2.length = zq.1 ∧ be (n - zq.1) zq.2.1 ++ zq.2.2 = be n x ∧ 0 ≤ zq.2.1 ∧ zq.2.1 < 18446744073709551616) (fun zq => n - zq.1) (0, x, []) 1 [(7, _), (17, _)] ⟨rfl, rfl, trivial⟩ [] trivial ?_ ?_ rfl rfl ⟨Nat.zero_le _, rfl, by simp, hx⟩ ?_
 ·repeat' (first | exact trivial | apply And.intro | exact ⟨_, rfl, Z.Imp.refl _⟩)
 ·repeat' (first | exact trivial | (intro b hb; cases hb; refine ⟨_, rfl, ⟨rfl, rfl, rfl⟩, Z.imp_eq ?_⟩; first | rfl | exact put_lay (by simp) | exact (put_lay (by simp)).trans (by simp); done) | apply And.intro)
 rintro ⟨i, y, T⟩ HINV
 dsimp only at HINV ⊢
 obtain ⟨HI, HT, HB, hy⟩ := HINV
 have hlr : (b ++ List.replicate (n - i) 0 ++ T).length = b.length + n := by simp; omega
 by_cases hi : i < n
 ·obtain ⟨m, hm⟩ : ∃ m, n - i = m + 1 := ⟨n - i - 1, by omega⟩
  rw [hm] at hlr HB ⊢
  rw [be, List.append_assoc] at HB
  repeat' ((conv => whnf); first
   | (with_reducible refine spB_dec ?_ ?_ <;> intro _ <;> (try (exfalso; first | contradiction | omega | (rename_i hz; refine hz ?_; simp; done) | (rename_i hz; simp at hz; done) | (simp only [LN] at *; omega))))
   | (with_reducible refine vN_shr8 (by omega) ?_)
   | ((with_reducible refine ixN_mk (b.length + m) ?_ ?_ ?_); (focus (first | ((try simp only [LN] at *) <;> omega))); (focus ((try simp only [LN] at *) <;> omega)))
   | ((with_reducible refine rowN_mk (cB 0) ?_ ?_); (focus (exact put_row)))
   | with_reducible first | refine wr_mod8 ?_
   | ((with_reducible refine eqN_mk2 ?_ ?_); (focus rfl))
   | with_reducible refine wr_i64 (by first | omega | (simp only [LN] at *; omega)) ?_
   | fail)
  all_goals (try (conv => whnf))
  all_goals try first | (show Nat.ble _ _ = true; rfl) | (exfalso; rename_i hz; cases hz; done) | (exfalso; (try simp only [LN] at *) <;> omega)
  all_goals first
   | ((refine Z.rnd_rw 0 ((b ++ List.replicate (n - (i + 1)) 0 ++ (y % 256) :: T).map cB) rfl rfl ?_ ?_); (focus (rw [show n - (i + 1) = m by omega]; exact put_set)); ((refine Z.rndK ((i + 1, y / 256, (y % 256) :: T)) (fun s => [0]) rfl rfl rfl rfl ?_ ?_ ?_ ?_); (focus (repeat' (first | exact trivial | exact rfl | apply And.intro))); (focus (repeat' (first | exact trivial | exact Z.blk_sub rfl rfl (ren_map fun _ => rfl) | apply And.intro))); (focus (exact ⟨by (try dsimp only); omega, by (try dsimp only); rw [List.length_cons, HT], by (try dsimp only); rw [show n - (i + 1) = m by omega]; exact HB, by (try dsimp only); omega⟩)); ((try dsimp only); omega)))
   | fail
 have hil : i = n := by omega
 subst hil
 rw [Nat.sub_self, be, List.nil_append] at HB
 subst HB
 repeat' ((conv => whnf); first
  | (with_reducible refine spB_dec ?_ ?_ <;> intro _ <;> (try (exfalso; first | contradiction | omega | (rename_i hz; refine hz ?_; simp; done) | (rename_i hz; simp at hz; done) | (simp only [LN] at *; omega))))
  | fail)
 all_goals (try (conv => whnf))
 all_goals try first | (show Nat.ble _ _ = true; rfl) | (exfalso; rename_i hz; cases hz; done) | (exfalso; (try simp only [LN] at *) <;> omega)
 all_goals first
  | (refine ret1b 0 (.c (.osl 0 0 (b.length + i) (some (b.length + i)))) ((b ++ be i x).map cB) 1 5 false _ rfl rfl rfl ?_ ren_cB rfl (own_map fun _ => rfl) ⟨rfl, rfl, rfl⟩; simp)
  | fail
theorem putO2_con (b : List Int) (x : Int) (hb : b.length ≤ 1099511627776) (hx : 0 ≤ x ∧ x < 18446744073709551616) : Con Try.prog 92 [.one (.ro false 1 (b.map eB)), .one (.v (.int .u64 x)), .one (.v (.int .i64 2))] (fun rx rK rt => rx = .c (.osl 0 0 (b.length + 2) (some (b.length + 2))) ∧ rK = [(0, some ⟨(b ++ be 2 x).map cB, 1, 5, false⟩)] ∧ rt = 1) := putO_con b x 2 hb (by decide) hx
theorem putO16_con (b : List Int) (x : Int) (hb : b.length ≤ 1099511627776) (hx : 0 ≤ x ∧ x < 65536) : Con Try.prog 90 [.one (.ro false 1 (b.map eB)), .one (.v (.int .u16 x))] (fun rx rK rt => rx = .c (.osl 0 0 (b.length + 2) (some (b.length + 2))) ∧ rK = [(0, some ⟨(b ++ be 2 x).map cB, 1, 5, false⟩)] ∧ rt = 1) := by
 refine Z.con_ofZ tabOk 9 Try.f90 _ Try.func90 (by kernel_rfl) rfl rfl rfl rfl ?_
 repeat' ((conv => whnf); first
  | with_reducible refine wr_u64 (by omega) ?_
  | ((first | (with_reducible apply Z.callZ_mk ?_ (putO2_con _ _ ?_ ?_) ?_)); (rotate_left 2); (focus ((repeat' (first | exact trivial | exact rfl | apply And.intro)); done)); (iterate 2 (focus (first | assumption | omega))))
  | fail)
 all_goals (try (conv => whnf))
 all_goals try first | (show Nat.ble _ _ = true; rfl) | (exfalso; rename_i hz; cases hz; done) | (exfalso; (try simp only [LN] at *) <;> omega)
 all_goals first
  | (refine ret1b 0 (.c (.osl 0 0 (b.length + 2) (some (b.length + 2)))) ((b ++ be 2 x).map cB) 1 5 false _ rfl rfl rfl ren_cB ren_cB rfl (own_map fun _ => rfl) ⟨rfl, rfl, rfl⟩)
  | fail
end Tab
end Go.Proofs.Ytopieffkpdlpbaa
namespace Go.Proofs.Ytopieffkpdlpbaa
open Go Go.RowKit Wx
set_option maxHeartbeats 4000000
open Tab
theorem tkm1 {x : Int} {xs : List Int} : List.take ((List.map eB (x :: xs)).length - 1) (List.drop 1 (List.map eB (x :: xs))) = List.map eB xs := List.take_of_length_le (Nat.le_refl _)
theorem tkm2 {x y : Int} {xs : List Int} : List.take ((List.map eB (x :: y :: xs)).length - 2) (List.drop 2 (List.map eB (x :: y :: xs))) = List.map eB xs := List.take_of_length_le (Nat.le_refl _)
theorem tkm4 {x y z w : Int} {xs : List Int} : List.take ((List.map eB (x :: y :: z :: w :: xs)).length - 4) (List.drop 4 (List.map eB (x :: y :: z :: w :: xs))) = List.map eB xs := List.take_of_length_le (Nat.le_refl _)
theorem rawq {a b : Int} {N : Nat} (h : a * 256 + b = (N : Int)) : 18 * (a * 256 + b) = ((18 * N : Nat) : Int) := by rw [h]; omega
theorem loopZ_unr4 {P : Program} {T : Wx.Tab} {n m : Nat} {rd : Option Nat} {s : Z.S} {c : Code} {Q : Exit → Z.S → Prop} (hT : TabOk P T) (hs : Wx.get s.F 5 = some (.val (.int .i64 4))) (h : Z.loopU P T n m rd c Q 5 s) : Z.LoopZ P n m rd c s Q := Z.loopZ_unroll hT 5 h
end Go.Proofs.Ytopieffkpdlpbaa
