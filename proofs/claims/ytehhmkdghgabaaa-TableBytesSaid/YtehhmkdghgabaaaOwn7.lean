import Derived.Test.YtehhmkdghgabaaaOwn6
import Derived.Test.YtehhmkdghgabaaaLib5
import Derived.Test.YtehhmkdghgabaaaRows
namespace Go.Proofs.Ytehhmkdghgabaaa
open Go Go.RowKit Wx
set_option linter.unusedVariables false
set_option linter.unusedSimpArgs false
set_option maxHeartbeats 4000000
theorem do_zi (t w a b : Int) (ins : List Int) (l : List Kc) (s k v : Int) (c : Int × Int) (O : List Int) (p : Nat) (hi : ins.length ≤ 9223372036854775807) (hO : O.length ≤ 1) (hl : l.length ≤ 1000) (ht : tabR l = true) (hk : keyOk s k = true) (hth : thereR l s k = true) (hp : posR l s k = p) (hne : l ≠ []) (x : Kc) (hx : l[p]? = some x) (hc0 : x.cnt ≤ 9223372036854775807) (hr : Ops.doF t w ins a b x.cnt x.sum v = (c, O, 0)) (hc : c = (0, 0)) (hpl : p < l.length) (hpe : p + 1 < l.length) : Con Try.prog 64 [.agg [.v (.int .i64 t), .v (.int .i64 w), .ro false 1 (ins.map Ops.eI), .v (.int .i64 a), .v (.int .i64 b)], .agg [.ro false 4 (l.map eK)], .agg [.v (.int .i64 s), .v (.int .i64 k), .v (.int .i64 v)]] (fun rx rK rt => rx = .tup [.agg [.ro true 4 ((l.eraseIdx p).map eK)], .one (.ro true 3 ((O.map fun x => (⟨s, k, x⟩ : Rcd)).map eR)), .one (.v (.int .i64 0))] ∧ rK = [] ∧ rt = 0) := by
  refine Z.con_ofF tabOk 22 Try.f64 _ Try.func64 (by kernel_rfl) rfl rfl rfl rfl ?_
  have ck := rec_con s k v
  rw [hk] at ck
  simp only [cond_true, cond_false] at ck
  have cf := find_con l s k v hl ht
  rw [hth, hp] at cf
  have cd := Ops.do_con t w a b x.cnt x.sum v ins hi hc0
  rw [hr] at cd
  dsimp only at cd
  subst hc
  have cw := clonek_con l hl hne
  rcases O with _ | ⟨y, _ | ⟨z, O⟩⟩
  rotate_right 1
  · exact absurd hO (by simp)
  all_goals (
    repeat' ((conv => whnf); first
      | with_reducible first | refine spB_t ?_
      | ((with_reducible apply spB_cong); (focus (simp only [beq_self_eq_true, bne_self_eq_false, Bool.true_bne, Bool.false_bne, Bool.bne_true, Bool.bne_false, Bool.true_beq, Bool.false_beq, Bool.not_true, Bool.not_false, Bool.not_not, Int.reduceBEq, Int.reduceBNe, Int.reduceLE, Int.reduceLT, Int.reduceEq, decide_true, decide_false]; rfl)))
      | with_reducible first | refine spB_no (by decide) ?_
      | (with_reducible refine spB_dec ?_ ?_ <;> intro _ <;> (try (exfalso; first | contradiction | omega | (rename_i hz; refine hz ?_; simp; done) | (rename_i hz; simp at hz; done) | (simp only [LN] at *; omega))))
      | (with_reducible refine spB_beq ?_ ?_ <;> intro _ <;> (try (exfalso; first | contradiction | omega | (rename_i hz; refine hz ?_; simp; done) | (rename_i hz; simp at hz; done) | (simp only [LN] at *; omega))))
      | with_reducible first | refine Z.loopZ_unroll tabOk 3 ?_
      | ((apply Z.callZ_rwcapn (l.map cK)); (focus (exact rfl)); (focus (first | exact ren_map fun _ => rfl)); (intro capv hcapv))
      | ((with_reducible refine slN_hi (p) ?_ ?_ ?_); (focus rfl); (focus ((try simp only [LN] at *) <;> omega)))
      | ((with_reducible refine Z.slN_lo (p + 1) ?_ ?_ ?_); (focus rfl); (focus ((try simp only [LN] at *) <;> omega)))
      | ((with_reducible refine Z.slN_lhc (l.length - 1) l.length ?_ ?_ ?_ ?_ ?_); (iterate 3 (focus ((try simp only [LN] at *) <;> omega))); (focus (exact ⟨_, rfl, (by (try simp only [LN] at *) <;> omega)⟩)))
      | ((with_reducible refine apdE_r ?_); (with_reducible refine aprN.mk ⟨_, rfl, ?_⟩ ?_ ?_ ?_ ?_); (focus ((try simp only [LN] at *) <;> omega)); (focus (exact Z.g_len (f := cK) rfl (by (try simp only [LN] at *) <;> omega))); (focus (exact Z.g_one cK_one rfl)); (focus (exact Z.g_le (f := cK) rfl (by (try simp only [LN] at *) <;> omega))))
      | ((with_reducible refine clrN_mk ?_ ?_ ?_); (focus (exact Z.g_clr (f := cK) rfl (by first | (rw [Z.g_len (f := cK) (l := l) rfl (by (try simp only [LN] at *) <;> omega)]; omega) | (simp; omega)) (by (try simp only [LN] at *) <;> omega))); (focus rfl))
      | with_reducible first | refine Z.rowN_known hx ?_
      | ((with_reducible refine ixN_mk (p) ?_ ?_ ?_); (focus (first | rfl)); (focus ((try simp only [LN] at *) <;> omega)))
      | ((with_reducible refine posE_pos ?_ ?_); (focus ((try simp only [LN] at *) <;> omega)))
      | ((with_reducible apply rowN_mk); (focus rfl))
      | ((with_reducible apply ixN_lit); (focus (exact rfl)); (focus (exact rfl)))
      | ((with_reducible refine slE_a ?_ ?_); (focus ((try simp only [LN] at *) <;> omega)))
      | ((with_reducible apply sl3N_mk); (focus (exact rfl)); (focus (exact rfl)); (focus (exact rfl)); (focus ((try simp only [LN] at *) <;> omega)); (focus ((try simp only [LN] at *) <;> omega)); (focus ((try simp only [LN] at *) <;> omega)); (focus ((try simp only [LN] at *) <;> omega)))
      | ((with_reducible refine apdN.mk ?_ ?_ ?_ ?_ ?_ ?_); (focus (first | rfl)); (focus (first | exact one_all (by rfl))); (focus ((try simp only [LN] at *) <;> omega)); (focus ((try simp only [LN] at *) <;> omega)); (focus ((try simp only [LN] at *) <;> omega)))
      | with_reducible refine wr_i64 (by first | omega | (simp only [LN] at *; omega)) ?_
      | with_reducible first | refine Z.callZ_in tabOk 38 Try.f101 _ Try.func101 (by kernel_rfl) rfl rfl rfl ?_ | refine Z.callZ_in tabOk 67 Try.f60 _ Try.func60 (by kernel_rfl) rfl rfl rfl ?_ | refine Z.callZ_in tabOk 33 Try.f99 _ Try.func99 (by kernel_rfl) rfl rfl rfl ?_
      | ((first | (with_reducible refine Z.callZ_mk ?_ (cd) ?_) | (with_reducible refine Z.callZ_mk ?_ (ck) ?_) | (with_reducible refine Z.callZ_mk ?_ (cf) ?_) | (with_reducible refine Z.callZ_mk ?_ (cw) ?_)); (focus ((repeat' (first | exact trivial | exact rfl | apply And.intro)); done)))
      | ((with_reducible apply ex_and); exact rfl)
      | with_reducible first | refine Z.drawZ_rule tabOk mixOk ?_ | refine Z.apZ_mk (by kernel_rfl) ?_)
    all_goals (try (conv => whnf)))
  all_goals try (show Nat.ble _ _ = true; rfl)
  all_goals try (exfalso; rename_i hz; cases hz; done)
  all_goals try (exfalso; (try simp only [LN] at *) <;> omega)
  all_goals first
    | ((first | (with_reducible apply Z.retF2)); (focus (exact rfl)); (repeat' (first | exact trivial | (refine Z.frz_oslw (l := l.eraseIdx p) (f := cK) (ty := 74) (bx := false) rfl ?_ ?_ (fun _ => rfl); (focus (rw [List.length_eraseIdx, if_pos hpl]; (try simp only [LN] at *) <;> omega)); (focus (first | exact Z.del_rows hpl (by simp)))) | (refine Z.fq_gsl (l := [(⟨s, k, y⟩ : Rcd)]) (f := cR) (g := eR) (sz := 3) (ty := 39) rfl (fun _ => rfl) ?_) | (with_reducible apply Z.frz_one) | (with_reducible apply Z.frz_agg) | (with_reducible apply Z.fq_int) | (exact Z.frz_nil) | exact rfl | apply And.intro)); (all_goals (try exact (fun _ => none))); all_goals (first | (simp; done)))
end Go.Proofs.Ytehhmkdghgabaaa
namespace Go.Proofs.Ytehhmkdghgabaaa
open Go Go.RowKit Wx
set_option linter.unusedVariables false
set_option linter.unusedSimpArgs false
set_option maxHeartbeats 4000000
theorem do_sa (t w a b : Int) (ins : List Int) (l : List Kc) (s k v : Int) (c : Int × Int) (O : List Int) (p : Nat) (hi : ins.length ≤ 9223372036854775807) (hO : O.length ≤ 1) (hl : l.length ≤ 1000) (ht : tabR l = true) (hk : keyOk s k = true) (hth : thereR l s k = true) (hp : posR l s k = p) (hne : l ≠ []) (x : Kc) (hx : l[p]? = some x) (hc0 : x.cnt ≤ 9223372036854775807) (hr : Ops.doF t w ins a b x.cnt x.sum v = (c, O, 0)) (hc : 0 < c.1) (hpl : p < l.length) (hpe : p + 1 = l.length) : Con Try.prog 64 [.agg [.v (.int .i64 t), .v (.int .i64 w), .ro false 1 (ins.map Ops.eI), .v (.int .i64 a), .v (.int .i64 b)], .agg [.ro false 4 (l.map eK)], .agg [.v (.int .i64 s), .v (.int .i64 k), .v (.int .i64 v)]] (fun rx rK rt => rx = .tup [.agg [.ro true 4 (((l.eraseIdx p).take p ++ (⟨s, k, c.1, c.2⟩ : Kc) :: (l.eraseIdx p).drop p).map eK)], .one (.ro true 3 ((O.map fun x => (⟨s, k, x⟩ : Rcd)).map eR)), .one (.v (.int .i64 0))] ∧ rK = [] ∧ rt = 0) := by
  refine Z.con_ofF tabOk 22 Try.f64 _ Try.func64 (by kernel_rfl) rfl rfl rfl rfl ?_
  have ck := rec_con s k v
  rw [hk] at ck
  simp only [cond_true, cond_false] at ck
  have cf := find_con l s k v hl ht
  rw [hth, hp] at cf
  have cd := Ops.do_con t w a b x.cnt x.sum v ins hi hc0
  rw [hr] at cd
  dsimp only at cd
  have hcz : (c.1 == 0 && (c.2 == 0 && true)) = false := by rw [show (c.1 == 0) = false by simp; omega]; rfl
  have cw := clonek_con l hl hne
  obtain ⟨L, hL⟩ : ∃ L, l.eraseIdx p = L := ⟨_, rfl⟩
  have hLl : L.length + 1 = l.length := by rw [← hL, List.length_eraseIdx, if_pos hpl]; omega
  rw [hL]
  rcases O with _ | ⟨y, _ | ⟨z, O⟩⟩
  rotate_right 1
  · exact absurd hO (by simp)
  all_goals (
    repeat' ((conv => whnf); first
      | with_reducible first | refine spB_t ?_
      | ((with_reducible apply spB_cong); (focus (simp only [beq_self_eq_true, bne_self_eq_false, Bool.true_bne, Bool.false_bne, Bool.bne_true, Bool.bne_false, Bool.true_beq, Bool.false_beq, Bool.not_true, Bool.not_false, Bool.not_not, Int.reduceBEq, Int.reduceBNe, Int.reduceLE, Int.reduceLT, Int.reduceEq, decide_true, decide_false]; rfl)))
      | with_reducible first | refine spB_no (by decide) ?_ | refine spB_not ?_ | refine spB_no (by assumption) ?_
      | (with_reducible refine spB_dec ?_ ?_ <;> intro _ <;> (try (exfalso; first | contradiction | omega | (rename_i hz; refine hz ?_; simp; done) | (rename_i hz; simp at hz; done) | (simp only [LN] at *; omega) | (rename_i hz; exact absurd (hcz.symm.trans hz) Bool.false_ne_true))))
      | (with_reducible refine spB_beq ?_ ?_ <;> intro _ <;> (try (exfalso; first | contradiction | omega | (rename_i hz; refine hz ?_; simp; done) | (rename_i hz; simp at hz; done) | (simp only [LN] at *; omega) | (rename_i hz; exact absurd (hcz.symm.trans hz) Bool.false_ne_true))))
      | with_reducible first | refine Z.loopZ_unroll tabOk 3 ?_
      | ((apply Z.callZ_tell (L.map cK ++ [cK ⟨0, 0, 0, 0⟩]) L.length); (focus (exact rfl)); (focus (exact (Z.del_full0 (f := cK) (z := (⟨0, 0, 0, 0⟩ : Kc)) rfl hpe rfl (by first | rfl | (rw [show l.length - (l.length - 1) = 1 by omega]; rfl))).trans (by rw [hL, List.map_append]; rfl))); (focus ((try simp only [LN] at *) <;> omega)))
      | ((apply Z.callZ_rwcapn (l.map cK)); (focus (exact rfl)); (focus (first | exact ren_map fun _ => rfl)); (intro capv hcapv))
      | ((with_reducible refine slN_hi (p) ?_ ?_ ?_); (focus rfl); (focus ((try simp only [LN] at *) <;> omega)))
      | ((with_reducible refine Z.slN_lo (p + 1) ?_ ?_ ?_); (focus rfl); (focus ((try simp only [LN] at *) <;> omega)))
      | ((with_reducible refine Z.slN_lhc (l.length - 1) l.length ?_ ?_ ?_ ?_ ?_); (iterate 3 (focus ((try simp only [LN] at *) <;> omega))); (focus (exact ⟨_, rfl, (by (try simp only [LN] at *) <;> omega)⟩)))
      | ((with_reducible refine apdE_r ?_); (with_reducible refine aprN.mk ⟨_, rfl, ?_⟩ ?_ ?_ ?_ ?_); (focus ((try simp only [LN] at *) <;> omega)); (focus rfl); (focus (exact one_all (by rfl))); (focus (exact Z.g_le (f := cK) rfl (by (try simp only [LN] at *) <;> omega))))
      | ((with_reducible refine clrN_mk ?_ ?_ ?_); (focus (exact Z.g_clr (f := cK) rfl (by first | (rw [Z.g_len (f := cK) (l := l) rfl (by (try simp only [LN] at *) <;> omega)]; omega) | (simp; omega)) (by (try simp only [LN] at *) <;> omega))); (focus rfl))
      | ((with_reducible refine Z.slN_lo (p) ?_ ?_ ?_); (focus rfl); (focus ((try simp only [LN] at *) <;> omega)))
      | with_reducible first | refine Z.rowN_known hx ?_
      | ((with_reducible refine ixN_mk (p) ?_ ?_ ?_); (focus (first | rfl)); (focus ((try simp only [LN] at *) <;> omega)))
      | ((with_reducible refine posE_pos ?_ ?_); (focus ((try simp only [LN] at *) <;> omega)))
      | ((with_reducible apply rowN_mk); (focus rfl))
      | ((with_reducible apply ixN_lit); (focus (exact rfl)); (focus (exact rfl)))
      | ((with_reducible refine apdE_r ?_); (with_reducible refine aprN.mk ⟨_, rfl, ?_⟩ ?_ ?_ ?_ ?_); (focus ((try simp only [LN] at *) <;> omega)); (focus (first | rfl)); (focus (first | exact one_all (by rfl))); (focus ((try simp only [LN] at *) <;> omega)))
      | ((with_reducible refine slE_a ?_ ?_); (focus ((try simp only [LN] at *) <;> omega)))
      | ((with_reducible refine slE_b ?_ ?_); (focus ((try simp only [LN] at *) <;> omega)))
      | ((with_reducible apply sl3N_mk); (focus (exact rfl)); (focus (exact rfl)); (focus (exact rfl)); (focus ((try simp only [LN] at *) <;> omega)); (focus ((try simp only [LN] at *) <;> omega)); (focus ((try simp only [LN] at *) <;> omega)); (focus ((try simp only [LN] at *) <;> omega)))
      | ((with_reducible refine apdN.mk ?_ ?_ ?_ ?_ ?_ ?_); (focus (first | rfl)); (focus (first | exact one_all (by rfl))); (focus ((try simp only [LN] at *) <;> omega)); (focus ((try simp only [LN] at *) <;> omega)); (focus ((try simp only [LN] at *) <;> omega)))
      | with_reducible refine wr_i64 (by first | omega | (simp only [LN] at *; omega)) ?_
      | with_reducible first | refine Z.callZ_in tabOk 38 Try.f101 _ Try.func101 (by kernel_rfl) rfl rfl rfl ?_ | refine Z.callZ_in tabOk 67 Try.f60 _ Try.func60 (by kernel_rfl) rfl rfl rfl ?_ | refine Z.callZ_in tabOk 33 Try.f99 _ Try.func99 (by kernel_rfl) rfl rfl rfl ?_ | refine Z.callZ_in tabOk 95 Try.f100 _ Try.func100 (by kernel_rfl) rfl rfl rfl ?_
      | ((first | (with_reducible refine Z.callZ_mk ?_ (cd) ?_) | (with_reducible refine Z.callZ_mk ?_ (ck) ?_) | (with_reducible refine Z.callZ_mk ?_ (cf) ?_) | (with_reducible refine Z.callZ_mk ?_ (cw) ?_)); (focus ((repeat' (first | exact trivial | exact rfl | apply And.intro)); done)))
      | ((with_reducible apply ex_and); exact rfl)
      | with_reducible first | refine Z.drawZ_rule tabOk mixOk ?_ | refine Z.apZ_mk (by kernel_rfl) ?_)
    all_goals (try (conv => whnf)))
  all_goals try (show Nat.ble _ _ = true; rfl)
  all_goals try (exfalso; rename_i hz; cases hz; done)
  all_goals try (exfalso; (try simp only [LN] at *) <;> omega)
  all_goals (have hpL : p = L.length := by omega)
  all_goals (rw [show L.take p ++ (⟨s, k, c.1, c.2⟩ : Kc) :: L.drop p = L ++ [⟨s, k, c.1, c.2⟩] by rw [hpL, List.take_length, List.drop_length]])
  all_goals first
    | ((first | (with_reducible apply Z.retF2)); (focus (exact rfl)); (repeat' (first | exact trivial | (refine Z.frz_oslw (l := (L ++ [(⟨s, k, c.1, c.2⟩ : Kc)])) (f := cK) (ty := 74) (bx := false) rfl ?_ ?_ (fun _ => rfl); (focus (first | (simp; done))); (focus (first | exact (congrArg (List.take _) (Z.g_appr (f := cK) (l := L) (g := cK ⟨0, 0, 0, 0⟩) (v := (⟨s, k, c.1, c.2⟩ : Kc)) rfl rfl)).trans (List.take_of_length_le (by simp))))) | (refine Z.fq_gsl (l := [(⟨s, k, y⟩ : Rcd)]) (f := cR) (g := eR) (sz := 3) (ty := 39) rfl (fun _ => rfl) ?_) | (with_reducible apply Z.frz_one) | (with_reducible apply Z.frz_agg) | (with_reducible apply Z.fq_int) | (exact Z.frz_nil) | exact rfl | apply And.intro)); (all_goals (try exact (fun _ => none))); all_goals (first | (simp; done)))
end Go.Proofs.Ytehhmkdghgabaaa
namespace Go.Proofs.Ytehhmkdghgabaaa
open Go Go.RowKit Wx
set_option linter.unusedVariables false
set_option linter.unusedSimpArgs false
set_option maxHeartbeats 4000000
theorem do_si (t w a b : Int) (ins : List Int) (l : List Kc) (s k v : Int) (c : Int × Int) (O : List Int) (p : Nat) (hi : ins.length ≤ 9223372036854775807) (hO : O.length ≤ 1) (hl : l.length ≤ 1000) (ht : tabR l = true) (hk : keyOk s k = true) (hth : thereR l s k = true) (hp : posR l s k = p) (hne : l ≠ []) (x : Kc) (hx : l[p]? = some x) (hc0 : x.cnt ≤ 9223372036854775807) (hr : Ops.doF t w ins a b x.cnt x.sum v = (c, O, 0)) (hc : 0 < c.1) (hpl : p < l.length) (hpe : p + 1 < l.length) : Con Try.prog 64 [.agg [.v (.int .i64 t), .v (.int .i64 w), .ro false 1 (ins.map Ops.eI), .v (.int .i64 a), .v (.int .i64 b)], .agg [.ro false 4 (l.map eK)], .agg [.v (.int .i64 s), .v (.int .i64 k), .v (.int .i64 v)]] (fun rx rK rt => rx = .tup [.agg [.ro true 4 (((l.eraseIdx p).take p ++ (⟨s, k, c.1, c.2⟩ : Kc) :: (l.eraseIdx p).drop p).map eK)], .one (.ro true 3 ((O.map fun x => (⟨s, k, x⟩ : Rcd)).map eR)), .one (.v (.int .i64 0))] ∧ rK = [] ∧ rt = 0) := by
  refine Z.con_ofF tabOk 22 Try.f64 _ Try.func64 (by kernel_rfl) rfl rfl rfl rfl ?_
  have ck := rec_con s k v
  rw [hk] at ck
  simp only [cond_true, cond_false] at ck
  have cf := find_con l s k v hl ht
  rw [hth, hp] at cf
  have cd := Ops.do_con t w a b x.cnt x.sum v ins hi hc0
  rw [hr] at cd
  dsimp only at cd
  have hcz : (c.1 == 0 && (c.2 == 0 && true)) = false := by rw [show (c.1 == 0) = false by simp; omega]; rfl
  have cw := clonek_con l hl hne
  obtain ⟨L, hL⟩ : ∃ L, l.eraseIdx p = L := ⟨_, rfl⟩
  have hLl : L.length + 1 = l.length := by rw [← hL, List.length_eraseIdx, if_pos hpl]; omega
  rw [hL]
  rcases O with _ | ⟨y, _ | ⟨z, O⟩⟩
  rotate_right 1
  · exact absurd hO (by simp)
  all_goals (
    repeat' ((conv => whnf); first
      | with_reducible first | refine spB_t ?_
      | ((with_reducible apply spB_cong); (focus (simp only [beq_self_eq_true, bne_self_eq_false, Bool.true_bne, Bool.false_bne, Bool.bne_true, Bool.bne_false, Bool.true_beq, Bool.false_beq, Bool.not_true, Bool.not_false, Bool.not_not, Int.reduceBEq, Int.reduceBNe, Int.reduceLE, Int.reduceLT, Int.reduceEq, decide_true, decide_false]; rfl)))
      | with_reducible first | refine spB_no (by decide) ?_ | refine spB_not ?_ | refine spB_no (by assumption) ?_
      | (with_reducible refine spB_dec ?_ ?_ <;> intro _ <;> (try (exfalso; first | contradiction | omega | (rename_i hz; refine hz ?_; simp; done) | (rename_i hz; simp at hz; done) | (simp only [LN] at *; omega) | (rename_i hz; exact absurd (hcz.symm.trans hz) Bool.false_ne_true))))
      | (with_reducible refine spB_beq ?_ ?_ <;> intro _ <;> (try (exfalso; first | contradiction | omega | (rename_i hz; refine hz ?_; simp; done) | (rename_i hz; simp at hz; done) | (simp only [LN] at *; omega) | (rename_i hz; exact absurd (hcz.symm.trans hz) Bool.false_ne_true))))
      | with_reducible first | refine Z.loopZ_unroll tabOk 3 ?_
      | ((apply Z.callZ_tell (L.map cK ++ [cK ⟨0, 0, 0, 0⟩]) L.length); (focus (exact rfl)); (focus (exact (Z.del_full (f := cK) (z := (⟨0, 0, 0, 0⟩ : Kc)) rfl hpl rfl (by first | rfl | (rw [show l.length - (l.length - 1) = 1 by omega]; rfl))).trans (by rw [hL, List.map_append]; rfl))); (focus ((try simp only [LN] at *) <;> omega)))
      | ((apply Z.callZ_rwcapn (l.map cK)); (focus (exact rfl)); (focus (first | exact ren_map fun _ => rfl)); (intro capv hcapv))
      | ((with_reducible refine slN_hi (p) ?_ ?_ ?_); (focus rfl); (focus ((try simp only [LN] at *) <;> omega)))
      | ((with_reducible refine Z.slN_lo (p + 1) ?_ ?_ ?_); (focus rfl); (focus ((try simp only [LN] at *) <;> omega)))
      | ((with_reducible refine Z.slN_lhc (l.length - 1) l.length ?_ ?_ ?_ ?_ ?_); (iterate 3 (focus ((try simp only [LN] at *) <;> omega))); (focus (exact ⟨_, rfl, (by (try simp only [LN] at *) <;> omega)⟩)))
      | ((with_reducible refine apdE_r ?_); (with_reducible refine aprN.mk ⟨_, rfl, ?_⟩ ?_ ?_ ?_ ?_); (focus ((try simp only [LN] at *) <;> omega)); (focus (exact Z.g_len (f := cK) rfl (by (try simp only [LN] at *) <;> omega))); (focus (exact Z.g_one cK_one rfl)); (focus (exact Z.g_le (f := cK) rfl (by (try simp only [LN] at *) <;> omega))))
      | ((with_reducible refine clrN_mk ?_ ?_ ?_); (focus (exact Z.g_clr (f := cK) rfl (by first | (rw [Z.g_len (f := cK) (l := l) rfl (by (try simp only [LN] at *) <;> omega)]; omega) | (simp; omega)) (by (try simp only [LN] at *) <;> omega))); (focus rfl))
      | ((with_reducible refine Z.slN_lo (p) ?_ ?_ ?_); (focus rfl); (focus ((try simp only [LN] at *) <;> omega)))
      | ((with_reducible refine Z.slN_hc (L.length + 1) ?_ ?_ ?_); (focus rfl); (focus (exact ⟨_, rfl, by first | omega | (dsimp only; omega) | (simp; omega)⟩)))
      | ((with_reducible refine cpyN.mk2 ?_ ?_ ?_ ?_); (focus (exact Z.g_lenp (f := cK) (by (try simp only [LN] at *) <;> omega))); (focus (exact Z.g_onep cK_one (Z.g_min (by (try simp only [LN] at *) <;> omega)))); (focus (exact Z.g_fitp (f := cK) (by (try simp only [LN] at *) <;> omega))))
      | ((with_reducible refine cpyN.mk ?_ ?_ ?_ ?_); (focus rfl); (focus (exact one_all (by rfl))); (focus (exact Z.g_fitp2 (f := cK) (by (try simp only [LN] at *) <;> omega) (Z.g_fitk (by (try simp only [LN] at *) <;> omega)))))
      | ((with_reducible apply Z.callZ_ovl (tS := 28) (tR := 4) tabOk Try.f117 Try.func117 (by kernel_rfl) (by kernel_rfl) (by kernel_rfl) (by kernel_rfl)); (iterate 4 (focus (exact rfl))); (focus (exact Nat.ne_of_beq_eq_false rfl)); (focus (simp; done)); (focus (exact Nat.zero_lt_succ _)))
      | with_reducible first | refine Z.rowN_known hx ?_
      | ((with_reducible refine ixN_mk (p) ?_ ?_ ?_); (focus (first | rfl)); (focus ((try simp only [LN] at *) <;> omega)))
      | ((with_reducible refine posE_pos ?_ ?_); (focus ((try simp only [LN] at *) <;> omega)))
      | ((with_reducible apply rowN_mk); (focus rfl))
      | ((with_reducible apply ixN_lit); (focus (exact rfl)); (focus (exact rfl)))
      | ((with_reducible refine slE_a ?_ ?_); (focus ((try simp only [LN] at *) <;> omega)))
      | ((with_reducible apply sl3N_mk); (focus (exact rfl)); (focus (exact rfl)); (focus (exact rfl)); (focus ((try simp only [LN] at *) <;> omega)); (focus ((try simp only [LN] at *) <;> omega)); (focus ((try simp only [LN] at *) <;> omega)); (focus ((try simp only [LN] at *) <;> omega)))
      | ((with_reducible refine apdN.mk ?_ ?_ ?_ ?_ ?_ ?_); (focus (first | rfl)); (focus (first | exact one_all (by rfl))); (focus ((try simp only [LN] at *) <;> omega)); (focus ((try simp only [LN] at *) <;> omega)); (focus ((try simp only [LN] at *) <;> omega)))
      | with_reducible refine wr_i64 (by first | omega | (simp only [LN] at *; omega)) ?_
      | with_reducible first | refine Z.callZ_in tabOk 38 Try.f101 _ Try.func101 (by kernel_rfl) rfl rfl rfl ?_ | refine Z.callZ_in tabOk 67 Try.f60 _ Try.func60 (by kernel_rfl) rfl rfl rfl ?_ | refine Z.callZ_in tabOk 33 Try.f99 _ Try.func99 (by kernel_rfl) rfl rfl rfl ?_ | refine Z.callZ_in tabOk 95 Try.f100 _ Try.func100 (by kernel_rfl) rfl rfl rfl ?_
      | ((first | (with_reducible refine Z.callZ_mk ?_ (cd) ?_) | (with_reducible refine Z.callZ_mk ?_ (ck) ?_) | (with_reducible refine Z.callZ_mk ?_ (cf) ?_) | (with_reducible refine Z.callZ_mk ?_ (cw) ?_)); (focus ((repeat' (first | exact trivial | exact rfl | apply And.intro)); done)))
      | ((with_reducible apply ex_and); exact rfl)
      | with_reducible first | refine Z.drawZ_rule tabOk mixOk ?_ | refine Z.apZ_mk (by kernel_rfl) ?_)
    all_goals (try (conv => whnf)))
  all_goals try (show Nat.ble _ _ = true; rfl)
  all_goals try (exfalso; rename_i hz; cases hz; done)
  all_goals try (exfalso; (try simp only [LN] at *) <;> omega)
  all_goals first
    | ((first | (with_reducible apply Z.retF2)); (focus (exact rfl)); (repeat' (first | exact trivial | (refine Z.frz_oslw (l := (L.take p ++ (⟨s, k, c.1, c.2⟩ : Kc) :: L.drop p)) (f := cK) (ty := 74) (bx := false) rfl ?_ ?_ (fun _ => rfl); (focus (first | (simp; omega))); (focus (first | exact (congrArg (List.take _) (Z.g_insp (f := cK) (l := L) (g := cK ⟨0, 0, 0, 0⟩) (v := (⟨s, k, c.1, c.2⟩ : Kc)) (by omega) (Z.gS_eq (by omega) rfl) (Z.gT_eqp (f := cK) (by omega) (.inl ⟨(Nat.min_eq_right (by omega)).trans (by omega), by omega⟩)))).trans (List.take_of_length_le (by simp; omega))))) | (refine Z.fq_gsl (l := [(⟨s, k, y⟩ : Rcd)]) (f := cR) (g := eR) (sz := 3) (ty := 39) rfl (fun _ => rfl) ?_) | (with_reducible apply Z.frz_one) | (with_reducible apply Z.frz_agg) | (with_reducible apply Z.fq_int) | (exact Z.frz_nil) | exact rfl | apply And.intro)); (all_goals (try exact (fun _ => none))); all_goals (first | (simp; done)))
end Go.Proofs.Ytehhmkdghgabaaa
namespace Go.Proofs.Ytehhmkdghgabaaa
open Go Go.RowKit Wx
set_option linter.unusedVariables false
set_option linter.unusedSimpArgs false
set_option maxHeartbeats 4000000
theorem con_empagg {P : Program} {g : FuncId} {sz : Nat} {cs : List Ce} {av : List A0} {post : AV → Wx.Kr → Nat → Prop} (ad : Addr) (cap : Nat) (h : Con P g (.agg (.ro false sz [] :: cs) :: av) post) : Con P g (.agg (.v (.slice (some ad) 0 cap) :: cs) :: av) post := by
  refine ⟨h.fn, fun w vs hvs => ?_⟩
  cases vs with
  | nil => exact hvs.elim
  | cons v vs =>
    obtain ⟨⟨us, rfl, hus⟩, hvs⟩ := hvs
    cases us with
    | nil => exact hus.elim
    | cons u us =>
      obtain ⟨hu, hus⟩ := hus
      have hu : u = .slice (some ad) 0 cap := hu
      subst hu
      exact h.run w _ ⟨⟨_, rfl, (show Rd _ (.ro sz []) _ from .emp _ ad cap), hus⟩, hvs⟩
end Go.Proofs.Ytehhmkdghgabaaa
namespace Go.Proofs.Ytehhmkdghgabaaa
open Go Go.RowKit Wx
set_option linter.unusedVariables false
set_option linter.unusedSimpArgs false
set_option maxHeartbeats 4000000
theorem do_0zn (t w a b : Int) (ins : List Int) (s k v : Int) (c : Int × Int) (O : List Int) (hi : ins.length ≤ 9223372036854775807) (hO : O.length ≤ 1) (hk : keyOk s k = true) (hr : Ops.doF t w ins a b 0 0 v = (c, O, 0)) (hc : c = (0, 0)) : Con Try.prog 64 [.agg [.v (.int .i64 t), .v (.int .i64 w), .ro false 1 (ins.map Ops.eI), .v (.int .i64 a), .v (.int .i64 b)], .agg [.v (.slice none 0 0)], .agg [.v (.int .i64 s), .v (.int .i64 k), .v (.int .i64 v)]] (fun rx rK rt => rx = .tup [.agg [.ro true 4 (([] : List Kc).map eK)], .one (.ro true 3 ((O.map fun x => (⟨s, k, x⟩ : Rcd)).map eR)), .one (.v (.int .i64 0))] ∧ rK = [] ∧ rt = 0) := by
  refine Z.con_ofF tabOk 22 Try.f64 _ Try.func64 (by kernel_rfl) rfl rfl rfl rfl ?_
  have ck := rec_con s k v
  rw [hk] at ck
  simp only [cond_true] at ck
  have cf := find_con [] s k v (by simp) rfl
  rw [show thereR [] s k = false from rfl, show posR [] s k = 0 from rfl] at cf
  have cd := Ops.do_con t w a b 0 0 v ins hi (by decide)
  rw [hr] at cd
  dsimp only at cd
  subst hc
  have cw := clonek_0
  rcases O with _ | ⟨y, _ | ⟨z, O⟩⟩
  rotate_right 1
  · exact absurd hO (by simp)
  all_goals (
    repeat' ((conv => whnf); first
      | ((with_reducible apply spB_cong); (focus (simp only [beq_self_eq_true, bne_self_eq_false, Bool.true_bne, Bool.false_bne, Bool.bne_true, Bool.bne_false, Bool.true_beq, Bool.false_beq, Bool.not_true, Bool.not_false, Bool.not_not, Int.reduceBEq, Int.reduceBNe, Int.reduceLE, Int.reduceLT, Int.reduceEq, decide_true, decide_false]; rfl)))
      | with_reducible first | refine spB_no (by decide) ?_
      | (with_reducible refine spB_dec ?_ ?_ <;> intro _ <;> (try (exfalso; first | contradiction | omega | (rename_i hz; refine hz ?_; simp; done) | (rename_i hz; simp at hz; done) | (simp only [LN] at *; omega))))
      | with_reducible first | refine Z.loopZ_unroll tabOk 3 ?_
      | ((with_reducible refine posE_pos ?_ ?_); (focus ((try simp only [LN] at *) <;> omega)))
      | ((with_reducible apply rowN_mk); (focus rfl))
      | ((with_reducible apply ixN_lit); (focus (exact rfl)); (focus (exact rfl)))
      | ((with_reducible refine apdN.mk ?_ ?_ ?_ ?_ ?_ ?_); (focus (first | rfl)); (focus (first | exact one_all (by rfl))); (focus ((try simp only [LN] at *) <;> omega)); (focus ((try simp only [LN] at *) <;> omega)); (focus ((try simp only [LN] at *) <;> omega)))
      | with_reducible refine wr_i64 (by first | omega | (simp only [LN] at *; omega)) ?_
      | with_reducible first | refine Z.callZ_in tabOk 38 Try.f101 _ Try.func101 (by kernel_rfl) rfl rfl rfl ?_ | refine Z.callZ_in tabOk 67 Try.f60 _ Try.func60 (by kernel_rfl) rfl rfl rfl ?_
      | ((first | (with_reducible refine Z.callZ_mk ?_ (cd) ?_) | (with_reducible refine Z.callZ_mk ?_ (ck) ?_) | (with_reducible refine Z.callZ_mk ?_ (cf) ?_) | (with_reducible refine Z.callZ_mk ?_ (cw) ?_)); (focus ((repeat' (first | exact trivial | exact rfl | exact Z.low_nil | exact .inl rfl | apply And.intro)); done)))
      | ((with_reducible apply ex_and); exact rfl)
      | with_reducible first | refine Z.drawZ_rule tabOk mixOk ?_ | refine Z.apZ_mk (by kernel_rfl) ?_)
    all_goals (try (conv => whnf)))
  all_goals try (show Nat.ble _ _ = true; rfl)
  all_goals try (exfalso; rename_i hz; cases hz; done)
  all_goals try (exfalso; (try simp only [LN] at *) <;> omega)
  all_goals first
    | ((first | (with_reducible apply Z.retF2)); (focus (exact rfl)); (repeat' (first | exact trivial | (refine Z.fq_gsl (l := [(⟨s, k, y⟩ : Rcd)]) (f := cR) (g := eR) (sz := 3) (ty := 39) rfl (fun _ => rfl) ?_) | (with_reducible apply Z.frz_one) | (with_reducible apply Z.frz_agg) | (with_reducible apply Z.fq_int) | (exact Z.frz_nil) | exact rfl | apply And.intro)); (all_goals (try exact (fun _ => none))); all_goals (first | (simp; done)))
theorem do_0ze (t w a b : Int) (ins : List Int) (ad : Addr) (cap : Nat) (s k v : Int) (c : Int × Int) (O : List Int) (hi : ins.length ≤ 9223372036854775807) (hO : O.length ≤ 1) (hk : keyOk s k = true) (hr : Ops.doF t w ins a b 0 0 v = (c, O, 0)) (hc : c = (0, 0)) : Con Try.prog 64 [.agg [.v (.int .i64 t), .v (.int .i64 w), .ro false 1 (ins.map Ops.eI), .v (.int .i64 a), .v (.int .i64 b)], .agg [.v (.slice (some ad) 0 cap)], .agg [.v (.int .i64 s), .v (.int .i64 k), .v (.int .i64 v)]] (fun rx rK rt => rx = .tup [.agg [.ro true 4 (([] : List Kc).map eK)], .one (.ro true 3 ((O.map fun x => (⟨s, k, x⟩ : Rcd)).map eR)), .one (.v (.int .i64 0))] ∧ rK = [] ∧ rt = 0) := by
  refine Z.con_ofF tabOk 22 Try.f64 _ Try.func64 (by kernel_rfl) rfl rfl rfl rfl ?_
  have ck := rec_con s k v
  rw [hk] at ck
  simp only [cond_true] at ck
  have cf := find_con [] s k v (by simp) rfl
  rw [show thereR [] s k = false from rfl, show posR [] s k = 0 from rfl] at cf
  have cd := Ops.do_con t w a b 0 0 v ins hi (by decide)
  rw [hr] at cd
  dsimp only at cd
  subst hc
  have cf := con_empagg ad cap cf
  have cw := clonek_1 ad cap
  rcases O with _ | ⟨y, _ | ⟨z, O⟩⟩
  rotate_right 1
  · exact absurd hO (by simp)
  all_goals (
    repeat' ((conv => whnf); first
      | ((with_reducible apply spB_cong); (focus (simp only [beq_self_eq_true, bne_self_eq_false, Bool.true_bne, Bool.false_bne, Bool.bne_true, Bool.bne_false, Bool.true_beq, Bool.false_beq, Bool.not_true, Bool.not_false, Bool.not_not, Int.reduceBEq, Int.reduceBNe, Int.reduceLE, Int.reduceLT, Int.reduceEq, decide_true, decide_false]; rfl)))
      | with_reducible first | refine spB_no (by decide) ?_
      | (with_reducible refine spB_dec ?_ ?_ <;> intro _ <;> (try (exfalso; first | contradiction | omega | (rename_i hz; refine hz ?_; simp; done) | (rename_i hz; simp at hz; done) | (simp only [LN] at *; omega))))
      | with_reducible first | refine Z.loopZ_unroll tabOk 3 ?_
      | ((with_reducible refine posE_pos ?_ ?_); (focus ((try simp only [LN] at *) <;> omega)))
      | ((with_reducible apply rowN_mk); (focus rfl))
      | ((with_reducible apply ixN_lit); (focus (exact rfl)); (focus (exact rfl)))
      | ((with_reducible refine apdN.mk ?_ ?_ ?_ ?_ ?_ ?_); (focus (first | rfl)); (focus (first | exact one_all (by rfl))); (focus ((try simp only [LN] at *) <;> omega)); (focus ((try simp only [LN] at *) <;> omega)); (focus ((try simp only [LN] at *) <;> omega)))
      | with_reducible refine wr_i64 (by first | omega | (simp only [LN] at *; omega)) ?_
      | with_reducible first | refine Z.callZ_in tabOk 38 Try.f101 _ Try.func101 (by kernel_rfl) rfl rfl rfl ?_ | refine Z.callZ_in tabOk 67 Try.f60 _ Try.func60 (by kernel_rfl) rfl rfl rfl ?_
      | ((first | (with_reducible refine Z.callZ_mk ?_ (cd) ?_) | (with_reducible refine Z.callZ_mk ?_ (ck) ?_) | (with_reducible refine Z.callZ_mk ?_ (cf) ?_) | (with_reducible refine Z.callZ_mk ?_ (cw) ?_)); (focus ((repeat' (first | exact trivial | exact rfl | apply And.intro)); done)))
      | ((with_reducible apply ex_and); exact rfl)
      | with_reducible first | refine Z.drawZ_rule tabOk mixOk ?_ | refine Z.apZ_mk (by kernel_rfl) ?_)
    all_goals (try (conv => whnf)))
  all_goals try (show Nat.ble _ _ = true; rfl)
  all_goals try (exfalso; rename_i hz; cases hz; done)
  all_goals try (exfalso; (try simp only [LN] at *) <;> omega)
  all_goals first
    | ((first | (with_reducible apply Z.retF2)); (focus (exact rfl)); (repeat' (first | exact trivial | (refine Z.fq_gsl (l := [(⟨s, k, y⟩ : Rcd)]) (f := cR) (g := eR) (sz := 3) (ty := 39) rfl (fun _ => rfl) ?_) | (with_reducible apply Z.frz_one) | (with_reducible apply Z.frz_agg) | (with_reducible apply Z.fq_int) | (exact Z.frz_nil) | (exact Z.frz_osl0 rfl rfl rfl) | exact rfl | apply And.intro)); (all_goals (try exact (fun _ => none))); all_goals (first | (simp; done)))
end Go.Proofs.Ytehhmkdghgabaaa
namespace Go.Proofs.Ytehhmkdghgabaaa
open Go Go.RowKit Wx
set_option linter.unusedVariables false
set_option linter.unusedSimpArgs false
set_option maxHeartbeats 4000000
theorem do_0cn (t w a b : Int) (ins : List Int) (s k v : Int) (c : Int × Int) (O : List Int) (hi : ins.length ≤ 9223372036854775807) (hO : O.length ≤ 1) (hk : keyOk s k = true) (hr : Ops.doF t w ins a b 0 0 v = (c, O, 0)) (hc : 0 < c.1) : Con Try.prog 64 [.agg [.v (.int .i64 t), .v (.int .i64 w), .ro false 1 (ins.map Ops.eI), .v (.int .i64 a), .v (.int .i64 b)], .agg [.v (.slice none 0 0)], .agg [.v (.int .i64 s), .v (.int .i64 k), .v (.int .i64 v)]] (fun rx rK rt => rx = .tup [.agg [.ro true 4 ([(⟨s, k, c.1, c.2⟩ : Kc)].map eK)], .one (.ro true 3 ((O.map fun x => (⟨s, k, x⟩ : Rcd)).map eR)), .one (.v (.int .i64 0))] ∧ rK = [] ∧ rt = 0) := by
  refine Z.con_ofF tabOk 22 Try.f64 _ Try.func64 (by kernel_rfl) rfl rfl rfl rfl ?_
  have ck := rec_con s k v
  rw [hk] at ck
  simp only [cond_true] at ck
  have cf := find_con [] s k v (by simp) rfl
  rw [show thereR [] s k = false from rfl, show posR [] s k = 0 from rfl] at cf
  have cd := Ops.do_con t w a b 0 0 v ins hi (by decide)
  rw [hr] at cd
  dsimp only at cd
  have hcz : (c.1 == 0 && (c.2 == 0 && true)) = false := by rw [show (c.1 == 0) = false by simp; omega]; rfl
  have cw := clonek_0
  rcases O with _ | ⟨y, _ | ⟨z, O⟩⟩
  rotate_right 1
  · exact absurd hO (by simp)
  all_goals (
    repeat' ((conv => whnf); first
      | with_reducible first | refine spB_t ?_
      | ((with_reducible apply spB_cong); (focus (simp only [beq_self_eq_true, bne_self_eq_false, Bool.true_bne, Bool.false_bne, Bool.bne_true, Bool.bne_false, Bool.true_beq, Bool.false_beq, Bool.not_true, Bool.not_false, Bool.not_not, Int.reduceBEq, Int.reduceBNe, Int.reduceLE, Int.reduceLT, Int.reduceEq, decide_true, decide_false]; rfl)))
      | with_reducible first | refine spB_no (by decide) ?_ | refine spB_not ?_ | refine spB_no (by assumption) ?_
      | (with_reducible refine spB_dec ?_ ?_ <;> intro _ <;> (try (exfalso; first | contradiction | omega | (rename_i hz; refine hz ?_; simp; done) | (rename_i hz; simp at hz; done) | (simp only [LN] at *; omega) | (rename_i hz; exact absurd (hcz.symm.trans hz) Bool.false_ne_true))))
      | with_reducible first | refine Z.loopZ_unroll tabOk 3 ?_
      | ((with_reducible refine Z.slN_lo 0 ?_ ?_ ?_); (focus rfl); (focus ((try simp only [LN] at *) <;> omega)))
      | ((with_reducible refine posE_pos ?_ ?_); (focus ((try simp only [LN] at *) <;> omega)))
      | ((with_reducible apply rowN_mk); (focus rfl))
      | ((with_reducible apply ixN_lit); (focus (exact rfl)); (focus (exact rfl)))
      | ((with_reducible refine apdN.mk ?_ ?_ ?_ ?_ ?_ ?_); (focus (first | rfl)); (focus (first | exact one_all (by rfl))); (focus ((try simp only [LN] at *) <;> omega)); (focus ((try simp only [LN] at *) <;> omega)); (focus ((try simp only [LN] at *) <;> omega)))
      | with_reducible refine wr_i64 (by first | omega | (simp only [LN] at *; omega)) ?_
      | with_reducible first | refine Z.callZ_in tabOk 38 Try.f101 _ Try.func101 (by kernel_rfl) rfl rfl rfl ?_ | refine Z.callZ_in tabOk 67 Try.f60 _ Try.func60 (by kernel_rfl) rfl rfl rfl ?_ | refine Z.callZ_in tabOk 95 Try.f100 _ Try.func100 (by kernel_rfl) rfl rfl rfl ?_
      | ((first | (with_reducible refine Z.callZ_mk ?_ (cd) ?_) | (with_reducible refine Z.callZ_mk ?_ (ck) ?_) | (with_reducible refine Z.callZ_mk ?_ (cf) ?_) | (with_reducible refine Z.callZ_mk ?_ (cw) ?_)); (focus ((repeat' (first | exact trivial | exact rfl | exact Z.low_nil | exact .inl rfl | apply And.intro)); done)))
      | ((with_reducible apply ex_and); exact rfl)
      | with_reducible first | refine Z.drawZ_rule tabOk mixOk ?_ | refine Z.apZ_mk (by kernel_rfl) ?_)
    all_goals (try (conv => whnf)))
  all_goals try (show Nat.ble _ _ = true; rfl)
  all_goals try (exfalso; rename_i hz; cases hz; done)
  all_goals try (exfalso; (try simp only [LN] at *) <;> omega)
  all_goals first
    | ((first | (with_reducible apply Z.retF2)); (focus (exact rfl)); (repeat' (first | exact trivial | (refine Z.fq_gsl (l := [(⟨s, k, y⟩ : Rcd)]) (f := cR) (g := eR) (sz := 3) (ty := 39) rfl (fun _ => rfl) ?_) | (refine Z.fq_gsl (l := [(⟨s, k, c.1, c.2⟩ : Kc)]) (f := cK) (g := eK) (sz := 4) (ty := 74) rfl (fun _ => rfl) ?_) | (with_reducible apply Z.frz_one) | (with_reducible apply Z.frz_agg) | (with_reducible apply Z.fq_int) | (exact Z.frz_nil) | exact rfl | apply And.intro)); (all_goals (try exact (fun _ => none))); all_goals (first | (simp; done)))
theorem do_0ce (t w a b : Int) (ins : List Int) (ad : Addr) (cap : Nat) (s k v : Int) (c : Int × Int) (O : List Int) (hi : ins.length ≤ 9223372036854775807) (hO : O.length ≤ 1) (hk : keyOk s k = true) (hr : Ops.doF t w ins a b 0 0 v = (c, O, 0)) (hc : 0 < c.1) : Con Try.prog 64 [.agg [.v (.int .i64 t), .v (.int .i64 w), .ro false 1 (ins.map Ops.eI), .v (.int .i64 a), .v (.int .i64 b)], .agg [.v (.slice (some ad) 0 cap)], .agg [.v (.int .i64 s), .v (.int .i64 k), .v (.int .i64 v)]] (fun rx rK rt => rx = .tup [.agg [.ro true 4 ([(⟨s, k, c.1, c.2⟩ : Kc)].map eK)], .one (.ro true 3 ((O.map fun x => (⟨s, k, x⟩ : Rcd)).map eR)), .one (.v (.int .i64 0))] ∧ rK = [] ∧ rt = 0) := by
  refine Z.con_ofF tabOk 22 Try.f64 _ Try.func64 (by kernel_rfl) rfl rfl rfl rfl ?_
  have ck := rec_con s k v
  rw [hk] at ck
  simp only [cond_true] at ck
  have cf := find_con [] s k v (by simp) rfl
  rw [show thereR [] s k = false from rfl, show posR [] s k = 0 from rfl] at cf
  have cd := Ops.do_con t w a b 0 0 v ins hi (by decide)
  rw [hr] at cd
  dsimp only at cd
  have hcz : (c.1 == 0 && (c.2 == 0 && true)) = false := by rw [show (c.1 == 0) = false by simp; omega]; rfl
  have cf := con_empagg ad cap cf
  have cw := clonek_1 ad cap
  rcases O with _ | ⟨y, _ | ⟨z, O⟩⟩
  rotate_right 1
  · exact absurd hO (by simp)
  all_goals (
    repeat' ((conv => whnf); first
      | with_reducible first | refine spB_t ?_
      | ((with_reducible apply spB_cong); (focus (simp only [beq_self_eq_true, bne_self_eq_false, Bool.true_bne, Bool.false_bne, Bool.bne_true, Bool.bne_false, Bool.true_beq, Bool.false_beq, Bool.not_true, Bool.not_false, Bool.not_not, Int.reduceBEq, Int.reduceBNe, Int.reduceLE, Int.reduceLT, Int.reduceEq, decide_true, decide_false]; rfl)))
      | with_reducible first | refine spB_no (by decide) ?_ | refine spB_not ?_ | refine spB_no (by assumption) ?_
      | (with_reducible refine spB_dec ?_ ?_ <;> intro _ <;> (try (exfalso; first | contradiction | omega | (rename_i hz; refine hz ?_; simp; done) | (rename_i hz; simp at hz; done) | (simp only [LN] at *; omega) | (rename_i hz; exact absurd (hcz.symm.trans hz) Bool.false_ne_true))))
      | with_reducible first | refine Z.loopZ_unroll tabOk 3 ?_
      | ((with_reducible refine Z.slN_lo 0 ?_ ?_ ?_); (focus rfl); (focus ((try simp only [LN] at *) <;> omega)))
      | ((with_reducible refine apdE_n ?_); (with_reducible refine apdN.mk ?_ ?_ ?_ ?_ ?_ ?_); (focus rfl); (focus (exact one_all (by rfl))); (focus (simp; done)); (focus ((try simp only [LN] at *) <;> omega)); (focus ((try simp only [LN] at *) <;> omega)))
      | ((with_reducible refine posE_pos ?_ ?_); (focus ((try simp only [LN] at *) <;> omega)))
      | ((with_reducible apply rowN_mk); (focus rfl))
      | ((with_reducible apply ixN_lit); (focus (exact rfl)); (focus (exact rfl)))
      | ((with_reducible refine slE_b ?_ ?_); (focus ((try simp only [LN] at *) <;> omega)))
      | ((with_reducible refine apdN.mk ?_ ?_ ?_ ?_ ?_ ?_); (focus (first | rfl)); (focus (first | exact one_all (by rfl))); (focus ((try simp only [LN] at *) <;> omega)); (focus ((try simp only [LN] at *) <;> omega)); (focus ((try simp only [LN] at *) <;> omega)))
      | with_reducible refine wr_i64 (by first | omega | (simp only [LN] at *; omega)) ?_
      | with_reducible first | refine Z.callZ_in tabOk 38 Try.f101 _ Try.func101 (by kernel_rfl) rfl rfl rfl ?_ | refine Z.callZ_in tabOk 67 Try.f60 _ Try.func60 (by kernel_rfl) rfl rfl rfl ?_ | refine Z.callZ_in tabOk 95 Try.f100 _ Try.func100 (by kernel_rfl) rfl rfl rfl ?_
      | ((first | (with_reducible refine Z.callZ_mk ?_ (cd) ?_) | (with_reducible refine Z.callZ_mk ?_ (ck) ?_) | (with_reducible refine Z.callZ_mk ?_ (cf) ?_) | (with_reducible refine Z.callZ_mk ?_ (cw) ?_)); (focus ((repeat' (first | exact trivial | exact rfl | apply And.intro)); done)))
      | ((with_reducible apply ex_and); exact rfl)
      | with_reducible first | refine Z.drawZ_rule tabOk mixOk ?_ | refine Z.apZ_mk (by kernel_rfl) ?_)
    all_goals (try (conv => whnf)))
  all_goals try (show Nat.ble _ _ = true; rfl)
  all_goals try (exfalso; rename_i hz; cases hz; done)
  all_goals try (exfalso; (try simp only [LN] at *) <;> omega)
  all_goals first
    | ((first | (with_reducible apply Z.retF2)); (focus (exact rfl)); (repeat' (first | exact trivial | (refine Z.fq_gsl (l := [(⟨s, k, y⟩ : Rcd)]) (f := cR) (g := eR) (sz := 3) (ty := 39) rfl (fun _ => rfl) ?_) | (refine Z.frz_osl (l := [(⟨s, k, c.1, c.2⟩ : Kc)]) (f := cK) (ty := 74) (bx := false) (by rfl) (by simp) (fun _ => rfl)) | (with_reducible apply Z.frz_one) | (with_reducible apply Z.frz_agg) | (with_reducible apply Z.fq_int) | (exact Z.frz_nil) | exact rfl | apply And.intro)); (all_goals (try exact (fun _ => none))); all_goals (first | (simp; done)))
end Go.Proofs.Ytehhmkdghgabaaa
namespace Go.Proofs.Ytehhmkdghgabaaa
open Go Go.RowKit Wx
set_option linter.unusedVariables false
set_option linter.unusedSimpArgs false
set_option maxHeartbeats 4000000
theorem do_bad1 (t w a b : Int) (ins : List Int) (l : List Kc) (s k v : Int) (hl : l.length ≤ 1000) (hk : keyOk s k = false) : Con Try.prog 64 [.agg [.v (.int .i64 t), .v (.int .i64 w), .ro false 1 (ins.map Ops.eI), .v (.int .i64 a), .v (.int .i64 b)], .agg [.ro false 4 (l.map eK)], .agg [.v (.int .i64 s), .v (.int .i64 k), .v (.int .i64 v)]] (fun rx rK rt => rx = .tup [.agg [.ro true 4 (([] : List Kc).map eK)], .one (.ro true 3 (([] : List Rcd).map eR)), .one (.v (.int .i64 150))] ∧ rK = [] ∧ rt = 0) := by
  refine Z.con_ofF tabOk 22 Try.f64 _ Try.func64 (by kernel_rfl) rfl rfl rfl rfl ?_
  have ck := rec_con s k v
  rw [hk] at ck
  simp only [cond_false] at ck
  repeat' ((conv => whnf); first
    | with_reducible first | refine spB_t ?_
    | ((with_reducible apply spB_cong); (focus (simp only [beq_self_eq_true, bne_self_eq_false, Bool.true_bne, Bool.false_bne, Bool.bne_true, Bool.bne_false, Bool.true_beq, Bool.false_beq, Bool.not_true, Bool.not_false, Bool.not_not, Int.reduceBEq, Int.reduceBNe, Int.reduceLE, Int.reduceLT, Int.reduceEq, decide_true, decide_false]; rfl)))
    | with_reducible first | refine Z.callZ_in tabOk 67 Try.f60 _ Try.func60 (by kernel_rfl) rfl rfl rfl ?_
    | ((first | (with_reducible refine Z.callZ_mk ?_ (ck) ?_)); (focus ((repeat' (first | exact trivial | exact rfl | apply And.intro)); done)))
    | ((with_reducible apply ex_and); exact rfl)
    | with_reducible first | refine Z.drawZ_rule tabOk mixOk ?_ | refine Z.apZ_mk (by kernel_rfl) ?_)
  all_goals (try (conv => whnf))
  all_goals try (show Nat.ble _ _ = true; rfl)
  all_goals try (exfalso; rename_i hz; cases hz; done)
  all_goals try (exfalso; (try simp only [LN] at *) <;> omega)
  all_goals first
    | ((first | (with_reducible apply Z.retF2)); (focus (exact rfl)); (repeat' (first | exact trivial | (with_reducible apply Z.frz_one) | (with_reducible apply Z.frz_agg) | (exact Z.frz_nil) | exact rfl | apply And.intro)); (all_goals (try exact (fun _ => none))); all_goals (first | (simp; done)))
theorem do_bad2 (t w a b : Int) (ins : List Int) (l : List Kc) (s k v : Int) (e : Int) (p : Nat) (hi : ins.length ≤ 9223372036854775807) (hl : l.length ≤ 1000) (ht : tabR l = true) (hk : keyOk s k = true) (hth : thereR l s k = false) (hp : posR l s k = p) (hr : Ops.doF t w ins a b 0 0 v = ((0, 0), [], e)) (he : e ≠ 0) : Con Try.prog 64 [.agg [.v (.int .i64 t), .v (.int .i64 w), .ro false 1 (ins.map Ops.eI), .v (.int .i64 a), .v (.int .i64 b)], .agg [.ro false 4 (l.map eK)], .agg [.v (.int .i64 s), .v (.int .i64 k), .v (.int .i64 v)]] (fun rx rK rt => rx = .tup [.agg [.ro true 4 (([] : List Kc).map eK)], .one (.ro true 3 (([] : List Rcd).map eR)), .one (.v (.int .i64 e))] ∧ rK = [] ∧ rt = 0) := by
  refine Z.con_ofF tabOk 22 Try.f64 _ Try.func64 (by kernel_rfl) rfl rfl rfl rfl ?_
  have ck := rec_con s k v
  rw [hk] at ck
  simp only [cond_true, cond_false] at ck
  have cf := find_con l s k v hl ht
  rw [hth, hp] at cf
  have cd := Ops.do_con t w a b 0 0 v ins hi (by decide)
  rw [hr] at cd
  dsimp only at cd
  have hez : (e == 0) = false := by simpa using he
  repeat' ((conv => whnf); first
    | ((with_reducible apply spB_cong); (focus (simp only [beq_self_eq_true, bne_self_eq_false, Bool.true_bne, Bool.false_bne, Bool.bne_true, Bool.bne_false, Bool.true_beq, Bool.false_beq, Bool.not_true, Bool.not_false, Bool.not_not, Int.reduceBEq, Int.reduceBNe, Int.reduceLE, Int.reduceLT, Int.reduceEq, decide_true, decide_false]; rfl)))
    | with_reducible first | refine spB_no (by decide) ?_
    | (with_reducible refine spB_bne ?_ ?_ <;> intro _ <;> (try (exfalso; first | contradiction | omega | (rename_i hz; refine hz ?_; simp; done) | (rename_i hz; simp at hz; done) | (simp only [LN] at *; omega) | (simp_all; done))))
    | with_reducible first | refine Z.loopZ_unroll tabOk 3 ?_
    | with_reducible first | refine Z.callZ_in tabOk 38 Try.f101 _ Try.func101 (by kernel_rfl) rfl rfl rfl ?_ | refine Z.callZ_in tabOk 67 Try.f60 _ Try.func60 (by kernel_rfl) rfl rfl rfl ?_
    | ((first | (with_reducible refine Z.callZ_mk ?_ (cd) ?_) | (with_reducible refine Z.callZ_mk ?_ (ck) ?_) | (with_reducible refine Z.callZ_mk ?_ (cf) ?_)); (focus ((repeat' (first | exact trivial | exact rfl | apply And.intro)); done)))
    | ((with_reducible apply ex_and); exact rfl)
    | with_reducible first | refine Z.drawZ_rule tabOk mixOk ?_ | refine Z.apZ_mk (by kernel_rfl) ?_)
  all_goals (try (conv => whnf))
  all_goals try (show Nat.ble _ _ = true; rfl)
  all_goals try (exfalso; rename_i hz; cases hz; done)
  all_goals try (exfalso; (try simp only [LN] at *) <;> omega)
  all_goals first
    | ((first | (with_reducible apply Z.retF2)); (focus (exact rfl)); (repeat' (first | exact trivial | (with_reducible apply Z.frz_one) | (with_reducible apply Z.frz_agg) | (exact Z.frz_nil) | exact rfl | apply And.intro)); (all_goals (try exact (fun _ => none))); all_goals (first | (simp; done)))
theorem do_bad3 (t w a b : Int) (ins : List Int) (l : List Kc) (s k v : Int) (e : Int) (p : Nat) (hi : ins.length ≤ 9223372036854775807) (hl : l.length ≤ 1000) (ht : tabR l = true) (hk : keyOk s k = true) (hth : thereR l s k = true) (hp : posR l s k = p) (x : Kc) (hx : l[p]? = some x) (hpl : p < l.length) (hc0 : x.cnt ≤ 9223372036854775807) (hr : Ops.doF t w ins a b x.cnt x.sum v = ((0, 0), [], e)) (he : e ≠ 0) : Con Try.prog 64 [.agg [.v (.int .i64 t), .v (.int .i64 w), .ro false 1 (ins.map Ops.eI), .v (.int .i64 a), .v (.int .i64 b)], .agg [.ro false 4 (l.map eK)], .agg [.v (.int .i64 s), .v (.int .i64 k), .v (.int .i64 v)]] (fun rx rK rt => rx = .tup [.agg [.ro true 4 (([] : List Kc).map eK)], .one (.ro true 3 (([] : List Rcd).map eR)), .one (.v (.int .i64 e))] ∧ rK = [] ∧ rt = 0) := by
  refine Z.con_ofF tabOk 22 Try.f64 _ Try.func64 (by kernel_rfl) rfl rfl rfl rfl ?_
  have ck := rec_con s k v
  rw [hk] at ck
  simp only [cond_true, cond_false] at ck
  have cf := find_con l s k v hl ht
  rw [hth, hp] at cf
  have cd := Ops.do_con t w a b x.cnt x.sum v ins hi hc0
  rw [hr] at cd
  dsimp only at cd
  have hez : (e == 0) = false := by simpa using he
  repeat' ((conv => whnf); first
    | with_reducible first | refine spB_t ?_
    | ((with_reducible apply spB_cong); (focus (simp only [beq_self_eq_true, bne_self_eq_false, Bool.true_bne, Bool.false_bne, Bool.bne_true, Bool.bne_false, Bool.true_beq, Bool.false_beq, Bool.not_true, Bool.not_false, Bool.not_not, Int.reduceBEq, Int.reduceBNe, Int.reduceLE, Int.reduceLT, Int.reduceEq, decide_true, decide_false]; rfl)))
    | with_reducible first | refine spB_no (by decide) ?_
    | (with_reducible refine spB_bne ?_ ?_ <;> intro _ <;> (try (exfalso; first | contradiction | omega | (rename_i hz; refine hz ?_; simp; done) | (rename_i hz; simp at hz; done) | (simp only [LN] at *; omega) | (simp_all; done))))
    | with_reducible first | refine Z.rowN_known hx ?_
    | ((with_reducible refine ixN_mk (p) ?_ ?_ ?_); (focus (first | rfl)); (focus ((try simp only [LN] at *) <;> omega)))
    | with_reducible first | refine Z.loopZ_unroll tabOk 3 ?_
    | with_reducible first | refine Z.callZ_in tabOk 38 Try.f101 _ Try.func101 (by kernel_rfl) rfl rfl rfl ?_ | refine Z.callZ_in tabOk 67 Try.f60 _ Try.func60 (by kernel_rfl) rfl rfl rfl ?_
    | ((first | (with_reducible refine Z.callZ_mk ?_ (cd) ?_) | (with_reducible refine Z.callZ_mk ?_ (ck) ?_) | (with_reducible refine Z.callZ_mk ?_ (cf) ?_)); (focus ((repeat' (first | exact trivial | exact rfl | apply And.intro)); done)))
    | ((with_reducible apply ex_and); exact rfl)
    | with_reducible first | refine Z.drawZ_rule tabOk mixOk ?_ | refine Z.apZ_mk (by kernel_rfl) ?_)
  all_goals (try (conv => whnf))
  all_goals try (show Nat.ble _ _ = true; rfl)
  all_goals try (exfalso; rename_i hz; cases hz; done)
  all_goals try (exfalso; (try simp only [LN] at *) <;> omega)
  all_goals first
    | ((first | (with_reducible apply Z.retF2)); (focus (exact rfl)); (repeat' (first | exact trivial | (with_reducible apply Z.frz_one) | (with_reducible apply Z.frz_agg) | (exact Z.frz_nil) | exact rfl | apply And.intro)); (all_goals (try exact (fun _ => none))); all_goals (first | (simp; done)))
end Go.Proofs.Ytehhmkdghgabaaa
namespace Go.Proofs.Ytehhmkdghgabaaa
open Go Go.RowKit Wx
set_option linter.unusedVariables false
set_option linter.unusedSimpArgs false
set_option maxHeartbeats 4000000
theorem con_nil2 {P : Program} {g : FuncId} {sz : Nat} {cs : List Ce} {x : A0} {av : List A0} {post : AV → Wx.Kr → Nat → Prop} (h0 : Con P g (x :: .agg (.v (.slice none 0 0) :: cs) :: av) post) (h1 : ∀ ad cap, Con P g (x :: .agg (.v (.slice (some ad) 0 cap) :: cs) :: av) post) : Con P g (x :: .agg (.ro false sz [] :: cs) :: av) post := by
  refine ⟨h0.fn, fun w vs hvs => ?_⟩
  cases vs with
  | nil => exact hvs.elim
  | cons v0 vs =>
    obtain ⟨hv0, hvs⟩ := hvs
    cases vs with
    | nil => exact hvs.elim
    | cons v vs =>
      obtain ⟨⟨us, rfl, hus⟩, hvs⟩ := hvs
      cases us with
      | nil => exact hus.elim
      | cons u us =>
        obtain ⟨hu, hus⟩ := hus
        have hu : Rd _ (.ro sz []) u := hu
        cases hu with
        | nil => exact h0.run w _ ⟨hv0, ⟨_, rfl, rfl, hus⟩, hvs⟩
        | emp _ ad cap => exact (h1 ad cap).run w _ ⟨hv0, ⟨_, rfl, rfl, hus⟩, hvs⟩
        | ro => exact (h1 _ _).run w _ ⟨hv0, ⟨_, rfl, rfl, hus⟩, hvs⟩
abbrev opA (o : Opr) : A0 := .agg [.v (.int .i64 o.t), .v (.int .i64 o.w), .ro false 1 (o.ins.map Ops.eI), .v (.int .i64 o.a), .v (.int .i64 o.b)]
abbrev tabA (l : List Kc) : A0 := .agg [.ro false 4 (l.map eK)]
abbrev recA (r : Rcd) : A0 := .agg [.v (.int .i64 r.src), .v (.int .i64 r.key), .v (.int .i64 r.val)]
abbrev dOut (q : List Kc × List Rcd × Int) : AV := .tup [.agg [.ro true 4 (q.1.map eK)], .one (.ro true 3 (q.2.1.map eR)), .one (.v (.int .i64 q.2.2))]
theorem get_no {l : List Kc} {s k : Int} (ht : tabR l = true) (h : thereR l s k = false) : getR l s k = (0, 0) := by
  rw [get_pos ht, h]; rfl
theorem get_yes {l : List Kc} {s k : Int} {x : Kc} (ht : tabR l = true) (h : thereR l s k = true) (hx : l[posR l s k]? = some x) : getR l s k = (x.cnt, x.sum) := by
  rw [get_pos ht, h, if_pos rfl, hx]
theorem doF_len0 {t w a b c s v : Int} {ins : List Int} : (Ops.doF t w ins a b c s v).2.1.length ≤ 1 := Ops.doF_len
theorem do_con (o : Opr) (l : List Kc) (r : Rcd) (hi : o.ins.length ≤ 9223372036854775807) (hl : l.length ≤ 1000) (ht : tabR l = true) (hcnt : ∀ x ∈ l, x.cnt ≤ 9223372036854775807) : Con Try.prog 64 [opA o, tabA l, recA r] (fun rx rK rt => rx = dOut (dT o l r) ∧ rK = [] ∧ rt = 0) := by
  obtain ⟨t, w, ins, a, b⟩ := o
  obtain ⟨s, k, v⟩ := r
  unfold dT
  dsimp only at *
  by_cases hk : keyOk s k = false
  · rw [if_pos hk]; exact do_bad1 t w a b ins l s k v hl hk
  have hk' : keyOk s k = true := by simpa using hk
  rw [if_neg hk]
  obtain ⟨D, hD⟩ : ∃ D, Ops.doF t w ins a b (getR l s k).1 (getR l s k).2 v = D := ⟨_, rfl⟩
  have hlen := doF_len0 (t := t) (w := w) (a := a) (b := b) (c := (getR l s k).1) (s := (getR l s k).2) (v := v) (ins := ins)
  have herr := doF_err (t := t) (w := w) (a := a) (b := b) (c := (getR l s k).1) (s := (getR l s k).2) (v := v) (ins := ins)
  have hcell := doF_cell (t := t) (w := w) (a := a) (b := b) (c := (getR l s k).1) (s := (getR l s k).2) (v := v) (ins := ins)
  rw [hD] at hlen herr hcell ⊢
  obtain ⟨c, O, e⟩ := D
  dsimp only at *
  by_cases he : e = 0
  rotate_left
  · rw [if_neg he]
    have h2 := herr he
    cases hth : thereR l s k with
    | false =>
      rw [get_no ht hth] at hD
      exact do_bad2 t w a b ins l s k v e _ hi hl ht hk' hth rfl (hD.trans h2) he
    | true =>
      obtain ⟨x, hx, _⟩ := there_at hth
      rw [get_yes ht hth hx] at hD
      exact do_bad3 t w a b ins l s k v e _ hi hl ht hk' hth rfl x hx (List.getElem?_eq_some_iff.1 hx).1 (hcnt x (List.mem_of_getElem? hx)) (hD.trans h2) he
  rw [if_pos he]
  subst he
  have hc := hcell rfl
  cases l with
  | nil =>
    rw [show getR [] s k = (0, 0) from rfl] at hD
    rcases hc with h | h
    · rw [show putR [] s k c = [⟨s, k, c.1, c.2⟩] from (put_new (l := []) rfl rfl h).trans rfl]
      exact con_nil2 (do_0cn t w a b ins s k v c O hi hlen hk' hD h) (fun ad cap => do_0ce t w a b ins ad cap s k v c O hi hlen hk' hD h)
    · rw [show putR [] s k c = [] by rw [h]; rfl]
      exact con_nil2 (do_0zn t w a b ins s k v c O hi hlen hk' hD h) (fun ad cap => do_0ze t w a b ins ad cap s k v c O hi hlen hk' hD h)
  | cons y l =>
    have hne : y :: l ≠ [] := by simp
    generalize y :: l = l at *
    cases hth : thereR l s k with
    | false =>
      rw [get_no ht hth] at hD
      rcases hc with h | h
      · rw [put_new ht hth h]
        by_cases hp : posR l s k < l.length
        · exact do_ni t w a b ins l s k v c O _ hi hlen hl ht hk' hD h hth rfl hne hp
        · have hp2 : posR l s k = l.length := Nat.le_antisymm (pos_le l s k) (Nat.le_of_not_lt hp)
          rw [hp2, List.take_length, List.drop_length]
          exact do_na t w a b ins l s k v c O _ hi hlen hl ht hk' hD h hth hp2 hne rfl
      · rw [h, put_same ht hth]
        rw [h] at hD
        exact do_z0 t w a b ins l s k v (0, 0) O _ hi hlen hl ht hk' hD rfl hth rfl hne
    | true =>
      obtain ⟨x, hx, _⟩ := there_at hth
      have hpl := (List.getElem?_eq_some_iff.1 hx).1
      have hxc := hcnt x (List.mem_of_getElem? hx)
      rw [get_yes ht hth hx] at hD
      rcases hc with h | h
      · rw [put_upd ht hth h]
        by_cases hp : posR l s k + 1 = l.length
        · exact do_sa t w a b ins l s k v c O _ hi hlen hl ht hk' hth rfl hne x hx hxc hD h hpl hp
        · exact do_si t w a b ins l s k v c O _ hi hlen hl ht hk' hth rfl hne x hx hxc hD h hpl (by omega)
      · rw [h, put_del ht hth]
        rw [h] at hD
        by_cases hp : posR l s k + 1 = l.length
        · exact do_za t w a b ins l s k v (0, 0) O _ hi hlen hl ht hk' hth rfl hne x hx hxc hD rfl hpl hp
        · exact do_zi t w a b ins l s k v (0, 0) O _ hi hlen hl ht hk' hth rfl hne x hx hxc hD rfl hpl (by omega)
end Go.Proofs.Ytehhmkdghgabaaa
namespace Go.Proofs.Ytehhmkdghgabaaa
open Go Go.RowKit Wx
set_option linter.unusedVariables false
set_option linter.unusedSimpArgs false
set_option maxHeartbeats 4000000
theorem gslo {i n : Nat} {rows : List (List Ce)} (hne : 0 < rows.length) (hn : n = rows.length) : ∀ I R u, (Ce.gsl i rows).rel I R u → (Ce.osl i 0 n none).rel I R u := fun I R u h => by
  subst hn
  rcases h with ⟨rfl, _⟩ | ⟨_, p, c', hp, rfl, h1, h2⟩
  · simp at hne
  · exact ⟨p, c', hp, by rw [Nat.zero_mul], h1, by omega, fun _ h => nomatch h⟩
end Go.Proofs.Ytehhmkdghgabaaa
namespace Go.Proofs.Ytehhmkdghgabaaa
open Go Go.RowKit Wx
set_option linter.unusedVariables false
set_option linter.unusedSimpArgs false
set_option maxHeartbeats 4000000
theorem loopZ_unr1 {P : Program} {T : Tab} {n m : Nat} {rd : Option Nat} {s : Z.S} {c : Code} {Q : Exit → Z.S → Prop} (hT : TabOk P T) (hs : Wx.get s.F 5 = some (.val (.int .i64 1))) (h : Z.loopU P T n m rd c Q 2 s) : Z.LoopZ P n m rd c s Q := Z.loopZ_unroll hT 2 h
theorem wr_shl8 {x : Int} {A : Int → Prop} (h : 0 ≤ x ∧ x < 72057594037927936) (k : A (x * 256)) : wr .u64 (x * 2 ^ (min (Int.toNat 8) IntKind.u64.bits)) A := ⟨x * 256, by
  show IntKind.u64.wrap (x * 2 ^ 8) = _
  rw [u64_in _ (by omega)]; omega, k⟩
theorem or_add {x b : Int} (h : 0 ≤ x ∧ x < 72057594037927936) (hb : 0 ≤ b ∧ b ≤ 255) : IntKind.u64.wrap ((BitVec.ofInt IntKind.u64.bits (x * 256) ||| BitVec.ofInt IntKind.u64.bits b).toNat : Int) = x * 256 + b := by
  have e := or256 h hb
  rw [u64_in (x * 2 ^ 8) (by omega), u64_in b (by omega), show x * 2 ^ 8 = x * 256 by omega] at e
  exact e
theorem wr_or0 {b : Int} {A : Int → Prop} (hb : 0 ≤ b ∧ b ≤ 255) (k : A b) : wr .u8 (IntKind.u64.wrap ((BitVec.ofInt IntKind.u64.bits (0 * 256) ||| BitVec.ofInt IntKind.u64.bits b).toNat : Int)) A := ⟨b, by
  rw [or_add (by decide) hb, u8_mod]; omega, k⟩
theorem copy_rows {l : List Int} {m k n : Nat} {z : List Ce} {fl : Bool} (hm : m = l.length) (hk : l.length ≤ k) (hn : n = l.length) : (lay (List.replicate m z) 0 (List.take k ((l.map eB).map (List.map (RT.ce fl))))).take n = l.map cB := by
  subst hn
  rw [Z.lay_copy hm hk (fun _ => rfl)]
  exact List.take_of_length_le (by simp)
theorem tk_map {r : List Int} : List.take r.length (List.map eB r) = List.map eB r := List.take_of_length_le (by simp)
theorem loopQ3 {P : Program} {n m : Nat} {rd : Option Nat} {s : Z.S} {c : Code} {Q : Exit → Z.S → Prop} {s9 : Z.S} (h : ∀ Q0 : Exit → Z.S → Prop, Q0 (.exit 0) s9 → Z.LoopZ P n m rd c s Q0) (k : Q (.exit 0) s9) : Z.LoopZ P n m rd c s Q := h Q k
theorem copied_con (l : List Int) (hl : l.length ≤ 1099511627776) : Con Try.prog 111 [.one (.ro false 1 (l.map eB))] (fun rx rK rt => rx = .c (.ro true 1 (l.map eB)) ∧ rK = [] ∧ rt = 0) := by
  refine Z.con_ofF tabOk 11 Try.f111 _ Try.func111 (by kernel_rfl) rfl rfl rfl rfl ?_
  repeat' ((conv => whnf); first
    | ((with_reducible refine cpyN.mk ?_ ?_ ?_ ?_); (focus (first | (simp; done))); (focus (first | exact one_map2 (fun _ => rfl))); (focus ((try simp only [LN] at *) <;> omega)))
    | ((with_reducible refine Z.mkN_nat ?_ ?_ ?_ ?_); (focus ((try simp only [LN] at *) <;> omega)); (focus ((try simp only [LN] at *) <;> omega)); (focus ((try simp only [LN] at *) <;> omega))))
  all_goals (try (conv => whnf))
  all_goals try (show Nat.ble _ _ = true; rfl)
  all_goals try (exfalso; rename_i hz; cases hz; done)
  all_goals try (exfalso; (try simp only [LN] at *) <;> omega)
  all_goals first
    | ((first | (with_reducible apply Z.retF1)); (focus (exact rfl)); (repeat' (first | exact trivial | (refine Z.frz_oslw (l := l) (f := cB) (ty := 5) (bx := false) rfl ?_ ?_ (fun _ => rfl); (focus (simp; done)); exact copy_rows (by simp) (by simp) (by simp)) | (with_reducible apply Z.frz_one) | apply And.intro)); (all_goals (try exact (fun _ => none))); all_goals (first | (simp; done)))
end Go.Proofs.Ytehhmkdghgabaaa
namespace Go.Proofs.Ytehhmkdghgabaaa
open Go Go.RowKit Wx
set_option linter.unusedVariables false
set_option linter.unusedSimpArgs false
set_option maxHeartbeats 4000000
theorem tk_app {E T : List Int} {S : List (List Ce)} {n : Nat} (hS : S = T.map cB) (hn : n = E.length) : List.take n (E.map cB) ++ S = (E ++ T).map cB := by
  subst hS hn
  rw [List.take_of_length_le (by simp), List.map_append]
theorem gslI {i n : Nat} {rows : List (List Ce)} (hne : 0 < rows.length) (hn : n = rows.length) : Z.Imp (.gsl i rows) (.osl i 0 n none) := fun I R u h => gslo hne hn I R u h
theorem one_rn {l : List Int} {q n : Nat} {f : Nat → Nat} : ∀ r ∈ List.take n (List.drop q ((l.map cB).map (List.map (Ce.ren f)))), ∀ c ∈ r, c.single = true := fun r hr c hc => by
  obtain ⟨t, ht, rfl⟩ := List.mem_map.1 (List.mem_of_mem_drop (List.mem_of_mem_take hr))
  obtain ⟨z, _, rfl⟩ := List.mem_map.1 ht
  simp only [List.map_cons, List.map_nil, List.mem_singleton] at hc
  subst hc
  rfl
theorem ap_rn {E T : List Int} {n m : Nat} {r : Nat → Nat} (hn : n = E.length) (hm : m = T.length) : List.take n (E.map cB) ++ List.take m (List.drop 0 ((T.map cB).map (List.map (Ce.ren r)))) = (E ++ T).map cB := by
  subst hn hm
  rw [ren_cB, List.drop_zero, List.take_of_length_le (by simp), List.take_of_length_le (by simp), List.map_append]
theorem rbytes_con (l : List Kc) (hl : l.length ≤ 9223372036854775807) (ht : tabR l = true) : Con Try.prog 39 [.agg [.ro false 4 (l.map eK)]] (fun rx rK rt => rx = .c (.ro true 1 ((encT l).map eB)) ∧ rK = [] ∧ rt = 0) := by
  refine Z.con_ofF tabOk 42 Try.f39 _ Try.func39 (by kernel_rfl) rfl rfl rfl rfl ?_
  have hl256 := tab_len ht
  have hwl : IntKind.u64.wrap ((List.map eK l).length : Int) = IntKind.u16.wrap (l.length : Int) := by rw [u16_in (by omega), List.length_map]; exact u64_in _ (by omega)
  have hwr : 0 ≤ IntKind.u16.wrap (l.length : Int) ∧ IntKind.u16.wrap (l.length : Int) < 18446744073709551616 := by rw [u16_in (by omega)]; omega
  have ch0 := high_con 1 (IntKind.u16.wrap (l.length : Int)) 2 hwr rfl (by decide)
  have hb0 : (be 2 (IntKind.u16.wrap (l.length : Int))).length = 2 := be_len
  repeat' ((conv => whnf); first
    | ((with_reducible refine wr_mk (IntKind.u16.wrap (l.length : Int)) hwl ?_))
    | ((first | (with_reducible refine Z.callZ_mk ?_ (ch0) ?_)); (focus ((repeat' (first | exact trivial | exact rfl | apply And.intro)); done)))
    | fail)
  all_goals (try (conv => whnf))
  all_goals try (show Nat.ble _ _ = true; rfl)
  all_goals try (exfalso; rename_i hz; cases hz; done)
  all_goals try (exfalso; (try simp only [LN] at *) <;> omega)
  refine Z.loopK tabOk (fun zq : Nat => [(14, .val (.int .i64 (zq : Int))), (3, .c (.osl 1 0 (be 2 (IntKind.u16.wrap (l.length : Int)) ++ (l.take zq).flatMap encK).length none))]) (fun zq : Nat => ([(0, some (Z.Ob.b ⟨[[.ro false 4 (l.map eK)]], 1, 30, true⟩)), (1, some (Z.Ob.b ⟨(be 2 (IntKind.u16.wrap (l.length : Int)) ++ (l.take zq).flatMap encK).map cB, 1, 5, false⟩))] : Z.Kr)) (fun zq => zq ≤ l.length) (fun zq => l.length - zq) 0 2 [(12, _), (13, _)] ⟨rfl, rfl, trivial⟩ [] trivial ?_ ?_ rfl rfl (Nat.zero_le _) ?_
  · repeat' (first | exact trivial | apply And.intro | exact ⟨_, rfl, Z.Imp.refl _⟩ | exact ⟨_, rfl, gslI (by simp [be_len]) (by simp [be_len])⟩)
  · repeat' (first | exact trivial | exact (fun b hb => ⟨b, hb, Z.ImpO.refl b⟩) | apply And.intro)
  rintro k HINV
  (try dsimp only at HINV); (try dsimp only)
  have hEl : (be 2 (IntKind.u16.wrap (l.length : Int)) ++ (l.take k).flatMap encK).length ≤ 2 + 18 * l.length := by rw [List.length_append, be_len, encKs_len, List.length_take]; omega
  by_cases hi : k < l.length
  · obtain ⟨x, hx⟩ := getElem?_some' (xs := l) (i := k) hi
    have hsn : (be 2 (IntKind.u16.wrap (l.length : Int)) ++ (l.take (k + 1)).flatMap encK) = (be 2 (IntKind.u16.wrap (l.length : Int)) ++ (l.take k).flatMap encK) ++ [x.src % 256, x.key % 256] ++ be 8 (IntKind.u64.wrap x.cnt) ++ be 8 (IntKind.u64.wrap x.sum) := by rw [encKs_snoc hx, encK]; simp only [List.append_assoc]
    generalize hE : (be 2 (IntKind.u16.wrap (l.length : Int)) ++ (l.take k).flatMap encK) = E at *
    have ch1 := high8 (IntKind.u64.wrap x.cnt) (u64_rng _)
    have ch2 := high8 (IntKind.u64.wrap x.sum) (u64_rng _)
    have hb1 : (be 8 (IntKind.u64.wrap x.cnt)).length = 8 := be_len
    have hb2 : (be 8 (IntKind.u64.wrap x.sum)).length = 8 := be_len
    have hn1 : be 8 (IntKind.u64.wrap x.cnt) ≠ [] := fun e => by rw [e] at hb1; simp at hb1
    have hn2 : be 8 (IntKind.u64.wrap x.sum) ≠ [] := fun e => by rw [e] at hb2; simp at hb2
    have hrw : ∀ r1 r2 : Nat → Nat, List.take (E.length + 2 + (List.map cB (be 8 (IntKind.u64.wrap x.cnt))).length) (List.take (E.length + 2) (List.take E.length (List.map cB E) ++ [cB (x.src % 256), cB (x.key % 256)]) ++ List.take (List.map cB (be 8 (IntKind.u64.wrap x.cnt))).length (List.drop 0 (List.map (List.map (Ce.ren r1)) (List.map cB (be 8 (IntKind.u64.wrap x.cnt)))))) ++ List.take (List.map cB (be 8 (IntKind.u64.wrap x.sum))).length (List.drop 0 (List.map (List.map (Ce.ren r2)) (List.map cB (be 8 (IntKind.u64.wrap x.sum))))) = List.map cB (be 2 (IntKind.u16.wrap (l.length : Int)) ++ (l.take (k + 1)).flatMap encK) := fun r1 r2 => by
      rw [show (List.take E.length (List.map cB E) ++ [cB (x.src % 256), cB (x.key % 256)]) = (E ++ [x.src % 256, x.key % 256]).map cB from tk_app rfl rfl, ap_rn (by simp) (by simp), ap_rn (by simp <;> omega) (by simp), hsn]
    have hsl : E.length + 2 + (List.map cB (be 8 (IntKind.u64.wrap x.cnt))).length + (List.map cB (be 8 (IntKind.u64.wrap x.sum))).length = (be 2 (IntKind.u16.wrap (l.length : Int)) ++ (l.take (k + 1)).flatMap encK).length := by rw [hsn]; simp only [List.length_append, List.length_map, List.length_cons, List.length_nil]
    repeat' ((conv => whnf); first
      | (with_reducible refine spB_dec ?_ ?_ <;> intro _ <;> (try (exfalso; first | contradiction | omega | (rename_i hz; refine hz ?_; simp; done) | (rename_i hz; simp at hz; done) | (simp only [LN] at *; omega))))
      | with_reducible first | refine Z.rowN_known hx ?_
      | ((with_reducible refine apdE_n ?_); (with_reducible refine apdN.mk ?_ ?_ ?_ ?_ ?_ ?_); (focus rfl); (focus (exact one_all (by rfl))); (focus (first | ((try simp only [LN] at *) <;> omega))); (iterate 2 (focus ((try simp only [LN] at *) <;> omega))))
      | ((with_reducible refine apdE_n ?_); (with_reducible refine apdN.mk ?_ ?_ ?_ ?_ ?_ ?_); (focus ((show (List.take _ (List.drop 0 (List.map (List.map (Ce.ren _)) (List.map cB (be 8 (IntKind.u64.wrap x.cnt)))))).length = _); (simp only [List.length_append, List.length_map, List.length_take, List.length_drop, List.length_cons, List.length_nil, be_len, maxLen] at *); omega)); (focus (exact one_rn)); (focus ((show _ ≤ (List.take E.length (List.map cB E) ++ [cB (x.src % 256), cB (x.key % 256)]).length); (simp only [List.length_append, List.length_map, List.length_take, List.length_drop, List.length_cons, List.length_nil, be_len, maxLen] at *); omega)); (iterate 2 (focus ((simp only [List.length_append, List.length_map, List.length_take, List.length_drop, List.length_cons, List.length_nil, be_len, maxLen] at *); omega))))
      | ((with_reducible refine apdE_n ?_); (with_reducible refine apdN.mk ?_ ?_ ?_ ?_ ?_ ?_); (focus ((show (List.take _ (List.drop 0 (List.map (List.map (Ce.ren _)) (List.map cB (be 8 (IntKind.u64.wrap x.sum)))))).length = _); (simp only [List.length_append, List.length_map, List.length_take, List.length_drop, List.length_cons, List.length_nil, be_len, maxLen] at *); omega)); (focus (exact one_rn)); (focus ((show _ ≤ (List.take (E.length + 2) (List.take E.length (List.map cB E) ++ [cB (x.src % 256), cB (x.key % 256)]) ++ List.take (List.map cB (be 8 (IntKind.u64.wrap x.cnt))).length (List.drop 0 (List.map (List.map (Ce.ren _)) (List.map cB (be 8 (IntKind.u64.wrap x.cnt)))))).length); (simp only [List.length_append, List.length_map, List.length_take, List.length_drop, List.length_cons, List.length_nil, be_len, maxLen] at *); omega)); (iterate 2 (focus ((simp only [List.length_append, List.length_map, List.length_take, List.length_drop, List.length_cons, List.length_nil, be_len, maxLen] at *); omega))))
      | with_reducible first | refine wr_mod8 ?_
      | ((with_reducible refine wr_mk (IntKind.u64.wrap x.cnt) rfl ?_))
      | ((with_reducible refine wr_mk (IntKind.u64.wrap x.sum) rfl ?_))
      | ((with_reducible apply ixN_litp); (focus (exact rfl)); (focus ((try simp only [LN] at *) <;> omega)))
      | with_reducible refine wr_i64 (by first | omega | (simp only [LN] at *; omega)) ?_
      | ((first | (with_reducible refine Z.conZ_mz ?_ (ch1) ?_)); (focus ((repeat' (first | exact trivial | exact rfl | apply And.intro)); done)))
      | ((first | (with_reducible refine Z.conZ_mz ?_ (ch2) ?_)); (focus ((repeat' (first | exact trivial | exact rfl | apply And.intro)); done)))
      | with_reducible first | refine Z.drawZ_rule tabOk mixOk ?_ | refine Z.apZ_mk (by kernel_rfl) ?_
      | fail)
    all_goals (try (conv => whnf))
    all_goals try (show Nat.ble _ _ = true; rfl)
    all_goals try (exfalso; rename_i hz; cases hz; done)
    all_goals try (exfalso; (try simp only [LN] at *) <;> omega)
    all_goals first
      | ((refine Z.rndK ((k + 1)) (fun s => [0, s.idAt 3]) rfl rfl rfl rfl ?_ ?_ ?_ ?_); (focus (repeat' (first | exact trivial | exact congrArg (fun n => some (AV.c (Ce.osl _ 0 n none))) hsl | exact rfl | apply And.intro))); (focus (repeat' (first | exact trivial | exact Z.blk_sub rfl (hrw _ _) (ren_map fun _ => rfl) | (intro b hb; cases hb; rfl) | apply And.intro))); (focus ((try dsimp only); omega)); ((try dsimp only); omega))
      | fail
  have hil : k = l.length := by omega
  subst hil
  rw [List.take_length]
  rw [show be 2 (IntKind.u16.wrap (l.length : Int)) ++ l.flatMap encK = encT l from rfl] at *
  repeat' ((conv => whnf); first
    | (with_reducible refine spB_dec ?_ ?_ <;> intro _ <;> (try (exfalso; first | contradiction | omega | (rename_i hz; refine hz ?_; simp; done) | (rename_i hz; simp at hz; done) | (simp only [LN] at *; omega))))
    | fail)
  all_goals (try (conv => whnf))
  all_goals try (show Nat.ble _ _ = true; rfl)
  all_goals try (exfalso; rename_i hz; cases hz; done)
  all_goals try (exfalso; (try simp only [LN] at *) <;> omega)
  all_goals first
    | ((first | (with_reducible apply Z.retF1)); (focus (exact rfl)); (repeat' (first | exact trivial | (with_reducible apply Z.frz_one) | ((with_reducible apply Z.fq_osl); (focus (exact rfl)); (focus (first | exact rfl)); (focus (exact fun _ => rfl))) | exact rfl | apply And.intro)); (all_goals (try exact (fun _ => none))); all_goals (first | (simp; done)))
    | fail
end Go.Proofs.Ytehhmkdghgabaaa
namespace Go.Proofs.Ytehhmkdghgabaaa
open Go Go.RowKit Wx
set_option linter.unusedVariables false
set_option linter.unusedSimpArgs false
set_option maxHeartbeats 4000000
theorem slN_lh {x y : Int} {len : Nat} {cap : Option Nat} {A : Nat → Nat → Prop} (l h : Nat) (e : x = (l : Int)) (e2 : y = (h : Int)) (h1 : l ≤ h) (h2 : h ≤ len) (k : A l h) : slN (some x) (some y) len cap A := ⟨l, h, e, e2, h1, .inl h2, k⟩
theorem num_con (l : List Int) (hl : l.length ≤ 8) (hB : isB l) : Con Try.prog 84 [.one (.ro false 1 (l.map eB))] (fun rx rK rt => rx = .val (.int .u64 (numR l)) ∧ rK = [] ∧ rt = 0) := by
  refine Z.con_ofF tabOk 20 Try.f84 _ Try.func84 (by kernel_rfl) rfl rfl rfl rfl ?_
  repeat' ((conv => whnf); first
    | with_reducible first | refine spB_t ?_
    | ((with_reducible apply spB_cong); (focus (simp only [beq_self_eq_true, bne_self_eq_false, Bool.true_bne, Bool.false_bne, Bool.bne_true, Bool.bne_false, Bool.true_beq, Bool.false_beq, Bool.not_true, Bool.not_false, Bool.not_not, Int.reduceBEq, Int.reduceBNe, Int.reduceLE, Int.reduceLT, Int.reduceEq, decide_true, decide_false]; rfl)))
    | with_reducible first | refine spB_yes (by decide) ?_ | refine spB_no (by decide) ?_ | refine spB_f ?_ | refine spB_not ?_ | refine spB_yes (by assumption) ?_ | refine spB_no (by assumption) ?_
    | (with_reducible refine spB_dec ?_ ?_ <;> intro _ <;> (try (exfalso; first | contradiction | omega | (rename_i hz; refine hz ?_; simp; done) | (rename_i hz; simp at hz; done) | (simp only [LN] at *; omega))))
    | (with_reducible refine spB_beq ?_ ?_ <;> intro _ <;> (try (exfalso; first | contradiction | omega | (rename_i hz; refine hz ?_; simp; done) | (rename_i hz; simp at hz; done) | (simp only [LN] at *; omega))))
    | (with_reducible refine spB_bne ?_ ?_ <;> intro _ <;> (try (exfalso; first | contradiction | omega | (rename_i hz; refine hz ?_; simp; done) | (rename_i hz; simp at hz; done) | (simp only [LN] at *; omega))))
    | (with_reducible refine spB_mk ?_ ?_ <;> intro _ <;> (try (exfalso; first | contradiction | omega | (rename_i hz; refine hz ?_; simp; done) | (rename_i hz; simp at hz; done) | (simp only [LN] at *; omega))))
    | ((with_reducible apply rowN_mk); (focus rfl))
    | ((with_reducible apply ixN_lit); (focus (exact rfl)); (focus (exact rfl)))
    | ((with_reducible apply ixN_litp); (focus (exact rfl)); (focus ((try simp only [LN] at *) <;> omega)))
    | ((with_reducible refine eqN_mk2 ?_ ?_); (focus rfl))
    | with_reducible refine wr_i64 (by first | omega | (simp only [LN] at *; omega)) ?_
    | with_reducible refine wr_u64 (by omega) ?_
    | with_reducible refine wr_u8 (by omega) ?_
    | with_reducible refine wr_u32 (by omega) ?_
    | with_reducible first | refine wr_mk _ rfl ?_
    | ((with_reducible refine ixN_nat ?_ ?_); (focus ((try simp only [LN] at *) <;> omega)))
    | ((with_reducible refine rowN_map ?_ ?_); (focus ((try simp only [LN] at *) <;> omega)); intro x hx)
    | with_reducible refine vN_mod (by omega) ?_
    | with_reducible first | refine vN_mk ?_
    | with_reducible refine nzN_mk (by omega) ?_
    | with_reducible refine eqN_dec (by omega) ?_
    | with_reducible first | refine apN_mk (by kernel_rfl) ?_
    | ((with_reducible refine eqN_mk2 ?_ ?_); (focus (exact Z.kb_some rfl)))
    | ((with_reducible apply ex_and); exact rfl))
  all_goals (try (conv => whnf))
  all_goals try (show Nat.ble _ _ = true; rfl)
  all_goals try (exfalso; rename_i hz; cases hz; done)
  all_goals try (exfalso; (try simp only [LN] at *) <;> omega)
  refine Z.loopK tabOk (fun zq : Nat => [(4, .val (.int .i64 (zq : Int))), (3, .val (.int .u64 (numR (l.take zq))))]) (fun zq : Nat => ([] : Z.Kr)) (fun zq => zq ≤ l.length) (fun zq => l.length - zq) 0 0 [(0, _)] ⟨rfl, trivial⟩ [] trivial ?_ ?_ rfl rfl (Nat.zero_le _) ?_
  · repeat' (first | exact trivial | apply And.intro | exact ⟨_, rfl, rfl⟩ | exact ⟨_, rfl, Z.Imp.refl _⟩ | exact ⟨_, rfl, Z.Imp.nilg _⟩ | exact ⟨_, rfl, Z.Imp.nilr _ _⟩)
  · repeat' (first | exact trivial | (intro b hb; cases hb; done) | exact (fun b hb => ⟨b, hb, Z.ImpO.refl b⟩) | (intro b hb; cases hb; refine ⟨_, rfl, ⟨rfl, rfl, rfl⟩, ?_⟩; (repeat' (first | exact trivial | apply And.intro | exact Z.Imp.refl _ | exact Z.Imp.nilg _ | exact Z.Imp.nilr _ _)); done) | apply And.intro)
  rintro i HINV
  dsimp only at HINV ⊢
  by_cases hi : i < l.length
  · obtain ⟨z, hx⟩ := getElem?_some' (xs := l) (i := i) hi
    have hzb := hB z (List.mem_of_getElem? hx)
    have hn9 := num_lt (l := l) (i := i) (by omega) (by omega) hB
    have hor : IntKind.u64.wrap ((BitVec.ofInt IntKind.u64.bits (numR (l.take i) * 256) ||| BitVec.ofInt IntKind.u64.bits z).toNat : Int) = numR (l.take (i + 1)) := by
      rw [take_snoc hx, numR_snoc]; exact or_add hn9 hzb
    repeat' ((conv => whnf); first
      | with_reducible first | refine spB_t ?_
      | ((with_reducible apply spB_cong); (focus (simp only [beq_self_eq_true, bne_self_eq_false, Bool.true_bne, Bool.false_bne, Bool.bne_true, Bool.bne_false, Bool.true_beq, Bool.false_beq, Bool.not_true, Bool.not_false, Bool.not_not, Int.reduceBEq, Int.reduceBNe, Int.reduceLE, Int.reduceLT, Int.reduceEq, decide_true, decide_false]; rfl)))
      | with_reducible first | refine spB_yes (by decide) ?_ | refine spB_no (by decide) ?_ | refine spB_f ?_ | refine spB_not ?_ | refine spB_yes (by assumption) ?_ | refine spB_no (by assumption) ?_
      | (with_reducible refine spB_dec ?_ ?_ <;> intro _ <;> (try (exfalso; first | contradiction | omega | (rename_i hz; refine hz ?_; simp; done) | (rename_i hz; simp at hz; done) | (simp only [LN] at *; omega))))
      | (with_reducible refine spB_beq ?_ ?_ <;> intro _ <;> (try (exfalso; first | contradiction | omega | (rename_i hz; refine hz ?_; simp; done) | (rename_i hz; simp at hz; done) | (simp only [LN] at *; omega))))
      | (with_reducible refine spB_bne ?_ ?_ <;> intro _ <;> (try (exfalso; first | contradiction | omega | (rename_i hz; refine hz ?_; simp; done) | (rename_i hz; simp at hz; done) | (simp only [LN] at *; omega))))
      | (with_reducible refine spB_mk ?_ ?_ <;> intro _ <;> (try (exfalso; first | contradiction | omega | (rename_i hz; refine hz ?_; simp; done) | (rename_i hz; simp at hz; done) | (simp only [LN] at *; omega))))
      | ((with_reducible refine wr_shl8 ?_ ?_); (focus (exact hn9)))
      | with_reducible first | refine Z.rowN_known hx ?_
      | ((with_reducible apply rowN_mk); (focus rfl))
      | ((with_reducible apply ixN_lit); (focus (exact rfl)); (focus (exact rfl)))
      | ((with_reducible apply ixN_litp); (focus (exact rfl)); (focus ((try simp only [LN] at *) <;> omega)))
      | ((with_reducible refine eqN_mk2 ?_ ?_); (focus rfl))
      | with_reducible refine wr_i64 (by first | omega | (simp only [LN] at *; omega)) ?_
      | with_reducible refine wr_u64 (by omega) ?_
      | with_reducible refine wr_u8 (by omega) ?_
      | with_reducible refine wr_u32 (by omega) ?_
      | with_reducible first | refine wr_mk _ rfl ?_
      | ((with_reducible refine ixN_nat ?_ ?_); (focus ((try simp only [LN] at *) <;> omega)))
      | ((with_reducible refine rowN_map ?_ ?_); (focus ((try simp only [LN] at *) <;> omega)); intro x hx)
      | with_reducible refine vN_mod (by omega) ?_
      | with_reducible first | refine vN_mk ?_
      | with_reducible refine nzN_mk (by omega) ?_
      | with_reducible refine eqN_dec (by omega) ?_
      | with_reducible first | refine apN_mk (by kernel_rfl) ?_
      | ((with_reducible refine eqN_mk2 ?_ ?_); (focus (exact Z.kb_some rfl)))
      | ((with_reducible apply ex_and); exact rfl))
    all_goals (try (conv => whnf))
    all_goals try (show Nat.ble _ _ = true; rfl)
    all_goals try (exfalso; rename_i hz; cases hz; done)
    all_goals try (exfalso; (try simp only [LN] at *) <;> omega)
    all_goals first
      | ((refine Z.rndK ((i + 1)) (fun s => []) rfl rfl rfl rfl ?_ ?_ ?_ ?_); (focus (repeat' (first | exact trivial | exact congrArg (fun z => some (AV.val (Value.int .u64 z))) hor | exact Z.map_sub (Z.MapL.ren HM0 fun _ => rfl) rfl | exact Z.it_sub rfl | exact rfl | (rw [List.map_append]; exact rfl) | apply And.intro))); (focus (repeat' (first | exact trivial | exact Z.map_sub (Z.MapL.ren HM0 fun _ => rfl) rfl | exact Z.it_sub rfl | (intro b hb; cases hb; rfl) | (intro b hb; cases hb; subst hlb; rfl) | (intro b hb; cases hb; rw [List.map_append]; rfl) | (intro b hb; cases hb; done) | exact Z.blk_sub rfl rfl (ren_map fun _ => rfl) | exact Z.blk_sub rfl rfl (Z.ren_app (ren_map fun _ => rfl) (ren_map fun _ => rfl)) | exact Z.blk_sub rfl (by first | (rw [List.map_append]; rfl) | (rw [List.map_set]; rfl) | simp only [List.map_append, List.map_cons, List.map_nil, List.map_set]) (ren_map fun _ => rfl) | exact Z.gB_sub rfl rfl (ren_map fun _ => rfl) | exact Z.gB_sub' rfl (by first | rfl | (rw [List.map_append]; rfl) | simp only [List.map_append, List.map_cons, List.map_nil]) (ren_map fun _ => rfl) | apply And.intro))); (focus (((try dsimp only); omega))); ((try dsimp only); omega))
      | (exfalso; rename_i hz; cases hz; done)
      | (exfalso; (try simp only [LN] at *) <;> omega)
      | (fail)
  have hil : i = l.length := by omega
  subst hil
  rw [List.take_length]
  repeat' ((conv => whnf); first
    | with_reducible first | refine spB_t ?_
    | ((with_reducible apply spB_cong); (focus (simp only [beq_self_eq_true, bne_self_eq_false, Bool.true_bne, Bool.false_bne, Bool.bne_true, Bool.bne_false, Bool.true_beq, Bool.false_beq, Bool.not_true, Bool.not_false, Bool.not_not, Int.reduceBEq, Int.reduceBNe, Int.reduceLE, Int.reduceLT, Int.reduceEq, decide_true, decide_false]; rfl)))
    | with_reducible first | refine spB_yes (by decide) ?_ | refine spB_no (by decide) ?_ | refine spB_f ?_ | refine spB_not ?_ | refine spB_yes (by assumption) ?_ | refine spB_no (by assumption) ?_
    | (with_reducible refine spB_dec ?_ ?_ <;> intro _ <;> (try (exfalso; first | contradiction | omega | (rename_i hz; refine hz ?_; simp; done) | (rename_i hz; simp at hz; done) | (simp only [LN] at *; omega))))
    | (with_reducible refine spB_beq ?_ ?_ <;> intro _ <;> (try (exfalso; first | contradiction | omega | (rename_i hz; refine hz ?_; simp; done) | (rename_i hz; simp at hz; done) | (simp only [LN] at *; omega))))
    | (with_reducible refine spB_bne ?_ ?_ <;> intro _ <;> (try (exfalso; first | contradiction | omega | (rename_i hz; refine hz ?_; simp; done) | (rename_i hz; simp at hz; done) | (simp only [LN] at *; omega))))
    | (with_reducible refine spB_mk ?_ ?_ <;> intro _ <;> (try (exfalso; first | contradiction | omega | (rename_i hz; refine hz ?_; simp; done) | (rename_i hz; simp at hz; done) | (simp only [LN] at *; omega))))
    | ((with_reducible apply rowN_mk); (focus rfl))
    | ((with_reducible apply ixN_lit); (focus (exact rfl)); (focus (exact rfl)))
    | ((with_reducible apply ixN_litp); (focus (exact rfl)); (focus ((try simp only [LN] at *) <;> omega)))
    | ((with_reducible refine eqN_mk2 ?_ ?_); (focus rfl))
    | with_reducible refine wr_i64 (by first | omega | (simp only [LN] at *; omega)) ?_
    | with_reducible refine wr_u64 (by omega) ?_
    | with_reducible refine wr_u8 (by omega) ?_
    | with_reducible refine wr_u32 (by omega) ?_
    | with_reducible first | refine wr_mk _ rfl ?_
    | ((with_reducible refine ixN_nat ?_ ?_); (focus ((try simp only [LN] at *) <;> omega)))
    | ((with_reducible refine rowN_map ?_ ?_); (focus ((try simp only [LN] at *) <;> omega)); intro x hx)
    | with_reducible refine vN_mod (by omega) ?_
    | with_reducible first | refine vN_mk ?_
    | with_reducible refine nzN_mk (by omega) ?_
    | with_reducible refine eqN_dec (by omega) ?_
    | with_reducible first | refine apN_mk (by kernel_rfl) ?_
    | ((with_reducible refine eqN_mk2 ?_ ?_); (focus (exact Z.kb_some rfl)))
    | ((with_reducible apply ex_and); exact rfl))
  all_goals (try (conv => whnf))
  all_goals try (show Nat.ble _ _ = true; rfl)
  all_goals first
    | ((first | (with_reducible apply Z.retF1) | (with_reducible apply Z.retF2) | (with_reducible apply Z.retF0)); (focus (exact rfl)); (repeat' (first | exact trivial | (with_reducible apply Z.frz_one) | (with_reducible apply Z.frz_agg) | (with_reducible apply Z.fq_int) | (with_reducible apply Z.fq_bool) | (exact Z.frz_nil) | (exact Z.frz_osl0 rfl rfl rfl) | (with_reducible apply Z.fq_nil) | (with_reducible apply Z.fq_ro) | ((with_reducible apply Z.fq_gsl); (focus (first | rfl | exact Z.isB_map _ | exact Z.gB_snoc.symm)); (focus (exact fun _ => rfl))) | ((with_reducible apply Z.fq_osl); (focus (exact rfl)); (focus (first | exact rfl | (simp only [List.length_map, Nat.zero_add]; done) | ((try simp only [LN] at *) <;> omega))); (focus (exact fun _ => rfl))) | ((with_reducible apply Z.fq_src); (focus (exact rfl)); (focus (first | exact rfl | (simp only [List.length_map, Nat.zero_add]; done) | ((try simp only [LN] at *) <;> omega))); (focus (exact fun _ => rfl))) | exact rfl | ((apply Z.fq_osl); (focus (exact rfl)); (focus (first | exact rfl | (simp only [List.length_map, Nat.zero_add]; done) | ((try simp only [LN] at *) <;> omega))); (focus (exact fun _ => rfl))) | ((apply Z.fq_src); (focus (exact rfl)); (focus (first | exact rfl | (simp only [List.length_map, Nat.zero_add]; done) | ((try simp only [LN] at *) <;> omega))); (focus (exact fun _ => rfl))) | (apply Z.fq_ro) | (apply Z.fq_int) | (apply Z.fq_bool) | apply And.intro)); (all_goals (try exact (fun _ => none))); all_goals (rfl))
    | (exfalso; rename_i hz; cases hz; done)
    | (exfalso; (try simp only [LN] at *) <;> omega)
    | (fail)
end Go.Proofs.Ytehhmkdghgabaaa
namespace Go.Proofs.Ytehhmkdghgabaaa
open Go Go.RowKit Wx
set_option linter.unusedVariables false
set_option linter.unusedSimpArgs false
set_option maxHeartbeats 4000000
theorem tk_drop {α : Type} (l : List α) (k : Nat) : List.take (l.length - k) (l.drop k) = l.drop k := List.take_of_length_le (by simp)
theorem loopZ_unr2 {P : Program} {T : Tab} {n m : Nat} {rd : Option Nat} {s : Z.S} {c : Code} {Q : Exit → Z.S → Prop} (hT : TabOk P T) (hs : Wx.get s.F 5 = some (.val (.int .i64 2))) (h : Z.loopU P T n m rd c Q 3 s) : Z.LoopZ P n m rd c s Q := Z.loopZ_unroll hT 3 h
theorem wr_n16 {a b : Int} {A : Int → Prop} (ha : 0 ≤ a ∧ a ≤ 255) (hb : 0 ≤ b ∧ b ≤ 255) (k : A (a * 256 + b)) : wr .u16 (IntKind.u64.wrap ((BitVec.ofInt IntKind.u64.bits (IntKind.u64.wrap (IntKind.u64.wrap ((BitVec.ofInt IntKind.u64.bits (0 * 256) ||| BitVec.ofInt IntKind.u64.bits a).toNat : Int) * 2 ^ min (Int.toNat 8) IntKind.u64.bits)) ||| BitVec.ofInt IntKind.u64.bits b).toNat : Int)) A := ⟨a * 256 + b, by
  rw [or_add (x := 0) (b := a) (by decide) ha, Int.zero_mul, Int.zero_add]
  have e : IntKind.u64.wrap (a * 2 ^ min (Int.toNat 8) IntKind.u64.bits) = a * 256 := by
    show IntKind.u64.wrap (a * 2 ^ 8) = _
    rw [u64_in _ (by omega)]; omega
  rw [e, or_add (by omega) hb]
  simp [IntKind.wrap, IntKind.bits, IntKind.signed]; omega, k⟩
end Go.Proofs.Ytehhmkdghgabaaa
namespace Go.Proofs.Ytehhmkdghgabaaa
open Go Go.RowKit Wx
set_option linter.unusedVariables false
set_option linter.unusedSimpArgs false
set_option maxHeartbeats 4000000
def lbs : Code → List Code
  | .loop b => b :: lbs b
  | .seq a b => lbs a ++ lbs b
  | .cond _ a b => lbs a ++ lbs b
  | .block _ b => lbs b
  | .rangeFunc _ _ a b => lbs a ++ lbs b
  | .scope b => lbs b
  | _ => []
def lbody (f : Func) : Code := ((f.body.map lbs).getD []).headD .skip
def loopPost (R : Z.S → Prop) (Q : Exit → Z.S → Prop) : Exit → Z.S → Prop := fun e s' => match e with
  | .normal => R s'
  | e => Q e s'
abbrev dG := Nat × List Int × List Kc × Int
abbrev dCH (zq : dG) : Fr := [(6, .val (.int .i64 (zq.1 : Int)))]
abbrev dCK (zq : dG) : Z.Kr := [(1, some (Z.Ob.b ⟨[[.ro true 1 (zq.2.1.map eB), .v (.int .i64 zq.2.2.2)]], 2, 147, true⟩)), (2, some (Z.Ob.b ⟨[[.gsl 5 (zq.2.2.1.map cK)]], 1, 30, true⟩)), (5, (gB 4 74 (zq.2.2.1.map cK)).map Z.Ob.b)]
abbrev dFk : Fr := [(2, .c (.own 0 0 0)), (4, .c (.own 1 0 0)), (5, .c (.own 2 0 0))]
abbrev dKk : Z.Kr := [(0, some (Z.Ob.b ⟨[[.v (.slice none 0 0)]], 1, 30, true⟩))]
def preK (acc : List Kc) (x : List Kc × Int × List Int) : List Kc × Int × List Int := if x.2.1 = 0 then (acc ++ x.1, 0, x.2.2) else ([], 7, [])
theorem preK_nil (n : Nat) (b : List Int) : decK n b = preK [] (decK n b) := by
  unfold preK
  cases n with
  | zero => simp [decK]
  | succ n =>
    rw [decK]
    split
    · simp
    · split
      · simp
      · simp
theorem preK_step {acc : List Kc} {n : Nat} {b : List Int} {x : Kc} (hl : ¬ b.length < 18) (h : rowD b = x) : preK acc (decK (n + 1) b) = preK (acc ++ [x]) (decK n (b.drop 18)) := by
  unfold preK
  simp only [decK, if_neg hl, h]
  by_cases h2 : (decK n (b.drop 18)).2.1 = 0
  · simp [h2]
  · simp [h2]
theorem preK_bad {acc : List Kc} {n : Nat} {b : List Int} (hl : b.length < 18) : preK acc (decK (n + 1) b) = ([], 7, []) := by
  unfold preK
  simp only [decK, if_pos hl]
  rfl
abbrev dInv (b : List Int) (N : Nat) (zq : dG) : Prop := zq.1 ≤ N ∧ (isB zq.2.1 ∧ zq.2.1.length ≤ 1099511627776) ∧ zq.2.2.1.length + zq.1 = N ∧ ((zq.2.2.2 = 0 ∧ decK N b = preK zq.2.2.1 (decK zq.1 zq.2.1)) ∨ (zq.2.2.2 = 7 ∧ decK N b = ([], 7, [])))
abbrev dRnd (b : List Int) (N : Nat) (p : dG) (s' : Z.S) : Prop := Z.rndZ 0 (fun zq => (⟨dCH zq ++ dFk, dCK zq ++ dKk, 6⟩ : Z.S)) (dInv b N) (fun zq => zq.1) p s'
end Go.Proofs.Ytehhmkdghgabaaa
namespace Go.Proofs.Ytehhmkdghgabaaa
open Go Go.RowKit Wx
set_option linter.unusedVariables false
set_option linter.unusedSimpArgs false
set_option maxHeartbeats 40000000
theorem dec_a (b : List Int) (N i : Nat) (acc : List Kc)  (hB : isB ([] : List Int)) (hL : (([] : List Int) : List Int).length ≤ 1099511627776) (HC : acc.length + (i + 1) = N) (HD : decK N b = preK acc (decK (i + 1) ([] : List Int))) (hN : N ≤ 65535)  {Q : Exit → Z.S → Prop} : Z.codeZ Try.prog tab 59 0 none (lbody Try.f40) ⟨dCH (i + 1, ([] : List Int), acc, 0) ++ dFk, dCK (i + 1, ([] : List Int), acc, 0) ++ dKk, 6⟩ (loopPost (dRnd b N (i + 1, ([] : List Int), acc, 0)) Q) := by
  dsimp only [dCH, dFk, dCK, dKk, dRnd]
  have hj1 : IntKind.i64.wrap (((i + 1 : Nat) : Int) - 1) = (i : Int) := by
    rw [show (((i + 1 : Nat) : Int) - 1) = (i : Int) by omega]
    simp [IntKind.wrap, IntKind.bits, IntKind.signed]; omega
  repeat' ((conv => whnf); first
    | with_reducible first | refine spB_t ?_
    | ((with_reducible apply spB_cong); (focus (simp only [beq_self_eq_true, bne_self_eq_false, Bool.true_bne, Bool.false_bne, Bool.bne_true, Bool.bne_false, Bool.true_beq, Bool.false_beq, Bool.not_true, Bool.not_false, Bool.not_not, Int.reduceBEq, Int.reduceBNe, Int.reduceLE, Int.reduceLT, Int.reduceEq, decide_true, decide_false]; rfl)))
    | with_reducible first | refine spB_yes (by decide) ?_ | refine spB_no (by decide) ?_
    | (with_reducible refine spB_dec ?_ ?_ <;> intro _ <;> (try (exfalso; first | contradiction | omega | (rename_i hz; refine hz ?_; simp; done) | (rename_i hz; simp at hz; done) | (simp only [LN] at *; omega))))
    | ((with_reducible refine wr_mk (i : Int) hj1 ?_))
    | ((with_reducible refine posE_pos ?_ ?_); (focus ((try simp only [LN] at *) <;> omega)))
    | ((with_reducible refine apdN.mk ?_ ?_ ?_ ?_ ?_ ?_); (focus (first | rfl)); (focus (first | exact one_all (by rfl))); (focus ((try simp only [LN] at *) <;> omega)); (focus ((try simp only [LN] at *) <;> omega)); (focus ((try simp only [LN] at *) <;> omega)))
    | with_reducible refine wr_i64 (by first | omega | (simp only [LN] at *; omega)) ?_
    | with_reducible refine wr_u8 (by omega) ?_
    | with_reducible first | refine Z.callZ_in tabOk 10 Try.f80 _ Try.func80 (by kernel_rfl) rfl rfl rfl ?_ | refine Z.callZ_in tabOk 6 Try.f81 _ Try.func81 (by kernel_rfl) rfl rfl rfl ?_ | refine Z.callZ_in tabOk 5 Try.f82 _ Try.func82 (by kernel_rfl) rfl rfl rfl ?_ | refine Z.callZ_in tabOk 10 Try.f112 _ Try.func112 (by kernel_rfl) rfl rfl rfl ?_ | refine Z.callZ_in tabOk 58 Try.f129 _ Try.func129 (by kernel_rfl) rfl rfl rfl ?_
    | ((with_reducible refine eqN_mk2 ?_ ?_); (focus (exact Z.kb_some rfl)))
    | ((with_reducible apply ex_and); exact rfl))
  all_goals (try (conv => whnf))
  all_goals try (show Nat.ble _ _ = true; rfl)
  all_goals try (exfalso; rename_i hz; cases hz; done)
  all_goals try (exfalso; (try simp only [LN] at *) <;> omega)
  all_goals first
    | ((refine Z.rndK ((i, ([] : List Int), acc ++ [(⟨0, 0, 0, 0⟩ : Kc)], 7)) (fun s => [0, 1, 2, 3, 4, s.idIn 2 0]) rfl rfl rfl rfl ?_ ?_ ?_ ?_); (focus (repeat' (first | exact trivial | exact rfl | apply And.intro))); (focus (repeat' (first | exact trivial | (intro b hb; cases hb; rfl) | (intro b hb; cases hb; rw [List.map_append]; rfl) | exact Z.gB_sub' rfl (by first | rfl | (rw [List.map_append]; rfl) | simp only [List.map_append, List.map_cons, List.map_nil]) (ren_map fun _ => rfl) | apply And.intro))); (focus (exact ⟨by (try dsimp only); omega, ⟨by (try dsimp only); first | (intro x hx; cases hx; done) | exact hBr | exact isB_drop hBr, by (try dsimp only); (try simp only [List.length_cons, List.length_drop, List.length_nil] at *); omega⟩, by (try dsimp only); simp only [List.length_append, List.length_cons, List.length_nil]; omega, .inr ⟨rfl, by (try dsimp only); rw [HD]; exact preK_bad (by simp only [List.length_cons, List.length_nil]; omega)⟩⟩)); ((try dsimp only); omega))
end Go.Proofs.Ytehhmkdghgabaaa
namespace Go.Proofs.Ytehhmkdghgabaaa
open Go Go.RowKit Wx
set_option linter.unusedVariables false
set_option linter.unusedSimpArgs false
set_option maxHeartbeats 40000000
theorem dec_b (b : List Int) (N i : Nat) (acc : List Kc) (t : Int) (hB : isB [t]) (hL : ([t] : List Int).length ≤ 1099511627776) (HC : acc.length + (i + 1) = N) (HD : decK N b = preK acc (decK (i + 1) [t])) (hN : N ≤ 65535)  {Q : Exit → Z.S → Prop} : Z.codeZ Try.prog tab 59 0 none (lbody Try.f40) ⟨dCH (i + 1, [t], acc, 0) ++ dFk, dCK (i + 1, [t], acc, 0) ++ dKk, 6⟩ (loopPost (dRnd b N (i + 1, [t], acc, 0)) Q) := by
  dsimp only [dCH, dFk, dCK, dKk, dRnd]
  have hj1 : IntKind.i64.wrap (((i + 1 : Nat) : Int) - 1) = (i : Int) := by
    rw [show (((i + 1 : Nat) : Int) - 1) = (i : Int) by omega]
    simp [IntKind.wrap, IntKind.bits, IntKind.signed]; omega
  have hb_t := hB t (by simp)
  repeat' ((conv => whnf); first
    | with_reducible first | refine spB_t ?_
    | ((with_reducible apply spB_cong); (focus (simp only [beq_self_eq_true, bne_self_eq_false, Bool.true_bne, Bool.false_bne, Bool.bne_true, Bool.bne_false, Bool.true_beq, Bool.false_beq, Bool.not_true, Bool.not_false, Bool.not_not, Int.reduceBEq, Int.reduceBNe, Int.reduceLE, Int.reduceLT, Int.reduceEq, decide_true, decide_false]; rfl)))
    | with_reducible first | refine spB_no (by decide) ?_
    | (with_reducible refine spB_dec ?_ ?_ <;> intro _ <;> (try (exfalso; first | contradiction | omega | (rename_i hz; refine hz ?_; simp; done) | (rename_i hz; simp at hz; done) | (simp only [LN] at *; omega))))
    | ((refine sl3N_mk 0 1 1 rfl rfl rfl ?_ ?_ ?_ ?_ ?_); (iterate 4 (focus (first | exact .inl rfl | ((try simp only [LN] at *) <;> omega)))))
    | ((with_reducible refine Z.slN_lo 1 ?_ ?_ ?_); (focus rfl); (focus ((try simp only [LN] at *) <;> omega)))
    | (refine loopZ_unr1 tabOk rfl ?_)
    | ((with_reducible refine wr_shl8 ?_ ?_); (focus omega))
    | ((with_reducible refine wr_or0 ?_ ?_); (focus omega))
    | with_reducible first | refine rowN_mk _ rfl ?_
    | ((with_reducible refine wr_mk (i : Int) hj1 ?_))
    | ((with_reducible refine posE_pos ?_ ?_); (focus ((try simp only [LN] at *) <;> omega)))
    | ((with_reducible apply ixN_lit); (focus (exact rfl)); (focus (exact rfl)))
    | ((with_reducible refine eqN_mk2 ?_ ?_); (focus rfl))
    | ((with_reducible refine apdN.mk ?_ ?_ ?_ ?_ ?_ ?_); (focus (first | rfl)); (focus (first | exact one_all (by rfl))); (focus ((try simp only [LN] at *) <;> omega)); (focus ((try simp only [LN] at *) <;> omega)); (focus ((try simp only [LN] at *) <;> omega)))
    | with_reducible refine wr_i64 (by first | omega | (simp only [LN] at *; omega)) ?_
    | with_reducible refine wr_u64 (by omega) ?_
    | with_reducible refine wr_u8 (by omega) ?_
    | with_reducible first | refine Z.callZ_in tabOk 18 Try.f130 _ Try.func130 (by kernel_rfl) rfl rfl rfl ?_ | refine Z.callZ_in tabOk 10 Try.f80 _ Try.func80 (by kernel_rfl) rfl rfl rfl ?_ | refine Z.callZ_in tabOk 6 Try.f81 _ Try.func81 (by kernel_rfl) rfl rfl rfl ?_ | refine Z.callZ_in tabOk 5 Try.f82 _ Try.func82 (by kernel_rfl) rfl rfl rfl ?_ | refine Z.callZ_in tabOk 10 Try.f112 _ Try.func112 (by kernel_rfl) rfl rfl rfl ?_ | refine Z.callZ_in tabOk 58 Try.f129 _ Try.func129 (by kernel_rfl) rfl rfl rfl ?_
    | ((with_reducible refine eqN_mk2 ?_ ?_); (focus (exact Z.kb_some rfl)))
    | ((with_reducible apply ex_and); exact rfl)
    | with_reducible first | refine Z.drawZ_rule tabOk mixOk ?_ | refine Z.apZ_mk (by kernel_rfl) ?_)
  all_goals (try (conv => whnf))
  all_goals try (show Nat.ble _ _ = true; rfl)
  all_goals try (exfalso; rename_i hz; cases hz; done)
  all_goals try (exfalso; (try simp only [LN] at *) <;> omega)
  all_goals first
    | ((refine Z.rndK ((i, ([] : List Int), acc ++ [(⟨t, 0, 0, 0⟩ : Kc)], 7)) (fun s => [0, 1, 2, 3, 4, s.idIn 2 0]) rfl rfl rfl rfl ?_ ?_ ?_ ?_); (focus (repeat' (first | exact trivial | exact rfl | apply And.intro))); (focus (repeat' (first | exact trivial | (intro b hb; cases hb; rfl) | (intro b hb; cases hb; rw [List.map_append]; rfl) | exact Z.gB_sub' rfl (by first | rfl | (rw [List.map_append]; rfl) | simp only [List.map_append, List.map_cons, List.map_nil]) (ren_map fun _ => rfl) | apply And.intro))); (focus (exact ⟨by (try dsimp only); omega, ⟨by (try dsimp only); first | (intro x hx; cases hx; done) | exact hBr | exact isB_drop hBr, by (try dsimp only); (try simp only [List.length_cons, List.length_drop, List.length_nil] at *); omega⟩, by (try dsimp only); simp only [List.length_append, List.length_cons, List.length_nil]; omega, .inr ⟨rfl, by (try dsimp only); rw [HD]; exact preK_bad (by simp only [List.length_cons, List.length_nil]; omega)⟩⟩)); ((try dsimp only); omega))
end Go.Proofs.Ytehhmkdghgabaaa
namespace Go.Proofs.Ytehhmkdghgabaaa
open Go Go.RowKit Wx
set_option linter.unusedVariables false
set_option linter.unusedSimpArgs false
set_option maxHeartbeats 40000000
theorem dec_c (b : List Int) (N i : Nat) (acc : List Kc) (t w : Int) (r : List Int) (hB : isB (t :: w :: r)) (hL : ((t :: w :: r) : List Int).length ≤ 1099511627776) (HC : acc.length + (i + 1) = N) (HD : decK N b = preK acc (decK (i + 1) (t :: w :: r))) (hN : N ≤ 65535) (h4 : r.length < 8) {Q : Exit → Z.S → Prop} : Z.codeZ Try.prog tab 59 0 none (lbody Try.f40) ⟨dCH (i + 1, (t :: w :: r), acc, 0) ++ dFk, dCK (i + 1, (t :: w :: r), acc, 0) ++ dKk, 6⟩ (loopPost (dRnd b N (i + 1, (t :: w :: r), acc, 0)) Q) := by
  dsimp only [dCH, dFk, dCK, dKk, dRnd]
  have hj1 : IntKind.i64.wrap (((i + 1 : Nat) : Int) - 1) = (i : Int) := by
    rw [show (((i + 1 : Nat) : Int) - 1) = (i : Int) by omega]
    simp [IntKind.wrap, IntKind.bits, IntKind.signed]; omega
  have hb_t := hB t (by simp)
  have hb_w := hB w (by simp)
  have hBr : isB r := fun x hx => hB x (by simp [hx])
  repeat' ((conv => whnf); first
    | with_reducible first | refine spB_t ?_
    | ((with_reducible apply spB_cong); (focus (simp only [beq_self_eq_true, bne_self_eq_false, Bool.true_bne, Bool.false_bne, Bool.bne_true, Bool.bne_false, Bool.true_beq, Bool.false_beq, Bool.not_true, Bool.not_false, Bool.not_not, Int.reduceBEq, Int.reduceBNe, Int.reduceLE, Int.reduceLT, Int.reduceEq, decide_true, decide_false]; rfl)))
    | with_reducible first | refine spB_no (by decide) ?_
    | (with_reducible refine spB_dec ?_ ?_ <;> intro _ <;> (try (exfalso; first | contradiction | omega | (rename_i hz; refine hz ?_; simp; done) | (rename_i hz; simp at hz; done) | (simp only [LN] at *; omega))))
    | ((refine sl3N_mk 0 1 1 rfl rfl rfl ?_ ?_ ?_ ?_ ?_); (iterate 4 (focus (first | exact .inl rfl | ((try simp only [LN] at *) <;> omega)))))
    | ((with_reducible refine Z.slN_lo 1 ?_ ?_ ?_); (focus rfl); (focus ((try simp only [LN] at *) <;> omega)))
    | (refine loopZ_unr1 tabOk rfl ?_)
    | ((with_reducible refine wr_shl8 ?_ ?_); (focus omega))
    | ((with_reducible refine wr_or0 ?_ ?_); (focus omega))
    | with_reducible first | refine rowN_mk _ rfl ?_
    | ((with_reducible refine wr_mk (i : Int) hj1 ?_))
    | ((with_reducible refine posE_pos ?_ ?_); (focus ((try simp only [LN] at *) <;> omega)))
    | ((with_reducible apply ixN_lit); (focus (exact rfl)); (focus (exact rfl)))
    | ((with_reducible refine eqN_mk2 ?_ ?_); (focus rfl))
    | ((with_reducible refine apdN.mk ?_ ?_ ?_ ?_ ?_ ?_); (focus (first | rfl)); (focus (first | exact one_all (by rfl))); (focus ((try simp only [LN] at *) <;> omega)); (focus ((try simp only [LN] at *) <;> omega)); (focus ((try simp only [LN] at *) <;> omega)))
    | with_reducible refine wr_i64 (by first | omega | (simp only [LN] at *; omega)) ?_
    | with_reducible refine wr_u64 (by omega) ?_
    | with_reducible first | refine Z.callZ_in tabOk 18 Try.f130 _ Try.func130 (by kernel_rfl) rfl rfl rfl ?_ | refine Z.callZ_in tabOk 10 Try.f80 _ Try.func80 (by kernel_rfl) rfl rfl rfl ?_ | refine Z.callZ_in tabOk 6 Try.f81 _ Try.func81 (by kernel_rfl) rfl rfl rfl ?_ | refine Z.callZ_in tabOk 5 Try.f82 _ Try.func82 (by kernel_rfl) rfl rfl rfl ?_ | refine Z.callZ_in tabOk 10 Try.f112 _ Try.func112 (by kernel_rfl) rfl rfl rfl ?_ | refine Z.callZ_in tabOk 58 Try.f129 _ Try.func129 (by kernel_rfl) rfl rfl rfl ?_
    | ((with_reducible refine eqN_mk2 ?_ ?_); (focus (exact Z.kb_some rfl)))
    | ((with_reducible apply ex_and); exact rfl)
    | with_reducible first | refine Z.drawZ_rule tabOk mixOk ?_ | refine Z.apZ_mk (by kernel_rfl) ?_)
  all_goals (try (conv => whnf))
  all_goals try (show Nat.ble _ _ = true; rfl)
  all_goals try (exfalso; rename_i hz; cases hz; done)
  all_goals try (exfalso; (try simp only [LN] at *) <;> omega)
  all_goals first
    | ((refine Z.rnd_bi 1 [[.ro true 1 (r.map eB), _]] rfl rfl ⟨⟨Z.Imp.of_eq (congrArg (Ce.ro true 1) (by first | ((try simp only [tk_drop]); simp only [← List.map_drop, List.drop_drop, List.map_cons, List.drop_succ_cons, List.drop_zero]; done) | (simp; done) | (simp [tk_map]; done))), Z.Imp.refl _, trivial⟩, trivial⟩ ?_); ((refine Z.rndK ((i, r, acc ++ [(⟨t, w, 0, 0⟩ : Kc)], 7)) (fun s => [0, 1, 2, 3, 4, s.idIn 2 0]) rfl rfl rfl rfl ?_ ?_ ?_ ?_); (focus (repeat' (first | exact trivial | exact rfl | apply And.intro))); (focus (repeat' (first | exact trivial | (intro b hb; cases hb; rfl) | (intro b hb; cases hb; rw [List.map_append]; rfl) | exact Z.gB_sub' rfl (by first | rfl | (rw [List.map_append]; rfl) | simp only [List.map_append, List.map_cons, List.map_nil]) (ren_map fun _ => rfl) | apply And.intro))); (focus (exact ⟨by (try dsimp only); omega, ⟨by (try dsimp only); first | (intro x hx; cases hx; done) | exact hBr | exact isB_drop hBr, by (try dsimp only); (try simp only [List.length_cons, List.length_drop, List.length_nil] at *); omega⟩, by (try dsimp only); simp only [List.length_append, List.length_cons, List.length_nil]; omega, .inr ⟨rfl, by (try dsimp only); rw [HD]; exact preK_bad (by simp only [List.length_cons, List.length_nil]; omega)⟩⟩)); ((try dsimp only); omega)))
end Go.Proofs.Ytehhmkdghgabaaa
namespace Go.Proofs.Ytehhmkdghgabaaa
open Go Go.RowKit Wx
set_option linter.unusedVariables false
set_option linter.unusedSimpArgs false
set_option maxHeartbeats 40000000
theorem dec_d (b : List Int) (N i : Nat) (acc : List Kc) (t w : Int) (r : List Int) (hB : isB (t :: w :: r)) (hL : ((t :: w :: r) : List Int).length ≤ 1099511627776) (HC : acc.length + (i + 1) = N) (HD : decK N b = preK acc (decK (i + 1) (t :: w :: r))) (hN : N ≤ 65535) (h4 : 8 ≤ r.length) (h5 : r.length < 16) {Q : Exit → Z.S → Prop} : Z.codeZ Try.prog tab 59 0 none (lbody Try.f40) ⟨dCH (i + 1, (t :: w :: r), acc, 0) ++ dFk, dCK (i + 1, (t :: w :: r), acc, 0) ++ dKk, 6⟩ (loopPost (dRnd b N (i + 1, (t :: w :: r), acc, 0)) Q) := by
  dsimp only [dCH, dFk, dCK, dKk, dRnd]
  have hj1 : IntKind.i64.wrap (((i + 1 : Nat) : Int) - 1) = (i : Int) := by
    rw [show (((i + 1 : Nat) : Int) - 1) = (i : Int) by omega]
    simp [IntKind.wrap, IntKind.bits, IntKind.signed]; omega
  have hb_t := hB t (by simp)
  have hb_w := hB w (by simp)
  have hBr : isB r := fun x hx => hB x (by simp [hx])
  repeat' ((conv => whnf); first
    | with_reducible first | refine spB_t ?_
    | ((with_reducible apply spB_cong); (focus (simp only [beq_self_eq_true, bne_self_eq_false, Bool.true_bne, Bool.false_bne, Bool.bne_true, Bool.bne_false, Bool.true_beq, Bool.false_beq, Bool.not_true, Bool.not_false, Bool.not_not, Int.reduceBEq, Int.reduceBNe, Int.reduceLE, Int.reduceLT, Int.reduceEq, decide_true, decide_false]; rfl)))
    | with_reducible first | refine spB_no (by decide) ?_
    | (with_reducible refine spB_dec ?_ ?_ <;> intro _ <;> (try (exfalso; first | contradiction | omega | (rename_i hz; refine hz ?_; simp; done) | (rename_i hz; simp at hz; done) | (simp only [LN] at *; omega))))
    | ((refine sl3N_mk 0 1 1 rfl rfl rfl ?_ ?_ ?_ ?_ ?_); (iterate 4 (focus (first | exact .inl rfl | ((try simp only [LN] at *) <;> omega)))))
    | ((refine sl3N_mk 0 8 8 rfl rfl rfl ?_ ?_ ?_ ?_ ?_); (iterate 4 (focus (first | exact .inl rfl | ((try simp only [LN] at *) <;> omega)))))
    | ((with_reducible refine Z.slN_lo 1 ?_ ?_ ?_); (focus rfl); (focus ((try simp only [LN] at *) <;> omega)))
    | (refine loopZ_unr1 tabOk rfl ?_)
    | ((with_reducible refine wr_shl8 ?_ ?_); (focus omega))
    | ((with_reducible refine wr_or0 ?_ ?_); (focus omega))
    | with_reducible first | refine rowN_mk _ rfl ?_
    | ((with_reducible apply ixN_lit); (focus (exact rfl)); (focus (exact rfl)))
    | ((with_reducible refine eqN_mk2 ?_ ?_); (focus rfl))
    | with_reducible refine wr_i64 (by first | omega | (simp only [LN] at *; omega)) ?_
    | with_reducible refine wr_u64 (by omega) ?_
    | with_reducible first | refine Z.callZ_in tabOk 18 Try.f130 _ Try.func130 (by kernel_rfl) rfl rfl rfl ?_ | refine Z.callZ_in tabOk 10 Try.f80 _ Try.func80 (by kernel_rfl) rfl rfl rfl ?_ | refine Z.callZ_in tabOk 6 Try.f81 _ Try.func81 (by kernel_rfl) rfl rfl rfl ?_ | refine Z.callZ_in tabOk 5 Try.f82 _ Try.func82 (by kernel_rfl) rfl rfl rfl ?_ | refine Z.callZ_in tabOk 10 Try.f112 _ Try.func112 (by kernel_rfl) rfl rfl rfl ?_ | refine Z.callZ_in tabOk 58 Try.f129 _ Try.func129 (by kernel_rfl) rfl rfl rfl ?_
    | ((with_reducible apply ex_and); exact rfl)
    | with_reducible first | refine Z.drawZ_rule tabOk mixOk ?_ | refine Z.apZ_mk (by kernel_rfl) ?_)
  all_goals (try (conv => whnf))
  all_goals try (show Nat.ble _ _ = true; rfl)
  all_goals try (exfalso; rename_i hz; cases hz; done)
  all_goals try (exfalso; (try simp only [LN] at *) <;> omega)
  all_goals (
    apply loopQ3
    · intro Q0 hq9
      refine Z.loopK tabOk (fun zq : Nat => [(6, .val (.int .i64 (zq : Int)))]) (fun zq : Nat => ([(12, some (Z.Ob.b ⟨[[.v (.int .u64 (numR (r.take zq)))]], 1, 113, true⟩)), (0, some (Z.Ob.b ⟨[[.v (.slice none 0 0)]], 1, 30, true⟩)), (1, some (Z.Ob.b ⟨[[.ro true 1 (r.map eB), .v (.int .i64 0)]], 2, 147, true⟩)), (2, some (Z.Ob.b ⟨[[.gsl 5 (acc.map cK)]], 1, 30, true⟩)), (5, (gB 4 74 (acc.map cK)).map Z.Ob.b), (10, some (Z.Ob.b ⟨[[.v (.int .i64 t), .v (.int .i64 w), .v (.int .i64 0), .v (.int .i64 0)]], 4, 74, true⟩))] : Z.Kr)) (fun zq => zq ≤ 8) (fun zq => 8 - zq) 0 13 [(0, _), (2, _), (5, _)] ⟨rfl, rfl, rfl, trivial⟩ [] trivial ?_ ?_ rfl rfl (Nat.zero_le _) ?_
      · repeat' (first | exact trivial | apply And.intro | exact ⟨_, rfl, Z.Imp.refl _⟩)
      · repeat' (first | exact trivial | exact (fun b hb => ⟨b, hb, Z.ImpO.refl b⟩) | (intro b hb; cases hb; refine ⟨_, rfl, ⟨rfl, rfl, rfl⟩, ⟨⟨Z.Imp.of_eq (congrArg (Ce.ro true 1) (by first | ((try simp only [tk_drop]); simp only [← List.map_drop, List.drop_drop, List.map_cons, List.drop_succ_cons, List.drop_zero]; done) | (simp [tk_map]; done) | (simp [tk_map, List.take_of_length_le]; done))), Z.Imp.refl _, trivial⟩, trivial⟩⟩; done) | apply And.intro)
      rintro j HINV
      (try dsimp only at HINV); (try dsimp only)
      by_cases hj : j < 8
      · obtain ⟨z9, hzr⟩ := getElem?_some' (xs := r) (i := j) (by (try rw [List.length_drop]); omega)
        have hzd : (r.take 8)[j]? = some z9 := by rw [List.getElem?_take, if_pos hj]; exact hzr
        have hzb := hBr z9 (List.mem_of_getElem? hzr)
        have hnl := num_lt (l := r) (i := j) (by omega) (by (try rw [List.length_drop]); omega) hBr
        generalize hnv : numR (r.take j) = nv at *
        repeat' ((conv => whnf); first
          | (with_reducible refine spB_dec ?_ ?_ <;> intro _ <;> (try (exfalso; first | contradiction | omega | (rename_i hz; refine hz ?_; simp; done) | (rename_i hz; simp at hz; done) | (simp only [LN] at *; omega))))
          | ((with_reducible refine wr_shl8 ?_ ?_); (focus omega))
          | ((with_reducible refine rowN_mk (eB z9) ?_ ?_); (focus (exact rest_at (by first | ((try simp only [tk_drop]); simp only [Nat.sub_zero, List.drop_zero, ← List.map_drop, ← List.map_take, List.map_cons, List.drop_succ_cons]; done) | (simp [tk_map]; done)) hzd)))
          | ((with_reducible refine ixN_mk (j) ?_ ?_ ?_); (focus (first | rfl)); (focus ((try simp only [LN] at *) <;> omega)))
          | ((with_reducible refine eqN_mk2 ?_ ?_); (focus rfl))
          | with_reducible refine wr_i64 (by first | omega | (simp only [LN] at *; omega)) ?_
          | with_reducible refine wr_u64 (by omega) ?_
          | with_reducible first | refine Z.drawZ_rule tabOk mixOk ?_ | refine Z.apZ_mk (by kernel_rfl) ?_)
        all_goals (try (conv => whnf))
        all_goals try (show Nat.ble _ _ = true; rfl)
        all_goals try (exfalso; rename_i hz; cases hz; done)
        all_goals try (exfalso; (try simp only [LN] at *) <;> omega)
        all_goals first
          | ((refine Z.rnd_rw 12 ([[.v (.int .u64 (numR (r.take (j + 1))))]]) rfl rfl ?_ ?_); (focus (rw [take_snoc hzr, numR_snoc, hnv]; exact congrArg (fun z => [[Ce.v (.int .u64 z)]]) (or_add hnl hzb))); ((refine Z.rndK ((j + 1)) (fun s => [0, 1, 2, 3, 4, 5, 6, 7, 8, 9, 10, 11, 12]) rfl rfl rfl rfl ?_ ?_ ?_ ?_); (focus (repeat' (first | exact trivial | exact rfl | apply And.intro))); (focus (repeat' (first | exact trivial | (intro b hb; cases hb; rfl) | exact Z.gB_sub rfl rfl (ren_map fun _ => rfl) | apply And.intro))); (focus (((try dsimp only); omega))); ((try dsimp only); omega)))
      have hj8 : j = 8 := by omega
      repeat' ((conv => whnf); first
        | (with_reducible refine spB_dec ?_ ?_ <;> intro _ <;> (try (exfalso; first | contradiction | omega | (rename_i hz; refine hz ?_; simp; done) | (rename_i hz; simp at hz; done) | (simp only [LN] at *; omega)))))
      all_goals (try (conv => whnf))
      subst hj8
      exact hq9
    generalize hnv8 : numR (r.take 8) = v8 at *)
  repeat' ((conv => whnf); first
    | ((with_reducible apply spB_cong); (focus (simp only [beq_self_eq_true, bne_self_eq_false, Bool.true_bne, Bool.false_bne, Bool.bne_true, Bool.bne_false, Bool.true_beq, Bool.false_beq, Bool.not_true, Bool.not_false, Bool.not_not, Int.reduceBEq, Int.reduceBNe, Int.reduceLE, Int.reduceLT, Int.reduceEq, decide_true, decide_false]; rfl)))
    | with_reducible first | refine spB_no (by decide) ?_
    | (with_reducible refine spB_dec ?_ ?_ <;> intro _ <;> (try (exfalso; first | contradiction | omega | (rename_i hz; refine hz ?_; simp; done) | (rename_i hz; simp at hz; done) | (simp only [LN] at *; omega))))
    | ((with_reducible refine Z.slN_lo 8 ?_ ?_ ?_); (focus rfl); (focus ((try simp only [LN] at *) <;> omega)))
    | ((with_reducible refine wr_mk (i : Int) hj1 ?_))
    | (refine wr_mk (IntKind.i64.wrap v8) rfl ?_)
    | ((with_reducible refine posE_pos ?_ ?_); (focus ((try simp only [LN] at *) <;> omega)))
    | ((with_reducible refine apdN.mk ?_ ?_ ?_ ?_ ?_ ?_); (focus (first | rfl)); (focus (first | exact one_all (by rfl))); (focus ((try simp only [LN] at *) <;> omega)); (focus ((try simp only [LN] at *) <;> omega)); (focus ((try simp only [LN] at *) <;> omega)))
    | with_reducible refine wr_i64 (by first | omega | (simp only [LN] at *; omega)) ?_
    | with_reducible first | refine Z.callZ_in tabOk 5 Try.f82 _ Try.func82 (by kernel_rfl) rfl rfl rfl ?_ | refine Z.callZ_in tabOk 10 Try.f112 _ Try.func112 (by kernel_rfl) rfl rfl rfl ?_ | refine Z.callZ_in tabOk 58 Try.f129 _ Try.func129 (by kernel_rfl) rfl rfl rfl ?_
    | ((with_reducible refine eqN_mk2 ?_ ?_); (focus (exact Z.kb_some rfl)))
    | ((with_reducible apply ex_and); exact rfl))
  all_goals (try (conv => whnf))
  all_goals try (show Nat.ble _ _ = true; rfl)
  all_goals try (exfalso; rename_i hz; cases hz; done)
  all_goals try (exfalso; (try simp only [LN] at *) <;> omega)
  all_goals first
    | ((refine Z.rnd_bi 1 [[.ro true 1 ((r.drop 8).map eB), _]] rfl rfl ⟨⟨Z.Imp.of_eq (congrArg (Ce.ro true 1) (by first | ((try simp only [tk_drop]); simp only [← List.map_drop, List.drop_drop, List.map_cons, List.drop_succ_cons, List.drop_zero]; done) | (simp; done) | (simp [tk_map]; done))), Z.Imp.refl _, trivial⟩, trivial⟩ ?_); ((refine Z.rndK ((i, (r.drop 8), acc ++ [(⟨t, w, IntKind.i64.wrap v8, 0⟩ : Kc)], 7)) (fun s => [0, 1, 2, 3, 4, s.idIn 2 0]) rfl rfl rfl rfl ?_ ?_ ?_ ?_); (focus (repeat' (first | exact trivial | exact rfl | apply And.intro))); (focus (repeat' (first | exact trivial | (intro b hb; cases hb; rfl) | (intro b hb; cases hb; rw [List.map_append]; rfl) | exact Z.gB_sub' rfl (by first | rfl | (rw [List.map_append]; rfl) | simp only [List.map_append, List.map_cons, List.map_nil]) (ren_map fun _ => rfl) | apply And.intro))); (focus (exact ⟨by (try dsimp only); omega, ⟨by (try dsimp only); first | (intro x hx; cases hx; done) | exact hBr | exact isB_drop hBr, by (try dsimp only); (try simp only [List.length_cons, List.length_drop, List.length_nil] at *); omega⟩, by (try dsimp only); simp only [List.length_append, List.length_cons, List.length_nil]; omega, .inr ⟨rfl, by (try dsimp only); rw [HD]; exact preK_bad (by simp only [List.length_cons, List.length_nil]; omega)⟩⟩)); ((try dsimp only); omega)))
end Go.Proofs.Ytehhmkdghgabaaa
namespace Go.Proofs.Ytehhmkdghgabaaa
open Go Go.RowKit Wx
set_option linter.unusedVariables false
set_option linter.unusedSimpArgs false
set_option maxHeartbeats 40000000
theorem dec_e (b : List Int) (N i : Nat) (acc : List Kc) (t w : Int) (r : List Int) (hB : isB (t :: w :: r)) (hL : ((t :: w :: r) : List Int).length ≤ 1099511627776) (HC : acc.length + (i + 1) = N) (HD : decK N b = preK acc (decK (i + 1) (t :: w :: r))) (hN : N ≤ 65535) (h4 : 16 ≤ r.length) {Q : Exit → Z.S → Prop} : Z.codeZ Try.prog tab 59 0 none (lbody Try.f40) ⟨dCH (i + 1, (t :: w :: r), acc, 0) ++ dFk, dCK (i + 1, (t :: w :: r), acc, 0) ++ dKk, 6⟩ (loopPost (dRnd b N (i + 1, (t :: w :: r), acc, 0)) Q) := by
  dsimp only [dCH, dFk, dCK, dKk, dRnd]
  have hj1 : IntKind.i64.wrap (((i + 1 : Nat) : Int) - 1) = (i : Int) := by
    rw [show (((i + 1 : Nat) : Int) - 1) = (i : Int) by omega]
    simp [IntKind.wrap, IntKind.bits, IntKind.signed]; omega
  have hb_t := hB t (by simp)
  have hb_w := hB w (by simp)
  have hBr : isB r := fun x hx => hB x (by simp [hx])
  repeat' ((conv => whnf); first
    | with_reducible first | refine spB_t ?_
    | ((with_reducible apply spB_cong); (focus (simp only [beq_self_eq_true, bne_self_eq_false, Bool.true_bne, Bool.false_bne, Bool.bne_true, Bool.bne_false, Bool.true_beq, Bool.false_beq, Bool.not_true, Bool.not_false, Bool.not_not, Int.reduceBEq, Int.reduceBNe, Int.reduceLE, Int.reduceLT, Int.reduceEq, decide_true, decide_false]; rfl)))
    | with_reducible first | refine spB_no (by decide) ?_
    | (with_reducible refine spB_dec ?_ ?_ <;> intro _ <;> (try (exfalso; first | contradiction | omega | (rename_i hz; refine hz ?_; simp; done) | (rename_i hz; simp at hz; done) | (simp only [LN] at *; omega))))
    | ((refine sl3N_mk 0 1 1 rfl rfl rfl ?_ ?_ ?_ ?_ ?_); (iterate 4 (focus (first | exact .inl rfl | ((try simp only [LN] at *) <;> omega)))))
    | ((refine sl3N_mk 0 8 8 rfl rfl rfl ?_ ?_ ?_ ?_ ?_); (iterate 4 (focus (first | exact .inl rfl | ((try simp only [LN] at *) <;> omega)))))
    | ((with_reducible refine Z.slN_lo 1 ?_ ?_ ?_); (focus rfl); (focus ((try simp only [LN] at *) <;> omega)))
    | (refine loopZ_unr1 tabOk rfl ?_)
    | ((with_reducible refine wr_shl8 ?_ ?_); (focus omega))
    | ((with_reducible refine wr_or0 ?_ ?_); (focus omega))
    | with_reducible first | refine rowN_mk _ rfl ?_
    | ((with_reducible apply ixN_lit); (focus (exact rfl)); (focus (exact rfl)))
    | ((with_reducible refine eqN_mk2 ?_ ?_); (focus rfl))
    | with_reducible refine wr_i64 (by first | omega | (simp only [LN] at *; omega)) ?_
    | with_reducible refine wr_u64 (by omega) ?_
    | with_reducible first | refine Z.callZ_in tabOk 18 Try.f130 _ Try.func130 (by kernel_rfl) rfl rfl rfl ?_ | refine Z.callZ_in tabOk 10 Try.f80 _ Try.func80 (by kernel_rfl) rfl rfl rfl ?_ | refine Z.callZ_in tabOk 6 Try.f81 _ Try.func81 (by kernel_rfl) rfl rfl rfl ?_ | refine Z.callZ_in tabOk 5 Try.f82 _ Try.func82 (by kernel_rfl) rfl rfl rfl ?_ | refine Z.callZ_in tabOk 10 Try.f112 _ Try.func112 (by kernel_rfl) rfl rfl rfl ?_ | refine Z.callZ_in tabOk 58 Try.f129 _ Try.func129 (by kernel_rfl) rfl rfl rfl ?_
    | ((with_reducible apply ex_and); exact rfl)
    | with_reducible first | refine Z.drawZ_rule tabOk mixOk ?_ | refine Z.apZ_mk (by kernel_rfl) ?_)
  all_goals (try (conv => whnf))
  all_goals try (show Nat.ble _ _ = true; rfl)
  all_goals try (exfalso; rename_i hz; cases hz; done)
  all_goals try (exfalso; (try simp only [LN] at *) <;> omega)
  all_goals (
    apply loopQ3
    · intro Q0 hq9
      refine Z.loopK tabOk (fun zq : Nat => [(6, .val (.int .i64 (zq : Int)))]) (fun zq : Nat => ([(12, some (Z.Ob.b ⟨[[.v (.int .u64 (numR (r.take zq)))]], 1, 113, true⟩)), (0, some (Z.Ob.b ⟨[[.v (.slice none 0 0)]], 1, 30, true⟩)), (1, some (Z.Ob.b ⟨[[.ro true 1 (r.map eB), .v (.int .i64 0)]], 2, 147, true⟩)), (2, some (Z.Ob.b ⟨[[.gsl 5 (acc.map cK)]], 1, 30, true⟩)), (5, (gB 4 74 (acc.map cK)).map Z.Ob.b), (10, some (Z.Ob.b ⟨[[.v (.int .i64 t), .v (.int .i64 w), .v (.int .i64 0), .v (.int .i64 0)]], 4, 74, true⟩))] : Z.Kr)) (fun zq => zq ≤ 8) (fun zq => 8 - zq) 0 13 [(0, _), (2, _), (5, _)] ⟨rfl, rfl, rfl, trivial⟩ [] trivial ?_ ?_ rfl rfl (Nat.zero_le _) ?_
      · repeat' (first | exact trivial | apply And.intro | exact ⟨_, rfl, Z.Imp.refl _⟩)
      · repeat' (first | exact trivial | exact (fun b hb => ⟨b, hb, Z.ImpO.refl b⟩) | (intro b hb; cases hb; refine ⟨_, rfl, ⟨rfl, rfl, rfl⟩, ⟨⟨Z.Imp.of_eq (congrArg (Ce.ro true 1) (by first | ((try simp only [tk_drop]); simp only [← List.map_drop, List.drop_drop, List.map_cons, List.drop_succ_cons, List.drop_zero]; done) | (simp [tk_map]; done) | (simp [tk_map, List.take_of_length_le]; done))), Z.Imp.refl _, trivial⟩, trivial⟩⟩; done) | apply And.intro)
      rintro j HINV
      (try dsimp only at HINV); (try dsimp only)
      by_cases hj : j < 8
      · obtain ⟨z9, hzr⟩ := getElem?_some' (xs := r) (i := j) (by (try rw [List.length_drop]); omega)
        have hzd : (r.take 8)[j]? = some z9 := by rw [List.getElem?_take, if_pos hj]; exact hzr
        have hzb := hBr z9 (List.mem_of_getElem? hzr)
        have hnl := num_lt (l := r) (i := j) (by omega) (by (try rw [List.length_drop]); omega) hBr
        generalize hnv : numR (r.take j) = nv at *
        repeat' ((conv => whnf); first
          | (with_reducible refine spB_dec ?_ ?_ <;> intro _ <;> (try (exfalso; first | contradiction | omega | (rename_i hz; refine hz ?_; simp; done) | (rename_i hz; simp at hz; done) | (simp only [LN] at *; omega))))
          | ((with_reducible refine wr_shl8 ?_ ?_); (focus omega))
          | ((with_reducible refine rowN_mk (eB z9) ?_ ?_); (focus (exact rest_at (by first | ((try simp only [tk_drop]); simp only [Nat.sub_zero, List.drop_zero, ← List.map_drop, ← List.map_take, List.map_cons, List.drop_succ_cons]; done) | (simp [tk_map]; done)) hzd)))
          | ((with_reducible refine ixN_mk (j) ?_ ?_ ?_); (focus (first | rfl)); (focus ((try simp only [LN] at *) <;> omega)))
          | ((with_reducible refine eqN_mk2 ?_ ?_); (focus rfl))
          | with_reducible refine wr_i64 (by first | omega | (simp only [LN] at *; omega)) ?_
          | with_reducible refine wr_u64 (by omega) ?_
          | with_reducible first | refine Z.drawZ_rule tabOk mixOk ?_ | refine Z.apZ_mk (by kernel_rfl) ?_)
        all_goals (try (conv => whnf))
        all_goals try (show Nat.ble _ _ = true; rfl)
        all_goals try (exfalso; rename_i hz; cases hz; done)
        all_goals try (exfalso; (try simp only [LN] at *) <;> omega)
        all_goals first
          | ((refine Z.rnd_rw 12 ([[.v (.int .u64 (numR (r.take (j + 1))))]]) rfl rfl ?_ ?_); (focus (rw [take_snoc hzr, numR_snoc, hnv]; exact congrArg (fun z => [[Ce.v (.int .u64 z)]]) (or_add hnl hzb))); ((refine Z.rndK ((j + 1)) (fun s => [0, 1, 2, 3, 4, 5, 6, 7, 8, 9, 10, 11, 12]) rfl rfl rfl rfl ?_ ?_ ?_ ?_); (focus (repeat' (first | exact trivial | exact rfl | apply And.intro))); (focus (repeat' (first | exact trivial | (intro b hb; cases hb; rfl) | exact Z.gB_sub rfl rfl (ren_map fun _ => rfl) | apply And.intro))); (focus (((try dsimp only); omega))); ((try dsimp only); omega)))
      have hj8 : j = 8 := by omega
      repeat' ((conv => whnf); first
        | (with_reducible refine spB_dec ?_ ?_ <;> intro _ <;> (try (exfalso; first | contradiction | omega | (rename_i hz; refine hz ?_; simp; done) | (rename_i hz; simp at hz; done) | (simp only [LN] at *; omega)))))
      all_goals (try (conv => whnf))
      subst hj8
      exact hq9
    generalize hnv8 : numR (r.take 8) = v8 at *)
  repeat' ((conv => whnf); first
    | ((with_reducible apply spB_cong); (focus (simp only [beq_self_eq_true, bne_self_eq_false, Bool.true_bne, Bool.false_bne, Bool.bne_true, Bool.bne_false, Bool.true_beq, Bool.false_beq, Bool.not_true, Bool.not_false, Bool.not_not, Int.reduceBEq, Int.reduceBNe, Int.reduceLE, Int.reduceLT, Int.reduceEq, decide_true, decide_false]; rfl)))
    | with_reducible first | refine spB_no (by decide) ?_
    | (with_reducible refine spB_dec ?_ ?_ <;> intro _ <;> (try (exfalso; first | contradiction | omega | (rename_i hz; refine hz ?_; simp; done) | (rename_i hz; simp at hz; done) | (simp only [LN] at *; omega))))
    | ((refine sl3N_mk 0 8 8 rfl rfl rfl ?_ ?_ ?_ ?_ ?_); (iterate 4 (focus (first | exact .inl rfl | ((try simp only [LN] at *) <;> omega)))))
    | ((with_reducible refine Z.slN_lo 8 ?_ ?_ ?_); (focus rfl); (focus ((try simp only [LN] at *) <;> omega)))
    | (refine wr_mk (IntKind.i64.wrap v8) rfl ?_)
    | with_reducible first | refine Z.callZ_in tabOk 18 Try.f130 _ Try.func130 (by kernel_rfl) rfl rfl rfl ?_ | refine Z.callZ_in tabOk 5 Try.f82 _ Try.func82 (by kernel_rfl) rfl rfl rfl ?_ | refine Z.callZ_in tabOk 10 Try.f112 _ Try.func112 (by kernel_rfl) rfl rfl rfl ?_ | refine Z.callZ_in tabOk 58 Try.f129 _ Try.func129 (by kernel_rfl) rfl rfl rfl ?_
    | ((with_reducible apply ex_and); exact rfl))
  all_goals (try (conv => whnf))
  all_goals try (show Nat.ble _ _ = true; rfl)
  all_goals try (exfalso; rename_i hz; cases hz; done)
  all_goals try (exfalso; (try simp only [LN] at *) <;> omega)
  all_goals (
    apply loopQ3
    · intro Q0 hq9
      refine Z.loopK tabOk (fun zq : Nat => [(6, .val (.int .i64 (zq : Int)))]) (fun zq : Nat => ([(14, some (Z.Ob.b ⟨[[.v (.int .u64 (numR ((r.drop 8).take zq)))]], 1, 113, true⟩)), (0, some (Z.Ob.b ⟨[[.v (.slice none 0 0)]], 1, 30, true⟩)), (1, some (Z.Ob.b ⟨[[.ro true 1 ((r.drop 8).map eB), .v (.int .i64 0)]], 2, 147, true⟩)), (2, some (Z.Ob.b ⟨[[.gsl 5 (acc.map cK)]], 1, 30, true⟩)), (5, (gB 4 74 (acc.map cK)).map Z.Ob.b), (10, some (Z.Ob.b ⟨[[.v (.int .i64 t), .v (.int .i64 w), .v (.int .i64 0), .v (.int .i64 0)]], 4, 74, true⟩))] : Z.Kr)) (fun zq => zq ≤ 8) (fun zq => 8 - zq) 0 15 [(0, _), (2, _), (5, _)] ⟨rfl, rfl, rfl, trivial⟩ [] trivial ?_ ?_ rfl rfl (Nat.zero_le _) ?_
      · repeat' (first | exact trivial | apply And.intro | exact ⟨_, rfl, Z.Imp.refl _⟩)
      · repeat' (first | exact trivial | exact (fun b hb => ⟨b, hb, Z.ImpO.refl b⟩) | (intro b hb; cases hb; refine ⟨_, rfl, ⟨rfl, rfl, rfl⟩, ⟨⟨Z.Imp.of_eq (congrArg (Ce.ro true 1) (by first | ((try simp only [tk_drop]); simp only [← List.map_drop, List.drop_drop, List.map_cons, List.drop_succ_cons, List.drop_zero]; done) | (simp [tk_map]; done) | (simp [tk_map, List.take_of_length_le]; done))), Z.Imp.refl _, trivial⟩, trivial⟩⟩; done) | apply And.intro)
      rintro j HINV
      (try dsimp only at HINV); (try dsimp only)
      by_cases hj : j < 8
      · obtain ⟨z9, hzr⟩ := getElem?_some' (xs := (r.drop 8)) (i := j) (by (try rw [List.length_drop]); omega)
        have hzd : ((r.drop 8).take 8)[j]? = some z9 := by rw [List.getElem?_take, if_pos hj]; exact hzr
        have hzb := (isB_drop hBr) z9 (List.mem_of_getElem? hzr)
        have hnl := num_lt (l := (r.drop 8)) (i := j) (by omega) (by (try rw [List.length_drop]); omega) (isB_drop hBr)
        generalize hnv : numR ((r.drop 8).take j) = nv at *
        repeat' ((conv => whnf); first
          | (with_reducible refine spB_dec ?_ ?_ <;> intro _ <;> (try (exfalso; first | contradiction | omega | (rename_i hz; refine hz ?_; simp; done) | (rename_i hz; simp at hz; done) | (simp only [LN] at *; omega))))
          | ((with_reducible refine wr_shl8 ?_ ?_); (focus omega))
          | ((with_reducible refine rowN_mk (eB z9) ?_ ?_); (focus (exact rest_at (by first | ((try simp only [tk_drop]); simp only [Nat.sub_zero, List.drop_zero, ← List.map_drop, ← List.map_take, List.map_cons, List.drop_succ_cons]; done) | (simp [tk_map]; done)) hzd)))
          | ((with_reducible refine ixN_mk (j) ?_ ?_ ?_); (focus (first | rfl)); (focus ((try simp only [LN] at *) <;> omega)))
          | ((with_reducible refine eqN_mk2 ?_ ?_); (focus rfl))
          | with_reducible refine wr_i64 (by first | omega | (simp only [LN] at *; omega)) ?_
          | with_reducible refine wr_u64 (by omega) ?_
          | with_reducible first | refine Z.drawZ_rule tabOk mixOk ?_ | refine Z.apZ_mk (by kernel_rfl) ?_)
        all_goals (try (conv => whnf))
        all_goals try (show Nat.ble _ _ = true; rfl)
        all_goals try (exfalso; rename_i hz; cases hz; done)
        all_goals try (exfalso; (try simp only [LN] at *) <;> omega)
        all_goals first
          | ((refine Z.rnd_rw 14 ([[.v (.int .u64 (numR ((r.drop 8).take (j + 1))))]]) rfl rfl ?_ ?_); (focus (rw [take_snoc hzr, numR_snoc, hnv]; exact congrArg (fun z => [[Ce.v (.int .u64 z)]]) (or_add hnl hzb))); ((refine Z.rndK ((j + 1)) (fun s => [0, 1, 2, 3, 4, 5, 6, 7, 8, 9, 10, 11, 12, 13, 14]) rfl rfl rfl rfl ?_ ?_ ?_ ?_); (focus (repeat' (first | exact trivial | exact rfl | apply And.intro))); (focus (repeat' (first | exact trivial | (intro b hb; cases hb; rfl) | exact Z.gB_sub rfl rfl (ren_map fun _ => rfl) | apply And.intro))); (focus (((try dsimp only); omega))); ((try dsimp only); omega)))
      have hj8 : j = 8 := by omega
      repeat' ((conv => whnf); first
        | (with_reducible refine spB_dec ?_ ?_ <;> intro _ <;> (try (exfalso; first | contradiction | omega | (rename_i hz; refine hz ?_; simp; done) | (rename_i hz; simp at hz; done) | (simp only [LN] at *; omega)))))
      all_goals (try (conv => whnf))
      subst hj8
      exact hq9
    generalize hnv9 : numR ((r.drop 8).take 8) = v9 at *
    have hd1 : rowD (t :: w :: r) = ⟨t, w, IntKind.i64.wrap v8, IntKind.i64.wrap v9⟩ := by rw [← hnv8, ← hnv9]; rfl)
  repeat' ((conv => whnf); first
    | ((with_reducible refine Z.slN_lo 8 ?_ ?_ ?_); (focus rfl); (focus ((try simp only [LN] at *) <;> omega)))
    | ((with_reducible refine wr_mk (i : Int) hj1 ?_))
    | (refine wr_mk (IntKind.i64.wrap v9) rfl ?_)
    | ((with_reducible refine posE_pos ?_ ?_); (focus ((try simp only [LN] at *) <;> omega)))
    | ((with_reducible refine apdN.mk ?_ ?_ ?_ ?_ ?_ ?_); (focus (first | rfl)); (focus (first | exact one_all (by rfl))); (focus ((try simp only [LN] at *) <;> omega)); (focus ((try simp only [LN] at *) <;> omega)); (focus ((try simp only [LN] at *) <;> omega)))
    | ((with_reducible refine eqN_mk2 ?_ ?_); (focus (exact Z.kb_some rfl)))
    | ((with_reducible apply ex_and); exact rfl))
  all_goals (try (conv => whnf))
  all_goals try (show Nat.ble _ _ = true; rfl)
  all_goals try (exfalso; rename_i hz; cases hz; done)
  all_goals try (exfalso; (try simp only [LN] at *) <;> omega)
  all_goals first
    | ((refine Z.rnd_bi 1 [[.ro true 1 ((r.drop 16).map eB), _]] rfl rfl ⟨⟨Z.Imp.of_eq (congrArg (Ce.ro true 1) (by first | ((try simp only [tk_drop]); simp only [← List.map_drop, List.drop_drop, List.map_cons, List.drop_succ_cons, List.drop_zero]; done) | (simp; done) | (simp [tk_map]; done))), Z.Imp.refl _, trivial⟩, trivial⟩ ?_); ((refine Z.rndK ((i, (r.drop 16), acc ++ [(⟨t, w, IntKind.i64.wrap v8, IntKind.i64.wrap v9⟩ : Kc)], 0)) (fun s => [0, 1, 2, 3, 4, s.idIn 2 0]) rfl rfl rfl rfl ?_ ?_ ?_ ?_); (focus (repeat' (first | exact trivial | exact rfl | apply And.intro))); (focus (repeat' (first | exact trivial | (intro b hb; cases hb; rfl) | (intro b hb; cases hb; rw [List.map_append]; rfl) | exact Z.gB_sub' rfl (by first | rfl | (rw [List.map_append]; rfl) | simp only [List.map_append, List.map_cons, List.map_nil]) (ren_map fun _ => rfl) | apply And.intro))); (focus (exact ⟨by (try dsimp only); omega, ⟨by (try dsimp only); first | (intro x hx; cases hx; done) | exact hBr | exact isB_drop hBr, by (try dsimp only); (try simp only [List.length_cons, List.length_drop, List.length_nil] at *); omega⟩, by (try dsimp only); simp only [List.length_append, List.length_cons, List.length_nil]; omega, .inl ⟨rfl, by (try dsimp only); rw [HD, preK_step (by simp only [List.length_cons]; omega) hd1]; rfl⟩⟩)); ((try dsimp only); omega)))
end Go.Proofs.Ytehhmkdghgabaaa
namespace Go.Proofs.Ytehhmkdghgabaaa
open Go Go.RowKit Wx
set_option linter.unusedVariables false
set_option linter.unusedSimpArgs false
set_option maxHeartbeats 4000000
theorem decode_con (b : List Int) (hl : b.length ≤ 1099511627776) (hB : isB b) : Con Try.prog 40 [.one (.ro false 1 (b.map eB))] (fun rx rK rt => rx = .tup [.agg [.ro true 4 ((decT b).1.map eK)], .one (.v (.int .i64 (decT b).2))] ∧ rK = [] ∧ rt = 0) := by
  refine Z.con_ofF tabOk 59 Try.f40 _ Try.func40 (by kernel_rfl) rfl rfl rfl rfl ?_
  rcases b with _ | ⟨n0, b⟩
  · have ccp := copied_con [] (by simp)
    repeat' ((conv => whnf); first
      | ((with_reducible apply spB_cong); (focus (simp only [beq_self_eq_true, bne_self_eq_false, Bool.true_bne, Bool.false_bne, Bool.bne_true, Bool.bne_false, Bool.true_beq, Bool.false_beq, Bool.not_true, Bool.not_false, Bool.not_not, Int.reduceBEq, Int.reduceBNe, Int.reduceLE, Int.reduceLT, Int.reduceEq, decide_true, decide_false]; rfl)))
      | with_reducible first | refine spB_yes (by decide) ?_ | refine spB_no (by decide) ?_
      | with_reducible first | refine wr_mk _ rfl ?_
      | with_reducible first | refine Z.callZ_in tabOk 8 Try.f78 _ Try.func78 (by kernel_rfl) rfl rfl rfl ?_ | refine Z.callZ_in tabOk 6 Try.f79 _ Try.func79 (by kernel_rfl) rfl rfl rfl ?_ | refine Z.callZ_in tabOk 10 Try.f112 _ Try.func112 (by kernel_rfl) rfl rfl rfl ?_ | refine Z.callZ_in tabOk 58 Try.f129 _ Try.func129 (by kernel_rfl) rfl rfl rfl ?_
      | ((first | (with_reducible refine Z.callZ_mk ?_ (ccp) ?_)); (focus ((repeat' (first | exact trivial | exact rfl | apply And.intro)); done)))
      | ((with_reducible apply ex_and); exact rfl))
    all_goals (try (conv => whnf))
    all_goals try (show Nat.ble _ _ = true; rfl)
    all_goals try (exfalso; rename_i hz; cases hz; done)
    all_goals try (exfalso; (try simp only [LN] at *) <;> omega)
    all_goals (refine Z.loopZ_unroll tabOk 1 ?_)
    repeat' ((conv => whnf); first
      | with_reducible first | refine spB_t ?_
      | ((with_reducible apply spB_cong); (focus (simp only [beq_self_eq_true, bne_self_eq_false, Bool.true_bne, Bool.false_bne, Bool.bne_true, Bool.bne_false, Bool.true_beq, Bool.false_beq, Bool.not_true, Bool.not_false, Bool.not_not, Int.reduceBEq, Int.reduceBNe, Int.reduceLE, Int.reduceLT, Int.reduceEq, decide_true, decide_false]; rfl)))
      | with_reducible first | refine spB_no (by decide) ?_
      | with_reducible first | refine Z.callZ_in tabOk 10 Try.f80 _ Try.func80 (by kernel_rfl) rfl rfl rfl ?_
      | ((with_reducible apply ex_and); exact rfl))
    all_goals (try (conv => whnf))
    all_goals try (show Nat.ble _ _ = true; rfl)
    all_goals try (exfalso; rename_i hz; cases hz; done)
    all_goals try (exfalso; (try simp only [LN] at *) <;> omega)
    all_goals first
      | ((first | (with_reducible apply Z.retF2)); (focus (exact rfl)); (repeat' (first | exact trivial | (with_reducible apply Z.frz_one) | (with_reducible apply Z.frz_agg) | (with_reducible apply Z.fq_int) | (exact Z.frz_nil) | exact rfl | apply And.intro)); (all_goals (try exact (fun _ => none))); all_goals (first | (simp; done)))
  have hn0 := hB n0 (List.mem_cons_self ..)
  rcases b with _ | ⟨n1, b⟩
  · have ccp := copied_con [n0] (by simp)
    repeat' ((conv => whnf); first
      | ((with_reducible apply spB_cong); (focus (simp only [beq_self_eq_true, bne_self_eq_false, Bool.true_bne, Bool.false_bne, Bool.bne_true, Bool.bne_false, Bool.true_beq, Bool.false_beq, Bool.not_true, Bool.not_false, Bool.not_not, Int.reduceBEq, Int.reduceBNe, Int.reduceLE, Int.reduceLT, Int.reduceEq, decide_true, decide_false]; rfl)))
      | with_reducible first | refine spB_no (by decide) ?_
      | (with_reducible refine spB_dec ?_ ?_ <;> intro _ <;> (try (exfalso; first | contradiction | omega | (rename_i hz; refine hz ?_; simp; done) | (rename_i hz; simp at hz; done) | (simp only [LN] at *; omega))))
      | with_reducible first | refine wr_mk _ rfl ?_
      | with_reducible first | refine Z.callZ_in tabOk 8 Try.f78 _ Try.func78 (by kernel_rfl) rfl rfl rfl ?_ | refine Z.callZ_in tabOk 6 Try.f79 _ Try.func79 (by kernel_rfl) rfl rfl rfl ?_ | refine Z.callZ_in tabOk 10 Try.f112 _ Try.func112 (by kernel_rfl) rfl rfl rfl ?_ | refine Z.callZ_in tabOk 58 Try.f129 _ Try.func129 (by kernel_rfl) rfl rfl rfl ?_
      | ((first | (with_reducible refine Z.callZ_mk ?_ (ccp) ?_)); (focus ((repeat' (first | exact trivial | exact rfl | apply And.intro)); done)))
      | ((with_reducible apply ex_and); exact rfl))
    all_goals (try (conv => whnf))
    all_goals try (show Nat.ble _ _ = true; rfl)
    all_goals try (exfalso; rename_i hz; cases hz; done)
    all_goals try (exfalso; (try simp only [LN] at *) <;> omega)
    all_goals (refine Z.loopZ_unroll tabOk 1 ?_)
    repeat' ((conv => whnf); first
      | with_reducible first | refine spB_t ?_
      | ((with_reducible apply spB_cong); (focus (simp only [beq_self_eq_true, bne_self_eq_false, Bool.true_bne, Bool.false_bne, Bool.bne_true, Bool.bne_false, Bool.true_beq, Bool.false_beq, Bool.not_true, Bool.not_false, Bool.not_not, Int.reduceBEq, Int.reduceBNe, Int.reduceLE, Int.reduceLT, Int.reduceEq, decide_true, decide_false]; rfl)))
      | with_reducible first | refine spB_no (by decide) ?_
      | with_reducible first | refine Z.callZ_in tabOk 10 Try.f80 _ Try.func80 (by kernel_rfl) rfl rfl rfl ?_
      | ((with_reducible apply ex_and); exact rfl))
    all_goals (try (conv => whnf))
    all_goals try (show Nat.ble _ _ = true; rfl)
    all_goals try (exfalso; rename_i hz; cases hz; done)
    all_goals try (exfalso; (try simp only [LN] at *) <;> omega)
    all_goals first
      | ((first | (with_reducible apply Z.retF2)); (focus (exact rfl)); (repeat' (first | exact trivial | (with_reducible apply Z.frz_one) | (with_reducible apply Z.frz_agg) | (with_reducible apply Z.fq_int) | (exact Z.frz_nil) | exact rfl | apply And.intro)); (all_goals (try exact (fun _ => none))); all_goals (first | (simp; done)))
  have hn1 := hB n1 (by simp)
  have hBb : isB b := fun x hx => hB x (by simp [hx])
  have ccp := copied_con (n0 :: n1 :: b) hl
  have hll : b.length + 2 ≤ 1099511627776 := by simpa using hl
  obtain ⟨N, hNn⟩ : ∃ N : Nat, n0 * 256 + n1 = (N : Int) := ⟨(n0 * 256 + n1).toNat, by omega⟩
  have hN : N ≤ 65535 := by omega
  have hNe : Z.ImpV (AV.val (Value.int .i64 (n0 * 256 + n1))) (AV.val (Value.int .i64 (N : Int))) := by rw [hNn]; exact Z.ImpV.refl _
  have hdT : decT (n0 :: n1 :: b) = if (decK N b).2.1 = 0 then (if tabR (decK N b).1 = true ∧ (decK N b).2.2 = [] then ((decK N b).1, 0) else ([], 220)) else ([], 7) := by
    have e : numR ((n0 :: n1 :: b).take 2) = (N : Int) := by rw [← hNn]; show (0 * 256 + n0) * 256 + n1 = _; omega
    unfold decT
    rw [if_neg (by simp), e, Int.toNat_natCast]
    rfl
  rw [hdT]
  repeat' ((conv => whnf); first
    | with_reducible first | refine spB_t ?_
    | ((with_reducible apply spB_cong); (focus (simp only [beq_self_eq_true, bne_self_eq_false, Bool.true_bne, Bool.false_bne, Bool.bne_true, Bool.bne_false, Bool.true_beq, Bool.false_beq, Bool.not_true, Bool.not_false, Bool.not_not, Int.reduceBEq, Int.reduceBNe, Int.reduceLE, Int.reduceLT, Int.reduceEq, decide_true, decide_false]; rfl)))
    | with_reducible first | refine spB_yes (by decide) ?_ | refine spB_no (by decide) ?_
    | (with_reducible refine spB_dec ?_ ?_ <;> intro _ <;> (try (exfalso; first | contradiction | omega | (rename_i hz; refine hz ?_; simp; done) | (rename_i hz; simp at hz; done) | (simp only [LN] at *; omega))))
    | ((with_reducible refine wr_shl8 ?_ ?_); (focus omega))
    | with_reducible first | refine rowN_mk _ rfl ?_
    | ((with_reducible refine Z.slN_lo 2 ?_ ?_ ?_); (focus rfl); (focus ((try simp only [LN] at *) <;> omega)))
    | (refine loopZ_unr2 tabOk rfl ?_)
    | (refine wr_n16 hn0 hn1 ?_)
    | ((with_reducible apply ixN_lit); (focus (exact rfl)); (focus (exact rfl)))
    | ((with_reducible refine eqN_mk2 ?_ ?_); (focus rfl))
    | ((with_reducible apply sl3N_mk); (focus (exact rfl)); (focus (exact rfl)); (focus (exact rfl)); (focus ((try simp only [LN] at *) <;> omega)); (focus ((try simp only [LN] at *) <;> omega)); (focus ((try simp only [LN] at *) <;> omega)); (focus ((try simp only [LN] at *) <;> omega)))
    | with_reducible refine wr_i64 (by first | omega | (simp only [LN] at *; omega)) ?_
    | with_reducible refine wr_u64 (by omega) ?_
    | with_reducible first | refine wr_mk _ rfl ?_
    | with_reducible first | refine Z.callZ_in tabOk 18 Try.f130 _ Try.func130 (by kernel_rfl) rfl rfl rfl ?_ | refine Z.callZ_in tabOk 8 Try.f78 _ Try.func78 (by kernel_rfl) rfl rfl rfl ?_ | refine Z.callZ_in tabOk 6 Try.f79 _ Try.func79 (by kernel_rfl) rfl rfl rfl ?_ | refine Z.callZ_in tabOk 10 Try.f112 _ Try.func112 (by kernel_rfl) rfl rfl rfl ?_ | refine Z.callZ_in tabOk 58 Try.f129 _ Try.func129 (by kernel_rfl) rfl rfl rfl ?_
    | ((first | (with_reducible refine Z.callZ_mk ?_ (ccp) ?_)); (focus ((repeat' (first | exact trivial | exact rfl | apply And.intro)); done)))
    | ((with_reducible apply ex_and); exact rfl)
    | with_reducible first | refine Z.drawZ_rule tabOk mixOk ?_ | refine Z.apZ_mk (by kernel_rfl) ?_)
  all_goals (try (conv => whnf))
  all_goals try (show Nat.ble _ _ = true; rfl)
  all_goals try (exfalso; rename_i hz; cases hz; done)
  all_goals try (exfalso; (try simp only [LN] at *) <;> omega)
  refine Z.loopK tabOk dCH dCK (dInv b N) (fun zq => zq.1) (N, b, [], 0) 6 dFk ⟨rfl, rfl, rfl, trivial⟩ dKk ⟨rfl, trivial⟩ ?_ ?_ rfl rfl ⟨Nat.le_refl _, ⟨hBb, by (try dsimp only); omega⟩, by simp, .inl ⟨rfl, preK_nil N b⟩⟩ ?_
  · repeat' (first | exact trivial | apply And.intro | exact ⟨_, rfl, hNe⟩)
  · repeat' (first | exact trivial | (intro b hb; cases hb; done) | (intro b hb; cases hb; refine ⟨_, rfl, ⟨rfl, rfl, rfl⟩, ?_⟩; (try exact ⟨⟨Z.Imp.of_eq (congrArg (Ce.ro true 1) (by simp [tk_map])), Z.Imp.refl _, trivial⟩, trivial⟩); (repeat' (first | exact trivial | apply And.intro | exact Z.Imp.nilg _)); done) | apply And.intro)
  rintro ⟨i, r, acc, rf⟩ HINV
  obtain ⟨HI, ⟨HBr, HLr⟩, HC, HD⟩ := HINV
  dsimp only at HI HBr HLr HC HD
  rcases HD with ⟨rfl, HD⟩ | ⟨rfl, HD⟩
  rotate_left
  · rw [HD]
    dsimp only [dCH, dFk, dCK, dKk]
    simp only [show ((7 : Int) = 0) = False by simp, if_false]
    rcases i with _ | i
    all_goals (
    repeat' ((conv => whnf); first
      | with_reducible first | refine spB_t ?_
      | ((with_reducible apply spB_cong); (focus (simp only [beq_self_eq_true, bne_self_eq_false, Bool.true_bne, Bool.false_bne, Bool.bne_true, Bool.bne_false, Bool.true_beq, Bool.false_beq, Bool.not_true, Bool.not_false, Bool.not_not, Int.reduceBEq, Int.reduceBNe, Int.reduceLE, Int.reduceLT, Int.reduceEq, decide_true, decide_false]; rfl)))
      | with_reducible first | refine spB_no (by decide) ?_
      | (with_reducible refine spB_dec ?_ ?_ <;> intro _ <;> (try (exfalso; first | contradiction | omega | (rename_i hz; refine hz ?_; simp; done) | (rename_i hz; simp at hz; done) | (simp only [LN] at *; omega) | (simp_all; done))))
      | with_reducible first | refine Z.callZ_in tabOk 10 Try.f80 _ Try.func80 (by kernel_rfl) rfl rfl rfl ?_
      | ((with_reducible apply ex_and); exact rfl))
    all_goals (try (conv => whnf)))
    all_goals try (show Nat.ble _ _ = true; rfl)
    all_goals try (exfalso; rename_i hz; cases hz; done)
    all_goals try (exfalso; (try simp only [LN] at *) <;> omega)
    all_goals first
      | ((first | (with_reducible apply Z.retF2)); (focus (exact rfl)); (repeat' (first | exact trivial | (with_reducible apply Z.frz_one) | (with_reducible apply Z.frz_agg) | (with_reducible apply Z.fq_int) | (exact Z.frz_nil) | exact rfl | apply And.intro)); (all_goals (try exact (fun _ => none))); all_goals (first | (simp; done)))
  rcases i with _ | i
  rotate_left
  · rcases r with _ | ⟨t, r⟩
    · exact dec_a b N i acc HBr HLr HC HD (by omega)
    rcases r with _ | ⟨w, r⟩
    · exact dec_b b N i acc t HBr HLr HC HD (by omega)
    by_cases h4 : r.length < 8
    · exact dec_c b N i acc t w r HBr HLr HC HD (by omega) h4
    by_cases h5 : r.length < 16
    · exact dec_d b N i acc t w r HBr HLr HC HD (by omega) (by omega) h5
    exact dec_e b N i acc t w r HBr HLr HC HD (by omega) (by omega)
  have hD9 : decK N b = (acc, 0, r) := by rw [HD]; simp [preK, decK]
  rw [hD9]
  dsimp only [dCH, dFk, dCK, dKk]
  simp only [if_true]
  have cc := check_con acc (by omega)
  cases hk : tabR acc
  all_goals rw [hk] at cc
  all_goals simp only [cond_true, cond_false] at cc
  all_goals rcases r with _ | ⟨x, r⟩
  all_goals simp only [true_and, if_true, reduceCtorEq, if_false, and_false, false_and, Bool.false_eq_true]
  all_goals (
    repeat' ((conv => whnf); first
      | with_reducible first | refine spB_t ?_
      | ((with_reducible apply spB_cong); (focus (simp only [beq_self_eq_true, bne_self_eq_false, Bool.true_bne, Bool.false_bne, Bool.bne_true, Bool.bne_false, Bool.true_beq, Bool.false_beq, Bool.not_true, Bool.not_false, Bool.not_not, Int.reduceBEq, Int.reduceBNe, Int.reduceLE, Int.reduceLT, Int.reduceEq, decide_true, decide_false]; rfl)))
      | with_reducible first | refine spB_no (by decide) ?_
      | (with_reducible refine spB_dec ?_ ?_ <;> intro _ <;> (try (exfalso; first | contradiction | omega | (rename_i hz; refine hz ?_; simp; done) | (rename_i hz; simp at hz; done) | (simp only [LN] at *; omega))))
      | with_reducible first | refine Z.callZ_in tabOk 10 Try.f80 _ Try.func80 (by kernel_rfl) rfl rfl rfl ?_ | refine Z.callZ_in tabOk 11 Try.f83 _ Try.func83 (by kernel_rfl) rfl rfl rfl ?_
      | ((first | (with_reducible refine Z.callZ_mk ?_ (cc) ?_)); (focus ((repeat' (first | exact trivial | exact Z.low_gslm (by first | rfl | exact Z.kb_some rfl) (fun _ => rfl) | apply And.intro)); done)))
      | ((with_reducible apply ex_and); exact rfl))
    all_goals (try (conv => whnf)))
  all_goals try (show Nat.ble _ _ = true; rfl)
  all_goals try (exfalso; rename_i hz; cases hz; done)
  all_goals try (exfalso; (try simp only [LN] at *) <;> omega)
  all_goals first
    | ((first | (with_reducible apply Z.retF2)); (focus (exact rfl)); (repeat' (first | exact trivial | (with_reducible apply Z.frz_one) | (with_reducible apply Z.frz_agg) | (with_reducible apply Z.fq_int) | (exact Z.frz_nil) | ((with_reducible apply Z.fq_gsl); (focus (first | exact Z.isB_map _)); (focus (exact fun _ => rfl))) | exact rfl | apply And.intro)); (all_goals (try exact (fun _ => none))); all_goals (first | (simp; done)))
end Go.Proofs.Ytehhmkdghgabaaa
namespace Go.Proofs.Ytehhmkdghgabaaa
open Go Go.RowKit Wx
set_option linter.unusedVariables false
set_option linter.unusedSimpArgs false
set_option maxHeartbeats 4000000
theorem rcheck_con (l : List Kc) (hl : l.length ≤ 9223372036854775807) : Con Try.prog 14 [.agg [.ro false 4 (l.map eK)]] (fun rx rK rt => rx = .val (.bool (tabR l)) ∧ rK = [] ∧ rt = 0) := by
  refine Z.con_ofF tabOk 41 Try.f14 _ Try.func14 (by kernel_rfl) rfl rfl rfl rfl ?_
  repeat' ((conv => whnf); first
    | with_reducible first | refine spB_t ?_
    | fail)
  all_goals (try (conv => whnf))
  all_goals try (show Nat.ble _ _ = true; rfl)
  all_goals try (exfalso; rename_i hz; cases hz; done)
  all_goals try (exfalso; (try simp only [LN] at *) <;> omega)
  refine Z.loopK tabOk (fun zq : Nat => [(8, .val (.int .i64 (zq : Int)))]) (fun zq : Nat => ([(0, some (Z.Ob.b ⟨[[.ro false 4 (l.map eK)]], 1, 30, true⟩))] : Z.Kr)) (fun zq => zq ≤ l.length ∧ tabR l = okT (prevR l zq) (l.drop zq)) (fun zq => l.length - zq) 0 1 [(1, _), (6, _), (7, _)] ⟨rfl, rfl, rfl, trivial⟩ [] trivial ?_ ?_ rfl rfl ⟨Nat.zero_le _, rfl⟩ ?_
  · repeat' (first | exact trivial | apply And.intro | exact ⟨_, rfl, Z.Imp.refl _⟩)
  · repeat' (first | exact trivial | exact (fun b hb => ⟨b, hb, Z.ImpO.refl b⟩) | apply And.intro)
  rintro i HINV
  (try dsimp only at HINV); (try dsimp only)
  obtain ⟨HI, HT⟩ := HINV
  by_cases hi : i < l.length
  · obtain ⟨x, hx⟩ := getElem?_some' (xs := l) (i := i) hi
    rw [okT_at hx] at HT
    have ck := rrec_con x.src x.key 0
    cases hk : keyOk x.src x.key
    · rw [hk] at ck HT
      simp only [Bool.false_and, cond_false] at ck HT
      rw [HT]
      try simp only [cond_false]
      repeat' ((conv => whnf); first
        | with_reducible first | refine spB_t ?_
        | ((with_reducible apply spB_cong); (focus (simp only [beq_self_eq_true, bne_self_eq_false, Bool.true_bne, Bool.false_bne, Bool.bne_true, Bool.bne_false, Bool.true_beq, Bool.false_beq, Bool.not_true, Bool.not_false, Bool.not_not, Int.reduceBEq, Int.reduceBNe, Int.reduceLE, Int.reduceLT, Int.reduceEq, decide_true, decide_false]; rfl)))
        | (with_reducible refine spB_dec ?_ ?_ <;> intro _ <;> (try (exfalso; first | contradiction | omega | (rename_i hz; refine hz ?_; simp; done) | (rename_i hz; simp at hz; done) | (simp only [LN] at *; omega))))
        | with_reducible first | refine Z.rowN_known hx ?_
        | ((with_reducible apply ixN_litp); (focus (exact rfl)); (focus ((try simp only [LN] at *) <;> omega)))
        | with_reducible first | refine Z.callZ_in tabOk 8 Try.f47 _ Try.func47 (by kernel_rfl) rfl rfl rfl ?_
        | ((first | (with_reducible refine Z.conZ_mz ?_ (ck) ?_)); (focus ((repeat' (first | exact trivial | exact rfl | apply And.intro)); done)))
        | ((with_reducible apply ex_and); exact rfl)
        | with_reducible first | refine Z.drawZ_rule tabOk mixOk ?_ | refine Z.apZ_mk (by kernel_rfl) ?_
        | ((with_reducible refine Z.ConZ.red ?_); (try subst hlb); (apply Z.conZ_all); (focus (repeat (first | exact Z.FK.nil | (apply Z.FK.keep; exact rfl)))); (focus rfl); (focus rfl); (focus (repeat (first | exact trivial | (refine ⟨(fun o ho => (by first | (cases ho; rfl) | (cases ho; exact Z.inL_map fun _ => rfl) | (cases ho; exact Z.inL_mapr fun _ => rfl) | exact Z.inL_gB ho fun _ => rfl)), ?_⟩)))))
        | ((refine ⟨rfl, ?_, rfl⟩); (focus (repeat (first | exact Z.DK.nil | apply Z.DK.cons))))
        | fail)
      all_goals (try (conv => whnf))
      all_goals try (show Nat.ble _ _ = true; rfl)
      all_goals try (exfalso; rename_i hz; cases hz; done)
      all_goals try (exfalso; (try simp only [LN] at *) <;> omega)
      all_goals first
        | ((first | (with_reducible apply Z.retF1)); (focus (exact rfl)); (repeat' (first | exact trivial | (with_reducible apply Z.frz_one) | (with_reducible apply Z.fq_bool) | exact rfl | apply And.intro)); (all_goals (try exact (fun _ => none))); all_goals (first | (simp; done)))
        | fail
    rw [hk] at ck HT
    simp only [Bool.true_and, cond_true] at ck HT
    by_cases hc : 0 < x.cnt
    rotate_left
    · rw [decide_eq_false hc, Bool.false_and, Bool.false_and] at HT
      rw [HT]
      try simp only [cond_false]
      repeat' ((conv => whnf); first
        | with_reducible first | refine spB_t ?_
        | ((with_reducible apply spB_cong); (focus (simp only [beq_self_eq_true, bne_self_eq_false, Bool.true_bne, Bool.false_bne, Bool.bne_true, Bool.bne_false, Bool.true_beq, Bool.false_beq, Bool.not_true, Bool.not_false, Bool.not_not, Int.reduceBEq, Int.reduceBNe, Int.reduceLE, Int.reduceLT, Int.reduceEq, decide_true, decide_false]; rfl)))
        | with_reducible first | refine spB_no (by decide) ?_
        | (with_reducible refine spB_dec ?_ ?_ <;> intro _ <;> (try (exfalso; first | contradiction | omega | (rename_i hz; refine hz ?_; simp; done) | (rename_i hz; simp at hz; done) | (simp only [LN] at *; omega))))
        | with_reducible first | refine Z.rowN_known hx ?_
        | ((with_reducible apply ixN_litp); (focus (exact rfl)); (focus ((try simp only [LN] at *) <;> omega)))
        | with_reducible first | refine Z.callZ_in tabOk 8 Try.f47 _ Try.func47 (by kernel_rfl) rfl rfl rfl ?_
        | ((first | (with_reducible refine Z.conZ_mz ?_ (ck) ?_)); (focus ((repeat' (first | exact trivial | exact rfl | apply And.intro)); done)))
        | ((with_reducible apply ex_and); exact rfl)
        | with_reducible first | refine Z.drawZ_rule tabOk mixOk ?_ | refine Z.apZ_mk (by kernel_rfl) ?_
        | ((with_reducible refine Z.ConZ.red ?_); (try subst hlb); (apply Z.conZ_all); (focus (repeat (first | exact Z.FK.nil | (apply Z.FK.keep; exact rfl)))); (focus rfl); (focus rfl); (focus (repeat (first | exact trivial | (refine ⟨(fun o ho => (by first | (cases ho; rfl) | (cases ho; exact Z.inL_map fun _ => rfl) | (cases ho; exact Z.inL_mapr fun _ => rfl) | exact Z.inL_gB ho fun _ => rfl)), ?_⟩)))))
        | ((refine ⟨rfl, ?_, rfl⟩); (focus (repeat (first | exact Z.DK.nil | apply Z.DK.cons))))
        | fail)
      all_goals (try (conv => whnf))
      all_goals try (show Nat.ble _ _ = true; rfl)
      all_goals try (exfalso; rename_i hz; cases hz; done)
      all_goals try (exfalso; (try simp only [LN] at *) <;> omega)
      all_goals first
        | ((first | (with_reducible apply Z.retF1)); (focus (exact rfl)); (repeat' (first | exact trivial | (with_reducible apply Z.frz_one) | (with_reducible apply Z.fq_bool) | exact rfl | apply And.intro)); (all_goals (try exact (fun _ => none))); all_goals (first | (simp; done)))
        | fail
    rw [decide_eq_true hc, Bool.true_and] at HT
    rcases i with _ | j
    · have HT2 : tabR l = okT (prevR l 1) (l.drop 1) := by rw [HT]; rfl
      repeat' ((conv => whnf); first
        | ((with_reducible apply spB_cong); (focus (simp only [beq_self_eq_true, bne_self_eq_false, Bool.true_bne, Bool.false_bne, Bool.bne_true, Bool.bne_false, Bool.true_beq, Bool.false_beq, Bool.not_true, Bool.not_false, Bool.not_not, Int.reduceBEq, Int.reduceBNe, Int.reduceLE, Int.reduceLT, Int.reduceEq, decide_true, decide_false]; rfl)))
        | with_reducible first | refine spB_no (by decide) ?_
        | (with_reducible refine spB_dec ?_ ?_ <;> intro _ <;> (try (exfalso; first | contradiction | omega | (rename_i hz; refine hz ?_; simp; done) | (rename_i hz; simp at hz; done) | (simp only [LN] at *; omega))))
        | with_reducible first | refine Z.rowN_known hx ?_
        | ((with_reducible apply ixN_litp); (focus (exact rfl)); (focus ((try simp only [LN] at *) <;> omega)))
        | with_reducible refine wr_i64 (by first | omega | (simp only [LN] at *; omega)) ?_
        | with_reducible first | refine Z.callZ_in tabOk 8 Try.f47 _ Try.func47 (by kernel_rfl) rfl rfl rfl ?_
        | ((first | (with_reducible refine Z.conZ_mz ?_ (ck) ?_)); (focus ((repeat' (first | exact trivial | exact rfl | apply And.intro)); done)))
        | ((with_reducible apply ex_and); exact rfl)
        | with_reducible first | refine Z.drawZ_rule tabOk mixOk ?_ | refine Z.apZ_mk (by kernel_rfl) ?_
        | ((with_reducible refine Z.ConZ.red ?_); (try subst hlb); (apply Z.conZ_all); (focus (repeat (first | exact Z.FK.nil | (apply Z.FK.keep; exact rfl)))); (focus rfl); (focus rfl); (focus (repeat (first | exact trivial | (refine ⟨(fun o ho => (by first | (cases ho; rfl) | (cases ho; exact Z.inL_map fun _ => rfl) | (cases ho; exact Z.inL_mapr fun _ => rfl) | exact Z.inL_gB ho fun _ => rfl)), ?_⟩)))))
        | ((refine ⟨rfl, ?_, rfl⟩); (focus (repeat (first | exact Z.DK.nil | apply Z.DK.cons))))
        | fail)
      all_goals (try (conv => whnf))
      all_goals try (show Nat.ble _ _ = true; rfl)
      all_goals try (exfalso; rename_i hz; cases hz; done)
      all_goals try (exfalso; (try simp only [LN] at *) <;> omega)
      all_goals first
        | ((refine Z.rndK (1) (fun s => [0]) rfl rfl rfl rfl ?_ ?_ ?_ ?_); (focus (repeat' (first | exact trivial | exact rfl | apply And.intro))); (focus (repeat' (first | exact trivial | (intro b hb; cases hb; rfl) | apply And.intro))); (focus (exact ⟨by (try dsimp only); omega, HT2⟩)); ((try dsimp only); omega))
        | fail
    obtain ⟨q, hq⟩ := getElem?_some' (xs := l) (i := j) (by omega)
    have hpr : prevR l (j + 1) = some q := hq
    rw [hpr] at HT
    simp only at HT
    have cc := rcompare_con q.src q.key 0 x.src x.key 0
    have hcl := @cmp_lt q.src q.key x.src x.key
    generalize cmpR q.src q.key x.src x.key = C at *
    by_cases hlt : kLt q.src q.key x.src x.key
    · rw [decide_eq_true hlt] at HT hcl
      have hC : ¬ 0 ≤ C := of_decide_eq_false (by simpa using hcl)
      rw [Bool.true_and] at HT
      repeat' ((conv => whnf); first
        | with_reducible first | refine spB_t ?_
        | ((with_reducible apply spB_cong); (focus (simp only [beq_self_eq_true, bne_self_eq_false, Bool.true_bne, Bool.false_bne, Bool.bne_true, Bool.bne_false, Bool.true_beq, Bool.false_beq, Bool.not_true, Bool.not_false, Bool.not_not, Int.reduceBEq, Int.reduceBNe, Int.reduceLE, Int.reduceLT, Int.reduceEq, decide_true, decide_false]; rfl)))
        | with_reducible first | refine spB_no (by decide) ?_
        | (with_reducible refine spB_dec ?_ ?_ <;> intro _ <;> (try (exfalso; first | contradiction | omega | (rename_i hz; refine hz ?_; simp; done) | (rename_i hz; simp at hz; done) | (simp only [LN] at *; omega))))
        | with_reducible first | refine Z.rowN_known hx ?_ | refine Z.rowN_known hq ?_
        | ((with_reducible refine ixN_mk (j) ?_ ?_ ?_); (focus (first | ((try simp only [LN] at *) <;> omega))); (focus ((try simp only [LN] at *) <;> omega)))
        | ((with_reducible apply ixN_litp); (focus (exact rfl)); (focus ((try simp only [LN] at *) <;> omega)))
        | with_reducible refine wr_i64 (by first | omega | (simp only [LN] at *; omega)) ?_
        | with_reducible first | refine Z.callZ_in tabOk 8 Try.f47 _ Try.func47 (by kernel_rfl) rfl rfl rfl ?_
        | ((first | (with_reducible refine Z.conZ_mz ?_ (ck) ?_) | (with_reducible refine Z.conZ_mz ?_ (cc) ?_)); (focus ((repeat' (first | exact trivial | exact rfl | apply And.intro)); done)))
        | ((with_reducible apply ex_and); exact rfl)
        | with_reducible first | refine Z.drawZ_rule tabOk mixOk ?_ | refine Z.apZ_mk (by kernel_rfl) ?_
        | ((with_reducible refine Z.ConZ.red ?_); (try subst hlb); (apply Z.conZ_all); (focus (repeat (first | exact Z.FK.nil | (apply Z.FK.keep; exact rfl)))); (focus rfl); (focus rfl); (focus (repeat (first | exact trivial | (refine ⟨(fun o ho => (by first | (cases ho; rfl) | (cases ho; exact Z.inL_map fun _ => rfl) | (cases ho; exact Z.inL_mapr fun _ => rfl) | exact Z.inL_gB ho fun _ => rfl)), ?_⟩)))))
        | ((refine ⟨rfl, ?_, rfl⟩); (focus (repeat (first | exact Z.DK.nil | apply Z.DK.cons))))
        | fail)
      all_goals (try (conv => whnf))
      all_goals try (show Nat.ble _ _ = true; rfl)
      all_goals try (exfalso; rename_i hz; cases hz; done)
      all_goals try (exfalso; (try simp only [LN] at *) <;> omega)
      all_goals first
        | ((refine Z.rndK ((j + 1 + 1)) (fun s => [0]) rfl rfl rfl rfl ?_ ?_ ?_ ?_); (focus (repeat' (first | exact trivial | exact rfl | apply And.intro))); (focus (repeat' (first | exact trivial | (intro b hb; cases hb; rfl) | apply And.intro))); (focus (exact ⟨by (try dsimp only); omega, HT⟩)); ((try dsimp only); omega))
        | fail
    · rw [decide_eq_false hlt] at HT hcl
      have hC : 0 ≤ C := of_decide_eq_true (by simpa using hcl)
      rw [Bool.false_and] at HT
      rw [HT]
      try simp only [cond_false]
      repeat' ((conv => whnf); first
        | with_reducible first | refine spB_t ?_
        | ((with_reducible apply spB_cong); (focus (simp only [beq_self_eq_true, bne_self_eq_false, Bool.true_bne, Bool.false_bne, Bool.bne_true, Bool.bne_false, Bool.true_beq, Bool.false_beq, Bool.not_true, Bool.not_false, Bool.not_not, Int.reduceBEq, Int.reduceBNe, Int.reduceLE, Int.reduceLT, Int.reduceEq, decide_true, decide_false]; rfl)))
        | with_reducible first | refine spB_no (by decide) ?_
        | (with_reducible refine spB_dec ?_ ?_ <;> intro _ <;> (try (exfalso; first | contradiction | omega | (rename_i hz; refine hz ?_; simp; done) | (rename_i hz; simp at hz; done) | (simp only [LN] at *; omega))))
        | with_reducible first | refine Z.rowN_known hx ?_ | refine Z.rowN_known hq ?_
        | ((with_reducible refine ixN_mk (j) ?_ ?_ ?_); (focus (first | ((try simp only [LN] at *) <;> omega))); (focus ((try simp only [LN] at *) <;> omega)))
        | ((with_reducible apply ixN_litp); (focus (exact rfl)); (focus ((try simp only [LN] at *) <;> omega)))
        | with_reducible refine wr_i64 (by first | omega | (simp only [LN] at *; omega)) ?_
        | with_reducible first | refine Z.callZ_in tabOk 8 Try.f47 _ Try.func47 (by kernel_rfl) rfl rfl rfl ?_
        | ((first | (with_reducible refine Z.conZ_mz ?_ (ck) ?_) | (with_reducible refine Z.conZ_mz ?_ (cc) ?_)); (focus ((repeat' (first | exact trivial | exact rfl | apply And.intro)); done)))
        | ((with_reducible apply ex_and); exact rfl)
        | with_reducible first | refine Z.drawZ_rule tabOk mixOk ?_ | refine Z.apZ_mk (by kernel_rfl) ?_
        | ((with_reducible refine Z.ConZ.red ?_); (try subst hlb); (apply Z.conZ_all); (focus (repeat (first | exact Z.FK.nil | (apply Z.FK.keep; exact rfl)))); (focus rfl); (focus rfl); (focus (repeat (first | exact trivial | (refine ⟨(fun o ho => (by first | (cases ho; rfl) | (cases ho; exact Z.inL_map fun _ => rfl) | (cases ho; exact Z.inL_mapr fun _ => rfl) | exact Z.inL_gB ho fun _ => rfl)), ?_⟩)))))
        | ((refine ⟨rfl, ?_, rfl⟩); (focus (repeat (first | exact Z.DK.nil | apply Z.DK.cons))))
        | fail)
      all_goals (try (conv => whnf))
      all_goals try (show Nat.ble _ _ = true; rfl)
      all_goals try (exfalso; rename_i hz; cases hz; done)
      all_goals try (exfalso; (try simp only [LN] at *) <;> omega)
      all_goals first
        | ((first | (with_reducible apply Z.retF1)); (focus (exact rfl)); (repeat' (first | exact trivial | (with_reducible apply Z.frz_one) | (with_reducible apply Z.fq_bool) | exact rfl | apply And.intro)); (all_goals (try exact (fun _ => none))); all_goals (first | (simp; done)))
        | fail
  have hil : i = l.length := by omega
  subst hil
  rw [List.drop_length] at HT
  have HT3 : tabR l = true := by rw [HT]; cases prevR l l.length <;> rfl
  rw [HT3]
  try simp only [cond_true]
  repeat' ((conv => whnf); first
    | (with_reducible refine spB_dec ?_ ?_ <;> intro _ <;> (try (exfalso; first | contradiction | omega | (rename_i hz; refine hz ?_; simp; done) | (rename_i hz; simp at hz; done) | (simp only [LN] at *; omega))))
    | fail)
  all_goals (try (conv => whnf))
  all_goals try (show Nat.ble _ _ = true; rfl)
  all_goals try (exfalso; rename_i hz; cases hz; done)
  all_goals try (exfalso; (try simp only [LN] at *) <;> omega)
  all_goals first
    | ((first | (with_reducible apply Z.retF1)); (focus (exact rfl)); (repeat' (first | exact trivial | (with_reducible apply Z.frz_one) | (with_reducible apply Z.fq_bool) | exact rfl | apply And.intro)); (all_goals (try exact (fun _ => none))); all_goals (first | (simp; done)))
    | fail
end Go.Proofs.Ytehhmkdghgabaaa
namespace Go.Proofs.Ytehhmkdghgabaaa
open Go Go.RowKit Wx
set_option linter.unusedVariables false
set_option linter.unusedSimpArgs false
set_option maxHeartbeats 4000000
def rowsB (b : List Int) (n : Nat) : List Kc := (List.range n).map fun j => rowD (b.drop (2 + 18 * j))
theorem rowsB_len {b : List Int} {n : Nat} : (rowsB b n).length = n := by simp [rowsB]
theorem rowsB_succ {b : List Int} {n : Nat} : rowsB b (n + 1) = rowsB b n ++ [rowD (b.drop (2 + 18 * n))] := by unfold rowsB; rw [List.range_succ, List.map_append]; rfl
theorem decK_rows : ∀ {n : Nat} {b : List Int}, 18 * n ≤ b.length → decK n b = ((List.range n).map fun j => rowD (b.drop (18 * j)), 0, b.drop (18 * n))
  | 0, b, _ => by simp [decK]
  | n + 1, b, h => by
    rw [decK, if_neg (by omega), decK_rows (n := n) (by rw [List.length_drop]; omega), if_pos rfl, List.range_succ_eq_map]
    simp only [List.map_cons, List.map_map, List.drop_drop, Nat.mul_zero, List.drop_zero, Prod.mk.injEq, true_and, List.cons.injEq]
    refine ⟨List.map_congr_left fun j _ => ?_, by rw [show 18 + 18 * n = 18 * (n + 1) by omega]⟩
    simp only [Function.comp]
    rw [show 18 + 18 * j = 18 * Nat.succ j by omega]
theorem decT_short {b : List Int} (h : b.length < 2 + 18 * (numR (b.take 2)).toNat) : decT b = ([], 7) := by
  unfold decT
  by_cases h2 : b.length < 2
  · rw [if_pos h2]
  · have e := decK_err (numR (b.take 2)).toNat (b.drop 2)
    rw [if_pos (show (b.drop 2).length < 18 * (numR (b.take 2)).toNat by rw [List.length_drop]; omega)] at e
    rw [if_neg h2, if_neg (by rw [e]; decide)]
theorem decT_full {b : List Int} (h : 2 + 18 * (numR (b.take 2)).toNat ≤ b.length) : decT b = if b.length = 2 + 18 * (numR (b.take 2)).toNat ∧ tabR (rowsB b (numR (b.take 2)).toNat) = true then (rowsB b (numR (b.take 2)).toNat, 0) else ([], 220) := by
  have e : (List.range (numR (b.take 2)).toNat).map (fun j => rowD ((b.drop 2).drop (18 * j))) = rowsB b (numR (b.take 2)).toNat := by
    unfold rowsB; exact List.map_congr_left fun j _ => by rw [List.drop_drop]
  unfold decT
  rw [if_neg (by omega), decK_rows (by rw [List.length_drop]; omega), if_pos rfl]
  dsimp only
  rw [e, List.drop_drop]
  by_cases h1 : b.length = 2 + 18 * (numR (b.take 2)).toNat
  · have h0 : b.drop (2 + 18 * (numR (b.take 2)).toNat) = [] := by rw [← h1]; simp
    by_cases h2 : tabR (rowsB b (numR (b.take 2)).toNat) = true
    · rw [if_pos ⟨h2, h0⟩, if_pos ⟨h1, h2⟩]
    · rw [if_neg (fun q => h2 q.1), if_neg (fun q => h2 q.2)]
  · rw [if_neg (fun q => h1 (by have := congrArg List.length q.2; simp at this; omega)), if_neg (fun q => h1 q.1)]
theorem rdec_con (b : List Int) (hl : b.length ≤ 1099511627776) (hB : isB b) : Con Try.prog 41 [.one (.ro false 1 (b.map eB))] (fun rx rK rt => rx = .tup [.agg [.ro true 4 ((decT b).1.map eK)], .one (.v (.int .i64 (decT b).2))] ∧ rK = [] ∧ rt = 0) := by
  refine Z.con_ofF tabOk 76 Try.f41 _ Try.func41 (by kernel_rfl) rfl rfl rfl rfl ?_
  by_cases h2 : b.length < 2
  · rw [show decT b = ([], 7) by unfold decT; rw [if_pos h2]]
    repeat' ((conv => whnf); first
      | with_reducible first | refine spB_t ?_
      | (with_reducible refine spB_dec ?_ ?_ <;> intro _ <;> (try (exfalso; first | contradiction | omega | (rename_i hz; refine hz ?_; simp; done) | (rename_i hz; simp at hz; done) | (simp only [LN] at *; omega))))
      | fail)
    all_goals (try (conv => whnf))
    all_goals try (show Nat.ble _ _ = true; rfl)
    all_goals try (exfalso; rename_i hz; cases hz; done)
    all_goals try (exfalso; (try simp only [LN] at *) <;> omega)
    all_goals first
      | ((first | (with_reducible apply Z.retF2)); (focus (exact rfl)); (repeat' (first | exact trivial | (with_reducible apply Z.frz_one) | (with_reducible apply Z.frz_agg) | (with_reducible apply Z.fq_int) | (exact Z.frz_nil) | exact rfl | apply And.intro)); (all_goals (try exact (fun _ => none))); all_goals (first | (simp; done)))
      | fail
  have hB2 : isB (b.take 2) := isB_take hB
  have hn9 := numR_lt (n := 2) (l := b.take 2) (by rw [List.length_take]; omega) hB2
  have cn0 := num_con (b.take 2) (by rw [List.length_take]; omega) hB2
  rw [show (b.take 2).map eB = ((b.map eB).drop 0).take (2 - 0) by rw [List.drop_zero, Nat.sub_zero, List.map_take]] at cn0
  have hds := decT_short (b := b)
  have hdf := decT_full (b := b)
  obtain ⟨N, hN⟩ : ∃ N : Nat, numR (b.take 2) = (N : Int) := ⟨(numR (b.take 2)).toNat, by omega⟩
  rw [hN] at cn0 hn9 hds hdf
  rw [Int.toNat_natCast] at hds hdf
  have hNw : IntKind.i64.wrap ((N : Nat) : Int) = ((N : Nat) : Int) := by simp [IntKind.wrap, IntKind.bits, IntKind.signed]; omega
  by_cases hs : b.length < 2 + 18 * N
  · rw [hds hs]
    repeat' ((conv => whnf); first
      | with_reducible first | refine spB_no (by decide) ?_
      | (with_reducible refine spB_dec ?_ ?_ <;> intro _ <;> (try (exfalso; first | contradiction | omega | (rename_i hz; refine hz ?_; simp; done) | (rename_i hz; simp at hz; done) | (simp only [LN] at *; omega))))
      | ((with_reducible refine slN_hi 2 ?_ ?_ ?_); (focus (first | rfl)); (focus ((try simp only [LN] at *) <;> omega)))
      | ((with_reducible refine wr_mk ((N : Nat) : Int) hNw ?_))
      | with_reducible refine wr_i64 (by first | omega | (simp only [LN] at *; omega)) ?_
      | ((first | (with_reducible refine Z.callZ_mk ?_ (cn0) ?_)); (focus ((repeat' (first | exact trivial | exact rfl | apply And.intro)); done)))
      | fail)
    all_goals (try (conv => whnf))
    all_goals try (show Nat.ble _ _ = true; rfl)
    all_goals try (exfalso; rename_i hz; cases hz; done)
    all_goals try (exfalso; (try simp only [LN] at *) <;> omega)
    all_goals first
      | ((first | (with_reducible apply Z.retF2)); (focus (exact rfl)); (repeat' (first | exact trivial | (with_reducible apply Z.frz_one) | (with_reducible apply Z.frz_agg) | (with_reducible apply Z.fq_int) | (exact Z.frz_nil) | exact rfl | apply And.intro)); (all_goals (try exact (fun _ => none))); all_goals (first | (simp; done)))
      | fail
  rw [hdf (by omega)]
  clear hds hdf
  repeat' ((conv => whnf); first
    | with_reducible first | refine spB_no (by decide) ?_
    | (with_reducible refine spB_dec ?_ ?_ <;> intro _ <;> (try (exfalso; first | contradiction | omega | (rename_i hz; refine hz ?_; simp; done) | (rename_i hz; simp at hz; done) | (simp only [LN] at *; omega))))
    | ((with_reducible refine slN_hi 2 ?_ ?_ ?_); (focus (first | rfl)); (focus ((try simp only [LN] at *) <;> omega)))
    | ((with_reducible refine wr_mk ((N : Nat) : Int) hNw ?_))
    | with_reducible refine wr_i64 (by first | omega | (simp only [LN] at *; omega)) ?_
    | ((first | (with_reducible refine Z.callZ_mk ?_ (cn0) ?_)); (focus ((repeat' (first | exact trivial | exact rfl | apply And.intro)); done)))
    | fail)
  all_goals (try (conv => whnf))
  all_goals try (show Nat.ble _ _ = true; rfl)
  all_goals try (exfalso; rename_i hz; cases hz; done)
  all_goals try (exfalso; (try simp only [LN] at *) <;> omega)
  refine Z.loopK tabOk (fun zq : Nat => [(28, .val (.int .i64 (zq : Int)))]) (fun zq : Nat => ([(1, some (Z.Ob.b ⟨[[.gsl 2 ((rowsB b zq).map cK)]], 1, 30, true⟩)), (2, (gB 4 74 ((rowsB b zq).map cK)).map Z.Ob.b)] : Z.Kr)) (fun zq => zq ≤ N) (fun zq => N - zq) 0 3 [(0, _), (2, _), (4, _), (5, _), (27, _)] ⟨rfl, rfl, rfl, rfl, rfl, trivial⟩ [(0, some _)] ⟨rfl, trivial⟩ ?_ ?_ rfl rfl (Nat.zero_le _) ?_
  · repeat' (first | exact trivial | apply And.intro | exact ⟨_, rfl, Z.Imp.refl _⟩)
  · repeat' (first | exact trivial | (intro b hb; cases hb; done) | (intro b hb; cases hb; refine ⟨_, rfl, ⟨rfl, rfl, rfl⟩, ?_⟩; (repeat' (first | exact trivial | apply And.intro | exact Z.Imp.nilg _)); done) | apply And.intro)
  rintro i HINV
  (try dsimp only at HINV); (try dsimp only)
  by_cases hi : i < N
  · have hbl : 20 + 18 * i ≤ b.length := by omega
    have hrs := @rowsB_succ b i
    obtain ⟨D, hD⟩ : ∃ D, D = b.drop (2 + 18 * i) := ⟨_, rfl⟩
    have hDl : 18 ≤ D.length := by rw [hD, List.length_drop]; omega
    have hDB : isB D := by rw [hD]; exact isB_drop hB
    have hX : List.take (20 + 18 * i - (2 + 18 * i)) (List.drop (2 + 18 * i) (List.map eB b)) = (D.take 18).map eB := by rw [show 20 + 18 * i - (2 + 18 * i) = 18 by omega, hD, List.map_take, List.map_drop]
    rw [← hD] at hrs
    match D, hDl, hDB with
    | t :: w :: r, hDl, hDB =>
      have e1 : rowD (t :: w :: r) = ⟨t, w, IntKind.i64.wrap (numR (r.take 8)), IntKind.i64.wrap (numR ((r.drop 8).take 8))⟩ := rfl
      have hr1 : (r.take 8).map eB = List.take (10 - 2) (List.drop 2 (List.take (20 + 18 * i - (2 + 18 * i)) (List.drop (2 + 18 * i) (List.map eB b)))) := by rw [hX]; simp [List.map_take, List.take_take]
      have hr2 : ((r.drop 8).take 8).map eB = List.take (18 - 10) (List.drop 10 (List.take (20 + 18 * i - (2 + 18 * i)) (List.drop (2 + 18 * i) (List.map eB b)))) := by rw [hX]; simp only [List.map_take, List.map_drop, List.map_cons]; rw [List.drop_take]; simp [List.take_take]
      have hrl := @rowsB_len b i
      have hBr : isB r := fun x hx => hDB x (by simp [hx])
      have ht := hDB t (by simp)
      have hw := hDB w (by simp)
      have cn1 := num_con (r.take 8) (by rw [List.length_take]; omega) (isB_take hBr)
      have cn2 := num_con ((r.drop 8).take 8) (by rw [List.length_take]; omega) (isB_take (isB_drop hBr))
      rw [hr1] at cn1
      rw [hr2] at cn2
      repeat' ((conv => whnf); first
        | (with_reducible refine spB_dec ?_ ?_ <;> intro _ <;> (try (exfalso; first | contradiction | omega | (rename_i hz; refine hz ?_; simp; done) | (rename_i hz; simp at hz; done) | (simp only [LN] at *; omega))))
        | ((with_reducible refine slN_lh (2 + 18 * i) (20 + 18 * i) ?_ ?_ ?_ ?_ ?_); (iterate 4 (focus ((try simp only [LN] at *) <;> omega))))
        | ((with_reducible refine rowN_mk (eB t) ?_ ?_); (focus (first | exact (congrArg (fun q : List (List RT) => q[0]?) hX).trans rfl)))
        | ((with_reducible refine rowN_mk (eB w) ?_ ?_); (focus (first | exact (congrArg (fun q : List (List RT) => q[1]?) hX).trans rfl)))
        | ((with_reducible refine slN_lh (2) (10) ?_ ?_ ?_ ?_ ?_); (iterate 4 (focus ((try simp only [LN] at *) <;> omega))))
        | ((with_reducible refine slN_lh (10) (18) ?_ ?_ ?_ ?_ ?_); (iterate 4 (focus ((try simp only [LN] at *) <;> omega))))
        | ((with_reducible refine wr_mk (IntKind.i64.wrap (numR (r.take 8))) rfl ?_))
        | ((with_reducible refine wr_mk (IntKind.i64.wrap (numR ((r.drop 8).take 8))) rfl ?_))
        | ((with_reducible refine posE_pos ?_ ?_); (focus ((try simp only [LN] at *) <;> omega)))
        | ((with_reducible apply ixN_litp); (focus (exact rfl)); (focus ((try simp only [LN] at *) <;> omega)))
        | ((with_reducible refine apdN.mk ?_ ?_ ?_ ?_ ?_ ?_); (focus (first | rfl)); (focus (first | exact one_all (by rfl))); (focus ((try simp only [LN] at *) <;> omega)); (focus ((try simp only [LN] at *) <;> omega)); (focus ((try simp only [LN] at *) <;> omega)))
        | with_reducible refine wr_i64 (by first | omega | (simp only [LN] at *; omega)) ?_
        | ((first | (with_reducible refine Z.conZ_mz ?_ (cn1) ?_)); (focus ((repeat' (first | exact trivial | exact rfl | apply And.intro)); done)))
        | ((first | (with_reducible refine Z.conZ_mz ?_ (cn2) ?_)); (focus ((repeat' (first | exact trivial | exact rfl | apply And.intro)); done)))
        | ((with_reducible refine eqN_mk2 ?_ ?_); (focus (exact Z.kb_some rfl)))
        | with_reducible first | refine Z.drawZ_rule tabOk mixOk ?_ | refine Z.apZ_mk (by kernel_rfl) ?_
        | fail)
      all_goals (try (conv => whnf))
      all_goals try (show Nat.ble _ _ = true; rfl)
      all_goals try (exfalso; rename_i hz; cases hz; done)
      all_goals try (exfalso; (try simp only [LN] at *) <;> omega)
      rw [e1] at hrs
      all_goals first
        | ((refine Z.rndK ((i + 1)) (fun s => [0, 1, s.idIn 1 0]) rfl rfl rfl rfl ?_ ?_ ?_ ?_); (focus (repeat' (first | exact trivial | exact rfl | apply And.intro))); (focus (repeat' (first | exact trivial | (intro b9 hb9; cases hb9; rw [hrs, List.map_append]; rfl) | exact Z.gB_sub' rfl (by rw [hrs, List.map_append]; rfl) (ren_map fun _ => rfl) | (intro b hb; cases hb; rfl) | apply And.intro))); (focus (((try dsimp only); omega))); ((try dsimp only); omega))
        | fail
  have hil : i = N := by omega
  subst hil
  have cc := rcheck_con (rowsB b i) (by rw [rowsB_len]; omega)
  have hrl := @rowsB_len b i
  generalize rowsB b i = L at *
  by_cases h1 : b.length = 2 + 18 * i
  all_goals cases h3 : tabR L
  all_goals rw [h3] at cc
  all_goals simp only [h1, true_and, false_and, if_true, if_false, Bool.false_eq_true]
  all_goals (
    repeat' ((conv => whnf); first
      | with_reducible first | refine spB_t ?_
      | ((with_reducible apply spB_cong); (focus (simp only [beq_self_eq_true, bne_self_eq_false, Bool.true_bne, Bool.false_bne, Bool.bne_true, Bool.bne_false, Bool.true_beq, Bool.false_beq, Bool.not_true, Bool.not_false, Bool.not_not, Int.reduceBEq, Int.reduceBNe, Int.reduceLE, Int.reduceLT, Int.reduceEq, decide_true, decide_false]; rfl)))
      | with_reducible first | refine spB_no (by decide) ?_
      | (with_reducible refine spB_dec ?_ ?_ <;> intro _ <;> (try (exfalso; first | contradiction | omega | (rename_i hz; refine hz ?_; simp; done) | (rename_i hz; simp at hz; done) | (simp only [LN] at *; omega))))
      | (with_reducible refine spB_bne ?_ ?_ <;> intro _ <;> (try (exfalso; first | contradiction | omega | (rename_i hz; refine hz ?_; simp; done) | (rename_i hz; simp at hz; done) | (simp only [LN] at *; omega))))
      | with_reducible refine wr_i64 (by first | omega | (simp only [LN] at *; omega)) ?_
      | ((first | (with_reducible refine Z.callZ_mk ?_ (cc) ?_)); (focus ((repeat' (first | exact trivial | exact Z.low_gslm (by first | rfl | exact Z.kb_some rfl) (fun _ => rfl) | apply And.intro)); done)))
      | fail)
    all_goals (try (conv => whnf)))
  all_goals try (show Nat.ble _ _ = true; rfl)
  all_goals try (exfalso; rename_i hz; cases hz; done)
  all_goals try (exfalso; (try simp only [LN] at *) <;> omega)
  all_goals first
    | ((first | (with_reducible apply Z.retF2)); (focus (exact rfl)); (repeat' (first | exact trivial | (with_reducible apply Z.frz_one) | (with_reducible apply Z.frz_agg) | (with_reducible apply Z.fq_int) | (exact Z.frz_nil) | ((with_reducible apply Z.fq_gsl); (focus (first | exact Z.isB_map _)); (focus (exact fun _ => rfl))) | exact rfl | apply And.intro)); (all_goals (try exact (fun _ => none))); all_goals (first | (simp; done)))
    | fail
end Go.Proofs.Ytehhmkdghgabaaa
namespace Go.Proofs.Ytehhmkdghgabaaa
open Go Go.RowKit Wx
set_option linter.unusedVariables false
set_option linter.unusedSimpArgs false
set_option maxHeartbeats 4000000
theorem cut_k (l : List Kc) (fl : Bool) : List.map (List.map (RT.ce fl)) (List.take ((l.take 257).length - 0) (List.drop 0 (l.map eK))) = (l.take 257).map cK := by
  have e : List.take ((l.take 257).length) l = l.take 257 := List.take_eq_take_iff.2 (by rw [List.length_take]; omega)
  rw [Nat.sub_zero, List.drop_zero, ← List.map_take, List.map_map, e]
  rfl
theorem one_cutK {l : List Kc} {n m : Nat} {fl : Bool} : ∀ r ∈ List.map (List.map (RT.ce fl)) (List.take n (List.drop m (l.map eK))), ∀ c ∈ r, c.single = true := fun r hr c hc => by
  obtain ⟨t, ht, rfl⟩ := List.mem_map.1 hr
  obtain ⟨z, _, rfl⟩ := List.mem_map.1 (List.mem_of_mem_drop (List.mem_of_mem_take ht))
  simp only [List.map_cons, List.map_nil, List.mem_cons, List.not_mem_nil, or_false] at hc
  rcases hc with rfl | rfl | rfl | rfl <;> rfl
theorem short_con (l : List Kc) (hl : l.length ≤ 9223372036854775807) : Con Try.prog 13 [.agg [.ro false 4 (l.map eK)]] (fun rx rK rt => rx = .pl (.agg [.ro true 4 ((l.take 257).map eK)]) ∧ rK = [] ∧ rt = 0) := by
  refine Z.con_ofF tabOk 13 Try.f13 _ Try.func13 (by kernel_rfl) rfl rfl rfl rfl ?_
  have htl : (l.take 257).length ≤ 257 := by rw [List.length_take]; exact Nat.min_le_left _ _
  have HC := cut_k l
  repeat' ((conv => whnf); first
    | ((with_reducible refine slN_hi ((l.take 257).length) ?_ ?_ ?_); (focus (rw [List.length_take, List.length_map]; omega)); (focus (rw [List.length_take, List.length_map]; omega)))
    | ((with_reducible refine apdE_n ?_); (with_reducible refine apdN.mk ?_ ?_ ?_ ?_ ?_ ?_); (focus (first | (simp; done))); (focus (first | exact one_cutK)); (focus (first | exact Nat.zero_le _)); (iterate 2 (focus ((try simp only [LN] at *) <;> omega)))))
  all_goals (try (conv => whnf))
  all_goals try (show Nat.ble _ _ = true; rfl)
  all_goals try (exfalso; rename_i hz; cases hz; done)
  all_goals try (exfalso; (try simp only [LN] at *) <;> omega)
  all_goals first
    | ((first | (with_reducible apply Z.retF1)); (focus (exact rfl)); (repeat' (first | exact trivial | (refine Z.frz_oslw (l := l.take 257) (f := cK) (ty := 74) (bx := false) rfl ?_ ?_ (fun _ => rfl); (focus (first | (simp; done))); (focus (first | exact (congrArg (List.take _) (HC _)).trans (List.take_of_length_le (by simp))))) | (with_reducible apply Z.frz_agg) | apply And.intro)); (all_goals (try exact (fun _ => none))); all_goals (first | (simp; done)))
end Go.Proofs.Ytehhmkdghgabaaa
namespace Go.Proofs.Ytehhmkdghgabaaa
open Go Go.RowKit Wx
set_option linter.unusedVariables false
set_option linter.unusedSimpArgs false
set_option maxHeartbeats 4000000
theorem bq_con (a : List Int) (hl : a.length ≤ 9223372036854775807) : Con Try.prog 38 [.one (.ro false 1 (a.map eB)), .one (.ro false 1 (a.map eB))] (fun rx rK rt => rx = .val (.bool true) ∧ rK = [] ∧ rt = 0) := by
  refine Z.con_ofF tabOk 10 Try.f38 _ Try.func38 (by kernel_rfl) rfl rfl rfl rfl ?_
  repeat' ((conv => whnf); first
    | ((with_reducible refine strN_src ?_ ?_ ?_); (focus (exact fun _ => rfl)); (focus ((try simp only [LN] at *) <;> omega))))
  all_goals (try (conv => whnf))
  all_goals try (show Nat.ble _ _ = true; rfl)
  all_goals first
    | ((first | (with_reducible apply Z.retF1)); (focus (exact rfl)); (repeat' (first | exact trivial | (with_reducible apply Z.frz_one) | (with_reducible apply Z.fq_bool) | apply And.intro)); (all_goals (try exact (fun _ => none))); all_goals (first | (simp; done)))
end Go.Proofs.Ytehhmkdghgabaaa
namespace Go.Proofs.Ytehhmkdghgabaaa
open Go Go.RowKit Wx
set_option linter.unusedVariables false
set_option linter.unusedSimpArgs false
set_option maxHeartbeats 4000000
theorem kc_eq {x y : Kc} (h : (x.src == y.src && (x.key == y.key && (x.cnt == y.cnt && (x.sum == y.sum && true)))) = true) : x = y := by
  cases x; cases y; simp_all
end Go.Proofs.Ytehhmkdghgabaaa
namespace Go.Proofs.Ytehhmkdghgabaaa
open Go Go.RowKit Wx
set_option linter.unusedVariables false
set_option linter.unusedSimpArgs false
set_option maxHeartbeats 4000000
theorem rsame_con (a b : List Kc) (hla : a.length ≤ 9223372036854775807) : Con Try.prog 20 [.agg [.ro false 4 (a.map eK)], .agg [.ro false 4 (b.map eK)]] (fun rx rK rt => rx = .val (.bool (decide (a = b))) ∧ rK = [] ∧ rt = 0) := by
  refine Z.con_ofF tabOk 31 Try.f20 _ Try.func20 (by kernel_rfl) rfl rfl rfl rfl ?_
  repeat' ((conv => whnf); first
    | (with_reducible refine spB_bne ?_ ?_ <;> intro _ <;> (try (exfalso; first | contradiction | omega | (rename_i hz; refine hz ?_; simp; done) | (rename_i hz; simp at hz; done) | (simp only [LN] at *; omega)))))
  all_goals (try (conv => whnf))
  all_goals try (show Nat.ble _ _ = true; rfl)
  all_goals try (exfalso; rename_i hz; cases hz; done)
  all_goals try (exfalso; (try simp only [LN] at *) <;> omega)
  all_goals try ((first | (with_reducible apply Z.retF1)); (focus (exact rfl)); (repeat' (first | exact trivial | (with_reducible apply Z.frz_one) | (with_reducible apply Z.fq_bool) | apply And.intro)); (all_goals (try exact (fun _ => none))); all_goals (exact bool_f (ne_len (by simp only [LN] at *; omega))))
  refine Z.loopK tabOk (fun zq : Nat => [(16, .val (.int .i64 (zq : Int)))]) (fun zq : Nat => ([(0, some (Z.Ob.b ⟨[[.ro false 4 (a.map eK)]], 1, 30, true⟩)), (1, some (Z.Ob.b ⟨[[.ro false 4 (b.map eK)]], 1, 30, true⟩))] : Z.Kr)) (fun zq => zq ≤ a.length ∧ a.length = b.length ∧ a.take zq = b.take zq) (fun zq => a.length - zq) 0 2 [(2, _), (3, _), (15, _)] ⟨rfl, rfl, rfl, trivial⟩ [] trivial ?_ ?_ rfl rfl ⟨Nat.zero_le _, by simp only [LN] at *; omega, rfl⟩ ?_
  · repeat' (first | exact trivial | apply And.intro | exact ⟨_, rfl, Z.Imp.refl _⟩)
  · repeat' (first | exact trivial | exact (fun b hb => ⟨b, hb, Z.ImpO.refl b⟩) | apply And.intro)
  rintro i HINV
  (try dsimp only at HINV); (try dsimp only)
  obtain ⟨HI, HL, HT⟩ := HINV
  by_cases hi : i < a.length
  · obtain ⟨x, hx⟩ := getElem?_some' (xs := a) (i := i) hi
    obtain ⟨y, hy⟩ := getElem?_some' (xs := b) (i := i) (by omega)
    repeat' ((conv => whnf); first
      | with_reducible first | refine spB_not ?_
      | (with_reducible refine spB_dec ?_ ?_ <;> intro _ <;> (try (exfalso; first | contradiction | omega | (rename_i hz; refine hz ?_; simp; done) | (rename_i hz; simp at hz; done) | (simp only [LN] at *; omega))))
      | (with_reducible refine spB_mk ?_ ?_ <;> intro _ <;> (try (exfalso; first | contradiction | omega | (rename_i hz; refine hz ?_; simp; done) | (rename_i hz; simp at hz; done) | (simp only [LN] at *; omega))))
      | with_reducible first | refine Z.rowN_known hx ?_ | refine Z.rowN_known hy ?_
      | ((with_reducible refine ixN_mk (i) ?_ ?_ ?_); (focus (first | rfl)); (focus ((try simp only [LN] at *) <;> omega)))
      | with_reducible refine wr_i64 (by first | omega | (simp only [LN] at *; omega)) ?_
      | with_reducible first | refine Z.drawZ_rule tabOk mixOk ?_ | refine Z.apZ_mk (by kernel_rfl) ?_)
    all_goals (try (conv => whnf))
    all_goals try (show Nat.ble _ _ = true; rfl)
    all_goals try (exfalso; rename_i hz; cases hz; done)
    all_goals try (exfalso; (try simp only [LN] at *) <;> omega)
    all_goals first
      | ((refine Z.rndK ((i + 1)) (fun s => [0, 1]) rfl rfl rfl rfl ?_ ?_ ?_ ?_); (focus (repeat' (first | exact trivial | exact rfl | apply And.intro))); (focus (repeat' (first | exact trivial | (intro b hb; cases hb; rfl) | apply And.intro))); (focus (exact ⟨by (try dsimp only); omega, HL, eq_step HT hx hy (kc_eq (by assumption))⟩)); ((try dsimp only); omega))
      | ((first | (with_reducible apply Z.retF1)); (focus (exact rfl)); (repeat' (first | exact trivial | (with_reducible apply Z.frz_one) | (with_reducible apply Z.fq_bool) | apply And.intro)); (all_goals (try exact (fun _ => none))); all_goals ((refine bool_f (ne_at hx hy ?_); intro e; subst e; first | contradiction | (simp_all; done))))
  have hil : i = a.length := by omega
  repeat' ((conv => whnf); first
    | (with_reducible refine spB_dec ?_ ?_ <;> intro _ <;> (try (exfalso; first | contradiction | omega | (rename_i hz; refine hz ?_; simp; done) | (rename_i hz; simp at hz; done) | (simp only [LN] at *; omega)))))
  all_goals (try (conv => whnf))
  all_goals try (show Nat.ble _ _ = true; rfl)
  all_goals try (exfalso; rename_i hz; cases hz; done)
  all_goals try (exfalso; (try simp only [LN] at *) <;> omega)
  all_goals first
    | ((first | (with_reducible apply Z.retF1)); (focus (exact rfl)); (repeat' (first | exact trivial | (with_reducible apply Z.frz_one) | (with_reducible apply Z.fq_bool) | apply And.intro)); (all_goals (try exact (fun _ => none))); all_goals (first | exact bool_t (eq_end HL HT (by omega))))
end Go.Proofs.Ytehhmkdghgabaaa
namespace Go.Proofs.Ytehhmkdghgabaaa
open Go Go.RowKit Wx
set_option linter.unusedVariables false
set_option linter.unusedSimpArgs false
set_option maxHeartbeats 4000000
def okC (l : List Kc) : Prop := ∀ x ∈ l, x.cnt ≤ 9223372036854775807
theorem doF_le {t w : Int} {ins : List Int} {a b c s v : Int} (hc : c ≤ 9223372036854775807) : (Ops.doF t w ins a b c s v).1.1 ≤ 9223372036854775807 := by
  unfold Ops.doF
  split
  · simp
  · split
    · simp
    · split
      · simp
      · unfold Ops.stp
        repeat' split
        all_goals (simp only; omega)
theorem getR_le {l : List Kc} {s k : Int} (h : okC l) : (getR l s k).1 ≤ 9223372036854775807 := by
  unfold getR
  cases hf : l.find? (eqK s k) with
  | none => simp
  | some x => exact h x (List.mem_of_find?_eq_some hf)
theorem dT_ok {o : Opr} {l : List Kc} {r : Rcd} (ht : tabR l = true) (hc : okC l) (he : (dT o l r).2.2 = 0) : tabR (dT o l r).1 = true ∧ okC (dT o l r).1 := by
  unfold dT at *
  split at he
  · cases he
  · rename_i hk
    rw [if_neg hk]
    split at he
    · rename_i h0
      rw [if_pos h0]
      have h1 := doF_cell h0
      have h2 := doF_le (t := o.t) (w := o.w) (ins := o.ins) (a := o.a) (b := o.b) (s := (getR l r.src r.key).2) (v := r.val) (getR_le (s := r.src) (k := r.key) hc)
      refine ⟨put_tab ht (by simpa using hk) h1.symm, fun x hx => ?_⟩
      unfold putR ownK at hx
      dsimp only at hx
      rw [List.mem_append, List.mem_append] at hx
      rcases hx with (hx | hx) | hx
      · exact hc x (List.mem_filter.1 hx).1
      · split at hx
        · cases hx
        · rw [List.mem_singleton.1 hx]; exact h2
      · exact hc x (List.mem_filter.1 hx).1
    · rename_i h0
      exact absurd he h0
theorem dT_len {o : Opr} {l : List Kc} {r : Rcd} : (dT o l r).2.1.length ≤ 1 := by
  unfold dT
  split
  · simp
  · split
    · dsimp only; rw [List.length_map]; exact doF_len0
    · simp
theorem dT_err {o : Opr} {l : List Kc} {r : Rcd} (he : (dT o l r).2.2 ≠ 0) : dT o l r = ([], [], (dT o l r).2.2) := by
  unfold dT at *
  split
  · rfl
  · rename_i hk
    rw [if_neg hk] at he
    split
    · rename_i h0; rw [if_pos h0] at he; exact absurd rfl he
    · rfl
def rT (o : Opr) : List Kc → List Rcd → List Rcd → List Kc × List Rcd × Int
  | l, acc, [] => (l, acc, 0)
  | l, acc, r :: rs => if (dT o l r).2.2 = 0 then rT o (dT o l r).1 (acc ++ (dT o l r).2.1) rs else ([], [], (dT o l r).2.2)
def runT (o : Opr) (l : List Kc) (rs : List Rcd) : List Kc × List Rcd × Int :=
  if tabR l = false then ([], [], 220) else if 40 < rs.length then ([], [], 3) else rT o l [] rs
theorem rT_at {o : Opr} {l : List Kc} {acc rs : List Rcd} {i : Nat} {r : Rcd} (h : rs[i]? = some r) : rT o l acc (rs.drop i) = if (dT o l r).2.2 = 0 then rT o (dT o l r).1 (acc ++ (dT o l r).2.1) (rs.drop (i + 1)) else ([], [], (dT o l r).2.2) := by
  rw [drop_cons h]; rfl
end Go.Proofs.Ytehhmkdghgabaaa
namespace Go.Proofs.Ytehhmkdghgabaaa
open Go Go.RowKit Wx
set_option linter.unusedVariables false
set_option linter.unusedSimpArgs false
set_option maxHeartbeats 4000000
theorem clonef_con_nil   : Con Try.prog 67 [.one (.v (.slice none 0 0))] (fun rx rK rt => rx = .c (.ro true 4 (([] : List Kc).map eK)) ∧ rK = [] ∧ rt = 0) := by
  refine Z.con_ofF tabOk 8 Try.f67 _ Try.func67 (by kernel_rfl) rfl rfl rfl rfl ?_
  repeat' ((conv => whnf); first
    | with_reducible first | refine spB_t ?_)
  all_goals (try (conv => whnf))
  all_goals first
    | ((first | (with_reducible apply Z.retF1)); (focus (exact rfl)); (repeat' (first | exact trivial | (with_reducible apply Z.frz_one) | (exact Z.frz_nil) | apply And.intro)); (all_goals (try exact (fun _ => none))); all_goals (rfl))
theorem clonef_con_emp (ad : Addr) (cap : Nat)  : Con Try.prog 67 [.one (.v (.slice (some ad) 0 cap))] (fun rx rK rt => rx = .c (.ro true 4 (([] : List Kc).map eK)) ∧ rK = [] ∧ rt = 0) := by
  refine Z.con_ofF tabOk 8 Try.f67 _ Try.func67 (by kernel_rfl) rfl rfl rfl rfl ?_
  repeat' ((conv => whnf); first
    | with_reducible first | refine spB_no (by decide) ?_
    | ((with_reducible refine apdE_r ?_); (with_reducible refine aprN.mk ⟨_, rfl, ?_⟩ ?_ ?_ ?_ ?_); (focus ((try simp only [LN] at *) <;> omega)); (focus (first | rfl)); (focus (first | exact one_all (by rfl))); (focus ((try simp only [LN] at *) <;> omega))))
  all_goals (try (conv => whnf))
  all_goals first
    | ((first | (with_reducible apply Z.retF1)); (focus (exact rfl)); (repeat' (first | exact trivial | (with_reducible apply Z.frz_one) | (exact Z.frz_osl0 rfl rfl rfl) | apply And.intro)); (all_goals (try exact (fun _ => none))); all_goals (rfl))
theorem clonef_con_ne (x : Kc) (l : List Kc) (hl : l.length ≤ 1000) : Con Try.prog 67 [.one (.ro false 4 ((x :: l).map eK))] (fun rx rK rt => rx = .c (.ro true 4 ((x :: l).map eK)) ∧ rK = [] ∧ rt = 0) := by
  refine Z.con_ofF tabOk 8 Try.f67 _ Try.func67 (by kernel_rfl) rfl rfl rfl rfl ?_
  repeat' ((conv => whnf); first
    | with_reducible first | refine spB_no (by decide) ?_
    | ((with_reducible refine apdE_k ?_); (with_reducible refine apkN.mk ⟨_, rfl, ?_⟩ ?_); (focus ((try simp only [LN] at *) <;> omega)))
    | ((with_reducible refine apdN.mk ?_ ?_ ?_ ?_ ?_ ?_); (focus (first | (simp; done))); (focus (first | exact one_map2 (fun _ => rfl))); (focus ((try simp only [LN] at *) <;> omega)); (focus ((try simp only [LN] at *) <;> omega)); (focus ((try simp only [LN] at *) <;> omega))))
  all_goals (try (conv => whnf))
  all_goals first
    | ((first | (with_reducible apply Z.retF1)); (focus (exact rfl)); (repeat' (first | exact trivial | (with_reducible apply Z.frz_one) | ((with_reducible apply Z.fq_src); (focus (exact rfl)); (focus (first | (simp only [List.length_map, Nat.zero_add]; done))); (focus (exact fun _ => rfl))) | exact rfl | apply And.intro)); (all_goals (try exact (fun _ => none))); all_goals (rfl))
theorem clonef_con (l : List Kc) (hl : l.length ≤ 1000) : Con Try.prog 67 [.one (.ro false 4 (l.map eK))] (fun rx rK rt => rx = .c (.ro true 4 (l.map eK)) ∧ rK = [] ∧ rt = 0) := by
  cases l with
  | nil => exact Z.con_nilcases (fun _ => clonef_con_nil) (fun _ ad cap => clonef_con_emp ad cap) (fun r rs h => by cases h)
  | cons x l => exact clonef_con_ne x l (by simp only [List.length_cons] at hl; omega)
theorem trun_con (o : Opr) (l : List Kc) (rs : List Rcd) (hi : o.ins.length ≤ 9223372036854775807) (hl : l.length ≤ 1000) (hcnt : okC l) (hrs : rs.length ≤ 9223372036854775807) : Con Try.prog 31 [.agg [.v (.int .i64 o.t), .v (.int .i64 o.w), .ro false 1 (o.ins.map Ops.eI), .v (.int .i64 o.a), .v (.int .i64 o.b)], .agg [.ro false 4 (l.map eK)], .one (.ro false 3 (rs.map eR))] (fun rx rK rt => rx = .tup [.agg [.ro true 4 ((runT o l rs).1.map eK)], .one (.ro true 3 ((runT o l rs).2.1.map eR)), .one (.v (.int .i64 (runT o l rs).2.2))] ∧ rK = [] ∧ rt = 0) := by
  refine Z.con_ofF tabOk 54 Try.f31 _ Try.func31 (by kernel_rfl) rfl rfl rfl rfl ?_
  have cc := check_con l (by omega)
  unfold runT
  cases hok : tabR l
  all_goals rw [hok] at cc
  all_goals simp only [cond_true, cond_false] at cc
  · simp only [if_true]
    repeat' ((conv => whnf); first
      | with_reducible first | refine spB_t ?_
      | ((with_reducible apply spB_cong); (focus (simp only [beq_self_eq_true, bne_self_eq_false, Bool.true_bne, Bool.false_bne, Bool.bne_true, Bool.bne_false, Bool.true_beq, Bool.false_beq, Bool.not_true, Bool.not_false, Bool.not_not, Int.reduceBEq, Int.reduceBNe, Int.reduceLE, Int.reduceLT, Int.reduceEq, decide_true, decide_false]; rfl)))
      | ((first | (with_reducible refine Z.callZ_mk ?_ (cc) ?_)); (focus ((repeat' (first | exact trivial | exact rfl | apply And.intro)); done))))
    all_goals (try (conv => whnf))
    all_goals try (show Nat.ble _ _ = true; rfl)
    all_goals try (exfalso; rename_i hz; cases hz; done)
    all_goals try (exfalso; (try simp only [LN] at *) <;> omega)
    all_goals first
      | ((first | (with_reducible apply Z.retF2)); (focus (exact rfl)); (repeat' (first | exact trivial | (with_reducible apply Z.frz_one) | (with_reducible apply Z.frz_agg) | (exact Z.frz_nil) | exact rfl | apply And.intro)); (all_goals (try exact (fun _ => none))); all_goals (first | (simp; done)))
  simp only [Bool.true_eq_false, if_false]
  have hl2 := tab_len hok
  by_cases h40 : 40 < rs.length
  · rw [if_pos h40]
    repeat' ((conv => whnf); first
      | ((with_reducible apply spB_cong); (focus (simp only [beq_self_eq_true, bne_self_eq_false, Bool.true_bne, Bool.false_bne, Bool.bne_true, Bool.bne_false, Bool.true_beq, Bool.false_beq, Bool.not_true, Bool.not_false, Bool.not_not, Int.reduceBEq, Int.reduceBNe, Int.reduceLE, Int.reduceLT, Int.reduceEq, decide_true, decide_false]; rfl)))
      | with_reducible first | refine spB_no (by decide) ?_
      | (with_reducible refine spB_dec ?_ ?_ <;> intro _ <;> (try (exfalso; first | contradiction | omega | (rename_i hz; refine hz ?_; simp; done) | (rename_i hz; simp at hz; done) | (simp only [LN] at *; omega))))
      | ((first | (with_reducible refine Z.callZ_mk ?_ (cc) ?_)); (focus ((repeat' (first | exact trivial | exact rfl | apply And.intro)); done))))
    all_goals (try (conv => whnf))
    all_goals try (show Nat.ble _ _ = true; rfl)
    all_goals try (exfalso; rename_i hz; cases hz; done)
    all_goals try (exfalso; (try simp only [LN] at *) <;> omega)
    all_goals first
      | ((first | (with_reducible apply Z.retF2)); (focus (exact rfl)); (repeat' (first | exact trivial | (with_reducible apply Z.frz_one) | (with_reducible apply Z.frz_agg) | (with_reducible apply Z.fq_int) | (exact Z.frz_nil) | exact rfl | apply And.intro)); (all_goals (try exact (fun _ => none))); all_goals (first | (simp; done)))
  rw [if_neg h40]
  repeat' ((conv => whnf); first
    | ((with_reducible apply spB_cong); (focus (simp only [beq_self_eq_true, bne_self_eq_false, Bool.true_bne, Bool.false_bne, Bool.bne_true, Bool.bne_false, Bool.true_beq, Bool.false_beq, Bool.not_true, Bool.not_false, Bool.not_not, Int.reduceBEq, Int.reduceBNe, Int.reduceLE, Int.reduceLT, Int.reduceEq, decide_true, decide_false]; rfl)))
    | with_reducible first | refine spB_no (by decide) ?_
    | (with_reducible refine spB_dec ?_ ?_ <;> intro _ <;> (try (exfalso; first | contradiction | omega | (rename_i hz; refine hz ?_; simp; done) | (rename_i hz; simp at hz; done) | (simp only [LN] at *; omega))))
    | ((first | (with_reducible refine Z.callZ_mk ?_ (cc) ?_)); (focus ((repeat' (first | exact trivial | exact rfl | apply And.intro)); done)))
    | ((first | (with_reducible apply Z.callZ_mk ?_ (clonef_con _ ?_) ?_)); (rotate_left 1); (focus ((repeat' (first | exact trivial | exact rfl | apply And.intro)); done)); (iterate 1 (focus (first | assumption)))))
  all_goals (try (conv => whnf))
  all_goals try (show Nat.ble _ _ = true; rfl)
  all_goals try (exfalso; rename_i hz; cases hz; done)
  all_goals try (exfalso; (try simp only [LN] at *) <;> omega)
  refine Z.loopK tabOk (fun zq : Nat × List Kc × List Rcd => [(32, .val (.int .i64 (zq.1 : Int))), (11, .c (.gsl 4 (zq.2.2.map cR)))]) (fun zq : Nat × List Kc × List Rcd => ([(3, some (Z.Ob.b ⟨[[.ro true 4 (zq.2.1.map eK)]], 1, 30, true⟩)), (4, (gB 3 39 (zq.2.2.map cR)).map Z.Ob.b)] : Z.Kr)) (fun zq => zq.1 ≤ rs.length ∧ zq.2.2.length ≤ zq.1 ∧ (tabR zq.2.1 = true ∧ okC zq.2.1) ∧ rT o l [] rs = rT o zq.2.1 zq.2.2 (rs.drop zq.1)) (fun zq => rs.length - zq.1) (0, l, []) 5 [(3, _), (6, _), (10, _), (30, _), (31, _)] ⟨rfl, rfl, rfl, rfl, rfl, trivial⟩ [(0, some _), (1, some _), (2, some _)] ⟨rfl, rfl, rfl, trivial⟩ ?_ ?_ rfl rfl ⟨Nat.zero_le _, Nat.zero_le _, ⟨hok, hcnt⟩, rfl⟩ ?_
  · repeat' (first | exact trivial | apply And.intro | exact ⟨_, rfl, Z.Imp.refl _⟩ | exact ⟨_, rfl, Z.Imp.nilg _⟩)
  · repeat' (first | exact trivial | (intro b hb; cases hb; done) | exact (fun b hb => ⟨b, hb, Z.ImpO.refl b⟩) | apply And.intro)
  rintro ⟨i, nx, acc⟩ HINV
  (try dsimp only at HINV); (try dsimp only)
  obtain ⟨HI, HA, ⟨HT, HC⟩, HR⟩ := HINV
  have hnl := tab_len HT
  by_cases hi2 : i < rs.length
  · obtain ⟨x, hx⟩ := getElem?_some' (xs := rs) (i := i) hi2
    have cd := do_con o nx x hi (by omega) HT HC
    have hat := rT_at (o := o) (l := nx) (acc := acc) hx
    have hdl := dT_len (o := o) (l := nx) (r := x)
    have hde := dT_err (o := o) (l := nx) (r := x)
    have hdo := dT_ok (o := o) (r := x) HT HC
    generalize dT o nx x = D at *
    obtain ⟨n2, O, e⟩ := D
    dsimp only [dOut] at cd hat hdl hde hdo
    by_cases he : e = 0
    rotate_left
    · rw [if_neg he] at hat
      have h9 := hde he
      simp only [Prod.mk.injEq, and_true] at h9
      obtain ⟨rfl, rfl⟩ := h9
      rw [HR, hat]
      repeat' ((conv => whnf); first
        | (with_reducible refine spB_dec ?_ ?_ <;> intro _ <;> (try (exfalso; first | contradiction | omega | (rename_i hz; refine hz ?_; simp; done) | (rename_i hz; simp at hz; done) | (simp only [LN] at *; omega))))
        | (with_reducible refine spB_bne ?_ ?_ <;> intro _ <;> (try (exfalso; first | contradiction | omega | (rename_i hz; refine hz ?_; simp; done) | (rename_i hz; simp at hz; done) | (simp only [LN] at *; omega))))
        | with_reducible first | refine Z.rowN_known hx ?_
        | ((with_reducible apply ixN_litp); (focus (exact rfl)); (focus ((try simp only [LN] at *) <;> omega)))
        | ((first | (with_reducible refine Z.callZ_mk ?_ (cd) ?_)); (focus ((repeat' (first | exact trivial | exact rfl | apply And.intro)); done))))
      all_goals (try (conv => whnf))
      all_goals try (show Nat.ble _ _ = true; rfl)
      all_goals try (exfalso; rename_i hz; cases hz; done)
      all_goals try (exfalso; (try simp only [LN] at *) <;> omega)
      all_goals first
        | ((first | (with_reducible apply Z.retF2)); (focus (exact rfl)); (repeat' (first | exact trivial | (with_reducible apply Z.frz_one) | (with_reducible apply Z.frz_agg) | (exact Z.frz_nil) | exact rfl | apply And.intro)); (all_goals (try exact (fun _ => none))); all_goals (first | (simp; done)))
    subst he
    rw [if_pos rfl] at hat
    rcases O with _ | ⟨y, _ | ⟨z, O⟩⟩
    rotate_right 1
    · exact absurd hdl (by simp)
    all_goals (
      repeat' ((conv => whnf); first
        | ((with_reducible apply spB_cong); (focus (simp only [beq_self_eq_true, bne_self_eq_false, Bool.true_bne, Bool.false_bne, Bool.bne_true, Bool.bne_false, Bool.true_beq, Bool.false_beq, Bool.not_true, Bool.not_false, Bool.not_not, Int.reduceBEq, Int.reduceBNe, Int.reduceLE, Int.reduceLT, Int.reduceEq, decide_true, decide_false]; rfl)))
        | with_reducible first | refine spB_no (by decide) ?_
        | (with_reducible refine spB_dec ?_ ?_ <;> intro _ <;> (try (exfalso; first | contradiction | omega | (rename_i hz; refine hz ?_; simp; done) | (rename_i hz; simp at hz; done) | (simp only [LN] at *; omega))))
        | with_reducible first | refine Z.rowN_known hx ?_
        | ((with_reducible refine posE_pos ?_ ?_); (focus ((try simp only [LN] at *) <;> omega)))
        | ((with_reducible refine posE_nil ?_ ?_); (focus rfl))
        | ((with_reducible apply ixN_litp); (focus (exact rfl)); (focus ((try simp only [LN] at *) <;> omega)))
        | ((with_reducible refine apdN.mk ?_ ?_ ?_ ?_ ?_ ?_); (focus (first | rfl)); (focus (first | exact one_all (by rfl))); (focus ((try simp only [LN] at *) <;> omega)); (focus ((try simp only [LN] at *) <;> omega)); (focus ((try simp only [LN] at *) <;> omega)))
        | with_reducible refine wr_i64 (by first | omega | (simp only [LN] at *; omega)) ?_
        | ((first | (with_reducible refine Z.callZ_mk ?_ (cd) ?_)); (focus ((repeat' (first | exact trivial | exact rfl | apply And.intro)); done)))
        | ((with_reducible refine eqN_mk2 ?_ ?_); (focus (exact Z.kb_some rfl))))
      all_goals (try (conv => whnf)))
    all_goals try (show Nat.ble _ _ = true; rfl)
    all_goals try (exfalso; rename_i hz; cases hz; done)
    all_goals try (exfalso; (try simp only [LN] at *) <;> omega)
    all_goals first
      | ((refine Z.rndK ((i + 1, n2, acc)) (fun s => [0, 1, 2, 3, s.idAt 11]) rfl rfl rfl rfl ?_ ?_ ?_ ?_); (focus (repeat' (first | exact trivial | exact rfl | apply And.intro))); (focus (repeat' (first | exact trivial | (intro b hb; cases hb; rfl) | exact Z.gB_sub rfl rfl (ren_map fun _ => rfl) | apply And.intro))); (focus (refine ⟨by (try dsimp only); omega, by (try dsimp only); (try simp only [List.length_append, List.length_singleton]); omega, hdo rfl, by (try dsimp only); rw [HR, hat]; simp⟩)); ((try dsimp only); omega))
      | ((refine Z.rndK ((i + 1, n2, acc ++ [y])) (fun s => [0, 1, 2, 3, s.idAt 11]) rfl rfl rfl rfl ?_ ?_ ?_ ?_); (focus (repeat' (first | exact trivial | exact rfl | (rw [List.map_append (f := cR)]; exact rfl) | apply And.intro))); (focus (repeat' (first | exact trivial | (intro b hb; cases hb; rfl) | exact Z.gB_sub' rfl (by first | rfl | (rw [List.map_append]; rfl) | simp only [List.map_append, List.map_cons, List.map_nil]) (ren_map fun _ => rfl) | apply And.intro))); (focus (refine ⟨by (try dsimp only); omega, by (try dsimp only); (try simp only [List.length_append, List.length_singleton]); omega, hdo rfl, by (try dsimp only); rw [HR, hat]⟩)); ((try dsimp only); omega))
  have hil : i = rs.length := by omega
  subst hil
  rw [HR, List.drop_length]
  simp only [rT]
  repeat' ((conv => whnf); first
    | (with_reducible refine spB_dec ?_ ?_ <;> intro _ <;> (try (exfalso; first | contradiction | omega | (rename_i hz; refine hz ?_; simp; done) | (rename_i hz; simp at hz; done) | (simp only [LN] at *; omega)))))
  all_goals (try (conv => whnf))
  all_goals try (show Nat.ble _ _ = true; rfl)
  all_goals try (exfalso; rename_i hz; cases hz; done)
  all_goals try (exfalso; (try simp only [LN] at *) <;> omega)
  all_goals first
    | ((first | (with_reducible apply Z.retF2)); (focus (exact rfl)); (repeat' (first | exact trivial | (with_reducible apply Z.frz_one) | (with_reducible apply Z.frz_agg) | (with_reducible apply Z.fq_int) | (with_reducible apply Z.fq_ro) | ((with_reducible apply Z.fq_gsl); (focus (first | exact Z.isB_map _)); (focus (exact fun _ => rfl))) | exact rfl | apply And.intro)); (all_goals (try exact (fun _ => none))); all_goals (first | (simp; done)))
end Go.Proofs.Ytehhmkdghgabaaa
namespace Go.Proofs.Ytehhmkdghgabaaa
open Go Go.RowKit Wx
set_option linter.unusedVariables false
set_option linter.unusedSimpArgs false
set_option maxHeartbeats 4000000
def decR : List Ce → Option Rcd
  | [.v (.int .i64 a), .v (.int .i64 b), .v (.int .i64 c)] => some ⟨a, b, c⟩
  | _ => none
theorem decR_ok (r : List Ce) (x : Rcd) (h : decR r = some x) : r.map RT.of = (eR x).map some := by
  unfold decR at h
  split at h
  · simp only [Option.some.injEq] at h; subst h; rfl
  · cases h
def orc : Y.CallFn := fun c avs K top => match c, avs with
  | .fn g [], [.pl (.agg [.v (.int .i64 t), .v (.int .i64 w), ci, .v (.int .i64 a), .v (.int .i64 b)]), .pl (.agg [.v (.slice none 0 0)]), .pl (.one cr)] => match Nat.beq g 31, Y.rowsD 1 1000 Y.decI64 K.get ci, Y.rowsD 3 1000 decR K.get cr with
    | true, some ins, some rs => some ⟨dOut (runT ⟨t, w, ins, a, b⟩ [] rs), K, top, []⟩
    | _, _, _ => none
  | _, _ => none
theorem orc_sound : Y.CallsOk Try.prog orc := by
  intro c avs K top r h
  unfold orc at h
  split at h
  · rename_i g t w ci a b cr
    split at h
    · have hg : Nat.beq g 31 = true := by assumption
      rename_i ins rs _ h1 h2
      simp only [Option.some.injEq] at h
      subst h
      obtain ⟨g1, g2⟩ := Y.rowsD_low (en := Ops.eI) Y.decI64_ok h1
      obtain ⟨g3, g4⟩ := Y.rowsD_low (en := eR) decR_ok h2
      have := Nat.eq_of_beq_eq_true hg
      subst this
      exact ⟨Y.con_callE (args := [.agg [.v (.int .i64 t), .v (.int .i64 w), .ro false 1 (ins.map Ops.eI), .v (.int .i64 a), .v (.int .i64 b)], .agg [.ro false 4 (([] : List Kc).map eK)], .one (.ro false 3 (rs.map eR))]) ⟨⟨rfl, rfl, g1, rfl, rfl, trivial⟩, ⟨.inr ⟨4, rfl⟩, trivial⟩, g3, trivial⟩ (trun_con ⟨t, w, ins, a, b⟩ [] rs (by dsimp only; omega) (by simp) (fun _ h => nomatch h) (by omega)) rfl, fun _ _ => rfl⟩
    · cases h
  · cases h
theorem wakes_con : Con Try.prog 12 [] (fun x K t => x = .val (.bool true) ∧ K = [] ∧ t = 0) := Y.con_runO ftabOk tabOk mixOk orc_sound 40 12 (by kernel_rfl) (by kernel_rfl)
end Go.Proofs.Ytehhmkdghgabaaa
namespace Go.Proofs.Ytehhmkdghgabaaa
open Go Go.RowKit Wx
set_option linter.unusedVariables false
set_option linter.unusedSimpArgs false
set_option maxHeartbeats 4000000
theorem low_byB {K : Nat → Option Blk} {i n : Nat} {c : Option Nat} {L : List Int} {R : List (List Ce)} (h : K i = some ⟨R, 1, 5, false⟩) (hR : R = L.map cB) (hn : n = L.length) : lowV K (.pl (.one (.osl i 0 n c))) (.one (.ro false 1 (L.map eB))) := by
  show lowC K (.osl i 0 n c) (.ro false 1 (L.map eB))
  subst hR hn
  simp only [lowC, h]
  exact ⟨_, rfl, by simp, by rw [List.drop_zero, List.take_of_length_le (by simp), List.map_map, List.map_map]; exact List.map_congr_left fun x _ => rfl⟩
theorem rd_by {m : Nat} {x : List Int} {fl : Bool} (hm : m ≤ x.length) : List.map (List.map (RT.ce fl)) (List.take (m - 0) (List.drop 0 (x.map eB))) = (x.take m).map cB := by
  rw [Nat.sub_zero, List.drop_zero, ← List.map_take, List.map_map]; rfl
theorem one_cutB {l : List Int} {n m : Nat} {fl : Bool} : ∀ r ∈ List.map (List.map (RT.ce fl)) (List.take n (List.drop m (l.map eB))), ∀ c ∈ r, c.single = true := fun r hr c hc => by
  obtain ⟨t, ht, rfl⟩ := List.mem_map.1 hr
  obtain ⟨z, _, rfl⟩ := List.mem_map.1 (List.mem_of_mem_drop (List.mem_of_mem_take ht))
  simp only [List.map_cons, List.map_nil, List.mem_cons, List.not_mem_nil, or_false] at hc
  rcases hc with rfl <;> rfl
theorem decT_len {b : List Int} (hB : isB b) : (decT b).1.length ≤ 256 := by
  rcases decT_any hB with ⟨_, _, h, _⟩ | ⟨h, _⟩
  · exact h
  · rw [h]; simp
theorem tablebytes_con (l : List (List Kc)) (rows : List (List Int)) (hl : l.length ≤ 9223372036854775807) (hA : ∀ x ∈ l, x.length ≤ 9223372036854775807) (hrl9 : rows.length ≤ 9223372036854775807) (hRB : ∀ x ∈ rows, isB x) (hRl : ∀ x ∈ rows, x.length ≤ 9223372036854775807) : Con Try.prog 7 [.one (.ro false 1 (l.map fun x => [RT.ro 4 (x.map eK)])), .one (.ro false 1 (rows.map fun x => [RT.ro 1 (x.map eB)]))] (fun rx rK rt => rx = .val (.bool true) ∧ rK = [] ∧ rt = 0) := by
  refine Z.con_ofF tabOk 102 Try.f7 _ Try.func7 (by kernel_rfl) rfl rfl rfl rfl ?_
  repeat' ((conv => whnf); first
    | ((with_reducible apply spB_cong); (focus (simp only [beq_self_eq_true, bne_self_eq_false, Bool.true_bne, Bool.false_bne, Bool.bne_true, Bool.bne_false, Bool.true_beq, Bool.false_beq, Bool.not_true, Bool.not_false, Bool.not_not, Int.reduceBEq, Int.reduceBNe, Int.reduceLE, Int.reduceLT, Int.reduceEq, decide_true, decide_false]; rfl)))
    | with_reducible first | refine spB_no (by decide) ?_
    | ((first | (with_reducible refine Z.callZ_mk ?_ (wakes_con) ?_)); (focus ((repeat' (first | exact trivial)); done)))
    | fail)
  all_goals (try (conv => whnf))
  all_goals try (show Nat.ble _ _ = true; rfl)
  all_goals try (exfalso; rename_i hz; cases hz; done)
  all_goals try (exfalso; (try simp only [LN] at *) <;> omega)
  refine Z.loopK tabOk (fun zq : Nat => [(22, .val (.int .i64 (zq : Int)))]) (fun zq : Nat => ([] : Z.Kr)) (fun zq => zq ≤ l.length) (fun zq => l.length - zq) 0 0 [(1, _), (20, _), (21, _)] ⟨rfl, rfl, rfl, trivial⟩ [] trivial ?_ ?_ rfl rfl (Nat.zero_le _) ?_
  · repeat' (first | exact trivial | apply And.intro | exact ⟨_, rfl, Z.Imp.refl _⟩)
  · repeat' (first | exact trivial)
  rintro i HINV
  (try dsimp only at HINV); (try dsimp only)
  by_cases hi2 : i < l.length ∧ i ≠ 6
  · obtain ⟨hi2, hi6⟩ := hi2
    obtain ⟨x, hx⟩ := getElem?_some' (xs := l) (i := i) hi2
    have cs := short_con x (hA x (List.mem_of_getElem? hx))
    have hx9 : (x.take 257).length ≤ 257 := by rw [List.length_take]; exact Nat.min_le_left _ _
    generalize x.take 257 = T at *
    have cr := rcheck_con T (by omega)
    have ce := encode_con T (by omega)
    cases hok : tabR T
    all_goals rw [hok] at cr
    · rw [show encTR T = ([], 220) by unfold encTR; rw [hok]; rfl] at ce
      dsimp only at ce
      repeat' ((conv => whnf); first
        | with_reducible first | refine spB_t ?_
        | ((with_reducible apply spB_cong); (focus (simp only [beq_self_eq_true, bne_self_eq_false, Bool.true_bne, Bool.false_bne, Bool.bne_true, Bool.bne_false, Bool.true_beq, Bool.false_beq, Bool.not_true, Bool.not_false, Bool.not_not, Int.reduceBEq, Int.reduceBNe, Int.reduceLE, Int.reduceLT, Int.reduceEq, decide_true, decide_false]; rfl)))
        | with_reducible first | refine spB_no (by decide) ?_
        | (with_reducible refine spB_dec ?_ ?_ <;> intro _ <;> (try (exfalso; first | contradiction | omega | (rename_i hz; refine hz ?_; simp; done) | (rename_i hz; simp at hz; done) | (simp only [LN] at *; omega))))
        | (with_reducible refine spB_beq ?_ ?_ <;> intro _ <;> (try (exfalso; first | contradiction | omega | (rename_i hz; refine hz ?_; simp; done) | (rename_i hz; simp at hz; done) | (simp only [LN] at *; omega))))
        | with_reducible first | refine Z.rowN_known hx ?_
        | ((with_reducible apply ixN_litp); (focus (exact rfl)); (focus ((try simp only [LN] at *) <;> omega)))
        | with_reducible refine wr_i64 (by first | omega | (simp only [LN] at *; omega)) ?_
        | ((first | (with_reducible refine Z.callZ_mk ?_ (cs) ?_) | (with_reducible refine Z.callZ_mk ?_ (cr) ?_) | (with_reducible refine Z.callZ_mk ?_ (ce) ?_)); (focus ((repeat' (first | exact trivial | exact rfl | apply And.intro)); done)))
        | fail)
      all_goals (try (conv => whnf))
      all_goals try (show Nat.ble _ _ = true; rfl)
      all_goals try (exfalso; rename_i hz; cases hz; done)
      all_goals try (exfalso; (try simp only [LN] at *) <;> omega)
      all_goals first
        | ((refine Z.rndK ((i + 1)) (fun s => []) rfl rfl rfl rfl ?_ ?_ ?_ ?_); (focus (repeat' (first | exact trivial | exact rfl | apply And.intro))); (focus (repeat' (first | exact trivial))); (focus (((try dsimp only); omega))); ((try dsimp only); omega))
        | fail
    · rw [show encTR T = (encT T, 0) by unfold encTR; rw [hok]; rfl] at ce
      dsimp only at ce
      have hel := encT_len T
      have cb := rbytes_con T (by omega) hok
      have cq := bq_con (encT T) (by omega)
      generalize encT T = E at *
      repeat' ((conv => whnf); first
        | with_reducible first | refine spB_t ?_
        | ((with_reducible apply spB_cong); (focus (simp only [beq_self_eq_true, bne_self_eq_false, Bool.true_bne, Bool.false_bne, Bool.bne_true, Bool.bne_false, Bool.true_beq, Bool.false_beq, Bool.not_true, Bool.not_false, Bool.not_not, Int.reduceBEq, Int.reduceBNe, Int.reduceLE, Int.reduceLT, Int.reduceEq, decide_true, decide_false]; rfl)))
        | with_reducible first | refine spB_no (by decide) ?_
        | (with_reducible refine spB_dec ?_ ?_ <;> intro _ <;> (try (exfalso; first | contradiction | omega | (rename_i hz; refine hz ?_; simp; done) | (rename_i hz; simp at hz; done) | (simp only [LN] at *; omega))))
        | (with_reducible refine spB_beq ?_ ?_ <;> intro _ <;> (try (exfalso; first | contradiction | omega | (rename_i hz; refine hz ?_; simp; done) | (rename_i hz; simp at hz; done) | (simp only [LN] at *; omega))))
        | with_reducible first | refine Z.rowN_known hx ?_
        | ((with_reducible apply ixN_litp); (focus (exact rfl)); (focus ((try simp only [LN] at *) <;> omega)))
        | with_reducible refine wr_i64 (by first | omega | (simp only [LN] at *; omega)) ?_
        | ((first | (with_reducible refine Z.callZ_mk ?_ (cs) ?_) | (with_reducible refine Z.callZ_mk ?_ (cr) ?_) | (with_reducible refine Z.callZ_mk ?_ (ce) ?_) | (with_reducible refine Z.callZ_mk ?_ (cq) ?_) | (with_reducible refine Z.callZ_mk ?_ (cb) ?_)); (focus ((repeat' (first | exact trivial | exact rfl | apply And.intro)); done)))
        | fail)
      all_goals (try (conv => whnf))
      all_goals try (show Nat.ble _ _ = true; rfl)
      all_goals try (exfalso; rename_i hz; cases hz; done)
      all_goals try (exfalso; (try simp only [LN] at *) <;> omega)
      all_goals first
        | ((refine Z.rndK ((i + 1)) (fun s => []) rfl rfl rfl rfl ?_ ?_ ?_ ?_); (focus (repeat' (first | exact trivial | exact rfl | apply And.intro))); (focus (repeat' (first | exact trivial))); (focus (((try dsimp only); omega))); ((try dsimp only); omega))
        | fail
  have hx6 : (i = 6 ∧ i < l.length) ∨ i = l.length := by omega
  rcases hx6 with ⟨rfl, h6⟩ | rfl
  · obtain ⟨r, hr⟩ := getElem?_some' (xs := l) (i := 6) h6
    repeat' ((conv => whnf); first
      | with_reducible first | refine spB_yes (by decide) ?_
      | (with_reducible refine spB_dec ?_ ?_ <;> intro _ <;> (try (exfalso; first | contradiction | omega | (rename_i hz; refine hz ?_; simp; done) | (rename_i hz; simp at hz; done) | (simp only [LN] at *; omega))))
      | with_reducible first | refine Z.rowN_known hr ?_
      | ((with_reducible apply ixN_litp); (focus (exact rfl)); (focus ((try simp only [LN] at *) <;> omega)))
      | fail)
    all_goals (try (conv => whnf))
    all_goals try (show Nat.ble _ _ = true; rfl)
    all_goals try (exfalso; rename_i hz; cases hz; done)
    all_goals try (exfalso; (try simp only [LN] at *) <;> omega)
    refine Z.loopK tabOk (fun zq : Nat => [(66, .val (.int .i64 (zq : Int)))]) (fun zq : Nat => ([] : Z.Kr)) (fun zq => zq ≤ rows.length) (fun zq => rows.length - zq) 0 1 [(64, _), (65, _)] ⟨rfl, rfl, trivial⟩ [] trivial ?_ ?_ rfl rfl (Nat.zero_le _) ?_
    · repeat' (first | exact trivial | apply And.intro | exact ⟨_, rfl, Z.Imp.refl _⟩)
    · repeat' (first | exact trivial)
    rintro k HINV
    (try dsimp only at HINV); (try dsimp only)
    by_cases hk2 : k < rows.length ∧ k ≠ 8
    rotate_left
    · have hx8 : (k = 8 ∧ k < rows.length) ∨ k = rows.length := by omega
      rcases hx8 with ⟨rfl, h8⟩ | rfl
      · obtain ⟨y, hy⟩ := getElem?_some' (xs := rows) (i := 8) h8
        repeat' ((conv => whnf); first
          | with_reducible first | refine spB_yes (by decide) ?_
          | (with_reducible refine spB_dec ?_ ?_ <;> intro _ <;> (try (exfalso; first | contradiction | omega | (rename_i hz; refine hz ?_; simp; done) | (rename_i hz; simp at hz; done) | (simp only [LN] at *; omega))))
          | with_reducible first | refine Z.rowN_known hy ?_
          | ((with_reducible apply ixN_litp); (focus (exact rfl)); (focus ((try simp only [LN] at *) <;> omega)))
          | fail)
        all_goals (try (conv => whnf))
        all_goals try (show Nat.ble _ _ = true; rfl)
        all_goals try (exfalso; rename_i hz; cases hz; done)
        all_goals try (exfalso; (try simp only [LN] at *) <;> omega)
        all_goals first
          | ((first | (with_reducible apply Z.retF1)); (focus (exact rfl)); (repeat' (first | exact trivial | (with_reducible apply Z.frz_one) | (with_reducible apply Z.fq_bool) | exact rfl | apply And.intro)); (all_goals (try exact (fun _ => none))); all_goals (first | (simp; done)))
          | fail
      · skip
        repeat' ((conv => whnf); first
          | (with_reducible refine spB_dec ?_ ?_ <;> intro _ <;> (try (exfalso; first | contradiction | omega | (rename_i hz; refine hz ?_; simp; done) | (rename_i hz; simp at hz; done) | (simp only [LN] at *; omega))))
          | fail)
        all_goals (try (conv => whnf))
        all_goals try (show Nat.ble _ _ = true; rfl)
        all_goals try (exfalso; rename_i hz; cases hz; done)
        all_goals try (exfalso; (try simp only [LN] at *) <;> omega)
        all_goals first
          | ((first | (with_reducible apply Z.retF1)); (focus (exact rfl)); (repeat' (first | exact trivial | (with_reducible apply Z.frz_one) | (with_reducible apply Z.fq_bool) | exact rfl | apply And.intro)); (all_goals (try exact (fun _ => none))); all_goals (first | (simp; done)))
          | fail
    obtain ⟨hk2, hk8⟩ := hk2
    obtain ⟨y, hy⟩ := getElem?_some' (xs := rows) (i := k) hk2
    have hyB := hRB y (List.mem_of_getElem? hy)
    have hyl := hRl y (List.mem_of_getElem? hy)
    obtain ⟨m, hm⟩ : ∃ m : Nat, m = min y.length 6000 := ⟨_, rfl⟩
    have hml : m ≤ y.length := by omega
    have hBl : (y.take m).length ≤ 6000 := by rw [List.length_take]; omega
    have hYB : isB (y.take m) := isB_take hyB
    have cd := decode_con (y.take m) (by omega) hYB
    have crd := rdec_con (y.take m) (by omega) hYB
    have hdl := decT_len hYB
    generalize decT (y.take m) = G at *
    obtain ⟨L, e⟩ := G
    dsimp only at cd crd hdl
    have m1 := rsame_con L L (by omega)
    rw [decide_eq_true (rfl : L = L)] at m1
    repeat' ((conv => whnf); first
      | ((with_reducible apply spB_cong); (focus (simp only [beq_self_eq_true, bne_self_eq_false, Bool.true_bne, Bool.false_bne, Bool.bne_true, Bool.bne_false, Bool.true_beq, Bool.false_beq, Bool.not_true, Bool.not_false, Bool.not_not, Int.reduceBEq, Int.reduceBNe, Int.reduceLE, Int.reduceLT, Int.reduceEq, decide_true, decide_false]; rfl)))
      | with_reducible first | refine spB_no (by decide) ?_
      | (with_reducible refine spB_dec ?_ ?_ <;> intro _ <;> (try (exfalso; first | contradiction | omega | (rename_i hz; refine hz ?_; simp; done) | (rename_i hz; simp at hz; done) | (simp only [LN] at *; omega))))
      | (with_reducible refine spB_beq ?_ ?_ <;> intro _ <;> (try (exfalso; first | contradiction | omega | (rename_i hz; refine hz ?_; simp; done) | (rename_i hz; simp at hz; done) | (simp only [LN] at *; omega))))
      | with_reducible first | refine Z.rowN_known hy ?_
      | ((with_reducible refine slN_hi m ?_ ?_ ?_); (focus (rw [List.length_map]; omega)); (focus (rw [List.length_map]; omega)))
      | ((with_reducible refine apdE_n ?_); (with_reducible refine apdN.mk ?_ ?_ ?_ ?_ ?_ ?_); (focus (first | (simp; done))); (focus (exact one_cutB)); (focus (first | exact Nat.zero_le _)); (iterate 2 (focus ((try simp only [LN] at *) <;> omega))))
      | ((with_reducible apply ixN_litp); (focus (exact rfl)); (focus ((try simp only [LN] at *) <;> omega)))
      | with_reducible refine wr_i64 (by first | omega | (simp only [LN] at *; omega)) ?_
      | ((first | (with_reducible refine Z.callZ_mk ?_ (m1) ?_) | (with_reducible refine Z.callZ_mk ?_ (cd) ?_) | (with_reducible refine Z.callZ_mk ?_ (crd) ?_)); (focus ((repeat' (first | exact trivial | (refine low_byB (L := y.take m) rfl ?_ ?_; (focus (first | exact rd_by hml)); (focus ((try simp only [LN] at *) <;> omega))) | exact rfl | apply And.intro)); done)))
      | fail)
    all_goals (try (conv => whnf))
    all_goals try (show Nat.ble _ _ = true; rfl)
    all_goals try (exfalso; rename_i hz; cases hz; done)
    all_goals try (exfalso; (try simp only [LN] at *) <;> omega)
    all_goals first
      | ((refine Z.rndK ((k + 1)) (fun s => [0]) rfl rfl rfl rfl ?_ ?_ ?_ ?_); (focus (repeat' (first | exact trivial | exact rfl | apply And.intro))); (focus (repeat' (first | exact trivial))); (focus (((try dsimp only); omega))); ((try dsimp only); omega))
      | fail
  · skip
    repeat' ((conv => whnf); first
      | (with_reducible refine spB_dec ?_ ?_ <;> intro _ <;> (try (exfalso; first | contradiction | omega | (rename_i hz; refine hz ?_; simp; done) | (rename_i hz; simp at hz; done) | (simp only [LN] at *; omega))))
      | fail)
    all_goals (try (conv => whnf))
    all_goals try (show Nat.ble _ _ = true; rfl)
    all_goals try (exfalso; rename_i hz; cases hz; done)
    all_goals try (exfalso; (try simp only [LN] at *) <;> omega)
    refine Z.loopK tabOk (fun zq : Nat => [(66, .val (.int .i64 (zq : Int)))]) (fun zq : Nat => ([] : Z.Kr)) (fun zq => zq ≤ rows.length) (fun zq => rows.length - zq) 0 0 [(64, _), (65, _)] ⟨rfl, rfl, trivial⟩ [] trivial ?_ ?_ rfl rfl (Nat.zero_le _) ?_
    · repeat' (first | exact trivial | apply And.intro | exact ⟨_, rfl, Z.Imp.refl _⟩)
    · repeat' (first | exact trivial)
    rintro k HINV
    (try dsimp only at HINV); (try dsimp only)
    by_cases hk2 : k < rows.length ∧ k ≠ 8
    rotate_left
    · have hx8 : (k = 8 ∧ k < rows.length) ∨ k = rows.length := by omega
      rcases hx8 with ⟨rfl, h8⟩ | rfl
      · obtain ⟨y, hy⟩ := getElem?_some' (xs := rows) (i := 8) h8
        repeat' ((conv => whnf); first
          | with_reducible first | refine spB_yes (by decide) ?_
          | (with_reducible refine spB_dec ?_ ?_ <;> intro _ <;> (try (exfalso; first | contradiction | omega | (rename_i hz; refine hz ?_; simp; done) | (rename_i hz; simp at hz; done) | (simp only [LN] at *; omega))))
          | with_reducible first | refine Z.rowN_known hy ?_
          | ((with_reducible apply ixN_litp); (focus (exact rfl)); (focus ((try simp only [LN] at *) <;> omega)))
          | fail)
        all_goals (try (conv => whnf))
        all_goals try (show Nat.ble _ _ = true; rfl)
        all_goals try (exfalso; rename_i hz; cases hz; done)
        all_goals try (exfalso; (try simp only [LN] at *) <;> omega)
        all_goals first
          | ((first | (with_reducible apply Z.retF1)); (focus (exact rfl)); (repeat' (first | exact trivial | (with_reducible apply Z.frz_one) | (with_reducible apply Z.fq_bool) | exact rfl | apply And.intro)); (all_goals (try exact (fun _ => none))); all_goals (first | (simp; done)))
          | fail
      · skip
        repeat' ((conv => whnf); first
          | (with_reducible refine spB_dec ?_ ?_ <;> intro _ <;> (try (exfalso; first | contradiction | omega | (rename_i hz; refine hz ?_; simp; done) | (rename_i hz; simp at hz; done) | (simp only [LN] at *; omega))))
          | fail)
        all_goals (try (conv => whnf))
        all_goals try (show Nat.ble _ _ = true; rfl)
        all_goals try (exfalso; rename_i hz; cases hz; done)
        all_goals try (exfalso; (try simp only [LN] at *) <;> omega)
        all_goals first
          | ((first | (with_reducible apply Z.retF1)); (focus (exact rfl)); (repeat' (first | exact trivial | (with_reducible apply Z.frz_one) | (with_reducible apply Z.fq_bool) | exact rfl | apply And.intro)); (all_goals (try exact (fun _ => none))); all_goals (first | (simp; done)))
          | fail
    obtain ⟨hk2, hk8⟩ := hk2
    obtain ⟨y, hy⟩ := getElem?_some' (xs := rows) (i := k) hk2
    have hyB := hRB y (List.mem_of_getElem? hy)
    have hyl := hRl y (List.mem_of_getElem? hy)
    obtain ⟨m, hm⟩ : ∃ m : Nat, m = min y.length 6000 := ⟨_, rfl⟩
    have hml : m ≤ y.length := by omega
    have hBl : (y.take m).length ≤ 6000 := by rw [List.length_take]; omega
    have hYB : isB (y.take m) := isB_take hyB
    have cd := decode_con (y.take m) (by omega) hYB
    have crd := rdec_con (y.take m) (by omega) hYB
    have hdl := decT_len hYB
    generalize decT (y.take m) = G at *
    obtain ⟨L, e⟩ := G
    dsimp only at cd crd hdl
    have m1 := rsame_con L L (by omega)
    rw [decide_eq_true (rfl : L = L)] at m1
    repeat' ((conv => whnf); first
      | ((with_reducible apply spB_cong); (focus (simp only [beq_self_eq_true, bne_self_eq_false, Bool.true_bne, Bool.false_bne, Bool.bne_true, Bool.bne_false, Bool.true_beq, Bool.false_beq, Bool.not_true, Bool.not_false, Bool.not_not, Int.reduceBEq, Int.reduceBNe, Int.reduceLE, Int.reduceLT, Int.reduceEq, decide_true, decide_false]; rfl)))
      | with_reducible first | refine spB_no (by decide) ?_
      | (with_reducible refine spB_dec ?_ ?_ <;> intro _ <;> (try (exfalso; first | contradiction | omega | (rename_i hz; refine hz ?_; simp; done) | (rename_i hz; simp at hz; done) | (simp only [LN] at *; omega))))
      | (with_reducible refine spB_beq ?_ ?_ <;> intro _ <;> (try (exfalso; first | contradiction | omega | (rename_i hz; refine hz ?_; simp; done) | (rename_i hz; simp at hz; done) | (simp only [LN] at *; omega))))
      | with_reducible first | refine Z.rowN_known hy ?_
      | ((with_reducible refine slN_hi m ?_ ?_ ?_); (focus (rw [List.length_map]; omega)); (focus (rw [List.length_map]; omega)))
      | ((with_reducible refine apdE_n ?_); (with_reducible refine apdN.mk ?_ ?_ ?_ ?_ ?_ ?_); (focus (first | (simp; done))); (focus (exact one_cutB)); (focus (first | exact Nat.zero_le _)); (iterate 2 (focus ((try simp only [LN] at *) <;> omega))))
      | ((with_reducible apply ixN_litp); (focus (exact rfl)); (focus ((try simp only [LN] at *) <;> omega)))
      | with_reducible refine wr_i64 (by first | omega | (simp only [LN] at *; omega)) ?_
      | ((first | (with_reducible refine Z.callZ_mk ?_ (m1) ?_) | (with_reducible refine Z.callZ_mk ?_ (cd) ?_) | (with_reducible refine Z.callZ_mk ?_ (crd) ?_)); (focus ((repeat' (first | exact trivial | (refine low_byB (L := y.take m) rfl ?_ ?_; (focus (first | exact rd_by hml)); (focus ((try simp only [LN] at *) <;> omega))) | exact rfl | apply And.intro)); done)))
      | fail)
    all_goals (try (conv => whnf))
    all_goals try (show Nat.ble _ _ = true; rfl)
    all_goals try (exfalso; rename_i hz; cases hz; done)
    all_goals try (exfalso; (try simp only [LN] at *) <;> omega)
    all_goals first
      | ((refine Z.rndK ((k + 1)) (fun s => []) rfl rfl rfl rfl ?_ ?_ ?_ ?_); (focus (repeat' (first | exact trivial | exact rfl | apply And.intro))); (focus (repeat' (first | exact trivial))); (focus (((try dsimp only); omega))); ((try dsimp only); omega))
      | fail
end Go.Proofs.Ytehhmkdghgabaaa
namespace Go.Proofs.Ytehhmkdghgabaaa
open Go Go.RowKit Wx
set_option linter.unusedVariables false
set_option linter.unusedSimpArgs false
set_option maxHeartbeats 4000000
end Go.Proofs.Ytehhmkdghgabaaa
namespace Go.Proofs.Ytehhmkdghgabaaa
open Go Go.RowKit Wx
set_option linter.unusedVariables false
set_option linter.unusedSimpArgs false
set_option maxHeartbeats 4000000
def okKw (x : Kc) : Prop := (Lit.int .i64 x.src).wf = true ∧ (Lit.int .i64 x.key).wf = true ∧ (Lit.int .i64 x.cnt).wf = true ∧ (Lit.int .i64 x.sum).wf = true
theorem rowKc (row : List RT) (h : RowF (.st (.cons 3 1 (.int .i64) (.cons 3 1 (.int .i64) (.cons 41 2 (.st (.cons 2 1 (.int .i64) (.cons 2 1 (.int .i64) .nil))) .nil)))) row) : ∃ x, row = eK x ∧ okKw x := by
  obtain ⟨a0, r0, rfl, _, ⟨z0, rfl, w0⟩, a1, r1, rfl, _, ⟨z1, rfl, w1⟩, a2, r2, rfl, _, ⟨a3, r3, rfl, _, ⟨z2, rfl, w2⟩, a4, r4, rfl, _, ⟨z3, rfl, w3⟩, rfl⟩, rfl⟩ := h
  exact ⟨⟨z0, z1, z2, z3⟩, rfl, w0, w1, w2, w3⟩
structure Tb where
  rows : List Kc
abbrev eTb (x : Tb) : List RT := [RT.ro 4 (x.rows.map eK)]
def okTb (x : Tb) : Prop := (x.rows.length ≤ maxLen ∧ ∀ z ∈ x.rows, okKw z) ∧ True
theorem rowTb (row : List RT) (h : RowF (.st (.cons 28 1 (.sl (.st (.cons 3 1 (.int .i64) (.cons 3 1 (.int .i64) (.cons 41 2 (.st (.cons 2 1 (.int .i64) (.cons 2 1 (.int .i64) .nil))) .nil)))) 74 4) .nil)) row) : ∃ x, row = eTb x ∧ okTb x := by
  obtain ⟨a0, r0, rfl, _, ⟨rows0, rfl, l0, h0⟩, rfl⟩ := h
  obtain ⟨z0, rfl, k0⟩ := rows_map eK (fun z => okKw z) rowKc rows0 h0
  exact ⟨⟨z0⟩, rfl, ⟨by simpa using l0, k0⟩, trivial⟩
theorem wf8 {z : Int} (h : (Lit.int .u8 z).wf = true) : 0 ≤ z ∧ z ≤ 255 := by
  simp [Lit.wf, IntKind.min, IntKind.max, IntKind.signed, IntKind.bits] at h; omega
namespace tableBack
end tableBack
end Go.Proofs.Ytehhmkdghgabaaa
