import Derived.Test.YtehhmkdghgabaaaOwn6
import Derived.Test.YtehhmkdghgabaaaLib4
import Derived.Test.YtehhmkdghgabaaaLib5
import Derived.Test.YtehhmkdghgabaaaRows
namespace Go.Proofs.Ytehhmkdghgabaaa
open Go Go.RowKit Wx
set_option linter.unusedVariables false
set_option linter.unusedSimpArgs false
set_option maxHeartbeats 4000000
theorem do_0cn (t w a b : Int) (ins : List Int) (s k v : Int) (c : Int × Int) (O : List Int) (hi : ins.length ≤ 9223372036854775807) (hO : O.length ≤ 1) (hk : keyOk s k = true) (hr : Ops.doF t w ins a b 0 0 v = (c, O, 0)) (hc : 0 < c.1) : Con Try.prog 64 [.agg [.v (.int .i64 t), .v (.int .i64 w), .ro false 1 (ins.map Ops.eI), .v (.int .i64 a), .v (.int .i64 b)], .agg [.v (.slice none 0 0)], .agg [.v (.int .i64 s), .v (.int .i64 k), .v (.int .i64 v)]] (fun rx rK rt => rx = .tup [.agg [.ro true 4 ([(⟨s, k, c.1, c.2⟩ : Kc)].map eK)], .one (.ro true 3 ((O.map fun x => (⟨s, k, x⟩ : Rcd)).map eR)), .one (.v (.int .i64 0))] ∧ rK = [] ∧ rt = 0) := by
  refine Z.con_ofF tabOk 22 Try.f64 _ Try.func64 (by kernel_rfl) rfl rfl rfl rfl ?_
  have ck := rec_con s k v
  rw [hk] at ck
  simp only [cond_true] at ck
  have cf := find_con [] s k v (by simp) rfl
  rw [show thereR [] s k = false from rfl, show posR [] s k = 0 from rfl] at cf
  have cd := Ops.do_con t w a b 0 0 v ins hi (by decide)
  rw [hr] at cd
  dsimp only at cd
  have hcz : (c.1 == 0 && (c.2 == 0 && true)) = false := by rw [show (c.1 == 0) = false by simp; omega]; rfl
  have cw := clonek_0
  rcases O with _ | ⟨y, _ | ⟨z, O⟩⟩
  rotate_right 1
  · exact absurd hO (by simp)
  all_goals (
    repeat' ((conv => whnf); first
      | with_reducible first | refine spB_t ?_
      | ((with_reducible apply spB_cong); (focus (simp only [beq_self_eq_true, bne_self_eq_false, Bool.true_bne, Bool.false_bne, Bool.bne_true, Bool.bne_false, Bool.true_beq, Bool.false_beq, Bool.not_true, Bool.not_false, Bool.not_not, Int.reduceBEq, Int.reduceBNe, Int.reduceLE, Int.reduceLT, Int.reduceEq, decide_true, decide_false]; rfl)))
      | with_reducible first | refine spB_no (by decide) ?_ | refine spB_not ?_ | refine spB_no (by assumption) ?_
      | (with_reducible refine spB_dec ?_ ?_ <;> intro _ <;> (try (exfalso; first | contradiction | omega | (rename_i hz; refine hz ?_; simp; done) | (rename_i hz; simp at hz; done) | (simp only [LN] at *; omega) | (rename_i hz; exact absurd (hcz.symm.trans hz) Bool.false_ne_true))))
      | with_reducible first | refine Z.loopZ_unroll tabOk 3 ?_
      | ((with_reducible refine Z.slN_lo 0 ?_ ?_ ?_); (focus rfl); (focus ((try simp only [LN] at *) <;> omega)))
      | ((with_reducible refine posE_pos ?_ ?_); (focus ((try simp only [LN] at *) <;> omega)))
      | ((with_reducible apply rowN_mk); (focus rfl))
      | ((with_reducible apply ixN_lit); (focus (exact rfl)); (focus (exact rfl)))
      | ((with_reducible refine apdN.mk ?_ ?_ ?_ ?_ ?_ ?_); (focus (first | rfl)); (focus (first | exact one_all (by rfl))); (focus ((try simp only [LN] at *) <;> omega)); (focus ((try simp only [LN] at *) <;> omega)); (focus ((try simp only [LN] at *) <;> omega)))
      | with_reducible refine wr_i64 (by first | omega | (simp only [LN] at *; omega)) ?_
      | with_reducible first | refine Z.callZ_in tabOk 38 Try.f101 _ Try.func101 (by kernel_rfl) rfl rfl rfl ?_ | refine Z.callZ_in tabOk 67 Try.f60 _ Try.func60 (by kernel_rfl) rfl rfl rfl ?_ | refine Z.callZ_in tabOk 95 Try.f100 _ Try.func100 (by kernel_rfl) rfl rfl rfl ?_
      | ((first | (with_reducible refine Z.callZ_mk ?_ (cd) ?_) | (with_reducible refine Z.callZ_mk ?_ (ck) ?_) | (with_reducible refine Z.callZ_mk ?_ (cf) ?_) | (with_reducible refine Z.callZ_mk ?_ (cw) ?_)); (focus ((repeat' (first | exact trivial | exact rfl | exact Z.low_nil | exact .inl rfl | apply And.intro)); done)))
      | ((with_reducible apply ex_and); exact rfl)
      | with_reducible first | refine Z.drawZ_rule tabOk mixOk ?_ | refine Z.apZ_mk (by kernel_rfl) ?_)
    all_goals (try (conv => whnf)))
  all_goals try (show Nat.ble _ _ = true; rfl)
  all_goals try (exfalso; rename_i hz; cases hz; done)
  all_goals try (exfalso; (try simp only [LN] at *) <;> omega)
  all_goals first
    | ((first | (with_reducible apply Z.retF2)); (focus (exact rfl)); (repeat' (first | exact trivial | (refine Z.fq_gsl (l := [(⟨s, k, y⟩ : Rcd)]) (f := cR) (g := eR) (sz := 3) (ty := 39) rfl (fun _ => rfl) ?_) | (refine Z.fq_gsl (l := [(⟨s, k, c.1, c.2⟩ : Kc)]) (f := cK) (g := eK) (sz := 4) (ty := 74) rfl (fun _ => rfl) ?_) | (with_reducible apply Z.frz_one) | (with_reducible apply Z.frz_agg) | (with_reducible apply Z.fq_int) | (exact Z.frz_nil) | exact rfl | apply And.intro)); (all_goals (try exact (fun _ => none))); all_goals (first | (simp; done)))
theorem do_0ce (t w a b : Int) (ins : List Int) (ad : Addr) (cap : Nat) (s k v : Int) (c : Int × Int) (O : List Int) (hi : ins.length ≤ 9223372036854775807) (hO : O.length ≤ 1) (hk : keyOk s k = true) (hr : Ops.doF t w ins a b 0 0 v = (c, O, 0)) (hc : 0 < c.1) : Con Try.prog 64 [.agg [.v (.int .i64 t), .v (.int .i64 w), .ro false 1 (ins.map Ops.eI), .v (.int .i64 a), .v (.int .i64 b)], .agg [.v (.slice (some ad) 0 cap)], .agg [.v (.int .i64 s), .v (.int .i64 k), .v (.int .i64 v)]] (fun rx rK rt => rx = .tup [.agg [.ro true 4 ([(⟨s, k, c.1, c.2⟩ : Kc)].map eK)], .one (.ro true 3 ((O.map fun x => (⟨s, k, x⟩ : Rcd)).map eR)), .one (.v (.int .i64 0))] ∧ rK = [] ∧ rt = 0) := by
  refine Z.con_ofF tabOk 22 Try.f64 _ Try.func64 (by kernel_rfl) rfl rfl rfl rfl ?_
  have ck := rec_con s k v
  rw [hk] at ck
  simp only [cond_true] at ck
  have cf := find_con [] s k v (by simp) rfl
  rw [show thereR [] s k = false from rfl, show posR [] s k = 0 from rfl] at cf
  have cd := Ops.do_con t w a b 0 0 v ins hi (by decide)
  rw [hr] at cd
  dsimp only at cd
  have hcz : (c.1 == 0 && (c.2 == 0 && true)) = false := by rw [show (c.1 == 0) = false by simp; omega]; rfl
  have cf := con_empagg ad cap cf
  have cw := clonek_1 ad cap
  rcases O with _ | ⟨y, _ | ⟨z, O⟩⟩
  rotate_right 1
  · exact absurd hO (by simp)
  all_goals (
    repeat' ((conv => whnf); first
      | with_reducible first | refine spB_t ?_
      | ((with_reducible apply spB_cong); (focus (simp only [beq_self_eq_true, bne_self_eq_false, Bool.true_bne, Bool.false_bne, Bool.bne_true, Bool.bne_false, Bool.true_beq, Bool.false_beq, Bool.not_true, Bool.not_false, Bool.not_not, Int.reduceBEq, Int.reduceBNe, Int.reduceLE, Int.reduceLT, Int.reduceEq, decide_true, decide_false]; rfl)))
      | with_reducible first | refine spB_no (by decide) ?_ | refine spB_not ?_ | refine spB_no (by assumption) ?_
      | (with_reducible refine spB_dec ?_ ?_ <;> intro _ <;> (try (exfalso; first | contradiction | omega | (rename_i hz; refine hz ?_; simp; done) | (rename_i hz; simp at hz; done) | (simp only [LN] at *; omega) | (rename_i hz; exact absurd (hcz.symm.trans hz) Bool.false_ne_true))))
      | with_reducible first | refine Z.loopZ_unroll tabOk 3 ?_
      | ((with_reducible refine Z.slN_lo 0 ?_ ?_ ?_); (focus rfl); (focus ((try simp only [LN] at *) <;> omega)))
      | ((with_reducible refine apdE_n ?_); (with_reducible refine apdN.mk ?_ ?_ ?_ ?_ ?_ ?_); (focus rfl); (focus (exact one_all (by rfl))); (focus (simp; done)); (focus ((try simp only [LN] at *) <;> omega)); (focus ((try simp only [LN] at *) <;> omega)))
      | ((with_reducible refine posE_pos ?_ ?_); (focus ((try simp only [LN] at *) <;> omega)))
      | ((with_reducible apply rowN_mk); (focus rfl))
      | ((with_reducible apply ixN_lit); (focus (exact rfl)); (focus (exact rfl)))
      | ((with_reducible refine slE_b ?_ ?_); (focus ((try simp only [LN] at *) <;> omega)))
      | ((with_reducible refine apdN.mk ?_ ?_ ?_ ?_ ?_ ?_); (focus (first | rfl)); (focus (first | exact one_all (by rfl))); (focus ((try simp only [LN] at *) <;> omega)); (focus ((try simp only [LN] at *) <;> omega)); (focus ((try simp only [LN] at *) <;> omega)))
      | with_reducible refine wr_i64 (by first | omega | (simp only [LN] at *; omega)) ?_
      | with_reducible first | refine Z.callZ_in tabOk 38 Try.f101 _ Try.func101 (by kernel_rfl) rfl rfl rfl ?_ | refine Z.callZ_in tabOk 67 Try.f60 _ Try.func60 (by kernel_rfl) rfl rfl rfl ?_ | refine Z.callZ_in tabOk 95 Try.f100 _ Try.func100 (by kernel_rfl) rfl rfl rfl ?_
      | ((first | (with_reducible refine Z.callZ_mk ?_ (cd) ?_) | (with_reducible refine Z.callZ_mk ?_ (ck) ?_) | (with_reducible refine Z.callZ_mk ?_ (cf) ?_) | (with_reducible refine Z.callZ_mk ?_ (cw) ?_)); (focus ((repeat' (first | exact trivial | exact rfl | apply And.intro)); done)))
      | ((with_reducible apply ex_and); exact rfl)
      | with_reducible first | refine Z.drawZ_rule tabOk mixOk ?_ | refine Z.apZ_mk (by kernel_rfl) ?_)
    all_goals (try (conv => whnf)))
  all_goals try (show Nat.ble _ _ = true; rfl)
  all_goals try (exfalso; rename_i hz; cases hz; done)
  all_goals try (exfalso; (try simp only [LN] at *) <;> omega)
  all_goals first
    | ((first | (with_reducible apply Z.retF2)); (focus (exact rfl)); (repeat' (first | exact trivial | (refine Z.fq_gsl (l := [(⟨s, k, y⟩ : Rcd)]) (f := cR) (g := eR) (sz := 3) (ty := 39) rfl (fun _ => rfl) ?_) | (refine Z.frz_osl (l := [(⟨s, k, c.1, c.2⟩ : Kc)]) (f := cK) (ty := 74) (bx := false) (by rfl) (by simp) (fun _ => rfl)) | (with_reducible apply Z.frz_one) | (with_reducible apply Z.frz_agg) | (with_reducible apply Z.fq_int) | (exact Z.frz_nil) | exact rfl | apply And.intro)); (all_goals (try exact (fun _ => none))); all_goals (first | (simp; done)))
end Go.Proofs.Ytehhmkdghgabaaa
namespace Go.Proofs.Ytehhmkdghgabaaa
open Go Go.RowKit Wx
set_option linter.unusedVariables false
set_option linter.unusedSimpArgs false
set_option maxHeartbeats 4000000
theorem do_bad1 (t w a b : Int) (ins : List Int) (l : List Kc) (s k v : Int) (hl : l.length ≤ 1000) (hk : keyOk s k = false) : Con Try.prog 64 [.agg [.v (.int .i64 t), .v (.int .i64 w), .ro false 1 (ins.map Ops.eI), .v (.int .i64 a), .v (.int .i64 b)], .agg [.ro false 4 (l.map eK)], .agg [.v (.int .i64 s), .v (.int .i64 k), .v (.int .i64 v)]] (fun rx rK rt => rx = .tup [.agg [.ro true 4 (([] : List Kc).map eK)], .one (.ro true 3 (([] : List Rcd).map eR)), .one (.v (.int .i64 150))] ∧ rK = [] ∧ rt = 0) := by
  refine Z.con_ofF tabOk 22 Try.f64 _ Try.func64 (by kernel_rfl) rfl rfl rfl rfl ?_
  have ck := rec_con s k v
  rw [hk] at ck
  simp only [cond_false] at ck
  repeat' ((conv => whnf); first
    | with_reducible first | refine spB_t ?_
    | ((with_reducible apply spB_cong); (focus (simp only [beq_self_eq_true, bne_self_eq_false, Bool.true_bne, Bool.false_bne, Bool.bne_true, Bool.bne_false, Bool.true_beq, Bool.false_beq, Bool.not_true, Bool.not_false, Bool.not_not, Int.reduceBEq, Int.reduceBNe, Int.reduceLE, Int.reduceLT, Int.reduceEq, decide_true, decide_false]; rfl)))
    | with_reducible first | refine Z.callZ_in tabOk 67 Try.f60 _ Try.func60 (by kernel_rfl) rfl rfl rfl ?_
    | ((first | (with_reducible refine Z.callZ_mk ?_ (ck) ?_)); (focus ((repeat' (first | exact trivial | exact rfl | apply And.intro)); done)))
    | ((with_reducible apply ex_and); exact rfl)
    | with_reducible first | refine Z.drawZ_rule tabOk mixOk ?_ | refine Z.apZ_mk (by kernel_rfl) ?_)
  all_goals (try (conv => whnf))
  all_goals try (show Nat.ble _ _ = true; rfl)
  all_goals try (exfalso; rename_i hz; cases hz; done)
  all_goals try (exfalso; (try simp only [LN] at *) <;> omega)
  all_goals first
    | ((first | (with_reducible apply Z.retF2)); (focus (exact rfl)); (repeat' (first | exact trivial | (with_reducible apply Z.frz_one) | (with_reducible apply Z.frz_agg) | (exact Z.frz_nil) | exact rfl | apply And.intro)); (all_goals (try exact (fun _ => none))); all_goals (first | (simp; done)))
theorem do_bad2 (t w a b : Int) (ins : List Int) (l : List Kc) (s k v : Int) (e : Int) (p : Nat) (hi : ins.length ≤ 9223372036854775807) (hl : l.length ≤ 1000) (ht : tabR l = true) (hk : keyOk s k = true) (hth : thereR l s k = false) (hp : posR l s k = p) (hr : Ops.doF t w ins a b 0 0 v = ((0, 0), [], e)) (he : e ≠ 0) : Con Try.prog 64 [.agg [.v (.int .i64 t), .v (.int .i64 w), .ro false 1 (ins.map Ops.eI), .v (.int .i64 a), .v (.int .i64 b)], .agg [.ro false 4 (l.map eK)], .agg [.v (.int .i64 s), .v (.int .i64 k), .v (.int .i64 v)]] (fun rx rK rt => rx = .tup [.agg [.ro true 4 (([] : List Kc).map eK)], .one (.ro true 3 (([] : List Rcd).map eR)), .one (.v (.int .i64 e))] ∧ rK = [] ∧ rt = 0) := by
  refine Z.con_ofF tabOk 22 Try.f64 _ Try.func64 (by kernel_rfl) rfl rfl rfl rfl ?_
  have ck := rec_con s k v
  rw [hk] at ck
  simp only [cond_true, cond_false] at ck
  have cf := find_con l s k v hl ht
  rw [hth, hp] at cf
  have cd := Ops.do_con t w a b 0 0 v ins hi (by decide)
  rw [hr] at cd
  dsimp only at cd
  have hez : (e == 0) = false := by simpa using he
  repeat' ((conv => whnf); first
    | ((with_reducible apply spB_cong); (focus (simp only [beq_self_eq_true, bne_self_eq_false, Bool.true_bne, Bool.false_bne, Bool.bne_true, Bool.bne_false, Bool.true_beq, Bool.false_beq, Bool.not_true, Bool.not_false, Bool.not_not, Int.reduceBEq, Int.reduceBNe, Int.reduceLE, Int.reduceLT, Int.reduceEq, decide_true, decide_false]; rfl)))
    | with_reducible first | refine spB_no (by decide) ?_
    | (with_reducible refine spB_bne ?_ ?_ <;> intro _ <;> (try (exfalso; first | contradiction | omega | (rename_i hz; refine hz ?_; simp; done) | (rename_i hz; simp at hz; done) | (simp only [LN] at *; omega) | (simp_all; done))))
    | with_reducible first | refine Z.loopZ_unroll tabOk 3 ?_
    | with_reducible first | refine Z.callZ_in tabOk 38 Try.f101 _ Try.func101 (by kernel_rfl) rfl rfl rfl ?_ | refine Z.callZ_in tabOk 67 Try.f60 _ Try.func60 (by kernel_rfl) rfl rfl rfl ?_
    | ((first | (with_reducible refine Z.callZ_mk ?_ (cd) ?_) | (with_reducible refine Z.callZ_mk ?_ (ck) ?_) | (with_reducible refine Z.callZ_mk ?_ (cf) ?_)); (focus ((repeat' (first | exact trivial | exact rfl | apply And.intro)); done)))
    | ((with_reducible apply ex_and); exact rfl)
    | with_reducible first | refine Z.drawZ_rule tabOk mixOk ?_ | refine Z.apZ_mk (by kernel_rfl) ?_)
  all_goals (try (conv => whnf))
  all_goals try (show Nat.ble _ _ = true; rfl)
  all_goals try (exfalso; rename_i hz; cases hz; done)
  all_goals try (exfalso; (try simp only [LN] at *) <;> omega)
  all_goals first
    | ((first | (with_reducible apply Z.retF2)); (focus (exact rfl)); (repeat' (first | exact trivial | (with_reducible apply Z.frz_one) | (with_reducible apply Z.frz_agg) | (exact Z.frz_nil) | exact rfl | apply And.intro)); (all_goals (try exact (fun _ => none))); all_goals (first | (simp; done)))
theorem do_bad3 (t w a b : Int) (ins : List Int) (l : List Kc) (s k v : Int) (e : Int) (p : Nat) (hi : ins.length ≤ 9223372036854775807) (hl : l.length ≤ 1000) (ht : tabR l = true) (hk : keyOk s k = true) (hth : thereR l s k = true) (hp : posR l s k = p) (x : Kc) (hx : l[p]? = some x) (hpl : p < l.length) (hc0 : x.cnt ≤ 9223372036854775807) (hr : Ops.doF t w ins a b x.cnt x.sum v = ((0, 0), [], e)) (he : e ≠ 0) : Con Try.prog 64 [.agg [.v (.int .i64 t), .v (.int .i64 w), .ro false 1 (ins.map Ops.eI), .v (.int .i64 a), .v (.int .i64 b)], .agg [.ro false 4 (l.map eK)], .agg [.v (.int .i64 s), .v (.int .i64 k), .v (.int .i64 v)]] (fun rx rK rt => rx = .tup [.agg [.ro true 4 (([] : List Kc).map eK)], .one (.ro true 3 (([] : List Rcd).map eR)), .one (.v (.int .i64 e))] ∧ rK = [] ∧ rt = 0) := by
  refine Z.con_ofF tabOk 22 Try.f64 _ Try.func64 (by kernel_rfl) rfl rfl rfl rfl ?_
  have ck := rec_con s k v
  rw [hk] at ck
  simp only [cond_true, cond_false] at ck
  have cf := find_con l s k v hl ht
  rw [hth, hp] at cf
  have cd := Ops.do_con t w a b x.cnt x.sum v ins hi hc0
  rw [hr] at cd
  dsimp only at cd
  have hez : (e == 0) = false := by simpa using he
  repeat' ((conv => whnf); first
    | with_reducible first | refine spB_t ?_
    | ((with_reducible apply spB_cong); (focus (simp only [beq_self_eq_true, bne_self_eq_false, Bool.true_bne, Bool.false_bne, Bool.bne_true, Bool.bne_false, Bool.true_beq, Bool.false_beq, Bool.not_true, Bool.not_false, Bool.not_not, Int.reduceBEq, Int.reduceBNe, Int.reduceLE, Int.reduceLT, Int.reduceEq, decide_true, decide_false]; rfl)))
    | with_reducible first | refine spB_no (by decide) ?_
    | (with_reducible refine spB_bne ?_ ?_ <;> intro _ <;> (try (exfalso; first | contradiction | omega | (rename_i hz; refine hz ?_; simp; done) | (rename_i hz; simp at hz; done) | (simp only [LN] at *; omega) | (simp_all; done))))
    | with_reducible first | refine Z.rowN_known hx ?_
    | ((with_reducible refine ixN_mk (p) ?_ ?_ ?_); (focus (first | rfl)); (focus ((try simp only [LN] at *) <;> omega)))
    | with_reducible first | refine Z.loopZ_unroll tabOk 3 ?_
    | with_reducible first | refine Z.callZ_in tabOk 38 Try.f101 _ Try.func101 (by kernel_rfl) rfl rfl rfl ?_ | refine Z.callZ_in tabOk 67 Try.f60 _ Try.func60 (by kernel_rfl) rfl rfl rfl ?_
    | ((first | (with_reducible refine Z.callZ_mk ?_ (cd) ?_) | (with_reducible refine Z.callZ_mk ?_ (ck) ?_) | (with_reducible refine Z.callZ_mk ?_ (cf) ?_)); (focus ((repeat' (first | exact trivial | exact rfl | apply And.intro)); done)))
    | ((with_reducible apply ex_and); exact rfl)
    | with_reducible first | refine Z.drawZ_rule tabOk mixOk ?_ | refine Z.apZ_mk (by kernel_rfl) ?_)
  all_goals (try (conv => whnf))
  all_goals try (show Nat.ble _ _ = true; rfl)
  all_goals try (exfalso; rename_i hz; cases hz; done)
  all_goals try (exfalso; (try simp only [LN] at *) <;> omega)
  all_goals first
    | ((first | (with_reducible apply Z.retF2)); (focus (exact rfl)); (repeat' (first | exact trivial | (with_reducible apply Z.frz_one) | (with_reducible apply Z.frz_agg) | (exact Z.frz_nil) | exact rfl | apply And.intro)); (all_goals (try exact (fun _ => none))); all_goals (first | (simp; done)))
end Go.Proofs.Ytehhmkdghgabaaa
namespace Go.Proofs.Ytehhmkdghgabaaa
open Go Go.RowKit Wx
set_option linter.unusedVariables false
set_option linter.unusedSimpArgs false
set_option maxHeartbeats 4000000
theorem con_nil2 {P : Program} {g : FuncId} {sz : Nat} {cs : List Ce} {x : A0} {av : List A0} {post : AV → Wx.Kr → Nat → Prop} (h0 : Con P g (x :: .agg (.v (.slice none 0 0) :: cs) :: av) post) (h1 : ∀ ad cap, Con P g (x :: .agg (.v (.slice (some ad) 0 cap) :: cs) :: av) post) : Con P g (x :: .agg (.ro false sz [] :: cs) :: av) post := by
  refine ⟨h0.fn, fun w vs hvs => ?_⟩
  cases vs with
  | nil => exact hvs.elim
  | cons v0 vs =>
    obtain ⟨hv0, hvs⟩ := hvs
    cases vs with
    | nil => exact hvs.elim
    | cons v vs =>
      obtain ⟨⟨us, rfl, hus⟩, hvs⟩ := hvs
      cases us with
      | nil => exact hus.elim
      | cons u us =>
        obtain ⟨hu, hus⟩ := hus
        have hu : Rd _ (.ro sz []) u := hu
        cases hu with
        | nil => exact h0.run w _ ⟨hv0, ⟨_, rfl, rfl, hus⟩, hvs⟩
        | emp _ ad cap => exact (h1 ad cap).run w _ ⟨hv0, ⟨_, rfl, rfl, hus⟩, hvs⟩
        | ro => exact (h1 _ _).run w _ ⟨hv0, ⟨_, rfl, rfl, hus⟩, hvs⟩
abbrev opA (o : Opr) : A0 := .agg [.v (.int .i64 o.t), .v (.int .i64 o.w), .ro false 1 (o.ins.map Ops.eI), .v (.int .i64 o.a), .v (.int .i64 o.b)]
abbrev tabA (l : List Kc) : A0 := .agg [.ro false 4 (l.map eK)]
abbrev recA (r : Rcd) : A0 := .agg [.v (.int .i64 r.src), .v (.int .i64 r.key), .v (.int .i64 r.val)]
abbrev dOut (q : List Kc × List Rcd × Int) : AV := .tup [.agg [.ro true 4 (q.1.map eK)], .one (.ro true 3 (q.2.1.map eR)), .one (.v (.int .i64 q.2.2))]
theorem get_no {l : List Kc} {s k : Int} (ht : tabR l = true) (h : thereR l s k = false) : getR l s k = (0, 0) := by
  rw [get_pos ht, h]; rfl
theorem get_yes {l : List Kc} {s k : Int} {x : Kc} (ht : tabR l = true) (h : thereR l s k = true) (hx : l[posR l s k]? = some x) : getR l s k = (x.cnt, x.sum) := by
  rw [get_pos ht, h, if_pos rfl, hx]
theorem doF_len0 {t w a b c s v : Int} {ins : List Int} : (Ops.doF t w ins a b c s v).2.1.length ≤ 1 := Ops.doF_len
theorem do_con (o : Opr) (l : List Kc) (r : Rcd) (hi : o.ins.length ≤ 9223372036854775807) (hl : l.length ≤ 1000) (ht : tabR l = true) (hcnt : ∀ x ∈ l, x.cnt ≤ 9223372036854775807) : Con Try.prog 64 [opA o, tabA l, recA r] (fun rx rK rt => rx = dOut (dT o l r) ∧ rK = [] ∧ rt = 0) := by
  obtain ⟨t, w, ins, a, b⟩ := o
  obtain ⟨s, k, v⟩ := r
  unfold dT
  dsimp only at *
  by_cases hk : keyOk s k = false
  · rw [if_pos hk]; exact do_bad1 t w a b ins l s k v hl hk
  have hk' : keyOk s k = true := by simpa using hk
  rw [if_neg hk]
  obtain ⟨D, hD⟩ : ∃ D, Ops.doF t w ins a b (getR l s k).1 (getR l s k).2 v = D := ⟨_, rfl⟩
  have hlen := doF_len0 (t := t) (w := w) (a := a) (b := b) (c := (getR l s k).1) (s := (getR l s k).2) (v := v) (ins := ins)
  have herr := doF_err (t := t) (w := w) (a := a) (b := b) (c := (getR l s k).1) (s := (getR l s k).2) (v := v) (ins := ins)
  have hcell := doF_cell (t := t) (w := w) (a := a) (b := b) (c := (getR l s k).1) (s := (getR l s k).2) (v := v) (ins := ins)
  rw [hD] at hlen herr hcell ⊢
  obtain ⟨c, O, e⟩ := D
  dsimp only at *
  by_cases he : e = 0
  rotate_left
  · rw [if_neg he]
    have h2 := herr he
    cases hth : thereR l s k with
    | false =>
      rw [get_no ht hth] at hD
      exact do_bad2 t w a b ins l s k v e _ hi hl ht hk' hth rfl (hD.trans h2) he
    | true =>
      obtain ⟨x, hx, _⟩ := there_at hth
      rw [get_yes ht hth hx] at hD
      exact do_bad3 t w a b ins l s k v e _ hi hl ht hk' hth rfl x hx (List.getElem?_eq_some_iff.1 hx).1 (hcnt x (List.mem_of_getElem? hx)) (hD.trans h2) he
  rw [if_pos he]
  subst he
  have hc := hcell rfl
  cases l with
  | nil =>
    rw [show getR [] s k = (0, 0) from rfl] at hD
    rcases hc with h | h
    · rw [show putR [] s k c = [⟨s, k, c.1, c.2⟩] from (put_new (l := []) rfl rfl h).trans rfl]
      exact con_nil2 (do_0cn t w a b ins s k v c O hi hlen hk' hD h) (fun ad cap => do_0ce t w a b ins ad cap s k v c O hi hlen hk' hD h)
    · rw [show putR [] s k c = [] by rw [h]; rfl]
      exact con_nil2 (do_0zn t w a b ins s k v c O hi hlen hk' hD h) (fun ad cap => do_0ze t w a b ins ad cap s k v c O hi hlen hk' hD h)
  | cons y l =>
    have hne : y :: l ≠ [] := by simp
    generalize y :: l = l at *
    cases hth : thereR l s k with
    | false =>
      rw [get_no ht hth] at hD
      rcases hc with h | h
      · rw [put_new ht hth h]
        by_cases hp : posR l s k < l.length
        · exact do_ni t w a b ins l s k v c O _ hi hlen hl ht hk' hD h hth rfl hne hp
        · have hp2 : posR l s k = l.length := Nat.le_antisymm (pos_le l s k) (Nat.le_of_not_lt hp)
          rw [hp2, List.take_length, List.drop_length]
          exact do_na t w a b ins l s k v c O _ hi hlen hl ht hk' hD h hth hp2 hne rfl
      · rw [h, put_same ht hth]
        rw [h] at hD
        exact do_z0 t w a b ins l s k v (0, 0) O _ hi hlen hl ht hk' hD rfl hth rfl hne
    | true =>
      obtain ⟨x, hx, _⟩ := there_at hth
      have hpl := (List.getElem?_eq_some_iff.1 hx).1
      have hxc := hcnt x (List.mem_of_getElem? hx)
      rw [get_yes ht hth hx] at hD
      rcases hc with h | h
      · rw [put_upd ht hth h]
        by_cases hp : posR l s k + 1 = l.length
        · exact do_sa t w a b ins l s k v c O _ hi hlen hl ht hk' hth rfl hne x hx hxc hD h hpl hp
        · exact do_si t w a b ins l s k v c O _ hi hlen hl ht hk' hth rfl hne x hx hxc hD h hpl (by omega)
      · rw [h, put_del ht hth]
        rw [h] at hD
        by_cases hp : posR l s k + 1 = l.length
        · exact do_za t w a b ins l s k v (0, 0) O _ hi hlen hl ht hk' hth rfl hne x hx hxc hD rfl hpl hp
        · exact do_zi t w a b ins l s k v (0, 0) O _ hi hlen hl ht hk' hth rfl hne x hx hxc hD rfl hpl (by omega)
end Go.Proofs.Ytehhmkdghgabaaa
namespace Go.Proofs.Ytehhmkdghgabaaa
open Go Go.RowKit Wx
set_option linter.unusedVariables false
set_option linter.unusedSimpArgs false
set_option maxHeartbeats 4000000
def okC (l : List Kc) : Prop := ∀ x ∈ l, x.cnt ≤ 9223372036854775807
theorem doF_le {t w : Int} {ins : List Int} {a b c s v : Int} (hc : c ≤ 9223372036854775807) : (Ops.doF t w ins a b c s v).1.1 ≤ 9223372036854775807 := by
  unfold Ops.doF
  split
  · simp
  · split
    · simp
    · split
      · simp
      · unfold Ops.stp
        repeat' split
        all_goals (simp only; omega)
theorem getR_le {l : List Kc} {s k : Int} (h : okC l) : (getR l s k).1 ≤ 9223372036854775807 := by
  unfold getR
  cases hf : l.find? (eqK s k) with
  | none => simp
  | some x => exact h x (List.mem_of_find?_eq_some hf)
theorem dT_ok {o : Opr} {l : List Kc} {r : Rcd} (ht : tabR l = true) (hc : okC l) (he : (dT o l r).2.2 = 0) : tabR (dT o l r).1 = true ∧ okC (dT o l r).1 := by
  unfold dT at *
  split at he
  · cases he
  · rename_i hk
    rw [if_neg hk]
    split at he
    · rename_i h0
      rw [if_pos h0]
      have h1 := doF_cell h0
      have h2 := doF_le (t := o.t) (w := o.w) (ins := o.ins) (a := o.a) (b := o.b) (s := (getR l r.src r.key).2) (v := r.val) (getR_le (s := r.src) (k := r.key) hc)
      refine ⟨put_tab ht (by simpa using hk) h1.symm, fun x hx => ?_⟩
      unfold putR ownK at hx
      dsimp only at hx
      rw [List.mem_append, List.mem_append] at hx
      rcases hx with (hx | hx) | hx
      · exact hc x (List.mem_filter.1 hx).1
      · split at hx
        · cases hx
        · rw [List.mem_singleton.1 hx]; exact h2
      · exact hc x (List.mem_filter.1 hx).1
    · rename_i h0
      exact absurd he h0
theorem dT_len {o : Opr} {l : List Kc} {r : Rcd} : (dT o l r).2.1.length ≤ 1 := by
  unfold dT
  split
  · simp
  · split
    · dsimp only; rw [List.length_map]; exact doF_len0
    · simp
theorem dT_err {o : Opr} {l : List Kc} {r : Rcd} (he : (dT o l r).2.2 ≠ 0) : dT o l r = ([], [], (dT o l r).2.2) := by
  unfold dT at *
  split
  · rfl
  · rename_i hk
    rw [if_neg hk] at he
    split
    · rename_i h0; rw [if_pos h0] at he; exact absurd rfl he
    · rfl
def rT (o : Opr) : List Kc → List Rcd → List Rcd → List Kc × List Rcd × Int
  | l, acc, [] => (l, acc, 0)
  | l, acc, r :: rs => if (dT o l r).2.2 = 0 then rT o (dT o l r).1 (acc ++ (dT o l r).2.1) rs else ([], [], (dT o l r).2.2)
def runT (o : Opr) (l : List Kc) (rs : List Rcd) : List Kc × List Rcd × Int :=
  if tabR l = false then ([], [], 220) else if 40 < rs.length then ([], [], 3) else rT o l [] rs
theorem rT_at {o : Opr} {l : List Kc} {acc rs : List Rcd} {i : Nat} {r : Rcd} (h : rs[i]? = some r) : rT o l acc (rs.drop i) = if (dT o l r).2.2 = 0 then rT o (dT o l r).1 (acc ++ (dT o l r).2.1) (rs.drop (i + 1)) else ([], [], (dT o l r).2.2) := by
  rw [drop_cons h]; rfl
end Go.Proofs.Ytehhmkdghgabaaa
namespace Go.Proofs.Ytehhmkdghgabaaa
open Go Go.RowKit Wx
set_option linter.unusedVariables false
set_option linter.unusedSimpArgs false
set_option maxHeartbeats 4000000
theorem find_flt {α : Type} {p q : α → Bool} : ∀ {l : List α}, (∀ x ∈ l, q x = true → p x = true) → (l.filter p).find? q = l.find? q
  | [], _ => rfl
  | x :: l, h => by
    have ih := find_flt (p := p) (q := q) (l := l) fun y hy => h y (List.mem_cons_of_mem _ hy)
    by_cases hq : q x = true
    · rw [List.filter_cons_of_pos (h x List.mem_cons_self hq), List.find?_cons_of_pos hq, List.find?_cons_of_pos hq]
    · rw [List.find?_cons_of_neg hq]
      by_cases hp : p x = true
      · rw [List.filter_cons_of_pos hp, List.find?_cons_of_neg hq, ih]
      · rw [List.filter_cons_of_neg hp, ih]
theorem find_no {α : Type} {p q : α → Bool} {l : List α} (h : ∀ x, q x = true → p x = false) : (l.filter p).find? q = none := by
  rw [List.find?_eq_none]
  intro x hx hq
  have := (List.mem_filter.1 hx).2
  rw [h x hq] at this; cases this
theorem get_put {l : List Kc} {s k s2 k2 : Int} {c : Int × Int} : getR (putR l s k c) s2 k2 = if s2 = s ∧ k2 = k then c else getR l s2 k2 := by
  unfold getR putR ownK
  have hlt : ∀ x : Kc, ltK s k x = true ↔ kLt x.src x.key s k := fun x => decide_eq_true_iff
  have hgt : ∀ x : Kc, gtK s k x = true ↔ kLt s k x.src x.key := fun x => decide_eq_true_iff
  have heq : ∀ x : Kc, eqK s2 k2 x = true ↔ x.src = s2 ∧ x.key = k2 := fun x => decide_eq_true_iff
  by_cases h : s2 = s ∧ k2 = k
  · rw [if_pos h]
    obtain ⟨rfl, rfl⟩ := h
    have h1 : (l.filter (ltK s2 k2)).find? (eqK s2 k2) = none := find_no fun x hx => by
      obtain ⟨a, b⟩ := (heq x).1 hx
      exact decide_eq_false (by rw [a, b]; exact kLt_irr)
    have h2 : (l.filter (gtK s2 k2)).find? (eqK s2 k2) = none := find_no fun x hx => by
      obtain ⟨a, b⟩ := (heq x).1 hx
      exact decide_eq_false (by rw [a, b]; exact kLt_irr)
    rw [List.append_assoc, List.find?_append, h1]
    by_cases hc : c = (0, 0)
    · rw [if_pos hc, List.nil_append, h2, hc]; rfl
    · rw [if_neg hc, List.singleton_append, List.find?_cons_of_pos ((heq _).2 ⟨rfl, rfl⟩)]; rfl
  · rw [if_neg h]
    have h0 : (if c = (0, 0) then [] else [(⟨s, k, c.1, c.2⟩ : Kc)]).find? (eqK s2 k2) = none := by
      rw [List.find?_eq_none]
      intro x hx hq
      split at hx
      · cases hx
      · rw [List.mem_singleton.1 hx] at hq
        exact h ⟨((heq _).1 hq).1.symm, ((heq _).1 hq).2.symm⟩
    rcases @kLt_tri s2 k2 s k with h1 | h1 | h1
    · have e1 : (l.filter (ltK s k)).find? (eqK s2 k2) = l.find? (eqK s2 k2) := find_flt fun x _ hx => by
        obtain ⟨a, b⟩ := (heq x).1 hx
        exact (hlt x).2 (by rw [a, b]; exact h1)
      have e2 : (l.filter (gtK s k)).find? (eqK s2 k2) = none := find_no fun x hx => by
        obtain ⟨a, b⟩ := (heq x).1 hx
        exact decide_eq_false (by rw [a, b]; exact kLt_asym h1)
      rw [List.find?_append, List.find?_append, e1, h0, e2]
      cases l.find? (eqK s2 k2) <;> rfl
    · exact absurd h1 h
    · have e1 : (l.filter (ltK s k)).find? (eqK s2 k2) = none := find_no fun x hx => by
        obtain ⟨a, b⟩ := (heq x).1 hx
        exact decide_eq_false (by rw [a, b]; exact kLt_asym h1)
      have e2 : (l.filter (gtK s k)).find? (eqK s2 k2) = l.find? (eqK s2 k2) := find_flt fun x _ hx => by
        obtain ⟨a, b⟩ := (heq x).1 hx
        exact (hgt x).2 (by rw [a, b]; exact h1)
      rw [List.find?_append, List.find?_append, e1, h0, e2]
      rfl
def kv (l : List Rcd) (s k : Int) : List Int := (l.filter fun r => decide (r.src = s ∧ r.key = k)).map Rcd.val
theorem kv_app {a b : List Rcd} {s k : Int} : kv (a ++ b) s k = kv a s k ++ kv b s k := by unfold kv; rw [List.filter_append, List.map_append]
theorem kv_at {l : List Rcd} {i : Nat} {r : Rcd} {s k : Int} (h : l[i]? = some r) : kv (l.take (i + 1)) s k = kv (l.take i) s k ++ (if r.src = s ∧ r.key = k then [r.val] else []) := by
  rw [take_snoc h, kv_app]
  congr 1
  unfold kv
  by_cases h1 : r.src = s ∧ r.key = k
  · rw [if_pos h1]; simp [h1]
  · rw [if_neg h1]; simpa using h1
theorem kv_len {l : List Rcd} {s k : Int} : (kv l s k).length ≤ l.length := by unfold kv; rw [List.length_map]; exact List.length_filter_le _ _
theorem kv_own {O : List Int} {s k s2 k2 : Int} : kv (O.map fun x => (⟨s, k, x⟩ : Rcd)) s2 k2 = if s = s2 ∧ k = k2 then O else [] := by
  unfold kv
  by_cases h : s = s2 ∧ k = k2
  · rw [if_pos h, List.filter_eq_self.2 (fun r hr => by obtain ⟨x, _, rfl⟩ := List.mem_map.1 hr; exact decide_eq_true h), List.map_map]
    exact List.map_id _
  · rw [if_neg h, List.filter_eq_nil_iff.2 (fun r hr => by obtain ⟨x, _, rfl⟩ := List.mem_map.1 hr; rw [decide_eq_false h]; simp)]; rfl
theorem doF_ok {t w : Int} {ins : List Int} {a b c s v : Int} (h : (Ops.doF t w ins a b c s v).2.2 = 0) : Ops.okO t w ins a b = true ∧ c ≠ 9223372036854775807 ∧ Ops.doF t w ins a b c s v = ((Ops.stp t a b (c, s) v).1, (Ops.stp t a b (c, s) v).2, 0) := by
  unfold Ops.doF at *
  split at h
  · cases h
  · rename_i h1
    split at h
    · cases h
    · rename_i h2
      split at h
      · cases h
      · rename_i h3
        rw [if_neg h1, if_neg h2, if_neg h3]
        exact ⟨by simpa using h1, h3, rfl⟩
def keysOk (o : Opr) (l : List Kc) (acc d : List Rcd) : Prop := ∀ s k, (getR l s k, kv acc s k) = Ops.fs o.t o.a o.b (0, 0) (kv d s k)
theorem dT_keys {o : Opr} {l : List Kc} {acc d : List Rcd} {r : Rcd} (h : keysOk o l acc d) (he : (dT o l r).2.2 = 0) : Ops.okO o.t o.w o.ins o.a o.b = true ∧ keysOk o (dT o l r).1 (acc ++ (dT o l r).2.1) (d ++ [r]) ∧ (getR l r.src r.key).1 ≠ 9223372036854775807 := by
  unfold dT at *
  split at he
  · cases he
  · rename_i hk
    rw [if_neg hk]
    split at he
    · rename_i h0
      rw [if_pos h0]
      obtain ⟨h1, h2, h3⟩ := doF_ok h0
      refine ⟨h1, fun s k => ?_, h2⟩
      dsimp only
      rw [h3, get_put, kv_app, kv_own, kv_app]
      dsimp only
      have hd : kv [r] s k = if r.src = s ∧ r.key = k then [r.val] else [] := by
        have := kv_at (l := [r]) (i := 0) (r := r) (s := s) (k := k) rfl
        simpa [kv] using this
      rw [hd]
      have hq := h s k
      by_cases e : r.src = s ∧ r.key = k
      · obtain ⟨rfl, rfl⟩ := e
        rw [if_pos ⟨rfl, rfl⟩, if_pos ⟨rfl, rfl⟩, if_pos ⟨rfl, rfl⟩, Ops.fs_snoc, ← hq]
      · rw [if_neg (fun q => e ⟨q.1.symm, q.2.symm⟩), if_neg e, if_neg e, List.append_nil, List.append_nil]
        exact hq
    · exact absurd he ‹_›
theorem rT_keys {o : Opr} : ∀ {rs : List Rcd} {l : List Kc} {acc d : List Rcd}, keysOk o l acc d → (rT o l acc rs).2.2 = 0 → keysOk o (rT o l acc rs).1 (rT o l acc rs).2.1 (d ++ rs) ∧ (rs ≠ [] → Ops.okO o.t o.w o.ins o.a o.b = true)
  | [], l, acc, d, h, _ => ⟨by rw [List.append_nil]; exact h, fun h => absurd rfl h⟩
  | r :: rs, l, acc, d, h, he => by
    unfold rT at he ⊢
    split at he
    · rename_i h0
      rw [if_pos h0]
      obtain ⟨h1, h2, _⟩ := dT_keys h h0
      obtain ⟨h3, _⟩ := rT_keys h2 he
      refine ⟨?_, fun _ => h1⟩
      rw [List.append_assoc] at h3
      exact h3
    · exact absurd he ‹_›
theorem keysOk_nil (o : Opr) : keysOk o [] [] [] := fun s k => rfl
theorem fs_cnt {t a b : Int} : ∀ (l : List Int), 0 ≤ (Ops.fs t a b (0, 0) l).1.1 ∧ (Ops.fs t a b (0, 0) l).1.1 ≤ l.length := fun l => by
  have key : ∀ (l : List Int) (c : Int × Int), 0 ≤ c.1 → 0 ≤ (Ops.fs t a b c l).1.1 ∧ (Ops.fs t a b c l).1.1 ≤ c.1 + l.length := by
    intro l
    induction l with
    | nil => intro c hc; rw [Ops.fs_nil]; simp; exact hc
    | cons v l ih =>
      intro c hc
      rw [Ops.fs_cons]
      have h1 : 0 ≤ (Ops.stp t a b c v).1.1 ∧ (Ops.stp t a b c v).1.1 ≤ c.1 + 1 := by
        unfold Ops.stp
        repeat' split
        all_goals (simp only; omega)
      have := ih _ h1.1
      simp only [List.length_cons]
      omega
  have := key l (0, 0) (Int.le_refl _)
  simpa using this
theorem run_keys {o : Opr} {rs : List Rcd} (h : (runT o [] rs).2.2 = 0) (hne : rs ≠ []) (s k : Int) : Ops.runF o.t o.w o.ins o.a o.b 0 0 (kv rs s k) = (getR (runT o [] rs).1 s k, kv (runT o [] rs).2.1 s k, 0) := by
  unfold runT at h ⊢
  rw [show tabR [] = true from rfl] at h ⊢
  simp only [Bool.true_eq_false, if_false] at h ⊢
  by_cases h4 : 40 < rs.length
  · rw [if_pos h4] at h; cases h
  rw [if_neg h4] at h ⊢
  obtain ⟨h1, h2⟩ := rT_keys (keysOk_nil o) h
  rw [List.nil_append] at h1
  have hok := h2 hne
  have hq := h1 s k
  have hl : (kv rs s k).length ≤ 40 := Nat.le_trans kv_len (by omega)
  unfold Ops.runF Ops.runG
  rw [if_neg (by omega), if_neg (by rw [hok]; simp), if_neg (not_not_intro (by unfold Ops.fitP; simp)), Ops.full_f (fun j hj => by
    have := fs_cnt (t := o.t) (a := o.a) (b := o.b) ((kv rs s k).take j)
    rw [List.length_take] at this
    omega), if_neg (by simp), ← hq]
theorem runT_err2 {o : Opr} {l : List Kc} {rs : List Rcd} (h : (runT o l rs).2.2 ≠ 0) : (runT o l rs).2.1 = [] := by
  have key : ∀ (rs : List Rcd) (l : List Kc) (acc : List Rcd), (rT o l acc rs).2.2 ≠ 0 → (rT o l acc rs).2.1 = [] := by
    intro rs
    induction rs with
    | nil => intro l acc h; exact absurd rfl h
    | cons r rs ih =>
      intro l acc h
      unfold rT at h ⊢
      split
      · rename_i h0; rw [if_pos h0] at h; exact ih _ _ h
      · rfl
  unfold runT at *
  split
  · rfl
  · rename_i h1
    rw [if_neg h1] at h
    split
    · rfl
    · rename_i h2; rw [if_neg h2] at h; exact key _ _ _ h
end Go.Proofs.Ytehhmkdghgabaaa
namespace Go.Proofs.Ytehhmkdghgabaaa
open Go Go.RowKit Wx
set_option linter.unusedVariables false
set_option linter.unusedSimpArgs false
set_option maxHeartbeats 4000000
end Go.Proofs.Ytehhmkdghgabaaa
namespace Go.Proofs.Ytehhmkdghgabaaa
open Go Go.RowKit Wx
set_option linter.unusedVariables false
set_option linter.unusedSimpArgs false
set_option maxHeartbeats 4000000
end Go.Proofs.Ytehhmkdghgabaaa
namespace Go.Proofs.Ytehhmkdghgabaaa
open Go Go.RowKit Wx
set_option linter.unusedVariables false
set_option linter.unusedSimpArgs false
set_option maxHeartbeats 4000000
end Go.Proofs.Ytehhmkdghgabaaa
namespace Go.Proofs.Ytehhmkdghgabaaa
open Go Go.RowKit Wx
set_option linter.unusedVariables false
set_option linter.unusedSimpArgs false
set_option maxHeartbeats 4000000
end Go.Proofs.Ytehhmkdghgabaaa
namespace Go.Proofs.Ytehhmkdghgabaaa
open Go Go.RowKit Wx
set_option linter.unusedVariables false
set_option linter.unusedSimpArgs false
set_option maxHeartbeats 4000000
end Go.Proofs.Ytehhmkdghgabaaa
namespace Go.Proofs.Ytehhmkdghgabaaa
open Go Go.RowKit Wx
set_option linter.unusedVariables false
set_option linter.unusedSimpArgs false
set_option maxHeartbeats 4000000
end Go.Proofs.Ytehhmkdghgabaaa
namespace Go.Proofs.Ytehhmkdghgabaaa
open Go Go.RowKit Wx
set_option linter.unusedVariables false
set_option linter.unusedSimpArgs false
set_option maxHeartbeats 4000000
end Go.Proofs.Ytehhmkdghgabaaa
namespace Go.Proofs.Ytehhmkdghgabaaa
open Go Go.RowKit Wx
set_option linter.unusedVariables false
set_option linter.unusedSimpArgs false
set_option maxHeartbeats 4000000
end Go.Proofs.Ytehhmkdghgabaaa
namespace Go.Proofs.Ytehhmkdghgabaaa
open Go Go.RowKit Wx
set_option linter.unusedVariables false
set_option linter.unusedSimpArgs false
set_option maxHeartbeats 4000000
end Go.Proofs.Ytehhmkdghgabaaa
namespace Go.Proofs.Ytehhmkdghgabaaa
open Go Go.RowKit Wx
set_option linter.unusedVariables false
set_option linter.unusedSimpArgs false
set_option maxHeartbeats 4000000
end Go.Proofs.Ytehhmkdghgabaaa
namespace Go.Proofs.Ytehhmkdghgabaaa
open Go Go.RowKit Wx
set_option linter.unusedVariables false
set_option linter.unusedSimpArgs false
set_option maxHeartbeats 4000000
theorem clonef_con_nil   : Con Try.prog 67 [.one (.v (.slice none 0 0))] (fun rx rK rt => rx = .c (.ro true 4 (([] : List Kc).map eK)) ∧ rK = [] ∧ rt = 0) := by
  refine Z.con_ofF tabOk 8 Try.f67 _ Try.func67 (by kernel_rfl) rfl rfl rfl rfl ?_
  repeat' ((conv => whnf); first
    | with_reducible first | refine spB_t ?_)
  all_goals (try (conv => whnf))
  all_goals first
    | ((first | (with_reducible apply Z.retF1)); (focus (exact rfl)); (repeat' (first | exact trivial | (with_reducible apply Z.frz_one) | (exact Z.frz_nil) | apply And.intro)); (all_goals (try exact (fun _ => none))); all_goals (rfl))
theorem clonef_con_emp (ad : Addr) (cap : Nat)  : Con Try.prog 67 [.one (.v (.slice (some ad) 0 cap))] (fun rx rK rt => rx = .c (.ro true 4 (([] : List Kc).map eK)) ∧ rK = [] ∧ rt = 0) := by
  refine Z.con_ofF tabOk 8 Try.f67 _ Try.func67 (by kernel_rfl) rfl rfl rfl rfl ?_
  repeat' ((conv => whnf); first
    | with_reducible first | refine spB_no (by decide) ?_
    | ((with_reducible refine apdE_r ?_); (with_reducible refine aprN.mk ⟨_, rfl, ?_⟩ ?_ ?_ ?_ ?_); (focus ((try simp only [LN] at *) <;> omega)); (focus (first | rfl)); (focus (first | exact one_all (by rfl))); (focus ((try simp only [LN] at *) <;> omega))))
  all_goals (try (conv => whnf))
  all_goals first
    | ((first | (with_reducible apply Z.retF1)); (focus (exact rfl)); (repeat' (first | exact trivial | (with_reducible apply Z.frz_one) | (exact Z.frz_osl0 rfl rfl rfl) | apply And.intro)); (all_goals (try exact (fun _ => none))); all_goals (rfl))
theorem clonef_con_ne (x : Kc) (l : List Kc) (hl : l.length ≤ 1000) : Con Try.prog 67 [.one (.ro false 4 ((x :: l).map eK))] (fun rx rK rt => rx = .c (.ro true 4 ((x :: l).map eK)) ∧ rK = [] ∧ rt = 0) := by
  refine Z.con_ofF tabOk 8 Try.f67 _ Try.func67 (by kernel_rfl) rfl rfl rfl rfl ?_
  repeat' ((conv => whnf); first
    | with_reducible first | refine spB_no (by decide) ?_
    | ((with_reducible refine apdE_k ?_); (with_reducible refine apkN.mk ⟨_, rfl, ?_⟩ ?_); (focus ((try simp only [LN] at *) <;> omega)))
    | ((with_reducible refine apdN.mk ?_ ?_ ?_ ?_ ?_ ?_); (focus (first | (simp; done))); (focus (first | exact one_map2 (fun _ => rfl))); (focus ((try simp only [LN] at *) <;> omega)); (focus ((try simp only [LN] at *) <;> omega)); (focus ((try simp only [LN] at *) <;> omega))))
  all_goals (try (conv => whnf))
  all_goals first
    | ((first | (with_reducible apply Z.retF1)); (focus (exact rfl)); (repeat' (first | exact trivial | (with_reducible apply Z.frz_one) | ((with_reducible apply Z.fq_src); (focus (exact rfl)); (focus (first | (simp only [List.length_map, Nat.zero_add]; done))); (focus (exact fun _ => rfl))) | exact rfl | apply And.intro)); (all_goals (try exact (fun _ => none))); all_goals (rfl))
theorem clonef_con (l : List Kc) (hl : l.length ≤ 1000) : Con Try.prog 67 [.one (.ro false 4 (l.map eK))] (fun rx rK rt => rx = .c (.ro true 4 (l.map eK)) ∧ rK = [] ∧ rt = 0) := by
  cases l with
  | nil => exact Z.con_nilcases (fun _ => clonef_con_nil) (fun _ ad cap => clonef_con_emp ad cap) (fun r rs h => by cases h)
  | cons x l => exact clonef_con_ne x l (by simp only [List.length_cons] at hl; omega)
theorem trun_con (o : Opr) (l : List Kc) (rs : List Rcd) (hi : o.ins.length ≤ 9223372036854775807) (hl : l.length ≤ 1000) (hcnt : okC l) (hrs : rs.length ≤ 9223372036854775807) : Con Try.prog 31 [.agg [.v (.int .i64 o.t), .v (.int .i64 o.w), .ro false 1 (o.ins.map Ops.eI), .v (.int .i64 o.a), .v (.int .i64 o.b)], .agg [.ro false 4 (l.map eK)], .one (.ro false 3 (rs.map eR))] (fun rx rK rt => rx = .tup [.agg [.ro true 4 ((runT o l rs).1.map eK)], .one (.ro true 3 ((runT o l rs).2.1.map eR)), .one (.v (.int .i64 (runT o l rs).2.2))] ∧ rK = [] ∧ rt = 0) := by
  refine Z.con_ofF tabOk 54 Try.f31 _ Try.func31 (by kernel_rfl) rfl rfl rfl rfl ?_
  have cc := check_con l (by omega)
  unfold runT
  cases hok : tabR l
  all_goals rw [hok] at cc
  all_goals simp only [cond_true, cond_false] at cc
  · simp only [if_true]
    repeat' ((conv => whnf); first
      | with_reducible first | refine spB_t ?_
      | ((with_reducible apply spB_cong); (focus (simp only [beq_self_eq_true, bne_self_eq_false, Bool.true_bne, Bool.false_bne, Bool.bne_true, Bool.bne_false, Bool.true_beq, Bool.false_beq, Bool.not_true, Bool.not_false, Bool.not_not, Int.reduceBEq, Int.reduceBNe, Int.reduceLE, Int.reduceLT, Int.reduceEq, decide_true, decide_false]; rfl)))
      | ((first | (with_reducible refine Z.callZ_mk ?_ (cc) ?_)); (focus ((repeat' (first | exact trivial | exact rfl | apply And.intro)); done))))
    all_goals (try (conv => whnf))
    all_goals try (show Nat.ble _ _ = true; rfl)
    all_goals try (exfalso; rename_i hz; cases hz; done)
    all_goals try (exfalso; (try simp only [LN] at *) <;> omega)
    all_goals first
      | ((first | (with_reducible apply Z.retF2)); (focus (exact rfl)); (repeat' (first | exact trivial | (with_reducible apply Z.frz_one) | (with_reducible apply Z.frz_agg) | (exact Z.frz_nil) | exact rfl | apply And.intro)); (all_goals (try exact (fun _ => none))); all_goals (first | (simp; done)))
  simp only [Bool.true_eq_false, if_false]
  have hl2 := tab_len hok
  by_cases h40 : 40 < rs.length
  · rw [if_pos h40]
    repeat' ((conv => whnf); first
      | ((with_reducible apply spB_cong); (focus (simp only [beq_self_eq_true, bne_self_eq_false, Bool.true_bne, Bool.false_bne, Bool.bne_true, Bool.bne_false, Bool.true_beq, Bool.false_beq, Bool.not_true, Bool.not_false, Bool.not_not, Int.reduceBEq, Int.reduceBNe, Int.reduceLE, Int.reduceLT, Int.reduceEq, decide_true, decide_false]; rfl)))
      | with_reducible first | refine spB_no (by decide) ?_
      | (with_reducible refine spB_dec ?_ ?_ <;> intro _ <;> (try (exfalso; first | contradiction | omega | (rename_i hz; refine hz ?_; simp; done) | (rename_i hz; simp at hz; done) | (simp only [LN] at *; omega))))
      | ((first | (with_reducible refine Z.callZ_mk ?_ (cc) ?_)); (focus ((repeat' (first | exact trivial | exact rfl | apply And.intro)); done))))
    all_goals (try (conv => whnf))
    all_goals try (show Nat.ble _ _ = true; rfl)
    all_goals try (exfalso; rename_i hz; cases hz; done)
    all_goals try (exfalso; (try simp only [LN] at *) <;> omega)
    all_goals first
      | ((first | (with_reducible apply Z.retF2)); (focus (exact rfl)); (repeat' (first | exact trivial | (with_reducible apply Z.frz_one) | (with_reducible apply Z.frz_agg) | (with_reducible apply Z.fq_int) | (exact Z.frz_nil) | exact rfl | apply And.intro)); (all_goals (try exact (fun _ => none))); all_goals (first | (simp; done)))
  rw [if_neg h40]
  repeat' ((conv => whnf); first
    | ((with_reducible apply spB_cong); (focus (simp only [beq_self_eq_true, bne_self_eq_false, Bool.true_bne, Bool.false_bne, Bool.bne_true, Bool.bne_false, Bool.true_beq, Bool.false_beq, Bool.not_true, Bool.not_false, Bool.not_not, Int.reduceBEq, Int.reduceBNe, Int.reduceLE, Int.reduceLT, Int.reduceEq, decide_true, decide_false]; rfl)))
    | with_reducible first | refine spB_no (by decide) ?_
    | (with_reducible refine spB_dec ?_ ?_ <;> intro _ <;> (try (exfalso; first | contradiction | omega | (rename_i hz; refine hz ?_; simp; done) | (rename_i hz; simp at hz; done) | (simp only [LN] at *; omega))))
    | ((first | (with_reducible refine Z.callZ_mk ?_ (cc) ?_)); (focus ((repeat' (first | exact trivial | exact rfl | apply And.intro)); done)))
    | ((first | (with_reducible apply Z.callZ_mk ?_ (clonef_con _ ?_) ?_)); (rotate_left 1); (focus ((repeat' (first | exact trivial | exact rfl | apply And.intro)); done)); (iterate 1 (focus (first | assumption)))))
  all_goals (try (conv => whnf))
  all_goals try (show Nat.ble _ _ = true; rfl)
  all_goals try (exfalso; rename_i hz; cases hz; done)
  all_goals try (exfalso; (try simp only [LN] at *) <;> omega)
  refine Z.loopK tabOk (fun zq : Nat × List Kc × List Rcd => [(32, .val (.int .i64 (zq.1 : Int))), (11, .c (.gsl 4 (zq.2.2.map cR)))]) (fun zq : Nat × List Kc × List Rcd => ([(3, some (Z.Ob.b ⟨[[.ro true 4 (zq.2.1.map eK)]], 1, 30, true⟩)), (4, (gB 3 39 (zq.2.2.map cR)).map Z.Ob.b)] : Z.Kr)) (fun zq => zq.1 ≤ rs.length ∧ zq.2.2.length ≤ zq.1 ∧ (tabR zq.2.1 = true ∧ okC zq.2.1) ∧ rT o l [] rs = rT o zq.2.1 zq.2.2 (rs.drop zq.1)) (fun zq => rs.length - zq.1) (0, l, []) 5 [(3, _), (6, _), (10, _), (30, _), (31, _)] ⟨rfl, rfl, rfl, rfl, rfl, trivial⟩ [(0, some _), (1, some _), (2, some _)] ⟨rfl, rfl, rfl, trivial⟩ ?_ ?_ rfl rfl ⟨Nat.zero_le _, Nat.zero_le _, ⟨hok, hcnt⟩, rfl⟩ ?_
  · repeat' (first | exact trivial | apply And.intro | exact ⟨_, rfl, Z.Imp.refl _⟩ | exact ⟨_, rfl, Z.Imp.nilg _⟩)
  · repeat' (first | exact trivial | (intro b hb; cases hb; done) | exact (fun b hb => ⟨b, hb, Z.ImpO.refl b⟩) | apply And.intro)
  rintro ⟨i, nx, acc⟩ HINV
  (try dsimp only at HINV); (try dsimp only)
  obtain ⟨HI, HA, ⟨HT, HC⟩, HR⟩ := HINV
  have hnl := tab_len HT
  by_cases hi2 : i < rs.length
  · obtain ⟨x, hx⟩ := getElem?_some' (xs := rs) (i := i) hi2
    have cd := do_con o nx x hi (by omega) HT HC
    have hat := rT_at (o := o) (l := nx) (acc := acc) hx
    have hdl := dT_len (o := o) (l := nx) (r := x)
    have hde := dT_err (o := o) (l := nx) (r := x)
    have hdo := dT_ok (o := o) (r := x) HT HC
    generalize dT o nx x = D at *
    obtain ⟨n2, O, e⟩ := D
    dsimp only [dOut] at cd hat hdl hde hdo
    by_cases he : e = 0
    rotate_left
    · rw [if_neg he] at hat
      have h9 := hde he
      simp only [Prod.mk.injEq, and_true] at h9
      obtain ⟨rfl, rfl⟩ := h9
      rw [HR, hat]
      repeat' ((conv => whnf); first
        | (with_reducible refine spB_dec ?_ ?_ <;> intro _ <;> (try (exfalso; first | contradiction | omega | (rename_i hz; refine hz ?_; simp; done) | (rename_i hz; simp at hz; done) | (simp only [LN] at *; omega))))
        | (with_reducible refine spB_bne ?_ ?_ <;> intro _ <;> (try (exfalso; first | contradiction | omega | (rename_i hz; refine hz ?_; simp; done) | (rename_i hz; simp at hz; done) | (simp only [LN] at *; omega))))
        | with_reducible first | refine Z.rowN_known hx ?_
        | ((with_reducible apply ixN_litp); (focus (exact rfl)); (focus ((try simp only [LN] at *) <;> omega)))
        | ((first | (with_reducible refine Z.callZ_mk ?_ (cd) ?_)); (focus ((repeat' (first | exact trivial | exact rfl | apply And.intro)); done))))
      all_goals (try (conv => whnf))
      all_goals try (show Nat.ble _ _ = true; rfl)
      all_goals try (exfalso; rename_i hz; cases hz; done)
      all_goals try (exfalso; (try simp only [LN] at *) <;> omega)
      all_goals first
        | ((first | (with_reducible apply Z.retF2)); (focus (exact rfl)); (repeat' (first | exact trivial | (with_reducible apply Z.frz_one) | (with_reducible apply Z.frz_agg) | (exact Z.frz_nil) | exact rfl | apply And.intro)); (all_goals (try exact (fun _ => none))); all_goals (first | (simp; done)))
    subst he
    rw [if_pos rfl] at hat
    rcases O with _ | ⟨y, _ | ⟨z, O⟩⟩
    rotate_right 1
    · exact absurd hdl (by simp)
    all_goals (
      repeat' ((conv => whnf); first
        | ((with_reducible apply spB_cong); (focus (simp only [beq_self_eq_true, bne_self_eq_false, Bool.true_bne, Bool.false_bne, Bool.bne_true, Bool.bne_false, Bool.true_beq, Bool.false_beq, Bool.not_true, Bool.not_false, Bool.not_not, Int.reduceBEq, Int.reduceBNe, Int.reduceLE, Int.reduceLT, Int.reduceEq, decide_true, decide_false]; rfl)))
        | with_reducible first | refine spB_no (by decide) ?_
        | (with_reducible refine spB_dec ?_ ?_ <;> intro _ <;> (try (exfalso; first | contradiction | omega | (rename_i hz; refine hz ?_; simp; done) | (rename_i hz; simp at hz; done) | (simp only [LN] at *; omega))))
        | with_reducible first | refine Z.rowN_known hx ?_
        | ((with_reducible refine posE_pos ?_ ?_); (focus ((try simp only [LN] at *) <;> omega)))
        | ((with_reducible refine posE_nil ?_ ?_); (focus rfl))
        | ((with_reducible apply ixN_litp); (focus (exact rfl)); (focus ((try simp only [LN] at *) <;> omega)))
        | ((with_reducible refine apdN.mk ?_ ?_ ?_ ?_ ?_ ?_); (focus (first | rfl)); (focus (first | exact one_all (by rfl))); (focus ((try simp only [LN] at *) <;> omega)); (focus ((try simp only [LN] at *) <;> omega)); (focus ((try simp only [LN] at *) <;> omega)))
        | with_reducible refine wr_i64 (by first | omega | (simp only [LN] at *; omega)) ?_
        | ((first | (with_reducible refine Z.callZ_mk ?_ (cd) ?_)); (focus ((repeat' (first | exact trivial | exact rfl | apply And.intro)); done)))
        | ((with_reducible refine eqN_mk2 ?_ ?_); (focus (exact Z.kb_some rfl))))
      all_goals (try (conv => whnf)))
    all_goals try (show Nat.ble _ _ = true; rfl)
    all_goals try (exfalso; rename_i hz; cases hz; done)
    all_goals try (exfalso; (try simp only [LN] at *) <;> omega)
    all_goals first
      | ((refine Z.rndK ((i + 1, n2, acc)) (fun s => [0, 1, 2, 3, s.idAt 11]) rfl rfl rfl rfl ?_ ?_ ?_ ?_); (focus (repeat' (first | exact trivial | exact rfl | apply And.intro))); (focus (repeat' (first | exact trivial | (intro b hb; cases hb; rfl) | exact Z.gB_sub rfl rfl (ren_map fun _ => rfl) | apply And.intro))); (focus (refine ⟨by (try dsimp only); omega, by (try dsimp only); (try simp only [List.length_append, List.length_singleton]); omega, hdo rfl, by (try dsimp only); rw [HR, hat]; simp⟩)); ((try dsimp only); omega))
      | ((refine Z.rndK ((i + 1, n2, acc ++ [y])) (fun s => [0, 1, 2, 3, s.idAt 11]) rfl rfl rfl rfl ?_ ?_ ?_ ?_); (focus (repeat' (first | exact trivial | exact rfl | (rw [List.map_append (f := cR)]; exact rfl) | apply And.intro))); (focus (repeat' (first | exact trivial | (intro b hb; cases hb; rfl) | exact Z.gB_sub' rfl (by first | rfl | (rw [List.map_append]; rfl) | simp only [List.map_append, List.map_cons, List.map_nil]) (ren_map fun _ => rfl) | apply And.intro))); (focus (refine ⟨by (try dsimp only); omega, by (try dsimp only); (try simp only [List.length_append, List.length_singleton]); omega, hdo rfl, by (try dsimp only); rw [HR, hat]⟩)); ((try dsimp only); omega))
  have hil : i = rs.length := by omega
  subst hil
  rw [HR, List.drop_length]
  simp only [rT]
  repeat' ((conv => whnf); first
    | (with_reducible refine spB_dec ?_ ?_ <;> intro _ <;> (try (exfalso; first | contradiction | omega | (rename_i hz; refine hz ?_; simp; done) | (rename_i hz; simp at hz; done) | (simp only [LN] at *; omega)))))
  all_goals (try (conv => whnf))
  all_goals try (show Nat.ble _ _ = true; rfl)
  all_goals try (exfalso; rename_i hz; cases hz; done)
  all_goals try (exfalso; (try simp only [LN] at *) <;> omega)
  all_goals first
    | ((first | (with_reducible apply Z.retF2)); (focus (exact rfl)); (repeat' (first | exact trivial | (with_reducible apply Z.frz_one) | (with_reducible apply Z.frz_agg) | (with_reducible apply Z.fq_int) | (with_reducible apply Z.fq_ro) | ((with_reducible apply Z.fq_gsl); (focus (first | exact Z.isB_map _)); (focus (exact fun _ => rfl))) | exact rfl | apply And.intro)); (all_goals (try exact (fun _ => none))); all_goals (first | (simp; done)))
end Go.Proofs.Ytehhmkdghgabaaa
namespace Go.Proofs.Ytehhmkdghgabaaa
open Go Go.RowKit Wx
set_option linter.unusedVariables false
set_option linter.unusedSimpArgs false
set_option maxHeartbeats 4000000
end Go.Proofs.Ytehhmkdghgabaaa
namespace Go.Proofs.Ytehhmkdghgabaaa
open Go Go.RowKit Wx
set_option linter.unusedVariables false
set_option linter.unusedSimpArgs false
set_option maxHeartbeats 4000000
end Go.Proofs.Ytehhmkdghgabaaa
namespace Go.Proofs.Ytehhmkdghgabaaa
open Go Go.RowKit Wx
set_option linter.unusedVariables false
set_option linter.unusedSimpArgs false
set_option maxHeartbeats 4000000
end Go.Proofs.Ytehhmkdghgabaaa
namespace Go.Proofs.Ytehhmkdghgabaaa
open Go Go.RowKit Wx
set_option linter.unusedVariables false
set_option linter.unusedSimpArgs false
set_option maxHeartbeats 4000000
end Go.Proofs.Ytehhmkdghgabaaa
namespace Go.Proofs.Ytehhmkdghgabaaa
open Go Go.RowKit Wx
set_option linter.unusedVariables false
set_option linter.unusedSimpArgs false
set_option maxHeartbeats 4000000
end Go.Proofs.Ytehhmkdghgabaaa
namespace Go.Proofs.Ytehhmkdghgabaaa
open Go Go.RowKit Wx
set_option linter.unusedVariables false
set_option linter.unusedSimpArgs false
set_option maxHeartbeats 4000000
end Go.Proofs.Ytehhmkdghgabaaa
namespace Go.Proofs.Ytehhmkdghgabaaa
open Go Go.RowKit Wx
set_option linter.unusedVariables false
set_option linter.unusedSimpArgs false
set_option maxHeartbeats 4000000
end Go.Proofs.Ytehhmkdghgabaaa
namespace Go.Proofs.Ytehhmkdghgabaaa
open Go Go.RowKit Wx
set_option linter.unusedVariables false
set_option linter.unusedSimpArgs false
set_option maxHeartbeats 4000000
end Go.Proofs.Ytehhmkdghgabaaa
namespace Go.Proofs.Ytehhmkdghgabaaa
open Go Go.RowKit Wx
set_option linter.unusedVariables false
set_option linter.unusedSimpArgs false
set_option maxHeartbeats 4000000
end Go.Proofs.Ytehhmkdghgabaaa
namespace Go.Proofs.Ytehhmkdghgabaaa
open Go Go.RowKit Wx
set_option linter.unusedVariables false
set_option linter.unusedSimpArgs false
set_option maxHeartbeats 4000000
end Go.Proofs.Ytehhmkdghgabaaa
namespace Go.Proofs.Ytehhmkdghgabaaa
open Go Go.RowKit Wx
set_option linter.unusedVariables false
set_option linter.unusedSimpArgs false
set_option maxHeartbeats 4000000
end Go.Proofs.Ytehhmkdghgabaaa
namespace Go.Proofs.Ytehhmkdghgabaaa
open Go Go.RowKit Wx
set_option linter.unusedVariables false
set_option linter.unusedSimpArgs false
set_option maxHeartbeats 4000000
end Go.Proofs.Ytehhmkdghgabaaa
namespace Go.Proofs.Ytehhmkdghgabaaa
open Go Go.RowKit Wx
set_option linter.unusedVariables false
set_option linter.unusedSimpArgs false
set_option maxHeartbeats 4000000
end Go.Proofs.Ytehhmkdghgabaaa
namespace Go.Proofs.Ytehhmkdghgabaaa
open Go Go.RowKit Wx
set_option linter.unusedVariables false
set_option linter.unusedSimpArgs false
set_option maxHeartbeats 4000000
end Go.Proofs.Ytehhmkdghgabaaa
namespace Go.Proofs.Ytehhmkdghgabaaa
open Go Go.RowKit Wx
set_option linter.unusedVariables false
set_option linter.unusedSimpArgs false
set_option maxHeartbeats 4000000
end Go.Proofs.Ytehhmkdghgabaaa
namespace Go.Proofs.Ytehhmkdghgabaaa
open Go Go.RowKit Wx
set_option linter.unusedVariables false
set_option linter.unusedSimpArgs false
set_option maxHeartbeats 4000000
end Go.Proofs.Ytehhmkdghgabaaa
namespace Go.Proofs.Ytehhmkdghgabaaa
open Go Go.RowKit Wx
set_option linter.unusedVariables false
set_option linter.unusedSimpArgs false
set_option maxHeartbeats 4000000
end Go.Proofs.Ytehhmkdghgabaaa
namespace Go.Proofs.Ytehhmkdghgabaaa
open Go Go.RowKit Wx
set_option linter.unusedVariables false
set_option linter.unusedSimpArgs false
set_option maxHeartbeats 4000000
end Go.Proofs.Ytehhmkdghgabaaa
namespace Go.Proofs.Ytehhmkdghgabaaa
open Go Go.RowKit Wx
set_option linter.unusedVariables false
set_option linter.unusedSimpArgs false
set_option maxHeartbeats 4000000
end Go.Proofs.Ytehhmkdghgabaaa
namespace Go.Proofs.Ytehhmkdghgabaaa
open Go Go.RowKit Wx
set_option linter.unusedVariables false
set_option linter.unusedSimpArgs false
set_option maxHeartbeats 4000000
end Go.Proofs.Ytehhmkdghgabaaa
namespace Go.Proofs.Ytehhmkdghgabaaa
open Go Go.RowKit Wx
set_option linter.unusedVariables false
set_option linter.unusedSimpArgs false
set_option maxHeartbeats 4000000
end Go.Proofs.Ytehhmkdghgabaaa
namespace Go.Proofs.Ytehhmkdghgabaaa
open Go Go.RowKit Wx
set_option linter.unusedVariables false
set_option linter.unusedSimpArgs false
set_option maxHeartbeats 4000000
end Go.Proofs.Ytehhmkdghgabaaa
namespace Go.Proofs.Ytehhmkdghgabaaa
open Go Go.RowKit Wx
set_option linter.unusedVariables false
set_option linter.unusedSimpArgs false
set_option maxHeartbeats 4000000
end Go.Proofs.Ytehhmkdghgabaaa
namespace Go.Proofs.Ytehhmkdghgabaaa
open Go Go.RowKit Wx
set_option linter.unusedVariables false
set_option linter.unusedSimpArgs false
set_option maxHeartbeats 4000000
end Go.Proofs.Ytehhmkdghgabaaa
namespace Go.Proofs.Ytehhmkdghgabaaa
open Go Go.RowKit Wx
set_option linter.unusedVariables false
set_option linter.unusedSimpArgs false
set_option maxHeartbeats 4000000
end Go.Proofs.Ytehhmkdghgabaaa
namespace Go.Proofs.Ytehhmkdghgabaaa
open Go Go.RowKit Wx
set_option linter.unusedVariables false
set_option linter.unusedSimpArgs false
set_option maxHeartbeats 4000000
end Go.Proofs.Ytehhmkdghgabaaa
namespace Go.Proofs.Ytehhmkdghgabaaa
open Go Go.RowKit Wx
set_option linter.unusedVariables false
set_option linter.unusedSimpArgs false
set_option maxHeartbeats 4000000
end Go.Proofs.Ytehhmkdghgabaaa
namespace Go.Proofs.Ytehhmkdghgabaaa
open Go Go.RowKit Wx
set_option linter.unusedVariables false
set_option linter.unusedSimpArgs false
set_option maxHeartbeats 4000000
theorem runT_err {o : Opr} {l : List Kc} {rs : List Rcd} (h : (runT o l rs).2.2 ≠ 0) : (runT o l rs).1 = [] := by
  have key : ∀ (rs : List Rcd) (l : List Kc) (acc : List Rcd), (rT o l acc rs).2.2 ≠ 0 → (rT o l acc rs).1 = [] := by
    intro rs
    induction rs with
    | nil => intro l acc h; exact absurd rfl h
    | cons r rs ih =>
      intro l acc h
      unfold rT at h ⊢
      split
      · rename_i h0; rw [if_pos h0] at h; exact ih _ _ h
      · rfl
  unfold runT at *
  split
  · rfl
  · rename_i h1
    rw [if_neg h1] at h
    split
    · rfl
    · rename_i h2; rw [if_neg h2] at h; exact key _ _ _ h
theorem runT_len {o : Opr} {l : List Kc} {rs : List Rcd} (hc : okC l) : (runT o l rs).1.length ≤ 256 := by
  have key : ∀ (rs : List Rcd) (l : List Kc) (acc : List Rcd), tabR l = true → okC l → (rT o l acc rs).1.length ≤ 256 := by
    intro rs
    induction rs with
    | nil => intro l acc h _; exact tab_len h
    | cons r rs ih =>
      intro l acc h hc
      unfold rT
      split
      · rename_i h0; exact ih _ _ (dT_ok h hc h0).1 (dT_ok h hc h0).2
      · simp
  unfold runT
  split
  · simp
  · rename_i h1
    split
    · simp
    · exact key _ _ _ (by simpa using h1) hc
theorem runT_out {o : Opr} {l : List Kc} {rs : List Rcd} : (runT o l rs).2.1.length ≤ 40 := by
  have key : ∀ (rs : List Rcd) (l : List Kc) (acc : List Rcd), (rT o l acc rs).2.1.length ≤ acc.length + rs.length := by
    intro rs
    induction rs with
    | nil => intro l acc; exact Nat.le_refl _
    | cons r rs ih =>
      intro l acc
      unfold rT
      split
      · refine Nat.le_trans (ih _ _) ?_
        have := dT_len (o := o) (l := l) (r := r)
        simp only [List.length_append, List.length_cons]; omega
      · simp
  unfold runT
  split
  · simp
  · split
    · simp
    · rename_i h2; have := key rs l []; simp at this; omega
theorem cut_r (l : List Rcd) (fl : Bool) : List.map (List.map (RT.ce fl)) (List.take ((l.take 41).length - 0) (List.drop 0 (l.map eR))) = (l.take 41).map cR := by
  have e : List.take ((l.take 41).length) l = l.take 41 := List.take_eq_take_iff.2 (by rw [List.length_take]; omega)
  rw [Nat.sub_zero, List.drop_zero, ← List.map_take, List.map_map, e]
  rfl
theorem one_cutR {l : List Rcd} {n m : Nat} {fl : Bool} : ∀ r ∈ List.map (List.map (RT.ce fl)) (List.take n (List.drop m (l.map eR))), ∀ c ∈ r, c.single = true := fun r hr c hc => by
  obtain ⟨t, ht, rfl⟩ := List.mem_map.1 hr
  obtain ⟨z, _, rfl⟩ := List.mem_map.1 (List.mem_of_mem_drop (List.mem_of_mem_take ht))
  simp only [List.map_cons, List.map_nil, List.mem_cons, List.not_mem_nil, or_false] at hc
  rcases hc with rfl | rfl | rfl <;> rfl
end Go.Proofs.Ytehhmkdghgabaaa
namespace Go.Proofs.Ytehhmkdghgabaaa
open Go Go.RowKit Wx
set_option linter.unusedVariables false
set_option linter.unusedSimpArgs false
set_option maxHeartbeats 4000000
theorem fewr_con (l : List Rcd) (hl : l.length ≤ 9223372036854775807) : Con Try.prog 27 [.one (.ro false 3 (l.map eR))] (fun rx rK rt => rx = .c (.ro true 3 ((l.take 41).map eR)) ∧ rK = [] ∧ rt = 0) := by
  refine Z.con_ofF tabOk 10 Try.f27 _ Try.func27 (by kernel_rfl) rfl rfl rfl rfl ?_
  have htl : (l.take 41).length ≤ 41 := by rw [List.length_take]; exact Nat.min_le_left _ _
  have HC := cut_r l
  repeat' ((conv => whnf); first
    | ((with_reducible refine slN_hi ((l.take 41).length) ?_ ?_ ?_); (focus (rw [List.length_take, List.length_map]; omega)); (focus (rw [List.length_take, List.length_map]; omega)))
    | ((with_reducible refine apdE_n ?_); (with_reducible refine apdN.mk ?_ ?_ ?_ ?_ ?_ ?_); (focus (first | (simp; done))); (focus (first | exact one_cutR)); (focus (first | exact Nat.zero_le _)); (iterate 2 (focus ((try simp only [LN] at *) <;> omega))))
    | fail)
  all_goals (try (conv => whnf))
  all_goals try (show Nat.ble _ _ = true; rfl)
  all_goals try (exfalso; rename_i hz; cases hz; done)
  all_goals try (exfalso; (try simp only [LN] at *) <;> omega)
  all_goals first
    | ((first | (with_reducible apply Z.retF1)); (focus (exact rfl)); (repeat' (first | exact trivial | (refine Z.frz_oslw (l := l.take 41) (f := cR) (ty := 39) (bx := false) rfl ?_ ?_ (fun _ => rfl); (focus (first | (simp; done))); (focus (first | exact (congrArg (List.take _) (HC _)).trans (List.take_of_length_le (by simp))))) | (with_reducible apply Z.frz_one) | apply And.intro)); (all_goals (try exact (fun _ => none))); all_goals (first | (simp; done)))
    | fail
end Go.Proofs.Ytehhmkdghgabaaa
namespace Go.Proofs.Ytehhmkdghgabaaa
open Go Go.RowKit Wx
set_option linter.unusedVariables false
set_option linter.unusedSimpArgs false
set_option maxHeartbeats 4000000
def opF (o : Opr) : Opr := ⟨o.t, o.w, o.ins.take 10, o.a, o.b⟩
theorem cut_i (l : List Int) (fl : Bool) : List.map (List.map (RT.ce fl)) (List.take ((l.take 10).length - 0) (List.drop 0 (l.map Ops.eI))) = (l.take 10).map Ops.cI := by
  have e : List.take ((l.take 10).length) l = l.take 10 := List.take_eq_take_iff.2 (by rw [List.length_take]; omega)
  rw [Nat.sub_zero, List.drop_zero, ← List.map_take, List.map_map, e]
  rfl
theorem one_cutI {l : List Int} {n m : Nat} {fl : Bool} : ∀ r ∈ List.map (List.map (RT.ce fl)) (List.take n (List.drop m (l.map Ops.eI))), ∀ c ∈ r, c.single = true := fun r hr c hc => by
  obtain ⟨t, ht, rfl⟩ := List.mem_map.1 hr
  obtain ⟨z, _, rfl⟩ := List.mem_map.1 (List.mem_of_mem_drop (List.mem_of_mem_take ht))
  simp only [List.map_cons, List.map_nil, List.mem_cons, List.not_mem_nil, or_false] at hc
  rcases hc with rfl <;> rfl
end Go.Proofs.Ytehhmkdghgabaaa
namespace Go.Proofs.Ytehhmkdghgabaaa
open Go Go.RowKit Wx
set_option linter.unusedVariables false
set_option linter.unusedSimpArgs false
set_option maxHeartbeats 4000000
theorem opc_con (o : Opr) (hi : o.ins.length ≤ 9223372036854775807) : Con Try.prog 17 [.agg [.v (.int .i64 o.t), .v (.int .i64 o.w), .ro false 1 (o.ins.map Ops.eI), .v (.int .i64 o.a), .v (.int .i64 o.b)]] (fun rx rK rt => rx = .pl (.agg [.v (.int .i64 o.t), .v (.int .i64 o.w), .ro true 1 ((o.ins.take 10).map Ops.eI), .v (.int .i64 o.a), .v (.int .i64 o.b)]) ∧ rK = [] ∧ rt = 0) := by
  refine Z.con_ofF tabOk 14 Try.f17 _ Try.func17 (by kernel_rfl) rfl rfl rfl rfl ?_
  have htl : (o.ins.take 10).length ≤ 10 := by rw [List.length_take]; exact Nat.min_le_left _ _
  have HC := cut_i o.ins
  repeat' ((conv => whnf); first
    | ((with_reducible refine slN_hi ((o.ins.take 10).length) ?_ ?_ ?_); (focus (rw [List.length_take, List.length_map]; omega)); (focus (rw [List.length_take, List.length_map]; omega)))
    | ((with_reducible refine apdE_n ?_); (with_reducible refine apdN.mk ?_ ?_ ?_ ?_ ?_ ?_); (focus (first | (simp; done))); (focus (first | exact one_cutI)); (focus (first | exact Nat.zero_le _)); (iterate 2 (focus ((try simp only [LN] at *) <;> omega))))
    | fail)
  all_goals (try (conv => whnf))
  all_goals try (show Nat.ble _ _ = true; rfl)
  all_goals try (exfalso; rename_i hz; cases hz; done)
  all_goals try (exfalso; (try simp only [LN] at *) <;> omega)
  all_goals first
    | ((first | (with_reducible apply Z.retF1)); (focus (exact rfl)); (repeat' (first | exact trivial | (refine Z.frz_oslw (l := o.ins.take 10) (f := Ops.cI) (ty := 3) (bx := false) rfl ?_ ?_ (fun _ => rfl); (focus (first | (simp; done))); (focus (first | exact (congrArg (List.take _) (HC _)).trans (List.take_of_length_le (by simp))))) | (with_reducible apply Z.frz_agg) | (with_reducible apply Z.fq_int) | exact rfl | apply And.intro)); (all_goals (try exact (fun _ => none))); all_goals (first | (simp; done)))
    | fail
end Go.Proofs.Ytehhmkdghgabaaa
namespace Go.Proofs.Ytehhmkdghgabaaa
open Go Go.RowKit Wx
set_option linter.unusedVariables false
set_option linter.unusedSimpArgs false
set_option maxHeartbeats 4000000
def decR : List Ce → Option Rcd
  | [.v (.int .i64 a), .v (.int .i64 b), .v (.int .i64 c)] => some ⟨a, b, c⟩
  | _ => none
theorem decR_ok (r : List Ce) (x : Rcd) (h : decR r = some x) : r.map RT.of = (eR x).map some := by
  unfold decR at h
  split at h
  · simp only [Option.some.injEq] at h; subst h; rfl
  · cases h
def orc : Y.CallFn := fun c avs K top => match c, avs with
  | .fn g [], [.pl (.agg [.v (.int .i64 t), .v (.int .i64 w), ci, .v (.int .i64 a), .v (.int .i64 b)]), .pl (.agg [.v (.slice none 0 0)]), .pl (.one cr)] => match Nat.beq g 31, Y.rowsD 1 1000 Y.decI64 K.get ci, Y.rowsD 3 1000 decR K.get cr with
    | true, some ins, some rs => some ⟨dOut (runT ⟨t, w, ins, a, b⟩ [] rs), K, top, []⟩
    | _, _, _ => none
  | _, _ => none
theorem orc_sound : Y.CallsOk Try.prog orc := by
  intro c avs K top r h
  unfold orc at h
  split at h
  · rename_i g t w ci a b cr
    split at h
    · have hg : Nat.beq g 31 = true := by assumption
      rename_i ins rs _ h1 h2
      simp only [Option.some.injEq] at h
      subst h
      obtain ⟨g1, g2⟩ := Y.rowsD_low (en := Ops.eI) Y.decI64_ok h1
      obtain ⟨g3, g4⟩ := Y.rowsD_low (en := eR) decR_ok h2
      have := Nat.eq_of_beq_eq_true hg
      subst this
      exact ⟨Y.con_callE (args := [.agg [.v (.int .i64 t), .v (.int .i64 w), .ro false 1 (ins.map Ops.eI), .v (.int .i64 a), .v (.int .i64 b)], .agg [.ro false 4 (([] : List Kc).map eK)], .one (.ro false 3 (rs.map eR))]) ⟨⟨rfl, rfl, g1, rfl, rfl, trivial⟩, ⟨.inr ⟨4, rfl⟩, trivial⟩, g3, trivial⟩ (trun_con ⟨t, w, ins, a, b⟩ [] rs (by dsimp only; omega) (by simp) (fun _ h => nomatch h) (by omega)) rfl, fun _ _ => rfl⟩
    · cases h
  · cases h
theorem wakes_con : Con Try.prog 12 [] (fun x K t => x = .val (.bool true) ∧ K = [] ∧ t = 0) := Y.con_runO ftabOk tabOk mixOk orc_sound 40 12 (by kernel_rfl) (by kernel_rfl)
end Go.Proofs.Ytehhmkdghgabaaa
namespace Go.Proofs.Ytehhmkdghgabaaa
open Go Go.RowKit Wx
set_option linter.unusedVariables false
set_option linter.unusedSimpArgs false
set_option maxHeartbeats 4000000
theorem run_keys2 {o : Opr} {rs : List Rcd} (h : (runT o [] rs).2.2 = 0) (s k : Int) : (Ops.runF o.t o.w o.ins o.a o.b 0 0 (kv rs s k) = (getR (runT o [] rs).1 s k, kv (runT o [] rs).2.1 s k, 0)) ∨ (rs = [] ∧ ∃ e, e ≠ 0 ∧ Ops.runF o.t o.w o.ins o.a o.b 0 0 (kv rs s k) = ((0, 0), [], e)) := by
  by_cases hr : rs = []
  · subst hr
    cases hok : Ops.okO o.t o.w o.ins o.a o.b with
    | false => exact .inr ⟨rfl, 180, by decide, by unfold Ops.runF; rw [if_neg (by simp [kv]), if_pos hok]⟩
    | true =>
      left
      unfold Ops.runF Ops.runG
      rw [if_neg (by simp [kv]), if_neg (by rw [hok]; simp), if_neg (not_not_intro (by unfold Ops.fitP; simp))]
      rfl
  · exact .inl (run_keys h hr s k)
theorem tablekeys_con (o : Opr) (l : List Rcd) (r : Rcd) (hi : o.ins.length ≤ 9223372036854775807) (hl : l.length ≤ 9223372036854775807) : Con Try.prog 11 [.agg [.v (.int .i64 o.t), .v (.int .i64 o.w), .ro false 1 (o.ins.map Ops.eI), .v (.int .i64 o.a), .v (.int .i64 o.b)], .one (.ro false 3 (l.map eR)), .agg [.v (.int .i64 r.src), .v (.int .i64 r.key), .v (.int .i64 r.val)]] (fun rx rK rt => rx = .val (.bool true) ∧ rK = [] ∧ rt = 0) := by
  refine Z.con_ofF tabOk 114 Try.f11 _ Try.func11 (by kernel_rfl) rfl rfl rfl rfl ?_
  have co := opc_con o hi
  have hoi : (opF o).ins.length ≤ 9223372036854775807 := Nat.le_trans (show (o.ins.take 10).length ≤ 10 by rw [List.length_take]; exact Nat.min_le_left _ _) (by decide)
  have cfw := fewr_con l hl
  have hr9 : (l.take 41).length ≤ 41 := by rw [List.length_take]; exact Nat.min_le_left _ _
  generalize l.take 41 = rs at *
  have crun := trun_con (opF o) [] rs hoi (by simp) (fun _ h => nomatch h) (by omega)
  have hke := runT_err (o := opF o) (l := []) (rs := rs)
  have hke2 := runT_err2 (o := opF o) (l := []) (rs := rs)
  have hrk := run_keys2 (o := opF o) (rs := rs)
  have h7 := runT_len (o := opF o) (l := []) (rs := rs) (fun _ h => nomatch h)
  have h8 := runT_out (o := opF o) (l := []) (rs := rs)
  have cor := Ops.Run_con (opF o).t (opF o).w (opF o).a (opF o).b 0 0 (opF o).ins (kv rs r.src r.key) hoi (by decide) (Nat.le_trans kv_len (by omega))
  have hkl := kv_len (l := rs) (s := r.src) (k := r.key)
  generalize runT (opF o) [] rs = Dd at *
  obtain ⟨L, O, e⟩ := Dd
  dsimp only at hke hke2 hrk h7 h8
  by_cases he : e = 0
  rotate_left
  · have q1 := hke he
    have q2 := hke2 he
    subst q1 q2
    unfold opF at crun
    dsimp only at crun
    repeat' ((conv => whnf); first
      | with_reducible first | refine spB_t ?_
      | ((with_reducible apply spB_cong); (focus (simp only [beq_self_eq_true, bne_self_eq_false, Bool.true_bne, Bool.false_bne, Bool.bne_true, Bool.bne_false, Bool.true_beq, Bool.false_beq, Bool.not_true, Bool.not_false, Bool.not_not, Int.reduceBEq, Int.reduceBNe, Int.reduceLE, Int.reduceLT, Int.reduceEq, decide_true, decide_false]; rfl)))
      | with_reducible first | refine spB_yes (by decide) ?_ | refine spB_no (by decide) ?_
      | (with_reducible refine spB_bne ?_ ?_ <;> intro _ <;> (try (exfalso; first | contradiction | omega | (rename_i hz; refine hz ?_; simp; done) | (rename_i hz; simp at hz; done) | (simp only [LN] at *; omega))))
      | ((first | (with_reducible refine Z.callZ_mk ?_ (wakes_con) ?_) | (with_reducible refine Z.callZ_mk ?_ (co) ?_) | (with_reducible refine Z.callZ_mk ?_ (cfw) ?_) | (with_reducible refine Z.callZ_mk ?_ (crun) ?_)); (focus ((repeat' (first | exact trivial | exact rfl | exact Z.low_nil | apply And.intro)); done)))
      | fail)
    all_goals (try (conv => whnf))
    all_goals try (show Nat.ble _ _ = true; rfl)
    all_goals try (exfalso; rename_i hz; cases hz; done)
    all_goals try (exfalso; (try simp only [LN] at *) <;> omega)
    all_goals first
      | ((first | (with_reducible apply Z.retF1)); (focus (exact rfl)); (repeat' (first | exact trivial | (with_reducible apply Z.frz_one) | (with_reducible apply Z.fq_bool) | exact rfl | apply And.intro)); (all_goals (try exact (fun _ => none))); all_goals (first | (simp; done)))
      | fail
  subst he
  have hrk := hrk rfl r.src r.key
  have hko := kv_len (l := O) (s := r.src) (k := r.key)
  have cg := tget_con L r.src r.key r.val (by omega)
  clear hke hke2
  generalize getR L r.src r.key = Gt at *
  obtain ⟨c1, c2⟩ := Gt
  dsimp only at cg
  unfold opF at crun cor hrk
  dsimp only at crun cor hrk
  generalize Ops.runF o.t o.w (o.ins.take 10) o.a o.b 0 0 (kv rs r.src r.key) = Rr at *
  repeat' ((conv => whnf); first
    | ((with_reducible apply spB_cong); (focus (simp only [beq_self_eq_true, bne_self_eq_false, Bool.true_bne, Bool.false_bne, Bool.bne_true, Bool.bne_false, Bool.true_beq, Bool.false_beq, Bool.not_true, Bool.not_false, Bool.not_not, Int.reduceBEq, Int.reduceBNe, Int.reduceLE, Int.reduceLT, Int.reduceEq, decide_true, decide_false]; rfl)))
    | with_reducible first | refine spB_no (by decide) ?_
    | ((first | (with_reducible refine Z.callZ_mk ?_ (wakes_con) ?_) | (with_reducible refine Z.callZ_mk ?_ (co) ?_) | (with_reducible refine Z.callZ_mk ?_ (cfw) ?_) | (with_reducible refine Z.callZ_mk ?_ (crun) ?_)); (focus ((repeat' (first | exact trivial | exact rfl | exact Z.low_nil | apply And.intro)); done)))
    | fail)
  all_goals (try (conv => whnf))
  all_goals try (show Nat.ble _ _ = true; rfl)
  all_goals try (exfalso; rename_i hz; cases hz; done)
  all_goals try (exfalso; (try simp only [LN] at *) <;> omega)
  refine Z.loopK tabOk (fun zq : Nat => [(46, .val (.int .i64 (zq : Int))), (10, .c (.gsl 3 ((kv (rs.take zq) r.src r.key).map Ops.cI)))]) (fun zq : Nat => ([(0, some (Z.Ob.b ⟨[[.v (.int .i64 o.t), .v (.int .i64 o.w), .ro true 1 ((o.ins.take 10).map Ops.eI), .v (.int .i64 o.a), .v (.int .i64 o.b)]], 5, 25, true⟩)), (1, some (Z.Ob.b ⟨[[.v (.int .i64 r.src), .v (.int .i64 r.key), .v (.int .i64 r.val)]], 3, 39, true⟩)), (2, some (Z.Ob.b ⟨[[.ro true 4 (L.map eK)]], 1, 30, true⟩)), (3, (gB 1 2 ((kv (rs.take zq) r.src r.key).map Ops.cI)).map Z.Ob.b)] : Z.Kr)) (fun zq => zq ≤ rs.length) (fun zq => rs.length - zq) 0 4 [(1, _), (3, _), (5, _), (7, _), (8, _), (11, _), (44, _), (45, _)] ⟨rfl, rfl, rfl, rfl, rfl, rfl, rfl, rfl, trivial⟩ [] trivial ?_ ?_ rfl rfl (Nat.zero_le _) ?_
  · repeat' (first | exact trivial | apply And.intro | exact ⟨_, rfl, Z.Imp.refl _⟩ | exact ⟨_, rfl, Z.Imp.nilg _⟩)
  · repeat' (first | exact trivial | (intro b hb; cases hb; done) | exact (fun b hb => ⟨b, hb, Z.ImpO.refl b⟩) | apply And.intro)
  rintro i HINV
  (try dsimp only at HINV); (try dsimp only)
  by_cases hi2 : i < rs.length
  · obtain ⟨x, hx⟩ := getElem?_some' (xs := rs) (i := i) hi2
    have hkv := kv_at (s := r.src) (k := r.key) hx
    have hkk := kv_len (l := rs.take i) (s := r.src) (k := r.key)
    rw [List.length_take] at hkk
    have csk := samekey_con x.src x.key x.val r.src r.key r.val
    by_cases h1 : x.src = r.src ∧ x.key = r.key
    · rw [if_pos h1] at hkv
      rw [show (x.src == r.src && x.key == r.key) = true by simp [h1.1, h1.2]] at csk
      have hkm : (kv (rs.take i) r.src r.key).map Ops.cI ++ [Ops.cI x.val] = (kv (rs.take (i + 1)) r.src r.key).map Ops.cI := by rw [hkv, List.map_append]; rfl
      repeat' ((conv => whnf); first
        | with_reducible first | refine spB_t ?_
        | (with_reducible refine spB_dec ?_ ?_ <;> intro _ <;> (try (exfalso; first | contradiction | omega | (rename_i hz; refine hz ?_; simp; done) | (rename_i hz; simp at hz; done) | (simp only [LN] at *; omega))))
        | with_reducible first | refine Z.rowN_known hx ?_
        | ((with_reducible refine posE_pos ?_ ?_); (focus ((try simp only [LN] at *) <;> omega)))
        | ((with_reducible apply ixN_litp); (focus (exact rfl)); (focus ((try simp only [LN] at *) <;> omega)))
        | ((with_reducible refine apdN.mk ?_ ?_ ?_ ?_ ?_ ?_); (focus (first | rfl)); (focus (first | exact one_all (by rfl))); (focus ((try simp only [LN] at *) <;> omega)); (focus ((try simp only [LN] at *) <;> omega)); (focus ((try simp only [LN] at *) <;> omega)))
        | with_reducible refine wr_i64 (by first | omega | (simp only [LN] at *; omega)) ?_
        | ((first | (with_reducible refine Z.callZ_mk ?_ (csk) ?_)); (focus ((repeat' (first | exact trivial | exact rfl | apply And.intro)); done)))
        | ((with_reducible refine eqN_mk2 ?_ ?_); (focus (exact Z.kb_some rfl)))
        | fail)
      all_goals (try (conv => whnf))
      all_goals try (show Nat.ble _ _ = true; rfl)
      all_goals try (exfalso; rename_i hz; cases hz; done)
      all_goals try (exfalso; (try simp only [LN] at *) <;> omega)
      all_goals first
        | ((refine Z.rndK ((i + 1)) (fun s => [0, 1, 2, s.idAt 10]) rfl rfl rfl rfl ?_ ?_ ?_ ?_); (focus (repeat' (first | exact trivial | exact congrArg (fun q => some (AV.c (Ce.gsl _ q))) hkm | exact rfl | apply And.intro))); (focus (repeat' (first | exact trivial | exact Z.gB_sub' rfl hkm (ren_map fun _ => rfl) | (intro b hb; cases hb; rfl) | apply And.intro))); (focus (((try dsimp only); omega))); ((try dsimp only); omega))
        | fail
    · rw [if_neg h1, List.append_nil] at hkv
      have hkm : (kv (rs.take i) r.src r.key).map Ops.cI = (kv (rs.take (i + 1)) r.src r.key).map Ops.cI := by rw [hkv]
      rw [show (x.src == r.src && x.key == r.key) = false by (cases hz : (x.src == r.src && x.key == r.key) with | false => rfl | true => exact absurd (by simpa using hz) h1)] at csk
      repeat' ((conv => whnf); first
        | with_reducible first | refine spB_no (by decide) ?_
        | (with_reducible refine spB_dec ?_ ?_ <;> intro _ <;> (try (exfalso; first | contradiction | omega | (rename_i hz; refine hz ?_; simp; done) | (rename_i hz; simp at hz; done) | (simp only [LN] at *; omega))))
        | with_reducible first | refine Z.rowN_known hx ?_
        | ((with_reducible apply ixN_litp); (focus (exact rfl)); (focus ((try simp only [LN] at *) <;> omega)))
        | with_reducible refine wr_i64 (by first | omega | (simp only [LN] at *; omega)) ?_
        | ((first | (with_reducible refine Z.callZ_mk ?_ (csk) ?_)); (focus ((repeat' (first | exact trivial | exact rfl | apply And.intro)); done)))
        | fail)
      all_goals (try (conv => whnf))
      all_goals try (show Nat.ble _ _ = true; rfl)
      all_goals try (exfalso; rename_i hz; cases hz; done)
      all_goals try (exfalso; (try simp only [LN] at *) <;> omega)
      all_goals first
        | ((refine Z.rndK ((i + 1)) (fun s => [0, 1, 2, s.idAt 10]) rfl rfl rfl rfl ?_ ?_ ?_ ?_); (focus (repeat' (first | exact trivial | (simp only [hkv]; rfl) | apply And.intro))); (focus (repeat' (first | exact trivial | (simp only [hkv]; exact Z.gB_sub rfl rfl (ren_map fun _ => rfl)) | (intro b hb; cases hb; rfl) | apply And.intro))); (focus (((try dsimp only); omega))); ((try dsimp only); omega))
        | fail
  have hil : i = rs.length := by omega
  subst hil
  rw [List.take_length]
  repeat' ((conv => whnf); first
    | (with_reducible refine spB_dec ?_ ?_ <;> intro _ <;> (try (exfalso; first | contradiction | omega | (rename_i hz; refine hz ?_; simp; done) | (rename_i hz; simp at hz; done) | (simp only [LN] at *; omega))))
    | fail)
  all_goals (try (conv => whnf))
  all_goals try (show Nat.ble _ _ = true; rfl)
  all_goals try (exfalso; rename_i hz; cases hz; done)
  all_goals try (exfalso; (try simp only [LN] at *) <;> omega)
  refine Z.loopK tabOk (fun zq : Nat => [(61, .val (.int .i64 (zq : Int))), (11, .c (.gsl 4 ((kv (O.take zq) r.src r.key).map Ops.cI)))]) (fun zq : Nat => ([(0, some (Z.Ob.b ⟨[[.v (.int .i64 o.t), .v (.int .i64 o.w), .ro true 1 ((o.ins.take 10).map Ops.eI), .v (.int .i64 o.a), .v (.int .i64 o.b)]], 5, 25, true⟩)), (1, some (Z.Ob.b ⟨[[.v (.int .i64 r.src), .v (.int .i64 r.key), .v (.int .i64 r.val)]], 3, 39, true⟩)), (2, some (Z.Ob.b ⟨[[.ro true 4 (L.map eK)]], 1, 30, true⟩)), (3, (gB 1 2 ((kv rs r.src r.key).map Ops.cI)).map Z.Ob.b), (4, (gB 1 2 ((kv (O.take zq) r.src r.key).map Ops.cI)).map Z.Ob.b)] : Z.Kr)) (fun zq => zq ≤ O.length) (fun zq => O.length - zq) 0 5 [(1, _), (3, _), (5, _), (7, _), (10, _), (59, _), (60, _)] ⟨rfl, rfl, rfl, rfl, rfl, rfl, rfl, trivial⟩ [] trivial ?_ ?_ rfl rfl (Nat.zero_le _) ?_
  · repeat' (first | exact trivial | apply And.intro | exact ⟨_, rfl, Z.Imp.refl _⟩ | exact ⟨_, rfl, Z.Imp.nilg _⟩)
  · repeat' (first | exact trivial | (intro b hb; cases hb; done) | exact (fun b hb => ⟨b, hb, Z.ImpO.refl b⟩) | apply And.intro)
  rintro i HINV
  (try dsimp only at HINV); (try dsimp only)
  by_cases hi2 : i < O.length
  · obtain ⟨x, hx⟩ := getElem?_some' (xs := O) (i := i) hi2
    have hkv := kv_at (s := r.src) (k := r.key) hx
    have hkk := kv_len (l := O.take i) (s := r.src) (k := r.key)
    rw [List.length_take] at hkk
    have csk := samekey_con x.src x.key x.val r.src r.key r.val
    by_cases h1 : x.src = r.src ∧ x.key = r.key
    · rw [if_pos h1] at hkv
      rw [show (x.src == r.src && x.key == r.key) = true by simp [h1.1, h1.2]] at csk
      have hkm : (kv (O.take i) r.src r.key).map Ops.cI ++ [Ops.cI x.val] = (kv (O.take (i + 1)) r.src r.key).map Ops.cI := by rw [hkv, List.map_append]; rfl
      repeat' ((conv => whnf); first
        | with_reducible first | refine spB_t ?_
        | (with_reducible refine spB_dec ?_ ?_ <;> intro _ <;> (try (exfalso; first | contradiction | omega | (rename_i hz; refine hz ?_; simp; done) | (rename_i hz; simp at hz; done) | (simp only [LN] at *; omega))))
        | with_reducible first | refine Z.rowN_known hx ?_
        | ((with_reducible refine posE_pos ?_ ?_); (focus ((try simp only [LN] at *) <;> omega)))
        | ((with_reducible apply ixN_litp); (focus (exact rfl)); (focus ((try simp only [LN] at *) <;> omega)))
        | ((with_reducible refine apdN.mk ?_ ?_ ?_ ?_ ?_ ?_); (focus (first | rfl)); (focus (first | exact one_all (by rfl))); (focus ((try simp only [LN] at *) <;> omega)); (focus ((try simp only [LN] at *) <;> omega)); (focus ((try simp only [LN] at *) <;> omega)))
        | with_reducible refine wr_i64 (by first | omega | (simp only [LN] at *; omega)) ?_
        | ((first | (with_reducible refine Z.callZ_mk ?_ (csk) ?_)); (focus ((repeat' (first | exact trivial | exact rfl | apply And.intro)); done)))
        | ((with_reducible refine eqN_mk2 ?_ ?_); (focus (exact Z.kb_some rfl)))
        | fail)
      all_goals (try (conv => whnf))
      all_goals try (show Nat.ble _ _ = true; rfl)
      all_goals try (exfalso; rename_i hz; cases hz; done)
      all_goals try (exfalso; (try simp only [LN] at *) <;> omega)
      all_goals first
        | ((refine Z.rndK ((i + 1)) (fun s => [0, 1, 2, 3, s.idAt 11]) rfl rfl rfl rfl ?_ ?_ ?_ ?_); (focus (repeat' (first | exact trivial | exact congrArg (fun q => some (AV.c (Ce.gsl _ q))) hkm | exact rfl | apply And.intro))); (focus (repeat' (first | exact trivial | exact Z.gB_sub' rfl hkm (ren_map fun _ => rfl) | (intro b hb; cases hb; rfl) | exact Z.gB_sub rfl rfl (ren_map fun _ => rfl) | apply And.intro))); (focus (((try dsimp only); omega))); ((try dsimp only); omega))
        | fail
    · rw [if_neg h1, List.append_nil] at hkv
      have hkm : (kv (O.take i) r.src r.key).map Ops.cI = (kv (O.take (i + 1)) r.src r.key).map Ops.cI := by rw [hkv]
      rw [show (x.src == r.src && x.key == r.key) = false by (cases hz : (x.src == r.src && x.key == r.key) with | false => rfl | true => exact absurd (by simpa using hz) h1)] at csk
      repeat' ((conv => whnf); first
        | with_reducible first | refine spB_no (by decide) ?_
        | (with_reducible refine spB_dec ?_ ?_ <;> intro _ <;> (try (exfalso; first | contradiction | omega | (rename_i hz; refine hz ?_; simp; done) | (rename_i hz; simp at hz; done) | (simp only [LN] at *; omega))))
        | with_reducible first | refine Z.rowN_known hx ?_
        | ((with_reducible apply ixN_litp); (focus (exact rfl)); (focus ((try simp only [LN] at *) <;> omega)))
        | with_reducible refine wr_i64 (by first | omega | (simp only [LN] at *; omega)) ?_
        | ((first | (with_reducible refine Z.callZ_mk ?_ (csk) ?_)); (focus ((repeat' (first | exact trivial | exact rfl | apply And.intro)); done)))
        | fail)
      all_goals (try (conv => whnf))
      all_goals try (show Nat.ble _ _ = true; rfl)
      all_goals try (exfalso; rename_i hz; cases hz; done)
      all_goals try (exfalso; (try simp only [LN] at *) <;> omega)
      all_goals first
        | ((refine Z.rndK ((i + 1)) (fun s => [0, 1, 2, 3, s.idAt 11]) rfl rfl rfl rfl ?_ ?_ ?_ ?_); (focus (repeat' (first | exact trivial | (simp only [hkv]; rfl) | apply And.intro))); (focus (repeat' (first | exact trivial | (simp only [hkv]; exact Z.gB_sub rfl rfl (ren_map fun _ => rfl)) | (intro b hb; cases hb; rfl) | apply And.intro))); (focus (((try dsimp only); omega))); ((try dsimp only); omega))
        | fail
  have hil : i = O.length := by omega
  subst hil
  rw [List.take_length]
  rcases hrk with hrk | ⟨hrs, e2, he2, hrk⟩
  rotate_left
  · have hrl : rs.length = 0 := by rw [hrs]; rfl
    generalize kv rs r.src r.key = V at *
    subst hrk
    dsimp only at cor
    have hez : (e2 == 0) = false := by simpa using he2
    repeat' ((conv => whnf); first
      | (with_reducible refine spB_dec ?_ ?_ <;> intro _ <;> (try (exfalso; first | contradiction | omega | (rename_i hz; refine hz ?_; simp; done) | (rename_i hz; simp at hz; done) | (simp only [LN] at *; omega) | (simp_all; done))))
      | (with_reducible refine spB_bne ?_ ?_ <;> intro _ <;> (try (exfalso; first | contradiction | omega | (rename_i hz; refine hz ?_; simp; done) | (rename_i hz; simp at hz; done) | (simp only [LN] at *; omega) | (simp_all; done))))
      | ((first | (with_reducible refine Z.callZ_mk ?_ (cor) ?_)); (focus ((repeat' (first | exact trivial | exact rfl | exact Z.low_gslm (by first | rfl | exact Z.kb_some rfl) (fun _ => rfl) | apply And.intro)); done)))
      | fail)
    all_goals (try (conv => whnf))
    all_goals try (show Nat.ble _ _ = true; rfl)
    all_goals try (exfalso; rename_i hz; cases hz; done)
    all_goals try (exfalso; (try simp only [LN] at *) <;> omega)
    all_goals first
      | ((first | (with_reducible apply Z.retF1)); (focus (exact rfl)); (repeat' (first | exact trivial | (with_reducible apply Z.frz_one) | (with_reducible apply Z.fq_bool) | apply And.intro)); (all_goals (try exact (fun _ => none))); all_goals (first | (simp [hrs]; done)))
      | fail
  generalize kv rs r.src r.key = V at *
  subst hrk
  dsimp only at cor
  generalize kv O r.src r.key = W at *
  repeat' ((conv => whnf); first
    | ((with_reducible apply spB_cong); (focus (simp only [beq_self_eq_true, bne_self_eq_false, Bool.true_bne, Bool.false_bne, Bool.bne_true, Bool.bne_false, Bool.true_beq, Bool.false_beq, Bool.not_true, Bool.not_false, Bool.not_not, Int.reduceBEq, Int.reduceBNe, Int.reduceLE, Int.reduceLT, Int.reduceEq, decide_true, decide_false]; rfl)))
    | with_reducible first | refine spB_no (by decide) ?_
    | (with_reducible refine spB_dec ?_ ?_ <;> intro _ <;> (try (exfalso; first | contradiction | omega | (rename_i hz; refine hz ?_; simp; done) | (rename_i hz; simp at hz; done) | (simp only [LN] at *; omega))))
    | (with_reducible refine spB_bne ?_ ?_ <;> intro _ <;> (try (exfalso; first | contradiction | omega | (rename_i hz; refine hz ?_; simp; done) | (rename_i hz; simp at hz; done) | (simp only [LN] at *; omega))))
    | ((first | (with_reducible refine Z.conZ_mz ?_ (cg) ?_) | (with_reducible refine Z.callZ_mk ?_ (cor) ?_)); (focus ((repeat' (first | exact trivial | exact rfl | exact Z.low_gslm (by first | rfl | exact Z.kb_some rfl) (fun _ => rfl) | apply And.intro)); done)))
    | with_reducible first | refine Z.drawZ_rule tabOk mixOk ?_ | refine Z.apZ_mk (by kernel_rfl) ?_
    | fail)
  all_goals (try (conv => whnf))
  all_goals try (show Nat.ble _ _ = true; rfl)
  all_goals try (exfalso; rename_i hz; cases hz; done)
  all_goals try (exfalso; (try simp only [LN] at *) <;> omega)
  refine Z.loopK tabOk (fun zq : Nat => [(101, .val (.int .i64 (zq : Int)))]) (fun zq : Nat => ([(4, (gB 1 2 (W.map Ops.cI)).map Z.Ob.b)] : Z.Kr)) (fun zq => zq ≤ W.length) (fun zq => W.length - zq) 0 6 [(11, _), (17, _), (100, _)] ⟨rfl, rfl, rfl, trivial⟩ [] trivial ?_ ?_ rfl rfl (Nat.zero_le _) ?_
  · repeat' (first | exact trivial | apply And.intro | exact ⟨_, rfl, Z.Imp.refl _⟩)
  · repeat' (first | exact trivial | exact (fun b hb => ⟨b, hb, Z.ImpO.refl b⟩) | apply And.intro)
  rintro j HINV
  (try dsimp only at HINV); (try dsimp only)
  by_cases hj : j < W.length
  · obtain ⟨w, hw⟩ := getElem?_some' (xs := W) (i := j) hj
    have hgW : gB 1 2 (W.map Ops.cI) = some ⟨W.map Ops.cI, 1, 2, false⟩ := gB_ne (fun h9 => by rw [List.map_eq_nil_iff.1 h9] at hj; simp at hj)
    rw [hgW]
    repeat' ((conv => whnf); first
      | ((with_reducible apply spB_cong); (focus (simp only [beq_self_eq_true, bne_self_eq_false, Bool.true_bne, Bool.false_bne, Bool.bne_true, Bool.bne_false, Bool.true_beq, Bool.false_beq, Bool.not_true, Bool.not_false, Bool.not_not, Int.reduceBEq, Int.reduceBNe, Int.reduceLE, Int.reduceLT, Int.reduceEq, decide_true, decide_false]; rfl)))
      | with_reducible first | refine spB_no (by decide) ?_
      | (with_reducible refine spB_dec ?_ ?_ <;> intro _ <;> (try (exfalso; first | contradiction | omega | (rename_i hz; refine hz ?_; simp; done) | (rename_i hz; simp at hz; done) | (simp only [LN] at *; omega))))
      | ((with_reducible refine rowN_mk (Ops.cI w) ?_ ?_); (focus (show (List.map Ops.cI W)[0 + j]? = some (Ops.cI w); rw [Nat.zero_add, List.getElem?_map, hw]; rfl)))
      | with_reducible first | refine Z.rowN_known hw ?_
      | ((with_reducible refine ixN_mk (j) ?_ ?_ ?_); (focus (first | rfl)); (focus ((try simp only [LN] at *) <;> omega)))
      | with_reducible refine wr_i64 (by first | omega | (simp only [LN] at *; omega)) ?_
      | with_reducible first | refine Z.drawZ_rule tabOk mixOk ?_ | refine Z.apZ_mk (by kernel_rfl) ?_
      | fail)
    all_goals (try (conv => whnf))
    all_goals try (show Nat.ble _ _ = true; rfl)
    all_goals try (exfalso; rename_i hz; cases hz; done)
    all_goals try (exfalso; (try simp only [LN] at *) <;> omega)
    all_goals first
      | ((refine Z.rndK ((j + 1)) (fun s => [0, 1, 2, 3, 4, 5]) rfl rfl rfl rfl ?_ ?_ ?_ ?_); (focus (repeat' (first | exact trivial | exact rfl | apply And.intro))); (focus (repeat' (first | exact trivial | exact Z.blk_sub rfl rfl (ren_map fun _ => rfl) | apply And.intro))); (focus (((try dsimp only); omega))); ((try dsimp only); omega))
      | fail
  have hjl : j = W.length := by omega
  subst hjl
  repeat' ((conv => whnf); first
    | (with_reducible refine spB_dec ?_ ?_ <;> intro _ <;> (try (exfalso; first | contradiction | omega | (rename_i hz; refine hz ?_; simp; done) | (rename_i hz; simp at hz; done) | (simp only [LN] at *; omega))))
    | fail)
  all_goals (try (conv => whnf))
  all_goals try (show Nat.ble _ _ = true; rfl)
  all_goals try (exfalso; rename_i hz; cases hz; done)
  all_goals try (exfalso; (try simp only [LN] at *) <;> omega)
  all_goals first
    | ((first | (with_reducible apply Z.retF1)); (focus (exact rfl)); (repeat' (first | exact trivial | (with_reducible apply Z.frz_one) | (with_reducible apply Z.fq_bool) | exact rfl | apply And.intro)); (all_goals (try exact (fun _ => none))); all_goals (first | (simp; done)))
    | fail
end Go.Proofs.Ytehhmkdghgabaaa
namespace Go.Proofs.Ytehhmkdghgabaaa
open Go Go.RowKit Wx
set_option linter.unusedVariables false
set_option linter.unusedSimpArgs false
set_option maxHeartbeats 4000000
abbrev eOp (o : Opr) : List RT := [RT.v (.int .i64 o.t), RT.v (.int .i64 o.w), RT.ro 1 (o.ins.map Ops.eI), RT.v (.int .i64 o.a), RT.v (.int .i64 o.b)]
theorem rowNi64 (row : List RT) (h : RowF (.int .i64) row) : ∃ z, row = Ops.eI z ∧ (Lit.int .i64 z).wf = true := by
  obtain ⟨z, rfl, w⟩ := h
  exact ⟨z, rfl, w⟩
def okOpr (x : Opr) : Prop := (Lit.int .i64 x.t).wf = true ∧ (Lit.int .i64 x.w).wf = true ∧ (x.ins.length ≤ maxLen ∧ ∀ z ∈ x.ins, (Lit.int .i64 z).wf = true) ∧ (Lit.int .i64 x.a).wf = true ∧ (Lit.int .i64 x.b).wf = true ∧ True
theorem rowOpr (row : List RT) (h : RowF (.st (.cons 3 1 (.int .i64) (.cons 3 1 (.int .i64) (.cons 23 1 (.sl (.int .i64) 3 1) (.cons 2 1 (.int .i64) (.cons 2 1 (.int .i64) .nil)))))) row) : ∃ x, row = eOp x ∧ okOpr x := by
  obtain ⟨a0, r0, rfl, _, ⟨z0, rfl, w0⟩, a1, r1, rfl, _, ⟨z1, rfl, w1⟩, a2, r2, rfl, _, ⟨rows2, rfl, l2, h2⟩, a3, r3, rfl, _, ⟨z3, rfl, w3⟩, a4, r4, rfl, _, ⟨z4, rfl, w4⟩, rfl⟩ := h
  obtain ⟨z2, rfl, k2⟩ := rows_map Ops.eI (fun z => (Lit.int .i64 z).wf = true) rowNi64 rows2 h2
  exact ⟨⟨z0, z1, z2, z3, z4⟩, rfl, w0, w1, ⟨by simpa using l2, k2⟩, w3, w4, trivial⟩
def okRcd (x : Rcd) : Prop := (Lit.int .i64 x.src).wf = true ∧ (Lit.int .i64 x.key).wf = true ∧ (Lit.int .i64 x.val).wf = true ∧ True
theorem rowRcd (row : List RT) (h : RowF (.st (.cons 3 1 (.int .i64) (.cons 3 1 (.int .i64) (.cons 2 1 (.int .i64) .nil)))) row) : ∃ x, row = eR x ∧ okRcd x := by
  obtain ⟨a0, r0, rfl, _, ⟨z0, rfl, w0⟩, a1, r1, rfl, _, ⟨z1, rfl, w1⟩, a2, r2, rfl, _, ⟨z2, rfl, w2⟩, rfl⟩ := h
  exact ⟨⟨z0, z1, z2⟩, rfl, w0, w1, w2, trivial⟩
namespace tableKeys
theorem main (avs : List A0) (h : All2 FitA [(.st (.cons 3 1 (.int .i64) (.cons 3 1 (.int .i64) (.cons 23 1 (.sl (.int .i64) 3 1) (.cons 2 1 (.int .i64) (.cons 2 1 (.int .i64) .nil)))))), (.sl (.st (.cons 3 1 (.int .i64) (.cons 3 1 (.int .i64) (.cons 2 1 (.int .i64) .nil)))) 39 3), (.st (.cons 3 1 (.int .i64) (.cons 3 1 (.int .i64) (.cons 2 1 (.int .i64) .nil))))] avs) : Con Try.prog 11 avs (fun x K t => x = .val (.bool true) ∧ K = [] ∧ t = 0) := by
  obtain ⟨x0, x1, x2, rfl, h0, h1, h2⟩ : ∃ x0 x1 x2, avs = [x0, x1, x2] ∧ FitA (.st (.cons 3 1 (.int .i64) (.cons 3 1 (.int .i64) (.cons 23 1 (.sl (.int .i64) 3 1) (.cons 2 1 (.int .i64) (.cons 2 1 (.int .i64) .nil)))))) x0 ∧ FitA (.sl (.st (.cons 3 1 (.int .i64) (.cons 3 1 (.int .i64) (.cons 2 1 (.int .i64) .nil)))) 39 3) x1 ∧ FitA (.st (.cons 3 1 (.int .i64) (.cons 3 1 (.int .i64) (.cons 2 1 (.int .i64) .nil)))) x2 := by
    cases avs with
    | nil => exact h.elim
    | cons x0 r => cases r with
      | nil => exact h.2.elim
      | cons x1 r => cases r with
        | nil => exact h.2.2.elim
        | cons x2 r => cases r with
          | nil => exact ⟨x0, x1, x2, rfl, h.1, h.2.1, h.2.2.1⟩
          | cons => exact h.2.2.2.elim
  clear h
  obtain ⟨row0, hrow0, rfl⟩ := h0
  obtain ⟨o, rfl, ko⟩ := rowOpr row0 hrow0
  obtain ⟨r1, ⟨rows1, hr1, ll, hrows1⟩, rfl⟩ := h1
  simp only [List.cons.injEq, and_true] at hr1
  subst hr1
  obtain ⟨l, rfl, kl⟩ := rows_map eR (okRcd) rowRcd rows1 hrows1
  rw [List.length_map] at ll
  obtain ⟨row2, hrow2, rfl⟩ := h2
  obtain ⟨r, rfl, kr⟩ := rowRcd row2 hrow2
  exact tablekeys_con o l r (by have := ko.2.2.1.1; simpa [maxLen] using this) (by simpa [maxLen] using ll)
end tableKeys
end Go.Proofs.Ytehhmkdghgabaaa
