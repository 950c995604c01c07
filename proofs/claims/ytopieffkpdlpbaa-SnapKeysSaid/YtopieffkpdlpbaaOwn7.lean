import Derived.Test.YtopieffkpdlpbaaOwn6
import Derived.Test.YtopieffkpdlpbaaLib5
namespace Go.Proofs.Ytopieffkpdlpbaa
open Go Go.RowKit Wx
set_option linter.unusedVariables false
set_option linter.unusedSimpArgs false
set_option maxHeartbeats 4000000
theorem namesok_con (l : List Nm) (hl : l.length ≤ 9223372036854775807) : Con Try.prog 44 [.one (.ro false 3 (l.map eN))] (fun rx rK rt => rx = .val (.bool (namesR l)) ∧ rK = [] ∧ rt = 0) := by
  refine Z.con_ofF tabOk 33 Try.f44 _ Try.func44 (by kernel_rfl) rfl rfl rfl rfl ?_
  unfold namesR
  by_cases hc : l.length ≤ 24
  rotate_left
  · rw [decide_eq_false hc, Bool.false_and]
    repeat' ((conv => whnf); first
      | (with_reducible refine spB_dec ?_ ?_ <;> intro _ <;> (try (exfalso; first | contradiction | omega | (rename_i hz; refine hz ?_; simp; done) | (rename_i hz; simp at hz; done) | (simp only [LN] at *; omega))))
      | fail)
    all_goals (try (conv => whnf))
    all_goals try (show Nat.ble _ _ = true; rfl)
    all_goals try (exfalso; rename_i hz; cases hz; done)
    all_goals try (exfalso; (try simp only [LN] at *) <;> omega)
    all_goals first
      | ((first | (with_reducible apply Z.retF1)); (focus (exact rfl)); (repeat' (first | exact trivial | (with_reducible apply Z.frz_one) | (with_reducible apply Z.fq_bool) | exact rfl | apply And.intro)); (all_goals (try exact (fun _ => none))); all_goals (first | (simp; done)))
      | fail
  rw [decide_eq_true hc, Bool.true_and]
  repeat' ((conv => whnf); first
    | (with_reducible refine spB_dec ?_ ?_ <;> intro _ <;> (try (exfalso; first | contradiction | omega | (rename_i hz; refine hz ?_; simp; done) | (rename_i hz; simp at hz; done) | (simp only [LN] at *; omega))))
    | fail)
  all_goals (try (conv => whnf))
  all_goals try (show Nat.ble _ _ = true; rfl)
  all_goals try (exfalso; rename_i hz; cases hz; done)
  all_goals try (exfalso; (try simp only [LN] at *) <;> omega)
  refine Z.loopK tabOk (fun zq : Nat => [(10, .val (.int .i64 (zq : Int)))]) (fun zq : Nat => ([] : Z.Kr)) (fun zq => zq ≤ l.length ∧ nOk none l = nOk (nPrev l zq) (l.drop zq)) (fun zq => l.length - zq) 0 0 [(0, _), (8, _), (9, _)] ⟨rfl, rfl, rfl, trivial⟩ [] trivial ?_ ?_ rfl rfl ⟨Nat.zero_le _, rfl⟩ ?_
  · repeat' (first | exact trivial | apply And.intro | exact ⟨_, rfl, Z.Imp.refl _⟩)
  · repeat' (first | exact trivial)
  rintro i HINV
  (try dsimp only at HINV); (try dsimp only)
  obtain ⟨HI, HT⟩ := HINV
  by_cases hi : i < l.length
  · obtain ⟨x, hx⟩ := getElem?_some' (xs := l) (i := i) hi
    rw [nOk_at hx] at HT
    have ck := cname_con x
    cases hk : nmOk x
    · rw [hk] at ck HT
      simp only [Bool.false_and] at HT
      try simp only [cond_false] at ck
      rw [HT]
      repeat' ((conv => whnf); first
        | with_reducible first | refine spB_t ?_
        | ((with_reducible apply spB_cong); (focus (simp only [beq_self_eq_true, bne_self_eq_false, Bool.true_bne, Bool.false_bne, Bool.bne_true, Bool.bne_false, Bool.true_beq, Bool.false_beq, Bool.not_true, Bool.not_false, Bool.not_not, Int.reduceBEq, Int.reduceBNe, Int.reduceLE, Int.reduceLT, Int.reduceEq, decide_true, decide_false]; rfl)))
        | (with_reducible refine spB_dec ?_ ?_ <;> intro _ <;> (try (exfalso; first | contradiction | omega | (rename_i hz; refine hz ?_; simp; done) | (rename_i hz; simp at hz; done) | (simp only [LN] at *; omega))))
        | with_reducible first | refine Z.rowN_known hx ?_
        | ((with_reducible apply ixN_litp); (focus (exact rfl)); (focus ((try simp only [LN] at *) <;> omega)))
        | ((first | (with_reducible refine Z.conZ_mz ?_ (ck) ?_)); (focus ((repeat' (first | exact trivial | exact rfl | apply And.intro)); done)))
        | with_reducible first | refine Z.drawZ_rule tabOk mixOk ?_ | refine Z.apZ_mk (by kernel_rfl) ?_
        | fail)
      all_goals (try (conv => whnf))
      all_goals try (show Nat.ble _ _ = true; rfl)
      all_goals try (exfalso; rename_i hz; cases hz; done)
      all_goals try (exfalso; (try simp only [LN] at *) <;> omega)
      all_goals first
        | ((first | (with_reducible apply Z.retF1)); (focus (exact rfl)); (repeat' (first | exact trivial | (with_reducible apply Z.frz_one) | (with_reducible apply Z.fq_bool) | exact rfl | apply And.intro)); (all_goals (try exact (fun _ => none))); all_goals (first | (simp; done)))
        | fail
    rw [hk] at ck HT
    simp only [Bool.true_and] at HT
    try simp only [cond_true] at ck
    rcases i with _ | j
    · have HT2 : nOk none l = nOk (nPrev l 1) (l.drop 1) := by rw [HT]; rfl
      repeat' ((conv => whnf); first
        | ((with_reducible apply spB_cong); (focus (simp only [beq_self_eq_true, bne_self_eq_false, Bool.true_bne, Bool.false_bne, Bool.bne_true, Bool.bne_false, Bool.true_beq, Bool.false_beq, Bool.not_true, Bool.not_false, Bool.not_not, Int.reduceBEq, Int.reduceBNe, Int.reduceLE, Int.reduceLT, Int.reduceEq, decide_true, decide_false]; rfl)))
        | with_reducible first | refine spB_no (by decide) ?_
        | (with_reducible refine spB_dec ?_ ?_ <;> intro _ <;> (try (exfalso; first | contradiction | omega | (rename_i hz; refine hz ?_; simp; done) | (rename_i hz; simp at hz; done) | (simp only [LN] at *; omega))))
        | with_reducible first | refine Z.rowN_known hx ?_
        | ((with_reducible apply ixN_litp); (focus (exact rfl)); (focus ((try simp only [LN] at *) <;> omega)))
        | with_reducible refine wr_i64 (by first | omega | (simp only [LN] at *; omega)) ?_
        | ((first | (with_reducible refine Z.conZ_mz ?_ (ck) ?_)); (focus ((repeat' (first | exact trivial | exact rfl | apply And.intro)); done)))
        | with_reducible first | refine Z.drawZ_rule tabOk mixOk ?_ | refine Z.apZ_mk (by kernel_rfl) ?_
        | fail)
      all_goals (try (conv => whnf))
      all_goals try (show Nat.ble _ _ = true; rfl)
      all_goals try (exfalso; rename_i hz; cases hz; done)
      all_goals try (exfalso; (try simp only [LN] at *) <;> omega)
      all_goals first
        | ((refine Z.rndK (1) (fun s => []) rfl rfl rfl rfl ?_ ?_ ?_ ?_); (focus (repeat' (first | exact trivial | exact rfl | apply And.intro))); (focus (repeat' (first | exact trivial))); (focus (exact ⟨by (try dsimp only); omega, HT2⟩)); ((try dsimp only); omega))
        | fail
    obtain ⟨q, hq⟩ := getElem?_some' (xs := l) (i := j) (by omega)
    have hpr : nPrev l (j + 1) = some q := hq
    rw [hpr] at HT
    simp only at HT
    have cc := ncmp_con q x
    have hcl := nC_lt q x
    generalize nC q x = C at *
    by_cases hlt : nLt q x
    · rw [decide_eq_true hlt] at HT hcl
      have hC : ¬ 0 ≤ C := of_decide_eq_false (by simpa using hcl)
      rw [Bool.true_and] at HT
      repeat' ((conv => whnf); first
        | with_reducible first | refine spB_t ?_
        | ((with_reducible apply spB_cong); (focus (simp only [beq_self_eq_true, bne_self_eq_false, Bool.true_bne, Bool.false_bne, Bool.bne_true, Bool.bne_false, Bool.true_beq, Bool.false_beq, Bool.not_true, Bool.not_false, Bool.not_not, Int.reduceBEq, Int.reduceBNe, Int.reduceLE, Int.reduceLT, Int.reduceEq, decide_true, decide_false]; rfl)))
        | with_reducible first | refine spB_no (by decide) ?_
        | (with_reducible refine spB_dec ?_ ?_ <;> intro _ <;> (try (exfalso; first | contradiction | omega | (rename_i hz; refine hz ?_; simp; done) | (rename_i hz; simp at hz; done) | (simp only [LN] at *; omega))))
        | with_reducible first | refine Z.rowN_known hx ?_ | refine Z.rowN_known hq ?_
        | ((with_reducible refine ixN_mk (j) ?_ ?_ ?_); (focus (first | ((try simp only [LN] at *) <;> omega))); (focus ((try simp only [LN] at *) <;> omega)))
        | ((with_reducible apply ixN_litp); (focus (exact rfl)); (focus ((try simp only [LN] at *) <;> omega)))
        | with_reducible refine wr_i64 (by first | omega | (simp only [LN] at *; omega)) ?_
        | ((first | (with_reducible refine Z.conZ_mz ?_ (ck) ?_) | (with_reducible refine Z.conZ_mz ?_ (cc) ?_)); (focus ((repeat' (first | exact trivial | exact rfl | apply And.intro)); done)))
        | with_reducible first | refine Z.drawZ_rule tabOk mixOk ?_ | refine Z.apZ_mk (by kernel_rfl) ?_
        | fail)
      all_goals (try (conv => whnf))
      all_goals try (show Nat.ble _ _ = true; rfl)
      all_goals try (exfalso; rename_i hz; cases hz; done)
      all_goals try (exfalso; (try simp only [LN] at *) <;> omega)
      all_goals first
        | ((refine Z.rndK ((j + 1 + 1)) (fun s => []) rfl rfl rfl rfl ?_ ?_ ?_ ?_); (focus (repeat' (first | exact trivial | exact rfl | apply And.intro))); (focus (repeat' (first | exact trivial))); (focus (exact ⟨by (try dsimp only); omega, HT⟩)); ((try dsimp only); omega))
        | fail
    · rw [decide_eq_false hlt] at HT hcl
      have hC : 0 ≤ C := of_decide_eq_true (by simpa using hcl)
      rw [Bool.false_and] at HT
      rw [HT]
      repeat' ((conv => whnf); first
        | with_reducible first | refine spB_t ?_
        | ((with_reducible apply spB_cong); (focus (simp only [beq_self_eq_true, bne_self_eq_false, Bool.true_bne, Bool.false_bne, Bool.bne_true, Bool.bne_false, Bool.true_beq, Bool.false_beq, Bool.not_true, Bool.not_false, Bool.not_not, Int.reduceBEq, Int.reduceBNe, Int.reduceLE, Int.reduceLT, Int.reduceEq, decide_true, decide_false]; rfl)))
        | with_reducible first | refine spB_no (by decide) ?_
        | (with_reducible refine spB_dec ?_ ?_ <;> intro _ <;> (try (exfalso; first | contradiction | omega | (rename_i hz; refine hz ?_; simp; done) | (rename_i hz; simp at hz; done) | (simp only [LN] at *; omega))))
        | with_reducible first | refine Z.rowN_known hx ?_ | refine Z.rowN_known hq ?_
        | ((with_reducible refine ixN_mk (j) ?_ ?_ ?_); (focus (first | ((try simp only [LN] at *) <;> omega))); (focus ((try simp only [LN] at *) <;> omega)))
        | ((with_reducible apply ixN_litp); (focus (exact rfl)); (focus ((try simp only [LN] at *) <;> omega)))
        | with_reducible refine wr_i64 (by first | omega | (simp only [LN] at *; omega)) ?_
        | ((first | (with_reducible refine Z.conZ_mz ?_ (ck) ?_) | (with_reducible refine Z.conZ_mz ?_ (cc) ?_)); (focus ((repeat' (first | exact trivial | exact rfl | apply And.intro)); done)))
        | with_reducible first | refine Z.drawZ_rule tabOk mixOk ?_ | refine Z.apZ_mk (by kernel_rfl) ?_
        | fail)
      all_goals (try (conv => whnf))
      all_goals try (show Nat.ble _ _ = true; rfl)
      all_goals try (exfalso; rename_i hz; cases hz; done)
      all_goals try (exfalso; (try simp only [LN] at *) <;> omega)
      all_goals first
        | ((first | (with_reducible apply Z.retF1)); (focus (exact rfl)); (repeat' (first | exact trivial | (with_reducible apply Z.frz_one) | (with_reducible apply Z.fq_bool) | exact rfl | apply And.intro)); (all_goals (try exact (fun _ => none))); all_goals (first | (simp; done)))
        | fail
  have hil : i = l.length := by omega
  subst hil
  rw [List.drop_length] at HT
  have HT3 : nOk none l = true := by rw [HT]; cases nPrev l l.length <;> rfl
  rw [HT3]
  repeat' ((conv => whnf); first
    | (with_reducible refine spB_dec ?_ ?_ <;> intro _ <;> (try (exfalso; first | contradiction | omega | (rename_i hz; refine hz ?_; simp; done) | (rename_i hz; simp at hz; done) | (simp only [LN] at *; omega))))
    | fail)
  all_goals (try (conv => whnf))
  all_goals try (show Nat.ble _ _ = true; rfl)
  all_goals try (exfalso; rename_i hz; cases hz; done)
  all_goals try (exfalso; (try simp only [LN] at *) <;> omega)
  all_goals first
    | ((first | (with_reducible apply Z.retF1)); (focus (exact rfl)); (repeat' (first | exact trivial | (with_reducible apply Z.frz_one) | (with_reducible apply Z.fq_bool) | exact rfl | apply And.intro)); (all_goals (try exact (fun _ => none))); all_goals (first | (simp; done)))
    | fail
end Go.Proofs.Ytopieffkpdlpbaa
namespace Go.Proofs.Ytopieffkpdlpbaa
open Go Go.RowKit Wx
set_option linter.unusedVariables false
set_option linter.unusedSimpArgs false
set_option maxHeartbeats 4000000
def snapR (x : Sn) : Bool := decide ((0 ≤ x.op ∧ x.op < 8) ∧ Tab.okS x.ix x.w) && (offR x.o0 x.o1 x.o2 x.o3 x.o4 x.o5 x.o6 x.o7 x.ix x.w && (namesR x.txs && (Tab.tabR x.rows && decide (Tab.partL x.rows x.ix x.w = x.rows))))
theorem maybe_con (x : Sn) (hr : x.rows.length ≤ 1000) (ht : x.txs.length ≤ 9223372036854775807) : Con Try.prog 48 [.agg [.v (.int .i64 x.op), .v (.int .i64 x.ix), .v (.int .i64 x.w), .v (.bool x.en), .ro false 4 (x.rows.map Tab.eK), .v (.int .i64 x.o0), .v (.int .i64 x.o1), .v (.int .i64 x.o2), .v (.int .i64 x.o3), .v (.int .i64 x.o4), .v (.int .i64 x.o5), .v (.int .i64 x.o6), .v (.int .i64 x.o7), .ro false 3 (x.txs.map eN)]] (fun rx rK rt => rx = .val (.bool (snapR x)) ∧ rK = [] ∧ rt = 0) := by
  refine Z.con_ofF tabOk 51 Try.f48 _ Try.func48 (by kernel_rfl) rfl rfl rfl rfl ?_
  unfold snapR
  by_cases ho : 0 ≤ x.op ∧ x.op < 8
  rotate_left
  · rw [decide_eq_false (fun h => ho h.1), Bool.false_and]
    repeat' ((conv => whnf); first
      | with_reducible first | refine spB_t ?_
      | ((with_reducible apply spB_cong); (focus (simp only [beq_self_eq_true, bne_self_eq_false, Bool.true_bne, Bool.false_bne, Bool.bne_true, Bool.bne_false, Bool.true_beq, Bool.false_beq, Bool.not_true, Bool.not_false, Bool.not_not, Int.reduceBEq, Int.reduceBNe, Int.reduceLE, Int.reduceLT, Int.reduceEq, decide_true, decide_false]; rfl)))
      | with_reducible first | refine spB_no (by decide) ?_ | refine spB_not ?_
      | (with_reducible refine spB_dec ?_ ?_ <;> intro _ <;> (try (exfalso; first | contradiction | omega | (rename_i hz; refine hz ?_; simp; done) | (rename_i hz; simp at hz; done) | (simp only [LN] at *; omega))))
      | with_reducible first | refine Z.callZ_in tabOk 9 Try.f31 _ Try.func31 (by kernel_rfl) rfl rfl rfl ?_
      | ((with_reducible apply ex_and); exact rfl)
      | fail)
    all_goals (try (conv => whnf))
    all_goals try (show Nat.ble _ _ = true; rfl)
    all_goals try (exfalso; rename_i hz; cases hz; done)
    all_goals try (exfalso; (try simp only [LN] at *) <;> omega)
    all_goals first
      | ((first | (with_reducible apply Z.retF1)); (focus (exact rfl)); (repeat' (first | exact trivial | (with_reducible apply Z.frz_one) | (with_reducible apply Z.fq_bool) | exact rfl | apply And.intro)); (all_goals (try exact (fun _ => none))); all_goals (first | (simp; done)))
      | fail
  by_cases hs : Tab.okS x.ix x.w
  rotate_left
  · have cow := Tab.owned_bad x.ix x.w hs
    rw [decide_eq_false (fun h => hs h.2), Bool.false_and]
    repeat' ((conv => whnf); first
      | with_reducible first | refine spB_t ?_
      | ((with_reducible apply spB_cong); (focus (simp only [beq_self_eq_true, bne_self_eq_false, Bool.true_bne, Bool.false_bne, Bool.bne_true, Bool.bne_false, Bool.true_beq, Bool.false_beq, Bool.not_true, Bool.not_false, Bool.not_not, Int.reduceBEq, Int.reduceBNe, Int.reduceLE, Int.reduceLT, Int.reduceEq, decide_true, decide_false]; rfl)))
      | with_reducible first | refine spB_no (by decide) ?_ | refine spB_not ?_
      | (with_reducible refine spB_dec ?_ ?_ <;> intro _ <;> (try (exfalso; first | contradiction | omega | (rename_i hz; refine hz ?_; simp; done) | (rename_i hz; simp at hz; done) | (simp only [LN] at *; omega))))
      | with_reducible first | refine Z.callZ_in tabOk 9 Try.f31 _ Try.func31 (by kernel_rfl) rfl rfl rfl ?_ | refine Z.callZ_in tabOk 15 Try.f32 _ Try.func32 (by kernel_rfl) rfl rfl rfl ?_
      | ((first | (with_reducible refine Z.callZ_mk ?_ (cow) ?_)); (focus ((repeat' (first | exact trivial | exact rfl | apply And.intro)); done)))
      | ((with_reducible apply ex_and); exact rfl)
      | fail)
    all_goals (try (conv => whnf))
    all_goals try (show Nat.ble _ _ = true; rfl)
    all_goals try (exfalso; rename_i hz; cases hz; done)
    all_goals try (exfalso; (try simp only [LN] at *) <;> omega)
    all_goals first
      | ((first | (with_reducible apply Z.retF1)); (focus (exact rfl)); (repeat' (first | exact trivial | (with_reducible apply Z.frz_one) | (with_reducible apply Z.fq_bool) | exact rfl | apply And.intro)); (all_goals (try exact (fun _ => none))); all_goals (first | (simp; done)))
      | fail
  obtain ⟨L, cow⟩ := Tab.owned_ok x.ix x.w hs
  rw [decide_eq_true ⟨ho, hs⟩, Bool.true_and]
  have cof := areoff_con x.o0 x.o1 x.o2 x.o3 x.o4 x.o5 x.o6 x.o7 x.ix x.w hs
  cases hof : offR x.o0 x.o1 x.o2 x.o3 x.o4 x.o5 x.o6 x.o7 x.ix x.w
  all_goals rw [hof] at cof
  · rw [Bool.false_and]
    repeat' ((conv => whnf); first
      | with_reducible first | refine spB_t ?_
      | ((with_reducible apply spB_cong); (focus (simp only [beq_self_eq_true, bne_self_eq_false, Bool.true_bne, Bool.false_bne, Bool.bne_true, Bool.bne_false, Bool.true_beq, Bool.false_beq, Bool.not_true, Bool.not_false, Bool.not_not, Int.reduceBEq, Int.reduceBNe, Int.reduceLE, Int.reduceLT, Int.reduceEq, decide_true, decide_false]; rfl)))
      | with_reducible first | refine spB_no (by decide) ?_ | refine spB_not ?_
      | (with_reducible refine spB_dec ?_ ?_ <;> intro _ <;> (try (exfalso; first | contradiction | omega | (rename_i hz; refine hz ?_; simp; done) | (rename_i hz; simp at hz; done) | (simp only [LN] at *; omega))))
      | with_reducible first | refine Z.callZ_in tabOk 9 Try.f31 _ Try.func31 (by kernel_rfl) rfl rfl rfl ?_ | refine Z.callZ_in tabOk 15 Try.f32 _ Try.func32 (by kernel_rfl) rfl rfl rfl ?_
      | ((first | (with_reducible refine Z.callZ_mk ?_ (cof) ?_) | (with_reducible refine Z.callZ_mk ?_ (cow) ?_)); (focus ((repeat' (first | exact trivial | exact rfl | apply And.intro)); done)))
      | ((with_reducible apply ex_and); exact rfl)
      | fail)
    all_goals (try (conv => whnf))
    all_goals try (show Nat.ble _ _ = true; rfl)
    all_goals try (exfalso; rename_i hz; cases hz; done)
    all_goals try (exfalso; (try simp only [LN] at *) <;> omega)
    all_goals first
      | ((first | (with_reducible apply Z.retF1)); (focus (exact rfl)); (repeat' (first | exact trivial | (with_reducible apply Z.frz_one) | (with_reducible apply Z.fq_bool) | exact rfl | apply And.intro)); (all_goals (try exact (fun _ => none))); all_goals (first | (simp; done)))
      | fail
  rw [Bool.true_and]
  have cnm := namesok_con x.txs ht
  cases hnm : namesR x.txs
  all_goals rw [hnm] at cnm
  · rw [Bool.false_and]
    repeat' ((conv => whnf); first
      | with_reducible first | refine spB_t ?_
      | ((with_reducible apply spB_cong); (focus (simp only [beq_self_eq_true, bne_self_eq_false, Bool.true_bne, Bool.false_bne, Bool.bne_true, Bool.bne_false, Bool.true_beq, Bool.false_beq, Bool.not_true, Bool.not_false, Bool.not_not, Int.reduceBEq, Int.reduceBNe, Int.reduceLE, Int.reduceLT, Int.reduceEq, decide_true, decide_false]; rfl)))
      | with_reducible first | refine spB_no (by decide) ?_ | refine spB_not ?_
      | (with_reducible refine spB_dec ?_ ?_ <;> intro _ <;> (try (exfalso; first | contradiction | omega | (rename_i hz; refine hz ?_; simp; done) | (rename_i hz; simp at hz; done) | (simp only [LN] at *; omega))))
      | with_reducible first | refine Z.callZ_in tabOk 9 Try.f31 _ Try.func31 (by kernel_rfl) rfl rfl rfl ?_ | refine Z.callZ_in tabOk 15 Try.f32 _ Try.func32 (by kernel_rfl) rfl rfl rfl ?_
      | ((first | (with_reducible refine Z.callZ_mk ?_ (cnm) ?_) | (with_reducible refine Z.callZ_mk ?_ (cof) ?_) | (with_reducible refine Z.callZ_mk ?_ (cow) ?_)); (focus ((repeat' (first | exact trivial | exact rfl | apply And.intro)); done)))
      | ((with_reducible apply ex_and); exact rfl)
      | fail)
    all_goals (try (conv => whnf))
    all_goals try (show Nat.ble _ _ = true; rfl)
    all_goals try (exfalso; rename_i hz; cases hz; done)
    all_goals try (exfalso; (try simp only [LN] at *) <;> omega)
    all_goals first
      | ((first | (with_reducible apply Z.retF1)); (focus (exact rfl)); (repeat' (first | exact trivial | (with_reducible apply Z.frz_one) | (with_reducible apply Z.fq_bool) | exact rfl | apply And.intro)); (all_goals (try exact (fun _ => none))); all_goals (first | (simp; done)))
      | fail
  rw [Bool.true_and]
  have cpa := Tab.tpart_con x.rows x.ix x.w hr
  unfold Tab.partT at cpa
  cases htb : Tab.tabR x.rows
  all_goals rw [htb] at cpa
  · rw [if_pos rfl] at cpa
    rw [Bool.false_and]
    repeat' ((conv => whnf); first
      | with_reducible first | refine spB_t ?_
      | ((with_reducible apply spB_cong); (focus (simp only [beq_self_eq_true, bne_self_eq_false, Bool.true_bne, Bool.false_bne, Bool.bne_true, Bool.bne_false, Bool.true_beq, Bool.false_beq, Bool.not_true, Bool.not_false, Bool.not_not, Int.reduceBEq, Int.reduceBNe, Int.reduceLE, Int.reduceLT, Int.reduceEq, decide_true, decide_false]; rfl)))
      | with_reducible first | refine spB_no (by decide) ?_ | refine spB_not ?_
      | (with_reducible refine spB_dec ?_ ?_ <;> intro _ <;> (try (exfalso; first | contradiction | omega | (rename_i hz; refine hz ?_; simp; done) | (rename_i hz; simp at hz; done) | (simp only [LN] at *; omega))))
      | with_reducible first | refine Z.callZ_in tabOk 9 Try.f31 _ Try.func31 (by kernel_rfl) rfl rfl rfl ?_ | refine Z.callZ_in tabOk 15 Try.f32 _ Try.func32 (by kernel_rfl) rfl rfl rfl ?_
      | ((first | (with_reducible refine Z.callZ_mk ?_ (cnm) ?_) | (with_reducible refine Z.callZ_mk ?_ (cof) ?_) | (with_reducible refine Z.callZ_mk ?_ (cpa) ?_) | (with_reducible refine Z.callZ_mk ?_ (cow) ?_)); (focus ((repeat' (first | exact trivial | exact rfl | apply And.intro)); done)))
      | ((with_reducible apply ex_and); exact rfl)
      | fail)
    all_goals (try (conv => whnf))
    all_goals try (show Nat.ble _ _ = true; rfl)
    all_goals try (exfalso; rename_i hz; cases hz; done)
    all_goals try (exfalso; (try simp only [LN] at *) <;> omega)
    all_goals first
      | ((first | (with_reducible apply Z.retF1)); (focus (exact rfl)); (repeat' (first | exact trivial | (with_reducible apply Z.frz_one) | (with_reducible apply Z.fq_bool) | exact rfl | apply And.intro)); (all_goals (try exact (fun _ => none))); all_goals (first | (simp; done)))
      | fail
  rw [if_neg (by decide), if_pos hs] at cpa
  dsimp only at cpa
  rw [Bool.true_and]
  have hpl := @Tab.part_len x.rows x.ix x.w
  have cs := Tab.same_con (Tab.partL x.rows x.ix x.w) x.rows (by omega)
  generalize Tab.partL x.rows x.ix x.w = Q at *
  generalize decide (Q = x.rows) = B at *
  repeat' ((conv => whnf); first
    | with_reducible first | refine spB_t ?_
    | ((with_reducible apply spB_cong); (focus (simp only [beq_self_eq_true, bne_self_eq_false, Bool.true_bne, Bool.false_bne, Bool.bne_true, Bool.bne_false, Bool.true_beq, Bool.false_beq, Bool.not_true, Bool.not_false, Bool.not_not, Int.reduceBEq, Int.reduceBNe, Int.reduceLE, Int.reduceLT, Int.reduceEq, decide_true, decide_false]; rfl)))
    | with_reducible first | refine spB_no (by decide) ?_ | refine spB_not ?_
    | (with_reducible refine spB_dec ?_ ?_ <;> intro _ <;> (try (exfalso; first | contradiction | omega | (rename_i hz; refine hz ?_; simp; done) | (rename_i hz; simp at hz; done) | (simp only [LN] at *; omega))))
    | with_reducible first | refine Z.callZ_in tabOk 9 Try.f31 _ Try.func31 (by kernel_rfl) rfl rfl rfl ?_ | refine Z.callZ_in tabOk 15 Try.f32 _ Try.func32 (by kernel_rfl) rfl rfl rfl ?_
    | ((first | (with_reducible refine Z.callZ_mk ?_ (cnm) ?_) | (with_reducible refine Z.callZ_mk ?_ (cs) ?_) | (with_reducible refine Z.callZ_mk ?_ (cof) ?_) | (with_reducible refine Z.callZ_mk ?_ (cpa) ?_) | (with_reducible refine Z.callZ_mk ?_ (cow) ?_)); (focus ((repeat' (first | exact trivial | exact rfl | apply And.intro)); done)))
    | ((with_reducible apply ex_and); exact rfl)
    | fail)
  all_goals (try (conv => whnf))
  all_goals try (show Nat.ble _ _ = true; rfl)
  all_goals try (exfalso; rename_i hz; cases hz; done)
  all_goals try (exfalso; (try simp only [LN] at *) <;> omega)
  all_goals first
    | ((first | (with_reducible apply Z.retF1)); (focus (exact rfl)); (repeat' (first | exact trivial | exact rfl | apply And.intro)); (all_goals (try exact (fun _ => none))); all_goals (first | (simp; done)))
    | fail
theorem scheck_con (x : Sn) (hr : x.rows.length ≤ 1000) (ht : x.txs.length ≤ 9223372036854775807) : Con Try.prog 40 [.agg [.v (.int .i64 x.op), .v (.int .i64 x.ix), .v (.int .i64 x.w), .v (.bool x.en), .ro false 4 (x.rows.map Tab.eK), .v (.int .i64 x.o0), .v (.int .i64 x.o1), .v (.int .i64 x.o2), .v (.int .i64 x.o3), .v (.int .i64 x.o4), .v (.int .i64 x.o5), .v (.int .i64 x.o6), .v (.int .i64 x.o7), .ro false 3 (x.txs.map eN)]] (fun rx rK rt => rx = .val (.int .i64 (bif snapR x then 0 else 280)) ∧ rK = [] ∧ rt = 0) := by
  refine Z.con_ofF tabOk 6 Try.f40 _ Try.func40 (by kernel_rfl) rfl rfl rfl rfl ?_
  have cm := maybe_con x hr ht
  cases hz : snapR x
  all_goals rw [hz] at cm
  all_goals try simp only [cond_true, cond_false]
  · skip
    repeat' ((conv => whnf); first
      | with_reducible first | refine spB_t ?_
      | ((with_reducible apply spB_cong); (focus (simp only [beq_self_eq_true, bne_self_eq_false, Bool.true_bne, Bool.false_bne, Bool.bne_true, Bool.bne_false, Bool.true_beq, Bool.false_beq, Bool.not_true, Bool.not_false, Bool.not_not, Int.reduceBEq, Int.reduceBNe, Int.reduceLE, Int.reduceLT, Int.reduceEq, decide_true, decide_false]; rfl)))
      | ((first | (with_reducible refine Z.callZ_mk ?_ (cm) ?_)); (focus ((repeat' (first | exact trivial | exact rfl | apply And.intro)); done)))
      | fail)
    all_goals (try (conv => whnf))
    all_goals try (show Nat.ble _ _ = true; rfl)
    all_goals try (exfalso; rename_i hz; cases hz; done)
    all_goals try (exfalso; (try simp only [LN] at *) <;> omega)
    all_goals first
      | ((first | (with_reducible apply Z.retF1)); (focus (exact rfl)); (repeat' (first | exact trivial | (with_reducible apply Z.frz_one) | (with_reducible apply Z.fq_int) | exact rfl | apply And.intro)); (all_goals (try exact (fun _ => none))); all_goals (first | (simp; done)))
      | fail
  · skip
    repeat' ((conv => whnf); first
      | ((with_reducible apply spB_cong); (focus (simp only [beq_self_eq_true, bne_self_eq_false, Bool.true_bne, Bool.false_bne, Bool.bne_true, Bool.bne_false, Bool.true_beq, Bool.false_beq, Bool.not_true, Bool.not_false, Bool.not_not, Int.reduceBEq, Int.reduceBNe, Int.reduceLE, Int.reduceLT, Int.reduceEq, decide_true, decide_false]; rfl)))
      | with_reducible first | refine spB_no (by decide) ?_
      | ((first | (with_reducible refine Z.callZ_mk ?_ (cm) ?_)); (focus ((repeat' (first | exact trivial | exact rfl | apply And.intro)); done)))
      | fail)
    all_goals (try (conv => whnf))
    all_goals try (show Nat.ble _ _ = true; rfl)
    all_goals try (exfalso; rename_i hz; cases hz; done)
    all_goals try (exfalso; (try simp only [LN] at *) <;> omega)
    all_goals first
      | ((first | (with_reducible apply Z.retF1)); (focus (exact rfl)); (repeat' (first | exact trivial | (with_reducible apply Z.frz_one) | (with_reducible apply Z.fq_int) | exact rfl | apply And.intro)); (all_goals (try exact (fun _ => none))); all_goals (first | (simp; done)))
      | fail
end Go.Proofs.Ytopieffkpdlpbaa
namespace Go.Proofs.Ytopieffkpdlpbaa
open Go Go.RowKit Wx
set_option linter.unusedVariables false
set_option linter.unusedSimpArgs false
set_option maxHeartbeats 4000000
def own1 (g i w o : Int) : Int := if Tab.ownG g w = i then o else 0
def partS (x : Sn) (i w : Int) : Sn := ⟨x.op, i, w, x.en, Tab.partL x.rows i w, own1 0 i w x.o0, own1 1 i w x.o1, own1 2 i w x.o2, own1 3 i w x.o3, own1 4 i w x.o4, own1 5 i w x.o5, own1 6 i w x.o6, own1 7 i w x.o7, []⟩
def zeroS : Sn := ⟨0, 0, 0, false, [], 0, 0, 0, 0, 0, 0, 0, 0, []⟩
theorem six {i w : Int} (h : Tab.okS i w) : (i = 0 ∧ w = 1) ∨ (i = 0 ∧ w = 2) ∨ (i = 1 ∧ w = 2) ∨ (i = 0 ∧ w = 3) ∨ (i = 1 ∧ w = 3) ∨ (i = 2 ∧ w = 3) := by unfold Tab.okS at h; omega
theorem joined_con (o0 o1 o2 o3 o4 o5 o6 o7 i w : Int) (h : Tab.okS i w) : Con Try.prog 41 [.agg [.v (.int .i64 o0), .v (.int .i64 o1), .v (.int .i64 o2), .v (.int .i64 o3), .v (.int .i64 o4), .v (.int .i64 o5), .v (.int .i64 o6), .v (.int .i64 o7)], .agg [.v (.int .i64 0), .v (.int .i64 0), .v (.int .i64 0), .v (.int .i64 0), .v (.int .i64 0), .v (.int .i64 0), .v (.int .i64 0), .v (.int .i64 0)], .one (.v (.int .i64 i)), .one (.v (.int .i64 w))] (fun rx rK rt => rx = .tup [.agg [.v (.int .i64 (own1 0 i w o0)), .v (.int .i64 (own1 1 i w o1)), .v (.int .i64 (own1 2 i w o2)), .v (.int .i64 (own1 3 i w o3)), .v (.int .i64 (own1 4 i w o4)), .v (.int .i64 (own1 5 i w o5)), .v (.int .i64 (own1 6 i w o6)), .v (.int .i64 (own1 7 i w o7))], .one (.v (.int .i64 0))] ∧ rK = [] ∧ rt = 0) := by
  rcases six h with ⟨rfl, rfl⟩ | ⟨rfl, rfl⟩ | ⟨rfl, rfl⟩ | ⟨rfl, rfl⟩ | ⟨rfl, rfl⟩ | ⟨rfl, rfl⟩
  · exact joined_0_1 o0 o1 o2 o3 o4 o5 o6 o7
  · exact joined_0_2 o0 o1 o2 o3 o4 o5 o6 o7
  · exact joined_1_2 o0 o1 o2 o3 o4 o5 o6 o7
  · exact joined_0_3 o0 o1 o2 o3 o4 o5 o6 o7
  · exact joined_1_3 o0 o1 o2 o3 o4 o5 o6 o7
  · exact joined_2_3 o0 o1 o2 o3 o4 o5 o6 o7
end Go.Proofs.Ytopieffkpdlpbaa
namespace Go.Proofs.Ytopieffkpdlpbaa
open Go Go.RowKit Wx
set_option linter.unusedVariables false
set_option linter.unusedSimpArgs false
set_option maxHeartbeats 4000000
def shortS (x : Sn) : Sn := ⟨x.op, x.ix, x.w, x.en, x.rows.take 257, x.o0, x.o1, x.o2, x.o3, x.o4, x.o5, x.o6, x.o7, x.txs.take 25⟩
abbrev eSn (x : Sn) : List RT := [RT.v (.int .i64 x.op), RT.v (.int .i64 x.ix), RT.v (.int .i64 x.w), RT.v (.bool x.en), RT.ro 4 (x.rows.map Tab.eK), RT.v (.int .i64 x.o0), RT.v (.int .i64 x.o1), RT.v (.int .i64 x.o2), RT.v (.int .i64 x.o3), RT.v (.int .i64 x.o4), RT.v (.int .i64 x.o5), RT.v (.int .i64 x.o6), RT.v (.int .i64 x.o7), RT.ro 3 (x.txs.map eN)]
abbrev cSn (x : Sn) : List Ce := [Ce.v (.int .i64 x.op), Ce.v (.int .i64 x.ix), Ce.v (.int .i64 x.w), Ce.v (.bool x.en), Ce.ro true 4 (x.rows.map Tab.eK), Ce.v (.int .i64 x.o0), Ce.v (.int .i64 x.o1), Ce.v (.int .i64 x.o2), Ce.v (.int .i64 x.o3), Ce.v (.int .i64 x.o4), Ce.v (.int .i64 x.o5), Ce.v (.int .i64 x.o6), Ce.v (.int .i64 x.o7), Ce.ro true 3 (x.txs.map eN)]
theorem shortS_len (x : Sn) : (shortS x).rows.length ≤ 257 ∧ (shortS x).txs.length ≤ 25 := by unfold shortS; simp only [List.length_take]; omega
theorem cut_ro {α : Type} {f : α → List RT} (l : List α) (k : Nat) : (l.take k).map f = List.take ((l.take k).length - 0) (List.drop 0 (l.map f)) := by
  have e : List.take ((l.take k).length) l = l.take k := List.take_eq_take_iff.2 (by rw [List.length_take]; omega)
  rw [Nat.sub_zero, List.drop_zero, ← List.map_take, e]
theorem cut_n (l : List Nm) (k : Nat) (fl : Bool) : List.map (List.map (RT.ce fl)) (List.take ((l.take k).length - 0) (List.drop 0 (l.map eN))) = (l.take k).map cN := by
  rw [← cut_ro, List.map_map]
  rfl
theorem one_cutN {l : List Nm} {n m : Nat} {fl : Bool} : ∀ r ∈ List.map (List.map (RT.ce fl)) (List.take n (List.drop m (l.map eN))), ∀ c ∈ r, c.single = true := fun r hr c hc => by
  obtain ⟨t, ht, rfl⟩ := List.mem_map.1 hr
  obtain ⟨z, _, rfl⟩ := List.mem_map.1 (List.mem_of_mem_drop (List.mem_of_mem_take ht))
  simp only [List.map_cons, List.map_nil, List.mem_cons, List.not_mem_nil, or_false] at hc
  rcases hc with rfl | rfl | rfl <;> rfl
theorem shortS_con (x : Sn) (hr : x.rows.length ≤ 9223372036854775807) (ht : x.txs.length ≤ 9223372036854775807) : Con Try.prog 20 [.agg [.v (.int .i64 x.op), .v (.int .i64 x.ix), .v (.int .i64 x.w), .v (.bool x.en), .ro false 4 (x.rows.map Tab.eK), .v (.int .i64 x.o0), .v (.int .i64 x.o1), .v (.int .i64 x.o2), .v (.int .i64 x.o3), .v (.int .i64 x.o4), .v (.int .i64 x.o5), .v (.int .i64 x.o6), .v (.int .i64 x.o7), .ro false 3 (x.txs.map eN)]] (fun rx rK rt => rx = .pl (.agg [.v (.int .i64 (shortS x).op), .v (.int .i64 (shortS x).ix), .v (.int .i64 (shortS x).w), .v (.bool (shortS x).en), .ro true 4 ((shortS x).rows.map Tab.eK), .v (.int .i64 (shortS x).o0), .v (.int .i64 (shortS x).o1), .v (.int .i64 (shortS x).o2), .v (.int .i64 (shortS x).o3), .v (.int .i64 (shortS x).o4), .v (.int .i64 (shortS x).o5), .v (.int .i64 (shortS x).o6), .v (.int .i64 (shortS x).o7), .ro true 3 ((shortS x).txs.map eN)]) ∧ rK = [] ∧ rt = 0) := by
  refine Z.con_ofF tabOk 24 Try.f20 _ Try.func20 (by kernel_rfl) rfl rfl rfl rfl ?_
  have ccp := Tab.copyk_con (x.rows.take 257) (by rw [List.length_take]; omega)
  have htl : (x.txs.take 25).length ≤ 25 := by rw [List.length_take]; exact Nat.min_le_left _ _
  have HC := cut_n x.txs 25
  repeat' ((conv => whnf); first
    | ((with_reducible refine slN_hi ((x.rows.take 257).length) ?_ ?_ ?_); (focus (rw [List.length_take, List.length_map]; omega)); (focus (rw [List.length_take, List.length_map]; omega)))
    | ((with_reducible refine slN_hi ((x.txs.take 25).length) ?_ ?_ ?_); (focus (rw [List.length_take, List.length_map]; omega)); (focus (rw [List.length_take, List.length_map]; omega)))
    | ((with_reducible refine apdE_n ?_); (with_reducible refine apdN.mk ?_ ?_ ?_ ?_ ?_ ?_); (focus (first | (simp; done))); (focus (first | exact one_cutN)); (focus (first | exact Nat.zero_le _)); (iterate 2 (focus ((try simp only [LN] at *) <;> omega))))
    | with_reducible first | refine Z.callZ_in tabOk 13 Try.f47 _ Try.func47 (by kernel_rfl) rfl rfl rfl ?_
    | ((first | (with_reducible refine Z.conZ_mz ?_ (ccp) ?_)); (focus ((repeat' (first | exact trivial | exact congrArg (Ce.ro false 4) (cut_ro _ _) | apply And.intro)); done)))
    | ((with_reducible apply ex_and); exact rfl)
    | with_reducible first | refine Z.drawZ_rule tabOk mixOk ?_ | refine Z.apZ_mk (by kernel_rfl) ?_
    | fail)
  all_goals (try (conv => whnf))
  all_goals try (show Nat.ble _ _ = true; rfl)
  all_goals try (exfalso; rename_i hz; cases hz; done)
  all_goals try (exfalso; (try simp only [LN] at *) <;> omega)
  all_goals first
    | ((first | (with_reducible apply Z.retF1)); (focus (exact rfl)); (repeat' (first | exact trivial | (refine Z.frz_oslw (l := x.txs.take 25) (f := cN) (ty := 90) (bx := false) rfl ?_ ?_ (fun _ => rfl); (focus (first | (simp; done))); (focus (first | exact (congrArg (List.take _) (HC _)).trans (List.take_of_length_le (by simp))))) | (with_reducible apply Z.frz_agg) | (with_reducible apply Z.fq_int) | (with_reducible apply Z.fq_bool) | exact rfl | apply And.intro)); (all_goals (try exact (fun _ => none))); all_goals (first | (simp; done)))
    | fail
end Go.Proofs.Ytopieffkpdlpbaa
namespace Go.Proofs.Ytopieffkpdlpbaa
open Go Go.RowKit Wx
set_option linter.unusedVariables false
set_option linter.unusedSimpArgs false
set_option maxHeartbeats 4000000
def ownW (g : Int) (l : List Sn) : Sn := l.getD (Tab.ownG g l.length).toNat zeroS
def wholeS (l : List Sn) : Sn := ⟨(l.headD zeroS).op, 0, 1, (l.foldl (fun e s => e && s.en) true), gath (l.map (·.rows)), (ownW 0 l).o0, (ownW 1 l).o1, (ownW 2 l).o2, (ownW 3 l).o3, (ownW 4 l).o4, (ownW 5 l).o5, (ownW 6 l).o6, (ownW 7 l).o7, (l.map (·.txs)).flatten⟩
def fitK (l : List Sn) (k : Nat) (x : Sn) : Prop := x.op = (l.headD zeroS).op ∧ x.w = l.length ∧ x.ix = k
instance (l : List Sn) (k : Nat) (x : Sn) : Decidable (fitK l k x) := by unfold fitK; infer_instance
def fitW (l : List Sn) : Bool := !l.isEmpty && l.zipIdx.all fun p => decide (fitK l p.2 p.1)
def wholeE (l : List Sn) : Sn × Int := if l.all snapR = false then (zeroS, 280) else if fitW l = false ∨ namesR (l.map (·.txs)).flatten = false then (zeroS, 281) else (wholeS l, 0)
theorem wh_nil   : Con Try.prog 14 [.one (.ro false 14 (([] : List Sn).map eSn))] (fun rx rK rt => rx = .tup [.agg [.v (.int .i64 zeroS.op), .v (.int .i64 zeroS.ix), .v (.int .i64 zeroS.w), .v (.bool zeroS.en), .ro true 4 (zeroS.rows.map Tab.eK), .v (.int .i64 zeroS.o0), .v (.int .i64 zeroS.o1), .v (.int .i64 zeroS.o2), .v (.int .i64 zeroS.o3), .v (.int .i64 zeroS.o4), .v (.int .i64 zeroS.o5), .v (.int .i64 zeroS.o6), .v (.int .i64 zeroS.o7), .ro true 3 (zeroS.txs.map eN)], .one (.v (.int .i64 281))] ∧ rK = [] ∧ rt = 0) := by
  refine Z.con_ofF tabOk 103 Try.f14 _ Try.func14 (by kernel_rfl) rfl rfl rfl rfl ?_
  repeat' ((conv => whnf); first
    | with_reducible first | refine spB_yes (by decide) ?_ | refine spB_no (by decide) ?_
    | with_reducible first | refine Z.loopZ_unroll tabOk 1 ?_
    | fail)
  all_goals (try (conv => whnf))
  all_goals try (show Nat.ble _ _ = true; rfl)
  all_goals try (exfalso; rename_i hz; cases hz; done)
  all_goals try (exfalso; (try simp only [LN] at *) <;> omega)
  all_goals first
    | ((first | (with_reducible apply Z.retF2)); (focus (exact rfl)); (repeat' (first | exact trivial | (with_reducible apply Z.frz_one) | (with_reducible apply Z.frz_agg) | (with_reducible apply Z.fq_int) | (with_reducible apply Z.fq_bool) | (exact Z.frz_nil) | exact rfl | apply And.intro)); (all_goals (try exact (fun _ => none))); all_goals (first | (simp; done)))
    | fail
theorem wh_chk (l : List Sn) (hA : ∀ x ∈ l, x.rows.length ≤ 1000 ∧ x.txs.length ≤ 1000) (hl : l.length ≤ 1000) (h1 : l.all snapR = false) : Con Try.prog 14 [.one (.ro false 14 ((l : List Sn).map eSn))] (fun rx rK rt => rx = .tup [.agg [.v (.int .i64 zeroS.op), .v (.int .i64 zeroS.ix), .v (.int .i64 zeroS.w), .v (.bool zeroS.en), .ro true 4 (zeroS.rows.map Tab.eK), .v (.int .i64 zeroS.o0), .v (.int .i64 zeroS.o1), .v (.int .i64 zeroS.o2), .v (.int .i64 zeroS.o3), .v (.int .i64 zeroS.o4), .v (.int .i64 zeroS.o5), .v (.int .i64 zeroS.o6), .v (.int .i64 zeroS.o7), .ro true 3 (zeroS.txs.map eN)], .one (.v (.int .i64 280))] ∧ rK = [] ∧ rt = 0) := by
  refine Z.con_ofF tabOk 103 Try.f14 _ Try.func14 (by kernel_rfl) rfl rfl rfl rfl ?_
  repeat' ((conv => whnf); first
    | with_reducible first | refine spB_t ?_
    | fail)
  all_goals (try (conv => whnf))
  all_goals try (show Nat.ble _ _ = true; rfl)
  all_goals try (exfalso; rename_i hz; cases hz; done)
  all_goals try (exfalso; (try simp only [LN] at *) <;> omega)
  refine Z.loopK tabOk (fun zq : Nat => [(14, .val (.int .i64 (zq : Int)))]) (fun zq : Nat => ([] : Z.Kr)) (fun zq => zq ≤ l.length ∧ (∀ x ∈ l.take zq, snapR x = true)) (fun zq => l.length - zq) 0 1 [(0, _), (2, _), (12, _), (13, _)] ⟨rfl, rfl, rfl, rfl, trivial⟩ [(0, some _)] ⟨rfl, trivial⟩ ?_ ?_ rfl rfl ⟨Nat.zero_le _, (fun x h => nomatch h)⟩ ?_
  · repeat' (first | exact trivial | apply And.intro | exact ⟨_, rfl, Z.Imp.refl _⟩)
  · repeat' (first | exact trivial)
  rintro i HINV
  (try dsimp only at HINV); (try dsimp only)
  obtain ⟨HI, HG⟩ := HINV
  by_cases hi : i < l.length
  · obtain ⟨x, hx⟩ := getElem?_some' (xs := l) (i := i) hi
    have hxm := List.mem_of_getElem? hx
    have ck := scheck_con x (hA x hxm).1 (by have := (hA x hxm).2; omega)
    cases hs : snapR x
    all_goals rw [hs] at ck
    all_goals try simp only [cond_true, cond_false] at ck
    · skip
      repeat' ((conv => whnf); first
        | with_reducible first | refine spB_t ?_
        | ((with_reducible apply spB_cong); (focus (simp only [beq_self_eq_true, bne_self_eq_false, Bool.true_bne, Bool.false_bne, Bool.bne_true, Bool.bne_false, Bool.true_beq, Bool.false_beq, Bool.not_true, Bool.not_false, Bool.not_not, Int.reduceBEq, Int.reduceBNe, Int.reduceLE, Int.reduceLT, Int.reduceEq, decide_true, decide_false]; rfl)))
        | (with_reducible refine spB_dec ?_ ?_ <;> intro _ <;> (try (exfalso; first | contradiction | omega | (rename_i hz; refine hz ?_; simp; done) | (rename_i hz; simp at hz; done) | (simp only [LN] at *; omega))))
        | with_reducible first | refine Z.rowN_known hx ?_
        | ((with_reducible apply ixN_litp); (focus (exact rfl)); (focus ((try simp only [LN] at *) <;> omega)))
        | ((first | (with_reducible refine Z.callZ_mk ?_ (ck) ?_)); (focus ((repeat' (first | exact trivial | exact rfl | apply And.intro)); done)))
        | fail)
      all_goals (try (conv => whnf))
      all_goals try (show Nat.ble _ _ = true; rfl)
      all_goals try (exfalso; rename_i hz; cases hz; done)
      all_goals try (exfalso; (try simp only [LN] at *) <;> omega)
      all_goals first
        | ((first | (with_reducible apply Z.retF2)); (focus (exact rfl)); (repeat' (first | exact trivial | (with_reducible apply Z.frz_agg) | (with_reducible apply Z.fq_int) | (with_reducible apply Z.fq_bool) | (exact Z.frz_nil) | exact rfl | apply And.intro)); (all_goals (try exact (fun _ => none))); all_goals (first | (simp; done)))
        | fail
    · skip
      repeat' ((conv => whnf); first
        | ((with_reducible apply spB_cong); (focus (simp only [beq_self_eq_true, bne_self_eq_false, Bool.true_bne, Bool.false_bne, Bool.bne_true, Bool.bne_false, Bool.true_beq, Bool.false_beq, Bool.not_true, Bool.not_false, Bool.not_not, Int.reduceBEq, Int.reduceBNe, Int.reduceLE, Int.reduceLT, Int.reduceEq, decide_true, decide_false]; rfl)))
        | with_reducible first | refine spB_no (by decide) ?_
        | (with_reducible refine spB_dec ?_ ?_ <;> intro _ <;> (try (exfalso; first | contradiction | omega | (rename_i hz; refine hz ?_; simp; done) | (rename_i hz; simp at hz; done) | (simp only [LN] at *; omega))))
        | with_reducible first | refine Z.rowN_known hx ?_
        | ((with_reducible apply ixN_litp); (focus (exact rfl)); (focus ((try simp only [LN] at *) <;> omega)))
        | with_reducible refine wr_i64 (by first | omega | (simp only [LN] at *; omega)) ?_
        | ((first | (with_reducible refine Z.callZ_mk ?_ (ck) ?_)); (focus ((repeat' (first | exact trivial | exact rfl | apply And.intro)); done)))
        | fail)
      all_goals (try (conv => whnf))
      all_goals try (show Nat.ble _ _ = true; rfl)
      all_goals try (exfalso; rename_i hz; cases hz; done)
      all_goals try (exfalso; (try simp only [LN] at *) <;> omega)
      all_goals first
        | ((refine Z.rndK ((i + 1)) (fun s => [0]) rfl rfl rfl rfl ?_ ?_ ?_ ?_); (focus (repeat' (first | exact trivial | exact rfl | apply And.intro))); (focus (repeat' (first | exact trivial | (intro b hb; cases hb; rfl) | apply And.intro))); (focus ((refine ⟨by (try dsimp only); omega, ?_⟩; (try dsimp only); rw [take_snoc hx]; intro z hz; rcases List.mem_append.1 hz with h | h; exact HG z h; rw [List.mem_singleton.1 h]; exact hs))); ((try dsimp only); omega))
        | fail
  have hil : i = l.length := by omega
  subst hil
  rw [List.take_length] at HG
  exact absurd (List.all_eq_true.2 HG) (by rw [h1]; decide)
theorem wh_first (l : List Sn) (hA : ∀ x ∈ l, x.rows.length ≤ 1000 ∧ x.txs.length ≤ 1000) (hl : l.length ≤ 1000) (h0 : 0 < l.length) (h1 : ∀ x ∈ l, snapR x = true) (hf : ∀ a : Sn, l[0]? = some a → ¬ (a.w = (l.length : Int) ∧ a.ix = 0)) : Con Try.prog 14 [.one (.ro false 14 ((l : List Sn).map eSn))] (fun rx rK rt => rx = .tup [.agg [.v (.int .i64 zeroS.op), .v (.int .i64 zeroS.ix), .v (.int .i64 zeroS.w), .v (.bool zeroS.en), .ro true 4 (zeroS.rows.map Tab.eK), .v (.int .i64 zeroS.o0), .v (.int .i64 zeroS.o1), .v (.int .i64 zeroS.o2), .v (.int .i64 zeroS.o3), .v (.int .i64 zeroS.o4), .v (.int .i64 zeroS.o5), .v (.int .i64 zeroS.o6), .v (.int .i64 zeroS.o7), .ro true 3 (zeroS.txs.map eN)], .one (.v (.int .i64 281))] ∧ rK = [] ∧ rt = 0) := by
  refine Z.con_ofF tabOk 103 Try.f14 _ Try.func14 (by kernel_rfl) rfl rfl rfl rfl ?_
  repeat' ((conv => whnf); first
    | with_reducible first | refine spB_t ?_
    | fail)
  all_goals (try (conv => whnf))
  all_goals try (show Nat.ble _ _ = true; rfl)
  all_goals try (exfalso; rename_i hz; cases hz; done)
  all_goals try (exfalso; (try simp only [LN] at *) <;> omega)
  refine Z.loopK tabOk (fun zq : Nat => [(14, .val (.int .i64 (zq : Int)))]) (fun zq : Nat => ([] : Z.Kr)) (fun zq => zq ≤ l.length ∧ (∀ x ∈ l.take zq, snapR x = true)) (fun zq => l.length - zq) 0 1 [(0, _), (2, _), (12, _), (13, _)] ⟨rfl, rfl, rfl, rfl, trivial⟩ [(0, some _)] ⟨rfl, trivial⟩ ?_ ?_ rfl rfl ⟨Nat.zero_le _, (fun x h => nomatch h)⟩ ?_
  · repeat' (first | exact trivial | apply And.intro | exact ⟨_, rfl, Z.Imp.refl _⟩)
  · repeat' (first | exact trivial)
  rintro i HINV
  (try dsimp only at HINV); (try dsimp only)
  obtain ⟨HI, HG⟩ := HINV
  by_cases hi : i < l.length
  · obtain ⟨x, hx⟩ := getElem?_some' (xs := l) (i := i) hi
    have hxm := List.mem_of_getElem? hx
    have ck := scheck_con x (hA x hxm).1 (by have := (hA x hxm).2; omega)
    cases hs : snapR x
    all_goals rw [hs] at ck
    all_goals try simp only [cond_true, cond_false] at ck
    · exact absurd (h1 x hxm) (by rw [hs]; decide)
    · skip
      repeat' ((conv => whnf); first
        | ((with_reducible apply spB_cong); (focus (simp only [beq_self_eq_true, bne_self_eq_false, Bool.true_bne, Bool.false_bne, Bool.bne_true, Bool.bne_false, Bool.true_beq, Bool.false_beq, Bool.not_true, Bool.not_false, Bool.not_not, Int.reduceBEq, Int.reduceBNe, Int.reduceLE, Int.reduceLT, Int.reduceEq, decide_true, decide_false]; rfl)))
        | with_reducible first | refine spB_no (by decide) ?_
        | (with_reducible refine spB_dec ?_ ?_ <;> intro _ <;> (try (exfalso; first | contradiction | omega | (rename_i hz; refine hz ?_; simp; done) | (rename_i hz; simp at hz; done) | (simp only [LN] at *; omega))))
        | with_reducible first | refine Z.rowN_known hx ?_
        | ((with_reducible apply ixN_litp); (focus (exact rfl)); (focus ((try simp only [LN] at *) <;> omega)))
        | with_reducible refine wr_i64 (by first | omega | (simp only [LN] at *; omega)) ?_
        | ((first | (with_reducible refine Z.callZ_mk ?_ (ck) ?_)); (focus ((repeat' (first | exact trivial | exact rfl | apply And.intro)); done)))
        | fail)
      all_goals (try (conv => whnf))
      all_goals try (show Nat.ble _ _ = true; rfl)
      all_goals try (exfalso; rename_i hz; cases hz; done)
      all_goals try (exfalso; (try simp only [LN] at *) <;> omega)
      all_goals first
        | ((refine Z.rndK ((i + 1)) (fun s => [0]) rfl rfl rfl rfl ?_ ?_ ?_ ?_); (focus (repeat' (first | exact trivial | exact rfl | apply And.intro))); (focus (repeat' (first | exact trivial | (intro b hb; cases hb; rfl) | apply And.intro))); (focus ((refine ⟨by (try dsimp only); omega, ?_⟩; (try dsimp only); rw [take_snoc hx]; intro z hz; rcases List.mem_append.1 hz with h | h; exact HG z h; rw [List.mem_singleton.1 h]; exact hs))); ((try dsimp only); omega))
        | fail
  have hil : i = l.length := by omega
  subst hil
  rw [List.take_length] at HG
  obtain ⟨a, ha⟩ := getElem?_some' (xs := l) (i := 0) h0
  have hf : ¬ (a.w = (l.length : Int) ∧ a.ix = 0) := hf a ha
  by_cases hw : a.w = (l.length : Int)
  · skip
    repeat' ((conv => whnf); first
      | ((with_reducible apply spB_cong); (focus (simp only [beq_self_eq_true, bne_self_eq_false, Bool.true_bne, Bool.false_bne, Bool.bne_true, Bool.bne_false, Bool.true_beq, Bool.false_beq, Bool.not_true, Bool.not_false, Bool.not_not, Int.reduceBEq, Int.reduceBNe, Int.reduceLE, Int.reduceLT, Int.reduceEq, decide_true, decide_false]; rfl)))
      | with_reducible first | refine spB_no (by decide) ?_
      | (with_reducible refine spB_dec ?_ ?_ <;> intro _ <;> (try (exfalso; first | contradiction | omega | (rename_i hz; refine hz ?_; simp; done) | (rename_i hz; simp at hz; done) | (simp only [LN] at *; omega))))
      | (with_reducible refine spB_beq ?_ ?_ <;> intro _ <;> (try (exfalso; first | contradiction | omega | (rename_i hz; refine hz ?_; simp; done) | (rename_i hz; simp at hz; done) | (simp only [LN] at *; omega))))
      | (with_reducible refine spB_bne ?_ ?_ <;> intro _ <;> (try (exfalso; first | contradiction | omega | (rename_i hz; refine hz ?_; simp; done) | (rename_i hz; simp at hz; done) | (simp only [LN] at *; omega))))
      | with_reducible first | refine Z.rowN_known ha ?_ | refine Z.loopZ_unroll tabOk 1 ?_
      | ((with_reducible apply ixN_litp); (focus (exact rfl)); (focus ((try simp only [LN] at *) <;> omega)))
      | fail)
    all_goals (try (conv => whnf))
    all_goals try (show Nat.ble _ _ = true; rfl)
    all_goals try (exfalso; rename_i hz; cases hz; done)
    all_goals try (exfalso; (try simp only [LN] at *) <;> omega)
    all_goals first
      | ((first | (with_reducible apply Z.retF2)); (focus (exact rfl)); (repeat' (first | exact trivial | (with_reducible apply Z.frz_one) | (with_reducible apply Z.frz_agg) | (with_reducible apply Z.fq_int) | (with_reducible apply Z.fq_bool) | (exact Z.frz_nil) | exact rfl | apply And.intro)); (all_goals (try exact (fun _ => none))); all_goals (first | (simp; done)))
      | fail
  · skip
    repeat' ((conv => whnf); first
      | with_reducible first | refine spB_t ?_
      | ((with_reducible apply spB_cong); (focus (simp only [beq_self_eq_true, bne_self_eq_false, Bool.true_bne, Bool.false_bne, Bool.bne_true, Bool.bne_false, Bool.true_beq, Bool.false_beq, Bool.not_true, Bool.not_false, Bool.not_not, Int.reduceBEq, Int.reduceBNe, Int.reduceLE, Int.reduceLT, Int.reduceEq, decide_true, decide_false]; rfl)))
      | with_reducible first | refine spB_no (by decide) ?_
      | (with_reducible refine spB_dec ?_ ?_ <;> intro _ <;> (try (exfalso; first | contradiction | omega | (rename_i hz; refine hz ?_; simp; done) | (rename_i hz; simp at hz; done) | (simp only [LN] at *; omega))))
      | (with_reducible refine spB_beq ?_ ?_ <;> intro _ <;> (try (exfalso; first | contradiction | omega | (rename_i hz; refine hz ?_; simp; done) | (rename_i hz; simp at hz; done) | (simp only [LN] at *; omega))))
      | (with_reducible refine spB_bne ?_ ?_ <;> intro _ <;> (try (exfalso; first | contradiction | omega | (rename_i hz; refine hz ?_; simp; done) | (rename_i hz; simp at hz; done) | (simp only [LN] at *; omega))))
      | with_reducible first | refine Z.rowN_known ha ?_ | refine Z.loopZ_unroll tabOk 1 ?_
      | ((with_reducible apply ixN_litp); (focus (exact rfl)); (focus ((try simp only [LN] at *) <;> omega)))
      | fail)
    all_goals (try (conv => whnf))
    all_goals try (show Nat.ble _ _ = true; rfl)
    all_goals try (exfalso; rename_i hz; cases hz; done)
    all_goals try (exfalso; (try simp only [LN] at *) <;> omega)
    all_goals first
      | ((first | (with_reducible apply Z.retF2)); (focus (exact rfl)); (repeat' (first | exact trivial | (with_reducible apply Z.frz_one) | (with_reducible apply Z.frz_agg) | (with_reducible apply Z.fq_int) | (with_reducible apply Z.fq_bool) | (exact Z.frz_nil) | exact rfl | apply And.intro)); (all_goals (try exact (fun _ => none))); all_goals (first | (simp; done)))
      | fail
end Go.Proofs.Ytopieffkpdlpbaa
namespace Go.Proofs.Ytopieffkpdlpbaa
open Go Go.RowKit Wx
set_option linter.unusedVariables false
set_option linter.unusedSimpArgs false
set_option maxHeartbeats 4000000
theorem wh_1 (a : Sn) (hra : a.rows.length ≤ 1000) (hta : a.txs.length ≤ 1000) (hsa : snapR a = true) (hwa : a.w = 1) (hia : a.ix = 0) (hn : namesR [a.txs].flatten = true)  : Con Try.prog 14 [.one (.ro false 14 (([a] : List Sn).map eSn))] (fun rx rK rt => rx = .tup [.agg [.v (.int .i64 a.op), .v (.int .i64 0), .v (.int .i64 1), .v (.bool (a.en)), .ro true 4 ((gath [a.rows]).map Tab.eK), .v (.int .i64 a.o0), .v (.int .i64 a.o1), .v (.int .i64 a.o2), .v (.int .i64 a.o3), .v (.int .i64 a.o4), .v (.int .i64 a.o5), .v (.int .i64 a.o6), .v (.int .i64 a.o7), .ro true 3 ([a.txs].flatten.map eN)], .one (.v (.int .i64 0))] ∧ rK = [] ∧ rt = 0) := by
  refine Z.con_ofF tabOk 103 Try.f14 _ Try.func14 (by kernel_rfl) rfl rfl rfl rfl ?_
  obtain ⟨aop, aix, aw, aen, arows, ao0, ao1, ao2, ao3, ao4, ao5, ao6, ao7, atxs⟩ := a
  dsimp only at *
  subst hwa hia
  have cka := scheck_con (⟨aop, 0, 1, aen, arows, ao0, ao1, ao2, ao3, ao4, ao5, ao6, ao7, atxs⟩ : Sn) hra (by show atxs.length ≤ _; omega)
  rw [hsa] at cka
  try simp only [cond_true] at cka
  try dsimp only at cka
  have jj0 := jnd_0_1 ao0 ao1 ao2 ao3 ao4 ao5 ao6 ao7 0 0 0 0 0 0 0 0
  have cg := gathered_con [arows] (by simp) (by intro r hr; simp at hr; rcases hr with rfl <;> assumption)
  have cj := joinedn_con [atxs] (by simp) (by simp; omega)
  have cn := namesok_con [atxs].flatten (by simp; omega)
  rw [hn] at cn
  generalize hQ : [atxs].flatten = Q at *
  generalize hG : gath [arows] = GG at *
  repeat' ((conv => whnf); first
    | with_reducible first | refine spB_t ?_
    | ((with_reducible apply spB_cong); (focus (simp only [beq_self_eq_true, bne_self_eq_false, Bool.true_bne, Bool.false_bne, Bool.bne_true, Bool.bne_false, Bool.true_beq, Bool.false_beq, Bool.not_true, Bool.not_false, Bool.not_not, Int.reduceBEq, Int.reduceBNe, Int.reduceLE, Int.reduceLT, Int.reduceEq, decide_true, decide_false]; rfl)))
    | with_reducible first | refine spB_no (by decide) ?_
    | (with_reducible refine spB_dec ?_ ?_ <;> intro _ <;> (try (exfalso; first | contradiction | omega | (rename_i hz; refine hz ?_; simp; done) | (rename_i hz; simp at hz; done) | (simp only [LN] at *; omega))))
    | (with_reducible refine spB_beq ?_ ?_ <;> intro _ <;> (try (exfalso; first | contradiction | omega | (rename_i hz; refine hz ?_; simp; done) | (rename_i hz; simp at hz; done) | (simp only [LN] at *; omega))))
    | (with_reducible refine spB_bne ?_ ?_ <;> intro _ <;> (try (exfalso; first | contradiction | omega | (rename_i hz; refine hz ?_; simp; done) | (rename_i hz; simp at hz; done) | (simp only [LN] at *; omega))))
    | with_reducible first | refine Z.loopZ_unroll tabOk 2 ?_
    | ((with_reducible refine posE_pos ?_ ?_); (focus ((try simp only [LN] at *) <;> omega)))
    | ((with_reducible apply rowN_mk); (focus rfl))
    | ((with_reducible apply ixN_lit); (focus (exact rfl)); (focus (exact rfl)))
    | ((with_reducible refine apdN.mk ?_ ?_ ?_ ?_ ?_ ?_); (focus (first | rfl)); (focus (first | exact one_all (by rfl))); (focus ((try simp only [LN] at *) <;> omega)); (focus ((try simp only [LN] at *) <;> omega)); (focus ((try simp only [LN] at *) <;> omega)))
    | with_reducible refine wr_i64 (by first | omega | (simp only [LN] at *; omega)) ?_
    | ((first | (with_reducible refine Z.callZ_mk ?_ (cka) ?_) | (with_reducible refine Z.callZ_mk ?_ (jj0) ?_) | (with_reducible refine Z.callZ_mk ?_ (cg) ?_) | (with_reducible refine Z.callZ_mk ?_ (cj) ?_) | (with_reducible refine Z.callZ_mk ?_ (cn) ?_)); (focus ((repeat' (first | exact trivial | exact ⟨_, _, _, rfl, (by first | rfl | exact Z.kb_some rfl), rfl⟩ | exact rfl | apply And.intro)); done)))
    | with_reducible first | refine Z.drawZ_rule tabOk mixOk ?_ | refine Z.apZ_mk (by kernel_rfl) ?_
    | fail)
  all_goals (try (conv => whnf))
  all_goals try (show Nat.ble _ _ = true; rfl)
  all_goals try (exfalso; rename_i hz; cases hz; done)
  all_goals try (exfalso; (try simp only [LN] at *) <;> omega)
  all_goals first
    | ((first | (with_reducible apply Z.retF2)); (focus (exact rfl)); (repeat' (first | exact trivial | (with_reducible apply Z.frz_one) | (with_reducible apply Z.frz_agg) | (with_reducible apply Z.fq_int) | exact rfl | apply And.intro)); (all_goals (try exact (fun _ => none))); all_goals (first | (simp_all; done)))
    | fail
theorem wh_1_names (a : Sn) (hra : a.rows.length ≤ 1000) (hta : a.txs.length ≤ 1000) (hsa : snapR a = true) (hwa : a.w = 1) (hia : a.ix = 0) (hn : namesR [a.txs].flatten = false)  : Con Try.prog 14 [.one (.ro false 14 (([a] : List Sn).map eSn))] (fun rx rK rt => rx = .tup [.agg [.v (.int .i64 zeroS.op), .v (.int .i64 zeroS.ix), .v (.int .i64 zeroS.w), .v (.bool zeroS.en), .ro true 4 (zeroS.rows.map Tab.eK), .v (.int .i64 zeroS.o0), .v (.int .i64 zeroS.o1), .v (.int .i64 zeroS.o2), .v (.int .i64 zeroS.o3), .v (.int .i64 zeroS.o4), .v (.int .i64 zeroS.o5), .v (.int .i64 zeroS.o6), .v (.int .i64 zeroS.o7), .ro true 3 (zeroS.txs.map eN)], .one (.v (.int .i64 281))] ∧ rK = [] ∧ rt = 0) := by
  refine Z.con_ofF tabOk 103 Try.f14 _ Try.func14 (by kernel_rfl) rfl rfl rfl rfl ?_
  obtain ⟨aop, aix, aw, aen, arows, ao0, ao1, ao2, ao3, ao4, ao5, ao6, ao7, atxs⟩ := a
  dsimp only at *
  subst hwa hia
  have cka := scheck_con (⟨aop, 0, 1, aen, arows, ao0, ao1, ao2, ao3, ao4, ao5, ao6, ao7, atxs⟩ : Sn) hra (by show atxs.length ≤ _; omega)
  rw [hsa] at cka
  try simp only [cond_true] at cka
  try dsimp only at cka
  have jj0 := jnd_0_1 ao0 ao1 ao2 ao3 ao4 ao5 ao6 ao7 0 0 0 0 0 0 0 0
  have cg := gathered_con [arows] (by simp) (by intro r hr; simp at hr; rcases hr with rfl <;> assumption)
  have cj := joinedn_con [atxs] (by simp) (by simp; omega)
  have cn := namesok_con [atxs].flatten (by simp; omega)
  rw [hn] at cn
  generalize hQ : [atxs].flatten = Q at *
  generalize hG : gath [arows] = GG at *
  repeat' ((conv => whnf); first
    | with_reducible first | refine spB_t ?_
    | ((with_reducible apply spB_cong); (focus (simp only [beq_self_eq_true, bne_self_eq_false, Bool.true_bne, Bool.false_bne, Bool.bne_true, Bool.bne_false, Bool.true_beq, Bool.false_beq, Bool.not_true, Bool.not_false, Bool.not_not, Int.reduceBEq, Int.reduceBNe, Int.reduceLE, Int.reduceLT, Int.reduceEq, decide_true, decide_false]; rfl)))
    | with_reducible first | refine spB_no (by decide) ?_
    | (with_reducible refine spB_dec ?_ ?_ <;> intro _ <;> (try (exfalso; first | contradiction | omega | (rename_i hz; refine hz ?_; simp; done) | (rename_i hz; simp at hz; done) | (simp only [LN] at *; omega))))
    | (with_reducible refine spB_beq ?_ ?_ <;> intro _ <;> (try (exfalso; first | contradiction | omega | (rename_i hz; refine hz ?_; simp; done) | (rename_i hz; simp at hz; done) | (simp only [LN] at *; omega))))
    | (with_reducible refine spB_bne ?_ ?_ <;> intro _ <;> (try (exfalso; first | contradiction | omega | (rename_i hz; refine hz ?_; simp; done) | (rename_i hz; simp at hz; done) | (simp only [LN] at *; omega))))
    | with_reducible first | refine Z.loopZ_unroll tabOk 2 ?_
    | ((with_reducible refine posE_pos ?_ ?_); (focus ((try simp only [LN] at *) <;> omega)))
    | ((with_reducible apply rowN_mk); (focus rfl))
    | ((with_reducible apply ixN_lit); (focus (exact rfl)); (focus (exact rfl)))
    | ((with_reducible refine apdN.mk ?_ ?_ ?_ ?_ ?_ ?_); (focus (first | rfl)); (focus (first | exact one_all (by rfl))); (focus ((try simp only [LN] at *) <;> omega)); (focus ((try simp only [LN] at *) <;> omega)); (focus ((try simp only [LN] at *) <;> omega)))
    | with_reducible refine wr_i64 (by first | omega | (simp only [LN] at *; omega)) ?_
    | ((first | (with_reducible refine Z.callZ_mk ?_ (cka) ?_) | (with_reducible refine Z.callZ_mk ?_ (jj0) ?_) | (with_reducible refine Z.callZ_mk ?_ (cg) ?_) | (with_reducible refine Z.callZ_mk ?_ (cj) ?_) | (with_reducible refine Z.callZ_mk ?_ (cn) ?_)); (focus ((repeat' (first | exact trivial | exact ⟨_, _, _, rfl, (by first | rfl | exact Z.kb_some rfl), rfl⟩ | exact rfl | apply And.intro)); done)))
    | with_reducible first | refine Z.drawZ_rule tabOk mixOk ?_ | refine Z.apZ_mk (by kernel_rfl) ?_
    | fail)
  all_goals (try (conv => whnf))
  all_goals try (show Nat.ble _ _ = true; rfl)
  all_goals try (exfalso; rename_i hz; cases hz; done)
  all_goals try (exfalso; (try simp only [LN] at *) <;> omega)
  all_goals first
    | ((first | (with_reducible apply Z.retF2)); (focus (exact rfl)); (repeat' (first | exact trivial | (with_reducible apply Z.frz_one) | (with_reducible apply Z.frz_agg) | (with_reducible apply Z.fq_int) | (with_reducible apply Z.fq_bool) | (exact Z.frz_nil) | exact rfl | apply And.intro)); (all_goals (try exact (fun _ => none))); all_goals (first | (simp_all; done)))
    | fail
end Go.Proofs.Ytopieffkpdlpbaa
namespace Go.Proofs.Ytopieffkpdlpbaa
open Go Go.RowKit Wx
set_option linter.unusedVariables false
set_option linter.unusedSimpArgs false
set_option maxHeartbeats 4000000
theorem wh_2 (a b : Sn) (hra : a.rows.length ≤ 1000) (hta : a.txs.length ≤ 1000) (hsa : snapR a = true) (hwa : a.w = 2) (hia : a.ix = 0) (hrb : b.rows.length ≤ 1000) (htb : b.txs.length ≤ 1000) (hsb : snapR b = true) (hwb : b.w = 2) (hib : b.ix = 1) (hob : a.op = b.op) (hn : namesR [a.txs, b.txs].flatten = true)  : Con Try.prog 14 [.one (.ro false 14 (([a, b] : List Sn).map eSn))] (fun rx rK rt => rx = .tup [.agg [.v (.int .i64 a.op), .v (.int .i64 0), .v (.int .i64 1), .v (.bool (a.en && b.en)), .ro true 4 ((gath [a.rows, b.rows]).map Tab.eK), .v (.int .i64 a.o0), .v (.int .i64 a.o1), .v (.int .i64 a.o2), .v (.int .i64 a.o3), .v (.int .i64 b.o4), .v (.int .i64 b.o5), .v (.int .i64 b.o6), .v (.int .i64 b.o7), .ro true 3 ([a.txs, b.txs].flatten.map eN)], .one (.v (.int .i64 0))] ∧ rK = [] ∧ rt = 0) := by
  refine Z.con_ofF tabOk 103 Try.f14 _ Try.func14 (by kernel_rfl) rfl rfl rfl rfl ?_
  obtain ⟨aop, aix, aw, aen, arows, ao0, ao1, ao2, ao3, ao4, ao5, ao6, ao7, atxs⟩ := a
  obtain ⟨bop, bix, bw, ben, brows, bo0, bo1, bo2, bo3, bo4, bo5, bo6, bo7, btxs⟩ := b
  dsimp only at *
  subst hwa hia
  subst hwb hib hob
  have cka := scheck_con (⟨aop, 0, 2, aen, arows, ao0, ao1, ao2, ao3, ao4, ao5, ao6, ao7, atxs⟩ : Sn) hra (by show atxs.length ≤ _; omega)
  have ckb := scheck_con (⟨aop, 1, 2, ben, brows, bo0, bo1, bo2, bo3, bo4, bo5, bo6, bo7, btxs⟩ : Sn) hrb (by show btxs.length ≤ _; omega)
  rw [hsa] at cka
  try simp only [cond_true] at cka
  try dsimp only at cka
  rw [hsb] at ckb
  try simp only [cond_true] at ckb
  try dsimp only at ckb
  have jj0 := jnd_0_2 ao0 ao1 ao2 ao3 ao4 ao5 ao6 ao7 0 0 0 0 0 0 0 0
  have jj1 := jnd_1_2 bo0 bo1 bo2 bo3 bo4 bo5 bo6 bo7 ao0 ao1 ao2 ao3 0 0 0 0
  have cg := gathered_con [arows, brows] (by simp) (by intro r hr; simp at hr; rcases hr with rfl | rfl <;> assumption)
  have cj := joinedn_con [atxs, btxs] (by simp) (by simp; omega)
  have cn := namesok_con [atxs, btxs].flatten (by simp; omega)
  rw [hn] at cn
  generalize hQ : [atxs, btxs].flatten = Q at *
  generalize hG : gath [arows, brows] = GG at *
  repeat' ((conv => whnf); first
    | with_reducible first | refine spB_t ?_
    | ((with_reducible apply spB_cong); (focus (simp only [beq_self_eq_true, bne_self_eq_false, Bool.true_bne, Bool.false_bne, Bool.bne_true, Bool.bne_false, Bool.true_beq, Bool.false_beq, Bool.not_true, Bool.not_false, Bool.not_not, Int.reduceBEq, Int.reduceBNe, Int.reduceLE, Int.reduceLT, Int.reduceEq, decide_true, decide_false]; rfl)))
    | with_reducible first | refine spB_yes (by decide) ?_ | refine spB_no (by decide) ?_ | refine spB_f ?_ | refine spB_not ?_ | refine spB_yes (by assumption) ?_ | refine spB_no (by assumption) ?_
    | (with_reducible refine spB_dec ?_ ?_ <;> intro _ <;> (try (exfalso; first | contradiction | omega | (rename_i hz; refine hz ?_; simp; done) | (rename_i hz; simp at hz; done) | (simp only [LN] at *; omega))))
    | (with_reducible refine spB_beq ?_ ?_ <;> intro _ <;> (try (exfalso; first | contradiction | omega | (rename_i hz; refine hz ?_; simp; done) | (rename_i hz; simp at hz; done) | (simp only [LN] at *; omega))))
    | (with_reducible refine spB_bne ?_ ?_ <;> intro _ <;> (try (exfalso; first | contradiction | omega | (rename_i hz; refine hz ?_; simp; done) | (rename_i hz; simp at hz; done) | (simp only [LN] at *; omega))))
    | (with_reducible refine spB_mk ?_ ?_ <;> intro _ <;> (try (exfalso; first | contradiction | omega | (rename_i hz; refine hz ?_; simp; done) | (rename_i hz; simp at hz; done) | (simp only [LN] at *; omega))))
    | with_reducible first | refine Z.loopZ_unroll tabOk 3 ?_
    | ((with_reducible refine posE_pos ?_ ?_); (focus ((try simp only [LN] at *) <;> omega)))
    | ((with_reducible refine posE_nil ?_ ?_); (focus rfl))
    | ((with_reducible apply rowN_mk); (focus rfl))
    | ((with_reducible apply ixN_lit); (focus (exact rfl)); (focus (exact rfl)))
    | ((with_reducible apply ixN_litp); (focus (exact rfl)); (focus ((try simp only [LN] at *) <;> omega)))
    | ((with_reducible refine eqN_mk2 ?_ ?_); (focus rfl))
    | ((with_reducible refine apdE_r ?_); (with_reducible refine aprN.mk ⟨_, rfl, ?_⟩ ?_ ?_ ?_ ?_); (focus ((try simp only [LN] at *) <;> omega)); (focus (first | rfl | (simp; done) | ((try simp only [LN] at *) <;> omega))); (focus (first | exact one_all (by rfl) | exact one_map (fun _ => rfl) | exact one_map2 (fun _ => rfl) | exact one_drop (fun _ => rfl))); (focus ((try simp only [LN] at *) <;> omega)))
    | ((with_reducible refine apdE_k ?_); (with_reducible refine apkN.mk ⟨_, rfl, ?_⟩ ?_); (focus ((try simp only [LN] at *) <;> omega)))
    | with_reducible first | refine apdE_n ?_
    | ((with_reducible refine apdN.mk ?_ ?_ ?_ ?_ ?_ ?_); (focus (first | rfl | (simp; done))); (focus (first | exact one_all (by rfl) | exact one_map (fun _ => rfl) | exact one_map2 (fun _ => rfl))); (focus ((try simp only [LN] at *) <;> omega)); (focus ((try simp only [LN] at *) <;> omega)); (focus ((try simp only [LN] at *) <;> omega)))
    | with_reducible refine wr_i64 (by first | omega | (simp only [LN] at *; omega)) ?_
    | with_reducible refine wr_u64 (by omega) ?_
    | with_reducible refine wr_u8 (by omega) ?_
    | with_reducible refine wr_u32 (by omega) ?_
    | with_reducible first | refine wr_mk _ rfl ?_
    | ((with_reducible refine ixN_nat ?_ ?_); (focus ((try simp only [LN] at *) <;> omega)))
    | ((with_reducible refine rowN_map ?_ ?_); (focus ((try simp only [LN] at *) <;> omega)); intro x hx)
    | ((with_reducible refine posE_nil (by rfl) ?_))
    | ((with_reducible refine posE_pos (by decide) ?_))
    | with_reducible refine eqN_dec (by omega) ?_
    | with_reducible first | refine apN_mk (by kernel_rfl) ?_
    | ((first | (with_reducible refine Z.conZ_mz ?_ (cg) ?_) | (with_reducible refine Z.callZ_mk ?_ (cg) ?_) | (with_reducible refine Z.conZ_mz ?_ (cj) ?_) | (with_reducible refine Z.callZ_mk ?_ (cj) ?_) | (with_reducible refine Z.conZ_mz ?_ (cn) ?_) | (with_reducible refine Z.callZ_mk ?_ (cn) ?_)); (focus ((repeat' (first | exact trivial | exact ⟨_, _, _, rfl, (by first | rfl | exact Z.kb_some rfl), rfl⟩ | exact rfl | exact Z.low_nil | exact Z.low_nil2 | exact low_osl (fun _ => rfl) | (refine Z.low_osln ?_ (fun _ => rfl); (simp only [List.length_map]; done)) | exact low_oslr (fun _ => rfl) | exact Z.low_gslm (by first | rfl | exact Z.kb_some rfl) (fun _ => rfl) | exact .inl rfl | exact .inr ⟨_, rfl⟩ | apply And.intro)); done)))
    | ((first | (with_reducible refine Z.conZ_mz ?_ (cka) ?_) | (with_reducible refine Z.callZ_mk ?_ (cka) ?_)); (focus ((repeat' (first | exact trivial | exact ⟨_, _, _, rfl, (by first | rfl | exact Z.kb_some rfl), rfl⟩ | exact rfl | exact Z.low_nil | exact Z.low_nil2 | exact low_osl (fun _ => rfl) | (refine Z.low_osln ?_ (fun _ => rfl); (simp only [List.length_map]; done)) | exact low_oslr (fun _ => rfl) | exact Z.low_gslm (by first | rfl | exact Z.kb_some rfl) (fun _ => rfl) | exact .inl rfl | exact .inr ⟨_, rfl⟩ | apply And.intro)); done)))
    | ((first | (with_reducible refine Z.conZ_mz ?_ (ckb) ?_) | (with_reducible refine Z.callZ_mk ?_ (ckb) ?_)); (focus ((repeat' (first | exact trivial | exact ⟨_, _, _, rfl, (by first | rfl | exact Z.kb_some rfl), rfl⟩ | exact rfl | exact Z.low_nil | exact Z.low_nil2 | exact low_osl (fun _ => rfl) | (refine Z.low_osln ?_ (fun _ => rfl); (simp only [List.length_map]; done)) | exact low_oslr (fun _ => rfl) | exact Z.low_gslm (by first | rfl | exact Z.kb_some rfl) (fun _ => rfl) | exact .inl rfl | exact .inr ⟨_, rfl⟩ | apply And.intro)); done)))
    | ((first | (with_reducible refine Z.conZ_mz ?_ (jj0) ?_) | (with_reducible refine Z.callZ_mk ?_ (jj0) ?_)); (focus ((repeat' (first | exact trivial | exact ⟨_, _, _, rfl, (by first | rfl | exact Z.kb_some rfl), rfl⟩ | exact rfl | exact Z.low_nil | exact Z.low_nil2 | exact low_osl (fun _ => rfl) | (refine Z.low_osln ?_ (fun _ => rfl); (simp only [List.length_map]; done)) | exact low_oslr (fun _ => rfl) | exact Z.low_gslm (by first | rfl | exact Z.kb_some rfl) (fun _ => rfl) | exact .inl rfl | exact .inr ⟨_, rfl⟩ | apply And.intro)); done)))
    | ((first | (with_reducible refine Z.conZ_mz ?_ (jj1) ?_) | (with_reducible refine Z.callZ_mk ?_ (jj1) ?_)); (focus ((repeat' (first | exact trivial | exact ⟨_, _, _, rfl, (by first | rfl | exact Z.kb_some rfl), rfl⟩ | exact rfl | exact Z.low_nil | exact Z.low_nil2 | exact low_osl (fun _ => rfl) | (refine Z.low_osln ?_ (fun _ => rfl); (simp only [List.length_map]; done)) | exact low_oslr (fun _ => rfl) | exact Z.low_gslm (by first | rfl | exact Z.kb_some rfl) (fun _ => rfl) | exact .inl rfl | exact .inr ⟨_, rfl⟩ | apply And.intro)); done)))
    | ((with_reducible refine eqN_mk2 ?_ ?_); (focus (exact Z.kb_some rfl)))
    | ((with_reducible apply ex_and); exact rfl)
    | with_reducible first | refine Z.drawZ_rule tabOk mixOk ?_ | refine Z.apZ_mk (by kernel_rfl) ?_
    | ((with_reducible refine Z.ConZ.red ?_); (try subst hlb); (apply Z.conZ_all); (focus (repeat (first | exact Z.FK.nil | (apply Z.FK.keep; exact rfl)))); (focus rfl); (focus rfl); (focus (repeat (first | exact trivial | (refine ⟨(fun o ho => (by first | (cases ho; rfl) | (cases ho; exact Z.inL_map fun _ => rfl) | (cases ho; exact Z.inL_mapr fun _ => rfl) | exact Z.inL_gB ho fun _ => rfl)), ?_⟩)))))
    | ((refine ⟨rfl, ?_, rfl⟩); (focus (repeat (first | exact Z.DK.nil | apply Z.DK.cons))))
    | (focus (exact (rfl : Nat.ble _ _ = true))))
  all_goals (try (conv => whnf))
  all_goals try (show Nat.ble _ _ = true; rfl)
  all_goals try (exfalso; rename_i hz; cases hz; done)
  all_goals try (exfalso; (try simp only [LN] at *) <;> omega)
  all_goals first
    | ((first | (with_reducible apply Z.retF1) | (with_reducible apply Z.retF2) | (with_reducible apply Z.retF0)); (focus (exact rfl)); (repeat' (first | exact trivial | (with_reducible apply Z.frz_one) | (with_reducible apply Z.frz_agg) | (with_reducible apply Z.fq_int) | (with_reducible apply Z.fq_bool) | (exact Z.frz_nil) | (exact Z.frz_osl0 rfl rfl rfl) | (with_reducible apply Z.fq_nil) | (with_reducible apply Z.fq_ro) | ((with_reducible apply Z.fq_gsl); (focus (first | rfl | exact Z.isB_map _ | exact Z.gB_snoc.symm)); (focus (exact fun _ => rfl))) | ((with_reducible apply Z.fq_osl); (focus (exact rfl)); (focus (first | exact rfl | (simp only [List.length_map, Nat.zero_add]; done) | ((try simp only [LN] at *) <;> omega))); (focus (exact fun _ => rfl))) | ((with_reducible apply Z.fq_src); (focus (exact rfl)); (focus (first | exact rfl | (simp only [List.length_map, Nat.zero_add]; done) | ((try simp only [LN] at *) <;> omega))); (focus (exact fun _ => rfl))) | exact rfl | ((apply Z.fq_osl); (focus (exact rfl)); (focus (first | exact rfl | (simp only [List.length_map, Nat.zero_add]; done) | ((try simp only [LN] at *) <;> omega))); (focus (exact fun _ => rfl))) | ((apply Z.fq_src); (focus (exact rfl)); (focus (first | exact rfl | (simp only [List.length_map, Nat.zero_add]; done) | ((try simp only [LN] at *) <;> omega))); (focus (exact fun _ => rfl))) | (apply Z.fq_ro) | (apply Z.fq_int) | (apply Z.fq_bool) | apply And.intro)); (all_goals (try exact (fun _ => none))); all_goals (first | rfl | (simp; done) | (cases aen <;> cases ben <;> first | rfl | contradiction) | (fail)))
    | (exfalso; rename_i hz; cases hz; done)
    | (exfalso; (try simp only [LN] at *) <;> omega)
    | (exfalso; exact hf ⟨by omega, by omega, by omega⟩)
    | (exfalso; omega)
    | (fail)
theorem wh_2_names (a b : Sn) (hra : a.rows.length ≤ 1000) (hta : a.txs.length ≤ 1000) (hsa : snapR a = true) (hwa : a.w = 2) (hia : a.ix = 0) (hrb : b.rows.length ≤ 1000) (htb : b.txs.length ≤ 1000) (hsb : snapR b = true) (hwb : b.w = 2) (hib : b.ix = 1) (hob : a.op = b.op) (hn : namesR [a.txs, b.txs].flatten = false)  : Con Try.prog 14 [.one (.ro false 14 (([a, b] : List Sn).map eSn))] (fun rx rK rt => rx = .tup [.agg [.v (.int .i64 zeroS.op), .v (.int .i64 zeroS.ix), .v (.int .i64 zeroS.w), .v (.bool zeroS.en), .ro true 4 (zeroS.rows.map Tab.eK), .v (.int .i64 zeroS.o0), .v (.int .i64 zeroS.o1), .v (.int .i64 zeroS.o2), .v (.int .i64 zeroS.o3), .v (.int .i64 zeroS.o4), .v (.int .i64 zeroS.o5), .v (.int .i64 zeroS.o6), .v (.int .i64 zeroS.o7), .ro true 3 (zeroS.txs.map eN)], .one (.v (.int .i64 281))] ∧ rK = [] ∧ rt = 0) := by
  refine Z.con_ofF tabOk 103 Try.f14 _ Try.func14 (by kernel_rfl) rfl rfl rfl rfl ?_
  obtain ⟨aop, aix, aw, aen, arows, ao0, ao1, ao2, ao3, ao4, ao5, ao6, ao7, atxs⟩ := a
  obtain ⟨bop, bix, bw, ben, brows, bo0, bo1, bo2, bo3, bo4, bo5, bo6, bo7, btxs⟩ := b
  dsimp only at *
  subst hwa hia
  subst hwb hib hob
  have cka := scheck_con (⟨aop, 0, 2, aen, arows, ao0, ao1, ao2, ao3, ao4, ao5, ao6, ao7, atxs⟩ : Sn) hra (by show atxs.length ≤ _; omega)
  have ckb := scheck_con (⟨aop, 1, 2, ben, brows, bo0, bo1, bo2, bo3, bo4, bo5, bo6, bo7, btxs⟩ : Sn) hrb (by show btxs.length ≤ _; omega)
  rw [hsa] at cka
  try simp only [cond_true] at cka
  try dsimp only at cka
  rw [hsb] at ckb
  try simp only [cond_true] at ckb
  try dsimp only at ckb
  have jj0 := jnd_0_2 ao0 ao1 ao2 ao3 ao4 ao5 ao6 ao7 0 0 0 0 0 0 0 0
  have jj1 := jnd_1_2 bo0 bo1 bo2 bo3 bo4 bo5 bo6 bo7 ao0 ao1 ao2 ao3 0 0 0 0
  have cg := gathered_con [arows, brows] (by simp) (by intro r hr; simp at hr; rcases hr with rfl | rfl <;> assumption)
  have cj := joinedn_con [atxs, btxs] (by simp) (by simp; omega)
  have cn := namesok_con [atxs, btxs].flatten (by simp; omega)
  rw [hn] at cn
  generalize hQ : [atxs, btxs].flatten = Q at *
  generalize hG : gath [arows, brows] = GG at *
  repeat' ((conv => whnf); first
    | with_reducible first | refine spB_t ?_
    | ((with_reducible apply spB_cong); (focus (simp only [beq_self_eq_true, bne_self_eq_false, Bool.true_bne, Bool.false_bne, Bool.bne_true, Bool.bne_false, Bool.true_beq, Bool.false_beq, Bool.not_true, Bool.not_false, Bool.not_not, Int.reduceBEq, Int.reduceBNe, Int.reduceLE, Int.reduceLT, Int.reduceEq, decide_true, decide_false]; rfl)))
    | with_reducible first | refine spB_yes (by decide) ?_ | refine spB_no (by decide) ?_ | refine spB_f ?_ | refine spB_not ?_ | refine spB_yes (by assumption) ?_ | refine spB_no (by assumption) ?_
    | (with_reducible refine spB_dec ?_ ?_ <;> intro _ <;> (try (exfalso; first | contradiction | omega | (rename_i hz; refine hz ?_; simp; done) | (rename_i hz; simp at hz; done) | (simp only [LN] at *; omega))))
    | (with_reducible refine spB_beq ?_ ?_ <;> intro _ <;> (try (exfalso; first | contradiction | omega | (rename_i hz; refine hz ?_; simp; done) | (rename_i hz; simp at hz; done) | (simp only [LN] at *; omega))))
    | (with_reducible refine spB_bne ?_ ?_ <;> intro _ <;> (try (exfalso; first | contradiction | omega | (rename_i hz; refine hz ?_; simp; done) | (rename_i hz; simp at hz; done) | (simp only [LN] at *; omega))))
    | (with_reducible refine spB_mk ?_ ?_ <;> intro _ <;> (try (exfalso; first | contradiction | omega | (rename_i hz; refine hz ?_; simp; done) | (rename_i hz; simp at hz; done) | (simp only [LN] at *; omega))))
    | with_reducible first | refine Z.loopZ_unroll tabOk 3 ?_
    | ((with_reducible refine posE_pos ?_ ?_); (focus ((try simp only [LN] at *) <;> omega)))
    | ((with_reducible refine posE_nil ?_ ?_); (focus rfl))
    | ((with_reducible apply rowN_mk); (focus rfl))
    | ((with_reducible apply ixN_lit); (focus (exact rfl)); (focus (exact rfl)))
    | ((with_reducible apply ixN_litp); (focus (exact rfl)); (focus ((try simp only [LN] at *) <;> omega)))
    | ((with_reducible refine eqN_mk2 ?_ ?_); (focus rfl))
    | ((with_reducible refine apdE_r ?_); (with_reducible refine aprN.mk ⟨_, rfl, ?_⟩ ?_ ?_ ?_ ?_); (focus ((try simp only [LN] at *) <;> omega)); (focus (first | rfl | (simp; done) | ((try simp only [LN] at *) <;> omega))); (focus (first | exact one_all (by rfl) | exact one_map (fun _ => rfl) | exact one_map2 (fun _ => rfl) | exact one_drop (fun _ => rfl))); (focus ((try simp only [LN] at *) <;> omega)))
    | ((with_reducible refine apdE_k ?_); (with_reducible refine apkN.mk ⟨_, rfl, ?_⟩ ?_); (focus ((try simp only [LN] at *) <;> omega)))
    | with_reducible first | refine apdE_n ?_
    | ((with_reducible refine apdN.mk ?_ ?_ ?_ ?_ ?_ ?_); (focus (first | rfl | (simp; done))); (focus (first | exact one_all (by rfl) | exact one_map (fun _ => rfl) | exact one_map2 (fun _ => rfl))); (focus ((try simp only [LN] at *) <;> omega)); (focus ((try simp only [LN] at *) <;> omega)); (focus ((try simp only [LN] at *) <;> omega)))
    | with_reducible refine wr_i64 (by first | omega | (simp only [LN] at *; omega)) ?_
    | with_reducible refine wr_u64 (by omega) ?_
    | with_reducible refine wr_u8 (by omega) ?_
    | with_reducible refine wr_u32 (by omega) ?_
    | with_reducible first | refine wr_mk _ rfl ?_
    | ((with_reducible refine ixN_nat ?_ ?_); (focus ((try simp only [LN] at *) <;> omega)))
    | ((with_reducible refine rowN_map ?_ ?_); (focus ((try simp only [LN] at *) <;> omega)); intro x hx)
    | ((with_reducible refine posE_nil (by rfl) ?_))
    | ((with_reducible refine posE_pos (by decide) ?_))
    | with_reducible refine eqN_dec (by omega) ?_
    | with_reducible first | refine apN_mk (by kernel_rfl) ?_
    | ((first | (with_reducible refine Z.conZ_mz ?_ (cg) ?_) | (with_reducible refine Z.callZ_mk ?_ (cg) ?_) | (with_reducible refine Z.conZ_mz ?_ (cj) ?_) | (with_reducible refine Z.callZ_mk ?_ (cj) ?_) | (with_reducible refine Z.conZ_mz ?_ (cn) ?_) | (with_reducible refine Z.callZ_mk ?_ (cn) ?_)); (focus ((repeat' (first | exact trivial | exact ⟨_, _, _, rfl, (by first | rfl | exact Z.kb_some rfl), rfl⟩ | exact rfl | exact Z.low_nil | exact Z.low_nil2 | exact low_osl (fun _ => rfl) | (refine Z.low_osln ?_ (fun _ => rfl); (simp only [List.length_map]; done)) | exact low_oslr (fun _ => rfl) | exact Z.low_gslm (by first | rfl | exact Z.kb_some rfl) (fun _ => rfl) | exact .inl rfl | exact .inr ⟨_, rfl⟩ | apply And.intro)); done)))
    | ((first | (with_reducible refine Z.conZ_mz ?_ (cka) ?_) | (with_reducible refine Z.callZ_mk ?_ (cka) ?_)); (focus ((repeat' (first | exact trivial | exact ⟨_, _, _, rfl, (by first | rfl | exact Z.kb_some rfl), rfl⟩ | exact rfl | exact Z.low_nil | exact Z.low_nil2 | exact low_osl (fun _ => rfl) | (refine Z.low_osln ?_ (fun _ => rfl); (simp only [List.length_map]; done)) | exact low_oslr (fun _ => rfl) | exact Z.low_gslm (by first | rfl | exact Z.kb_some rfl) (fun _ => rfl) | exact .inl rfl | exact .inr ⟨_, rfl⟩ | apply And.intro)); done)))
    | ((first | (with_reducible refine Z.conZ_mz ?_ (ckb) ?_) | (with_reducible refine Z.callZ_mk ?_ (ckb) ?_)); (focus ((repeat' (first | exact trivial | exact ⟨_, _, _, rfl, (by first | rfl | exact Z.kb_some rfl), rfl⟩ | exact rfl | exact Z.low_nil | exact Z.low_nil2 | exact low_osl (fun _ => rfl) | (refine Z.low_osln ?_ (fun _ => rfl); (simp only [List.length_map]; done)) | exact low_oslr (fun _ => rfl) | exact Z.low_gslm (by first | rfl | exact Z.kb_some rfl) (fun _ => rfl) | exact .inl rfl | exact .inr ⟨_, rfl⟩ | apply And.intro)); done)))
    | ((first | (with_reducible refine Z.conZ_mz ?_ (jj0) ?_) | (with_reducible refine Z.callZ_mk ?_ (jj0) ?_)); (focus ((repeat' (first | exact trivial | exact ⟨_, _, _, rfl, (by first | rfl | exact Z.kb_some rfl), rfl⟩ | exact rfl | exact Z.low_nil | exact Z.low_nil2 | exact low_osl (fun _ => rfl) | (refine Z.low_osln ?_ (fun _ => rfl); (simp only [List.length_map]; done)) | exact low_oslr (fun _ => rfl) | exact Z.low_gslm (by first | rfl | exact Z.kb_some rfl) (fun _ => rfl) | exact .inl rfl | exact .inr ⟨_, rfl⟩ | apply And.intro)); done)))
    | ((first | (with_reducible refine Z.conZ_mz ?_ (jj1) ?_) | (with_reducible refine Z.callZ_mk ?_ (jj1) ?_)); (focus ((repeat' (first | exact trivial | exact ⟨_, _, _, rfl, (by first | rfl | exact Z.kb_some rfl), rfl⟩ | exact rfl | exact Z.low_nil | exact Z.low_nil2 | exact low_osl (fun _ => rfl) | (refine Z.low_osln ?_ (fun _ => rfl); (simp only [List.length_map]; done)) | exact low_oslr (fun _ => rfl) | exact Z.low_gslm (by first | rfl | exact Z.kb_some rfl) (fun _ => rfl) | exact .inl rfl | exact .inr ⟨_, rfl⟩ | apply And.intro)); done)))
    | ((with_reducible refine eqN_mk2 ?_ ?_); (focus (exact Z.kb_some rfl)))
    | ((with_reducible apply ex_and); exact rfl)
    | with_reducible first | refine Z.drawZ_rule tabOk mixOk ?_ | refine Z.apZ_mk (by kernel_rfl) ?_
    | ((with_reducible refine Z.ConZ.red ?_); (try subst hlb); (apply Z.conZ_all); (focus (repeat (first | exact Z.FK.nil | (apply Z.FK.keep; exact rfl)))); (focus rfl); (focus rfl); (focus (repeat (first | exact trivial | (refine ⟨(fun o ho => (by first | (cases ho; rfl) | (cases ho; exact Z.inL_map fun _ => rfl) | (cases ho; exact Z.inL_mapr fun _ => rfl) | exact Z.inL_gB ho fun _ => rfl)), ?_⟩)))))
    | ((refine ⟨rfl, ?_, rfl⟩); (focus (repeat (first | exact Z.DK.nil | apply Z.DK.cons))))
    | (focus (exact (rfl : Nat.ble _ _ = true))))
  all_goals (try (conv => whnf))
  all_goals try (show Nat.ble _ _ = true; rfl)
  all_goals try (exfalso; rename_i hz; cases hz; done)
  all_goals try (exfalso; (try simp only [LN] at *) <;> omega)
  all_goals first
    | ((first | (with_reducible apply Z.retF1) | (with_reducible apply Z.retF2) | (with_reducible apply Z.retF0)); (focus (exact rfl)); (repeat' (first | exact trivial | (with_reducible apply Z.frz_one) | (with_reducible apply Z.frz_agg) | (with_reducible apply Z.fq_int) | (with_reducible apply Z.fq_bool) | (exact Z.frz_nil) | (exact Z.frz_osl0 rfl rfl rfl) | (with_reducible apply Z.fq_nil) | (with_reducible apply Z.fq_ro) | ((with_reducible apply Z.fq_gsl); (focus (first | rfl | exact Z.isB_map _ | exact Z.gB_snoc.symm)); (focus (exact fun _ => rfl))) | ((with_reducible apply Z.fq_osl); (focus (exact rfl)); (focus (first | exact rfl | (simp only [List.length_map, Nat.zero_add]; done) | ((try simp only [LN] at *) <;> omega))); (focus (exact fun _ => rfl))) | ((with_reducible apply Z.fq_src); (focus (exact rfl)); (focus (first | exact rfl | (simp only [List.length_map, Nat.zero_add]; done) | ((try simp only [LN] at *) <;> omega))); (focus (exact fun _ => rfl))) | exact rfl | ((apply Z.fq_osl); (focus (exact rfl)); (focus (first | exact rfl | (simp only [List.length_map, Nat.zero_add]; done) | ((try simp only [LN] at *) <;> omega))); (focus (exact fun _ => rfl))) | ((apply Z.fq_src); (focus (exact rfl)); (focus (first | exact rfl | (simp only [List.length_map, Nat.zero_add]; done) | ((try simp only [LN] at *) <;> omega))); (focus (exact fun _ => rfl))) | (apply Z.fq_ro) | (apply Z.fq_int) | (apply Z.fq_bool) | apply And.intro)); (all_goals (try exact (fun _ => none))); all_goals (first | rfl | (simp; done) | (cases aen <;> cases ben <;> first | rfl | contradiction) | (fail)))
    | (exfalso; rename_i hz; cases hz; done)
    | (exfalso; (try simp only [LN] at *) <;> omega)
    | (exfalso; exact hf ⟨by omega, by omega, by omega⟩)
    | (exfalso; omega)
    | (fail)
theorem wh_2_1 (a b : Sn) (hra : a.rows.length ≤ 1000) (hta : a.txs.length ≤ 1000) (hsa : snapR a = true) (hwa : a.w = 2) (hia : a.ix = 0) (hrb : b.rows.length ≤ 1000) (htb : b.txs.length ≤ 1000) (hsb : snapR b = true) (hf : ¬ (b.op = a.op ∧ b.w = 2 ∧ b.ix = 1))  : Con Try.prog 14 [.one (.ro false 14 (([a, b] : List Sn).map eSn))] (fun rx rK rt => rx = .tup [.agg [.v (.int .i64 zeroS.op), .v (.int .i64 zeroS.ix), .v (.int .i64 zeroS.w), .v (.bool zeroS.en), .ro true 4 (zeroS.rows.map Tab.eK), .v (.int .i64 zeroS.o0), .v (.int .i64 zeroS.o1), .v (.int .i64 zeroS.o2), .v (.int .i64 zeroS.o3), .v (.int .i64 zeroS.o4), .v (.int .i64 zeroS.o5), .v (.int .i64 zeroS.o6), .v (.int .i64 zeroS.o7), .ro true 3 (zeroS.txs.map eN)], .one (.v (.int .i64 281))] ∧ rK = [] ∧ rt = 0) := by
  refine Z.con_ofF tabOk 103 Try.f14 _ Try.func14 (by kernel_rfl) rfl rfl rfl rfl ?_
  obtain ⟨aop, aix, aw, aen, arows, ao0, ao1, ao2, ao3, ao4, ao5, ao6, ao7, atxs⟩ := a
  obtain ⟨bop, bix, bw, ben, brows, bo0, bo1, bo2, bo3, bo4, bo5, bo6, bo7, btxs⟩ := b
  dsimp only at *
  subst hwa hia
  have cka := scheck_con (⟨aop, 0, 2, aen, arows, ao0, ao1, ao2, ao3, ao4, ao5, ao6, ao7, atxs⟩ : Sn) hra (by show atxs.length ≤ _; omega)
  have ckb := scheck_con (⟨bop, bix, bw, ben, brows, bo0, bo1, bo2, bo3, bo4, bo5, bo6, bo7, btxs⟩ : Sn) hrb (by show btxs.length ≤ _; omega)
  rw [hsa] at cka
  try simp only [cond_true] at cka
  try dsimp only at cka
  rw [hsb] at ckb
  try simp only [cond_true] at ckb
  try dsimp only at ckb
  have jj0 := jnd_0_2 ao0 ao1 ao2 ao3 ao4 ao5 ao6 ao7 0 0 0 0 0 0 0 0
  repeat' ((conv => whnf); first
    | with_reducible first | refine spB_t ?_
    | ((with_reducible apply spB_cong); (focus (simp only [beq_self_eq_true, bne_self_eq_false, Bool.true_bne, Bool.false_bne, Bool.bne_true, Bool.bne_false, Bool.true_beq, Bool.false_beq, Bool.not_true, Bool.not_false, Bool.not_not, Int.reduceBEq, Int.reduceBNe, Int.reduceLE, Int.reduceLT, Int.reduceEq, decide_true, decide_false]; rfl)))
    | with_reducible first | refine spB_yes (by decide) ?_ | refine spB_no (by decide) ?_ | refine spB_f ?_ | refine spB_not ?_ | refine spB_yes (by assumption) ?_ | refine spB_no (by assumption) ?_
    | (with_reducible refine spB_dec ?_ ?_ <;> intro _ <;> (try (exfalso; first | contradiction | omega | (rename_i hz; refine hz ?_; simp; done) | (rename_i hz; simp at hz; done) | (simp only [LN] at *; omega))))
    | (with_reducible refine spB_beq ?_ ?_ <;> intro _ <;> (try (exfalso; first | contradiction | omega | (rename_i hz; refine hz ?_; simp; done) | (rename_i hz; simp at hz; done) | (simp only [LN] at *; omega))))
    | (with_reducible refine spB_bne ?_ ?_ <;> intro _ <;> (try (exfalso; first | contradiction | omega | (rename_i hz; refine hz ?_; simp; done) | (rename_i hz; simp at hz; done) | (simp only [LN] at *; omega))))
    | (with_reducible refine spB_mk ?_ ?_ <;> intro _ <;> (try (exfalso; first | contradiction | omega | (rename_i hz; refine hz ?_; simp; done) | (rename_i hz; simp at hz; done) | (simp only [LN] at *; omega))))
    | with_reducible first | refine Z.loopZ_unroll tabOk 3 ?_
    | ((with_reducible refine posE_pos ?_ ?_); (focus ((try simp only [LN] at *) <;> omega)))
    | ((with_reducible refine posE_nil ?_ ?_); (focus rfl))
    | ((with_reducible apply rowN_mk); (focus rfl))
    | ((with_reducible apply ixN_lit); (focus (exact rfl)); (focus (exact rfl)))
    | ((with_reducible apply ixN_litp); (focus (exact rfl)); (focus ((try simp only [LN] at *) <;> omega)))
    | ((with_reducible refine eqN_mk2 ?_ ?_); (focus rfl))
    | ((with_reducible refine apdE_r ?_); (with_reducible refine aprN.mk ⟨_, rfl, ?_⟩ ?_ ?_ ?_ ?_); (focus ((try simp only [LN] at *) <;> omega)); (focus (first | rfl | (simp; done) | ((try simp only [LN] at *) <;> omega))); (focus (first | exact one_all (by rfl) | exact one_map (fun _ => rfl) | exact one_map2 (fun _ => rfl) | exact one_drop (fun _ => rfl))); (focus ((try simp only [LN] at *) <;> omega)))
    | ((with_reducible refine apdE_k ?_); (with_reducible refine apkN.mk ⟨_, rfl, ?_⟩ ?_); (focus ((try simp only [LN] at *) <;> omega)))
    | with_reducible first | refine apdE_n ?_
    | ((with_reducible refine apdN.mk ?_ ?_ ?_ ?_ ?_ ?_); (focus (first | rfl | (simp; done))); (focus (first | exact one_all (by rfl) | exact one_map (fun _ => rfl) | exact one_map2 (fun _ => rfl))); (focus ((try simp only [LN] at *) <;> omega)); (focus ((try simp only [LN] at *) <;> omega)); (focus ((try simp only [LN] at *) <;> omega)))
    | with_reducible refine wr_i64 (by first | omega | (simp only [LN] at *; omega)) ?_
    | with_reducible refine wr_u64 (by omega) ?_
    | with_reducible refine wr_u8 (by omega) ?_
    | with_reducible refine wr_u32 (by omega) ?_
    | with_reducible first | refine wr_mk _ rfl ?_
    | ((with_reducible refine ixN_nat ?_ ?_); (focus ((try simp only [LN] at *) <;> omega)))
    | ((with_reducible refine rowN_map ?_ ?_); (focus ((try simp only [LN] at *) <;> omega)); intro x hx)
    | ((with_reducible refine posE_nil (by rfl) ?_))
    | ((with_reducible refine posE_pos (by decide) ?_))
    | with_reducible refine eqN_dec (by omega) ?_
    | with_reducible first | refine apN_mk (by kernel_rfl) ?_
    | ((first | (with_reducible refine Z.conZ_mz ?_ (jj0) ?_) | (with_reducible refine Z.callZ_mk ?_ (jj0) ?_)); (focus ((repeat' (first | exact trivial | exact ⟨_, _, _, rfl, (by first | rfl | exact Z.kb_some rfl), rfl⟩ | exact rfl | exact Z.low_nil | exact Z.low_nil2 | exact low_osl (fun _ => rfl) | (refine Z.low_osln ?_ (fun _ => rfl); (simp only [List.length_map]; done)) | exact low_oslr (fun _ => rfl) | exact Z.low_gslm (by first | rfl | exact Z.kb_some rfl) (fun _ => rfl) | exact .inl rfl | exact .inr ⟨_, rfl⟩ | apply And.intro)); done)))
    | ((first | (with_reducible refine Z.conZ_mz ?_ (cka) ?_) | (with_reducible refine Z.callZ_mk ?_ (cka) ?_)); (focus ((repeat' (first | exact trivial | exact ⟨_, _, _, rfl, (by first | rfl | exact Z.kb_some rfl), rfl⟩ | exact rfl | exact Z.low_nil | exact Z.low_nil2 | exact low_osl (fun _ => rfl) | (refine Z.low_osln ?_ (fun _ => rfl); (simp only [List.length_map]; done)) | exact low_oslr (fun _ => rfl) | exact Z.low_gslm (by first | rfl | exact Z.kb_some rfl) (fun _ => rfl) | exact .inl rfl | exact .inr ⟨_, rfl⟩ | apply And.intro)); done)))
    | ((first | (with_reducible refine Z.conZ_mz ?_ (ckb) ?_) | (with_reducible refine Z.callZ_mk ?_ (ckb) ?_)); (focus ((repeat' (first | exact trivial | exact ⟨_, _, _, rfl, (by first | rfl | exact Z.kb_some rfl), rfl⟩ | exact rfl | exact Z.low_nil | exact Z.low_nil2 | exact low_osl (fun _ => rfl) | (refine Z.low_osln ?_ (fun _ => rfl); (simp only [List.length_map]; done)) | exact low_oslr (fun _ => rfl) | exact Z.low_gslm (by first | rfl | exact Z.kb_some rfl) (fun _ => rfl) | exact .inl rfl | exact .inr ⟨_, rfl⟩ | apply And.intro)); done)))
    | ((with_reducible refine eqN_mk2 ?_ ?_); (focus (exact Z.kb_some rfl)))
    | ((with_reducible apply ex_and); exact rfl)
    | with_reducible first | refine Z.drawZ_rule tabOk mixOk ?_ | refine Z.apZ_mk (by kernel_rfl) ?_
    | ((with_reducible refine Z.ConZ.red ?_); (try subst hlb); (apply Z.conZ_all); (focus (repeat (first | exact Z.FK.nil | (apply Z.FK.keep; exact rfl)))); (focus rfl); (focus rfl); (focus (repeat (first | exact trivial | (refine ⟨(fun o ho => (by first | (cases ho; rfl) | (cases ho; exact Z.inL_map fun _ => rfl) | (cases ho; exact Z.inL_mapr fun _ => rfl) | exact Z.inL_gB ho fun _ => rfl)), ?_⟩)))))
    | ((refine ⟨rfl, ?_, rfl⟩); (focus (repeat (first | exact Z.DK.nil | apply Z.DK.cons))))
    | (focus (exact (rfl : Nat.ble _ _ = true))))
  all_goals (try (conv => whnf))
  all_goals try (show Nat.ble _ _ = true; rfl)
  all_goals try (exfalso; rename_i hz; cases hz; done)
  all_goals try (exfalso; (try simp only [LN] at *) <;> omega)
  all_goals first
    | ((first | (with_reducible apply Z.retF1) | (with_reducible apply Z.retF2) | (with_reducible apply Z.retF0)); (focus (exact rfl)); (repeat' (first | exact trivial | (with_reducible apply Z.frz_one) | (with_reducible apply Z.frz_agg) | (with_reducible apply Z.fq_int) | (with_reducible apply Z.fq_bool) | (exact Z.frz_nil) | (exact Z.frz_osl0 rfl rfl rfl) | (with_reducible apply Z.fq_nil) | (with_reducible apply Z.fq_ro) | ((with_reducible apply Z.fq_gsl); (focus (first | rfl | exact Z.isB_map _ | exact Z.gB_snoc.symm)); (focus (exact fun _ => rfl))) | ((with_reducible apply Z.fq_osl); (focus (exact rfl)); (focus (first | exact rfl | (simp only [List.length_map, Nat.zero_add]; done) | ((try simp only [LN] at *) <;> omega))); (focus (exact fun _ => rfl))) | ((with_reducible apply Z.fq_src); (focus (exact rfl)); (focus (first | exact rfl | (simp only [List.length_map, Nat.zero_add]; done) | ((try simp only [LN] at *) <;> omega))); (focus (exact fun _ => rfl))) | exact rfl | ((apply Z.fq_osl); (focus (exact rfl)); (focus (first | exact rfl | (simp only [List.length_map, Nat.zero_add]; done) | ((try simp only [LN] at *) <;> omega))); (focus (exact fun _ => rfl))) | ((apply Z.fq_src); (focus (exact rfl)); (focus (first | exact rfl | (simp only [List.length_map, Nat.zero_add]; done) | ((try simp only [LN] at *) <;> omega))); (focus (exact fun _ => rfl))) | (apply Z.fq_ro) | (apply Z.fq_int) | (apply Z.fq_bool) | apply And.intro)); (all_goals (try exact (fun _ => none))); all_goals (first | rfl | (simp; done) | (cases aen <;> cases ben <;> first | rfl | contradiction) | (fail)))
    | (exfalso; rename_i hz; cases hz; done)
    | (exfalso; (try simp only [LN] at *) <;> omega)
    | (exfalso; exact hf ⟨by omega, by omega, by omega⟩)
    | (exfalso; omega)
    | (fail)
end Go.Proofs.Ytopieffkpdlpbaa
namespace Go.Proofs.Ytopieffkpdlpbaa
open Go Go.RowKit Wx
set_option linter.unusedVariables false
set_option linter.unusedSimpArgs false
set_option maxHeartbeats 4000000
theorem wh_3 (a b c : Sn) (hra : a.rows.length ≤ 1000) (hta : a.txs.length ≤ 1000) (hsa : snapR a = true) (hwa : a.w = 3) (hia : a.ix = 0) (hrb : b.rows.length ≤ 1000) (htb : b.txs.length ≤ 1000) (hsb : snapR b = true) (hwb : b.w = 3) (hib : b.ix = 1) (hob : a.op = b.op) (hrc : c.rows.length ≤ 1000) (htc : c.txs.length ≤ 1000) (hsc : snapR c = true) (hwc : c.w = 3) (hic : c.ix = 2) (hoc : a.op = c.op) (hn : namesR [a.txs, b.txs, c.txs].flatten = true)  : Con Try.prog 14 [.one (.ro false 14 (([a, b, c] : List Sn).map eSn))] (fun rx rK rt => rx = .tup [.agg [.v (.int .i64 a.op), .v (.int .i64 0), .v (.int .i64 1), .v (.bool (a.en && b.en && c.en)), .ro true 4 ((gath [a.rows, b.rows, c.rows]).map Tab.eK), .v (.int .i64 a.o0), .v (.int .i64 a.o1), .v (.int .i64 a.o2), .v (.int .i64 b.o3), .v (.int .i64 b.o4), .v (.int .i64 b.o5), .v (.int .i64 c.o6), .v (.int .i64 c.o7), .ro true 3 ([a.txs, b.txs, c.txs].flatten.map eN)], .one (.v (.int .i64 0))] ∧ rK = [] ∧ rt = 0) := by
  refine Z.con_ofF tabOk 103 Try.f14 _ Try.func14 (by kernel_rfl) rfl rfl rfl rfl ?_
  obtain ⟨aop, aix, aw, aen, arows, ao0, ao1, ao2, ao3, ao4, ao5, ao6, ao7, atxs⟩ := a
  obtain ⟨bop, bix, bw, ben, brows, bo0, bo1, bo2, bo3, bo4, bo5, bo6, bo7, btxs⟩ := b
  obtain ⟨cop, cix, cw, cen, crows, co0, co1, co2, co3, co4, co5, co6, co7, ctxs⟩ := c
  dsimp only at *
  subst hwa hia
  subst hwb hib hob
  subst hwc hic hoc
  have cka := scheck_con (⟨aop, 0, 3, aen, arows, ao0, ao1, ao2, ao3, ao4, ao5, ao6, ao7, atxs⟩ : Sn) hra (by show atxs.length ≤ _; omega)
  have ckb := scheck_con (⟨aop, 1, 3, ben, brows, bo0, bo1, bo2, bo3, bo4, bo5, bo6, bo7, btxs⟩ : Sn) hrb (by show btxs.length ≤ _; omega)
  have ckc := scheck_con (⟨aop, 2, 3, cen, crows, co0, co1, co2, co3, co4, co5, co6, co7, ctxs⟩ : Sn) hrc (by show ctxs.length ≤ _; omega)
  rw [hsa] at cka
  try simp only [cond_true] at cka
  try dsimp only at cka
  rw [hsb] at ckb
  try simp only [cond_true] at ckb
  try dsimp only at ckb
  rw [hsc] at ckc
  try simp only [cond_true] at ckc
  try dsimp only at ckc
  have jj0 := jnd_0_3 ao0 ao1 ao2 ao3 ao4 ao5 ao6 ao7 0 0 0 0 0 0 0 0
  have jj1 := jnd_1_3 bo0 bo1 bo2 bo3 bo4 bo5 bo6 bo7 ao0 ao1 ao2 0 0 0 0 0
  have jj2 := jnd_2_3 co0 co1 co2 co3 co4 co5 co6 co7 ao0 ao1 ao2 bo3 bo4 bo5 0 0
  have cg := gathered_con [arows, brows, crows] (by simp) (by intro r hr; simp at hr; rcases hr with rfl | rfl | rfl <;> assumption)
  have cj := joinedn_con [atxs, btxs, ctxs] (by simp) (by simp; omega)
  have cn := namesok_con [atxs, btxs, ctxs].flatten (by simp; omega)
  rw [hn] at cn
  generalize hQ : [atxs, btxs, ctxs].flatten = Q at *
  generalize hG : gath [arows, brows, crows] = GG at *
  repeat' ((conv => whnf); first
    | with_reducible first | refine spB_t ?_
    | ((with_reducible apply spB_cong); (focus (simp only [beq_self_eq_true, bne_self_eq_false, Bool.true_bne, Bool.false_bne, Bool.bne_true, Bool.bne_false, Bool.true_beq, Bool.false_beq, Bool.not_true, Bool.not_false, Bool.not_not, Int.reduceBEq, Int.reduceBNe, Int.reduceLE, Int.reduceLT, Int.reduceEq, decide_true, decide_false]; rfl)))
    | with_reducible first | refine spB_yes (by decide) ?_ | refine spB_no (by decide) ?_ | refine spB_f ?_ | refine spB_not ?_ | refine spB_yes (by assumption) ?_ | refine spB_no (by assumption) ?_
    | (with_reducible refine spB_dec ?_ ?_ <;> intro _ <;> (try (exfalso; first | contradiction | omega | (rename_i hz; refine hz ?_; simp; done) | (rename_i hz; simp at hz; done) | (simp only [LN] at *; omega))))
    | (with_reducible refine spB_beq ?_ ?_ <;> intro _ <;> (try (exfalso; first | contradiction | omega | (rename_i hz; refine hz ?_; simp; done) | (rename_i hz; simp at hz; done) | (simp only [LN] at *; omega))))
    | (with_reducible refine spB_bne ?_ ?_ <;> intro _ <;> (try (exfalso; first | contradiction | omega | (rename_i hz; refine hz ?_; simp; done) | (rename_i hz; simp at hz; done) | (simp only [LN] at *; omega))))
    | (with_reducible refine spB_mk ?_ ?_ <;> intro _ <;> (try (exfalso; first | contradiction | omega | (rename_i hz; refine hz ?_; simp; done) | (rename_i hz; simp at hz; done) | (simp only [LN] at *; omega))))
    | with_reducible first | refine Z.loopZ_unroll tabOk 4 ?_
    | ((with_reducible refine posE_pos ?_ ?_); (focus ((try simp only [LN] at *) <;> omega)))
    | ((with_reducible refine posE_nil ?_ ?_); (focus rfl))
    | ((with_reducible apply rowN_mk); (focus rfl))
    | ((with_reducible apply ixN_lit); (focus (exact rfl)); (focus (exact rfl)))
    | ((with_reducible apply ixN_litp); (focus (exact rfl)); (focus ((try simp only [LN] at *) <;> omega)))
    | ((with_reducible refine eqN_mk2 ?_ ?_); (focus rfl))
    | ((with_reducible refine apdE_r ?_); (with_reducible refine aprN.mk ⟨_, rfl, ?_⟩ ?_ ?_ ?_ ?_); (focus ((try simp only [LN] at *) <;> omega)); (focus (first | rfl | (simp; done) | ((try simp only [LN] at *) <;> omega))); (focus (first | exact one_all (by rfl) | exact one_map (fun _ => rfl) | exact one_map2 (fun _ => rfl) | exact one_drop (fun _ => rfl))); (focus ((try simp only [LN] at *) <;> omega)))
    | ((with_reducible refine apdE_k ?_); (with_reducible refine apkN.mk ⟨_, rfl, ?_⟩ ?_); (focus ((try simp only [LN] at *) <;> omega)))
    | with_reducible first | refine apdE_n ?_
    | ((with_reducible refine apdN.mk ?_ ?_ ?_ ?_ ?_ ?_); (focus (first | rfl | (simp; done))); (focus (first | exact one_all (by rfl) | exact one_map (fun _ => rfl) | exact one_map2 (fun _ => rfl))); (focus ((try simp only [LN] at *) <;> omega)); (focus ((try simp only [LN] at *) <;> omega)); (focus ((try simp only [LN] at *) <;> omega)))
    | with_reducible refine wr_i64 (by first | omega | (simp only [LN] at *; omega)) ?_
    | with_reducible refine wr_u64 (by omega) ?_
    | with_reducible refine wr_u8 (by omega) ?_
    | with_reducible refine wr_u32 (by omega) ?_
    | with_reducible first | refine wr_mk _ rfl ?_
    | ((with_reducible refine ixN_nat ?_ ?_); (focus ((try simp only [LN] at *) <;> omega)))
    | ((with_reducible refine rowN_map ?_ ?_); (focus ((try simp only [LN] at *) <;> omega)); intro x hx)
    | ((with_reducible refine posE_nil (by rfl) ?_))
    | ((with_reducible refine posE_pos (by decide) ?_))
    | with_reducible refine eqN_dec (by omega) ?_
    | with_reducible first | refine apN_mk (by kernel_rfl) ?_
    | ((first | (with_reducible refine Z.conZ_mz ?_ (cg) ?_) | (with_reducible refine Z.callZ_mk ?_ (cg) ?_) | (with_reducible refine Z.conZ_mz ?_ (cj) ?_) | (with_reducible refine Z.callZ_mk ?_ (cj) ?_) | (with_reducible refine Z.conZ_mz ?_ (cn) ?_) | (with_reducible refine Z.callZ_mk ?_ (cn) ?_)); (focus ((repeat' (first | exact trivial | exact ⟨_, _, _, rfl, (by first | rfl | exact Z.kb_some rfl), rfl⟩ | exact rfl | exact Z.low_nil | exact Z.low_nil2 | exact low_osl (fun _ => rfl) | (refine Z.low_osln ?_ (fun _ => rfl); (simp only [List.length_map]; done)) | exact low_oslr (fun _ => rfl) | exact Z.low_gslm (by first | rfl | exact Z.kb_some rfl) (fun _ => rfl) | exact .inl rfl | exact .inr ⟨_, rfl⟩ | apply And.intro)); done)))
    | ((first | (with_reducible refine Z.conZ_mz ?_ (cka) ?_) | (with_reducible refine Z.callZ_mk ?_ (cka) ?_)); (focus ((repeat' (first | exact trivial | exact ⟨_, _, _, rfl, (by first | rfl | exact Z.kb_some rfl), rfl⟩ | exact rfl | exact Z.low_nil | exact Z.low_nil2 | exact low_osl (fun _ => rfl) | (refine Z.low_osln ?_ (fun _ => rfl); (simp only [List.length_map]; done)) | exact low_oslr (fun _ => rfl) | exact Z.low_gslm (by first | rfl | exact Z.kb_some rfl) (fun _ => rfl) | exact .inl rfl | exact .inr ⟨_, rfl⟩ | apply And.intro)); done)))
    | ((first | (with_reducible refine Z.conZ_mz ?_ (ckb) ?_) | (with_reducible refine Z.callZ_mk ?_ (ckb) ?_)); (focus ((repeat' (first | exact trivial | exact ⟨_, _, _, rfl, (by first | rfl | exact Z.kb_some rfl), rfl⟩ | exact rfl | exact Z.low_nil | exact Z.low_nil2 | exact low_osl (fun _ => rfl) | (refine Z.low_osln ?_ (fun _ => rfl); (simp only [List.length_map]; done)) | exact low_oslr (fun _ => rfl) | exact Z.low_gslm (by first | rfl | exact Z.kb_some rfl) (fun _ => rfl) | exact .inl rfl | exact .inr ⟨_, rfl⟩ | apply And.intro)); done)))
    | ((first | (with_reducible refine Z.conZ_mz ?_ (ckc) ?_) | (with_reducible refine Z.callZ_mk ?_ (ckc) ?_)); (focus ((repeat' (first | exact trivial | exact ⟨_, _, _, rfl, (by first | rfl | exact Z.kb_some rfl), rfl⟩ | exact rfl | exact Z.low_nil | exact Z.low_nil2 | exact low_osl (fun _ => rfl) | (refine Z.low_osln ?_ (fun _ => rfl); (simp only [List.length_map]; done)) | exact low_oslr (fun _ => rfl) | exact Z.low_gslm (by first | rfl | exact Z.kb_some rfl) (fun _ => rfl) | exact .inl rfl | exact .inr ⟨_, rfl⟩ | apply And.intro)); done)))
    | ((first | (with_reducible refine Z.conZ_mz ?_ (jj0) ?_) | (with_reducible refine Z.callZ_mk ?_ (jj0) ?_)); (focus ((repeat' (first | exact trivial | exact ⟨_, _, _, rfl, (by first | rfl | exact Z.kb_some rfl), rfl⟩ | exact rfl | exact Z.low_nil | exact Z.low_nil2 | exact low_osl (fun _ => rfl) | (refine Z.low_osln ?_ (fun _ => rfl); (simp only [List.length_map]; done)) | exact low_oslr (fun _ => rfl) | exact Z.low_gslm (by first | rfl | exact Z.kb_some rfl) (fun _ => rfl) | exact .inl rfl | exact .inr ⟨_, rfl⟩ | apply And.intro)); done)))
    | ((first | (with_reducible refine Z.conZ_mz ?_ (jj1) ?_) | (with_reducible refine Z.callZ_mk ?_ (jj1) ?_)); (focus ((repeat' (first | exact trivial | exact ⟨_, _, _, rfl, (by first | rfl | exact Z.kb_some rfl), rfl⟩ | exact rfl | exact Z.low_nil | exact Z.low_nil2 | exact low_osl (fun _ => rfl) | (refine Z.low_osln ?_ (fun _ => rfl); (simp only [List.length_map]; done)) | exact low_oslr (fun _ => rfl) | exact Z.low_gslm (by first | rfl | exact Z.kb_some rfl) (fun _ => rfl) | exact .inl rfl | exact .inr ⟨_, rfl⟩ | apply And.intro)); done)))
    | ((first | (with_reducible refine Z.conZ_mz ?_ (jj2) ?_) | (with_reducible refine Z.callZ_mk ?_ (jj2) ?_)); (focus ((repeat' (first | exact trivial | exact ⟨_, _, _, rfl, (by first | rfl | exact Z.kb_some rfl), rfl⟩ | exact rfl | exact Z.low_nil | exact Z.low_nil2 | exact low_osl (fun _ => rfl) | (refine Z.low_osln ?_ (fun _ => rfl); (simp only [List.length_map]; done)) | exact low_oslr (fun _ => rfl) | exact Z.low_gslm (by first | rfl | exact Z.kb_some rfl) (fun _ => rfl) | exact .inl rfl | exact .inr ⟨_, rfl⟩ | apply And.intro)); done)))
    | ((with_reducible refine eqN_mk2 ?_ ?_); (focus (exact Z.kb_some rfl)))
    | ((with_reducible apply ex_and); exact rfl)
    | with_reducible first | refine Z.drawZ_rule tabOk mixOk ?_ | refine Z.apZ_mk (by kernel_rfl) ?_
    | ((with_reducible refine Z.ConZ.red ?_); (try subst hlb); (apply Z.conZ_all); (focus (repeat (first | exact Z.FK.nil | (apply Z.FK.keep; exact rfl)))); (focus rfl); (focus rfl); (focus (repeat (first | exact trivial | (refine ⟨(fun o ho => (by first | (cases ho; rfl) | (cases ho; exact Z.inL_map fun _ => rfl) | (cases ho; exact Z.inL_mapr fun _ => rfl) | exact Z.inL_gB ho fun _ => rfl)), ?_⟩)))))
    | ((refine ⟨rfl, ?_, rfl⟩); (focus (repeat (first | exact Z.DK.nil | apply Z.DK.cons))))
    | (focus (exact (rfl : Nat.ble _ _ = true))))
  all_goals (try (conv => whnf))
  all_goals try (show Nat.ble _ _ = true; rfl)
  all_goals try (exfalso; rename_i hz; cases hz; done)
  all_goals try (exfalso; (try simp only [LN] at *) <;> omega)
  all_goals first
    | ((first | (with_reducible apply Z.retF1) | (with_reducible apply Z.retF2) | (with_reducible apply Z.retF0)); (focus (exact rfl)); (repeat' (first | exact trivial | (with_reducible apply Z.frz_one) | (with_reducible apply Z.frz_agg) | (with_reducible apply Z.fq_int) | (with_reducible apply Z.fq_bool) | (exact Z.frz_nil) | (exact Z.frz_osl0 rfl rfl rfl) | (with_reducible apply Z.fq_nil) | (with_reducible apply Z.fq_ro) | ((with_reducible apply Z.fq_gsl); (focus (first | rfl | exact Z.isB_map _ | exact Z.gB_snoc.symm)); (focus (exact fun _ => rfl))) | ((with_reducible apply Z.fq_osl); (focus (exact rfl)); (focus (first | exact rfl | (simp only [List.length_map, Nat.zero_add]; done) | ((try simp only [LN] at *) <;> omega))); (focus (exact fun _ => rfl))) | ((with_reducible apply Z.fq_src); (focus (exact rfl)); (focus (first | exact rfl | (simp only [List.length_map, Nat.zero_add]; done) | ((try simp only [LN] at *) <;> omega))); (focus (exact fun _ => rfl))) | exact rfl | ((apply Z.fq_osl); (focus (exact rfl)); (focus (first | exact rfl | (simp only [List.length_map, Nat.zero_add]; done) | ((try simp only [LN] at *) <;> omega))); (focus (exact fun _ => rfl))) | ((apply Z.fq_src); (focus (exact rfl)); (focus (first | exact rfl | (simp only [List.length_map, Nat.zero_add]; done) | ((try simp only [LN] at *) <;> omega))); (focus (exact fun _ => rfl))) | (apply Z.fq_ro) | (apply Z.fq_int) | (apply Z.fq_bool) | apply And.intro)); (all_goals (try exact (fun _ => none))); all_goals (first | rfl | (simp; done) | (cases aen <;> cases ben <;> cases cen <;> first | rfl | contradiction) | (fail)))
    | (exfalso; rename_i hz; cases hz; done)
    | (exfalso; (try simp only [LN] at *) <;> omega)
    | (exfalso; exact hf ⟨by omega, by omega, by omega⟩)
    | (exfalso; omega)
    | (fail)
theorem wh_3_names (a b c : Sn) (hra : a.rows.length ≤ 1000) (hta : a.txs.length ≤ 1000) (hsa : snapR a = true) (hwa : a.w = 3) (hia : a.ix = 0) (hrb : b.rows.length ≤ 1000) (htb : b.txs.length ≤ 1000) (hsb : snapR b = true) (hwb : b.w = 3) (hib : b.ix = 1) (hob : a.op = b.op) (hrc : c.rows.length ≤ 1000) (htc : c.txs.length ≤ 1000) (hsc : snapR c = true) (hwc : c.w = 3) (hic : c.ix = 2) (hoc : a.op = c.op) (hn : namesR [a.txs, b.txs, c.txs].flatten = false)  : Con Try.prog 14 [.one (.ro false 14 (([a, b, c] : List Sn).map eSn))] (fun rx rK rt => rx = .tup [.agg [.v (.int .i64 zeroS.op), .v (.int .i64 zeroS.ix), .v (.int .i64 zeroS.w), .v (.bool zeroS.en), .ro true 4 (zeroS.rows.map Tab.eK), .v (.int .i64 zeroS.o0), .v (.int .i64 zeroS.o1), .v (.int .i64 zeroS.o2), .v (.int .i64 zeroS.o3), .v (.int .i64 zeroS.o4), .v (.int .i64 zeroS.o5), .v (.int .i64 zeroS.o6), .v (.int .i64 zeroS.o7), .ro true 3 (zeroS.txs.map eN)], .one (.v (.int .i64 281))] ∧ rK = [] ∧ rt = 0) := by
  refine Z.con_ofF tabOk 103 Try.f14 _ Try.func14 (by kernel_rfl) rfl rfl rfl rfl ?_
  obtain ⟨aop, aix, aw, aen, arows, ao0, ao1, ao2, ao3, ao4, ao5, ao6, ao7, atxs⟩ := a
  obtain ⟨bop, bix, bw, ben, brows, bo0, bo1, bo2, bo3, bo4, bo5, bo6, bo7, btxs⟩ := b
  obtain ⟨cop, cix, cw, cen, crows, co0, co1, co2, co3, co4, co5, co6, co7, ctxs⟩ := c
  dsimp only at *
  subst hwa hia
  subst hwb hib hob
  subst hwc hic hoc
  have cka := scheck_con (⟨aop, 0, 3, aen, arows, ao0, ao1, ao2, ao3, ao4, ao5, ao6, ao7, atxs⟩ : Sn) hra (by show atxs.length ≤ _; omega)
  have ckb := scheck_con (⟨aop, 1, 3, ben, brows, bo0, bo1, bo2, bo3, bo4, bo5, bo6, bo7, btxs⟩ : Sn) hrb (by show btxs.length ≤ _; omega)
  have ckc := scheck_con (⟨aop, 2, 3, cen, crows, co0, co1, co2, co3, co4, co5, co6, co7, ctxs⟩ : Sn) hrc (by show ctxs.length ≤ _; omega)
  rw [hsa] at cka
  try simp only [cond_true] at cka
  try dsimp only at cka
  rw [hsb] at ckb
  try simp only [cond_true] at ckb
  try dsimp only at ckb
  rw [hsc] at ckc
  try simp only [cond_true] at ckc
  try dsimp only at ckc
  have jj0 := jnd_0_3 ao0 ao1 ao2 ao3 ao4 ao5 ao6 ao7 0 0 0 0 0 0 0 0
  have jj1 := jnd_1_3 bo0 bo1 bo2 bo3 bo4 bo5 bo6 bo7 ao0 ao1 ao2 0 0 0 0 0
  have jj2 := jnd_2_3 co0 co1 co2 co3 co4 co5 co6 co7 ao0 ao1 ao2 bo3 bo4 bo5 0 0
  have cg := gathered_con [arows, brows, crows] (by simp) (by intro r hr; simp at hr; rcases hr with rfl | rfl | rfl <;> assumption)
  have cj := joinedn_con [atxs, btxs, ctxs] (by simp) (by simp; omega)
  have cn := namesok_con [atxs, btxs, ctxs].flatten (by simp; omega)
  rw [hn] at cn
  generalize hQ : [atxs, btxs, ctxs].flatten = Q at *
  generalize hG : gath [arows, brows, crows] = GG at *
  repeat' ((conv => whnf); first
    | with_reducible first | refine spB_t ?_
    | ((with_reducible apply spB_cong); (focus (simp only [beq_self_eq_true, bne_self_eq_false, Bool.true_bne, Bool.false_bne, Bool.bne_true, Bool.bne_false, Bool.true_beq, Bool.false_beq, Bool.not_true, Bool.not_false, Bool.not_not, Int.reduceBEq, Int.reduceBNe, Int.reduceLE, Int.reduceLT, Int.reduceEq, decide_true, decide_false]; rfl)))
    | with_reducible first | refine spB_yes (by decide) ?_ | refine spB_no (by decide) ?_ | refine spB_f ?_ | refine spB_not ?_ | refine spB_yes (by assumption) ?_ | refine spB_no (by assumption) ?_
    | (with_reducible refine spB_dec ?_ ?_ <;> intro _ <;> (try (exfalso; first | contradiction | omega | (rename_i hz; refine hz ?_; simp; done) | (rename_i hz; simp at hz; done) | (simp only [LN] at *; omega))))
    | (with_reducible refine spB_beq ?_ ?_ <;> intro _ <;> (try (exfalso; first | contradiction | omega | (rename_i hz; refine hz ?_; simp; done) | (rename_i hz; simp at hz; done) | (simp only [LN] at *; omega))))
    | (with_reducible refine spB_bne ?_ ?_ <;> intro _ <;> (try (exfalso; first | contradiction | omega | (rename_i hz; refine hz ?_; simp; done) | (rename_i hz; simp at hz; done) | (simp only [LN] at *; omega))))
    | (with_reducible refine spB_mk ?_ ?_ <;> intro _ <;> (try (exfalso; first | contradiction | omega | (rename_i hz; refine hz ?_; simp; done) | (rename_i hz; simp at hz; done) | (simp only [LN] at *; omega))))
    | with_reducible first | refine Z.loopZ_unroll tabOk 4 ?_
    | ((with_reducible refine posE_pos ?_ ?_); (focus ((try simp only [LN] at *) <;> omega)))
    | ((with_reducible refine posE_nil ?_ ?_); (focus rfl))
    | ((with_reducible apply rowN_mk); (focus rfl))
    | ((with_reducible apply ixN_lit); (focus (exact rfl)); (focus (exact rfl)))
    | ((with_reducible apply ixN_litp); (focus (exact rfl)); (focus ((try simp only [LN] at *) <;> omega)))
    | ((with_reducible refine eqN_mk2 ?_ ?_); (focus rfl))
    | ((with_reducible refine apdE_r ?_); (with_reducible refine aprN.mk ⟨_, rfl, ?_⟩ ?_ ?_ ?_ ?_); (focus ((try simp only [LN] at *) <;> omega)); (focus (first | rfl | (simp; done) | ((try simp only [LN] at *) <;> omega))); (focus (first | exact one_all (by rfl) | exact one_map (fun _ => rfl) | exact one_map2 (fun _ => rfl) | exact one_drop (fun _ => rfl))); (focus ((try simp only [LN] at *) <;> omega)))
    | ((with_reducible refine apdE_k ?_); (with_reducible refine apkN.mk ⟨_, rfl, ?_⟩ ?_); (focus ((try simp only [LN] at *) <;> omega)))
    | with_reducible first | refine apdE_n ?_
    | ((with_reducible refine apdN.mk ?_ ?_ ?_ ?_ ?_ ?_); (focus (first | rfl | (simp; done))); (focus (first | exact one_all (by rfl) | exact one_map (fun _ => rfl) | exact one_map2 (fun _ => rfl))); (focus ((try simp only [LN] at *) <;> omega)); (focus ((try simp only [LN] at *) <;> omega)); (focus ((try simp only [LN] at *) <;> omega)))
    | with_reducible refine wr_i64 (by first | omega | (simp only [LN] at *; omega)) ?_
    | with_reducible refine wr_u64 (by omega) ?_
    | with_reducible refine wr_u8 (by omega) ?_
    | with_reducible refine wr_u32 (by omega) ?_
    | with_reducible first | refine wr_mk _ rfl ?_
    | ((with_reducible refine ixN_nat ?_ ?_); (focus ((try simp only [LN] at *) <;> omega)))
    | ((with_reducible refine rowN_map ?_ ?_); (focus ((try simp only [LN] at *) <;> omega)); intro x hx)
    | ((with_reducible refine posE_nil (by rfl) ?_))
    | ((with_reducible refine posE_pos (by decide) ?_))
    | with_reducible refine eqN_dec (by omega) ?_
    | with_reducible first | refine apN_mk (by kernel_rfl) ?_
    | ((first | (with_reducible refine Z.conZ_mz ?_ (cg) ?_) | (with_reducible refine Z.callZ_mk ?_ (cg) ?_) | (with_reducible refine Z.conZ_mz ?_ (cj) ?_) | (with_reducible refine Z.callZ_mk ?_ (cj) ?_) | (with_reducible refine Z.conZ_mz ?_ (cn) ?_) | (with_reducible refine Z.callZ_mk ?_ (cn) ?_)); (focus ((repeat' (first | exact trivial | exact ⟨_, _, _, rfl, (by first | rfl | exact Z.kb_some rfl), rfl⟩ | exact rfl | exact Z.low_nil | exact Z.low_nil2 | exact low_osl (fun _ => rfl) | (refine Z.low_osln ?_ (fun _ => rfl); (simp only [List.length_map]; done)) | exact low_oslr (fun _ => rfl) | exact Z.low_gslm (by first | rfl | exact Z.kb_some rfl) (fun _ => rfl) | exact .inl rfl | exact .inr ⟨_, rfl⟩ | apply And.intro)); done)))
    | ((first | (with_reducible refine Z.conZ_mz ?_ (cka) ?_) | (with_reducible refine Z.callZ_mk ?_ (cka) ?_)); (focus ((repeat' (first | exact trivial | exact ⟨_, _, _, rfl, (by first | rfl | exact Z.kb_some rfl), rfl⟩ | exact rfl | exact Z.low_nil | exact Z.low_nil2 | exact low_osl (fun _ => rfl) | (refine Z.low_osln ?_ (fun _ => rfl); (simp only [List.length_map]; done)) | exact low_oslr (fun _ => rfl) | exact Z.low_gslm (by first | rfl | exact Z.kb_some rfl) (fun _ => rfl) | exact .inl rfl | exact .inr ⟨_, rfl⟩ | apply And.intro)); done)))
    | ((first | (with_reducible refine Z.conZ_mz ?_ (ckb) ?_) | (with_reducible refine Z.callZ_mk ?_ (ckb) ?_)); (focus ((repeat' (first | exact trivial | exact ⟨_, _, _, rfl, (by first | rfl | exact Z.kb_some rfl), rfl⟩ | exact rfl | exact Z.low_nil | exact Z.low_nil2 | exact low_osl (fun _ => rfl) | (refine Z.low_osln ?_ (fun _ => rfl); (simp only [List.length_map]; done)) | exact low_oslr (fun _ => rfl) | exact Z.low_gslm (by first | rfl | exact Z.kb_some rfl) (fun _ => rfl) | exact .inl rfl | exact .inr ⟨_, rfl⟩ | apply And.intro)); done)))
    | ((first | (with_reducible refine Z.conZ_mz ?_ (ckc) ?_) | (with_reducible refine Z.callZ_mk ?_ (ckc) ?_)); (focus ((repeat' (first | exact trivial | exact ⟨_, _, _, rfl, (by first | rfl | exact Z.kb_some rfl), rfl⟩ | exact rfl | exact Z.low_nil | exact Z.low_nil2 | exact low_osl (fun _ => rfl) | (refine Z.low_osln ?_ (fun _ => rfl); (simp only [List.length_map]; done)) | exact low_oslr (fun _ => rfl) | exact Z.low_gslm (by first | rfl | exact Z.kb_some rfl) (fun _ => rfl) | exact .inl rfl | exact .inr ⟨_, rfl⟩ | apply And.intro)); done)))
    | ((first | (with_reducible refine Z.conZ_mz ?_ (jj0) ?_) | (with_reducible refine Z.callZ_mk ?_ (jj0) ?_)); (focus ((repeat' (first | exact trivial | exact ⟨_, _, _, rfl, (by first | rfl | exact Z.kb_some rfl), rfl⟩ | exact rfl | exact Z.low_nil | exact Z.low_nil2 | exact low_osl (fun _ => rfl) | (refine Z.low_osln ?_ (fun _ => rfl); (simp only [List.length_map]; done)) | exact low_oslr (fun _ => rfl) | exact Z.low_gslm (by first | rfl | exact Z.kb_some rfl) (fun _ => rfl) | exact .inl rfl | exact .inr ⟨_, rfl⟩ | apply And.intro)); done)))
    | ((first | (with_reducible refine Z.conZ_mz ?_ (jj1) ?_) | (with_reducible refine Z.callZ_mk ?_ (jj1) ?_)); (focus ((repeat' (first | exact trivial | exact ⟨_, _, _, rfl, (by first | rfl | exact Z.kb_some rfl), rfl⟩ | exact rfl | exact Z.low_nil | exact Z.low_nil2 | exact low_osl (fun _ => rfl) | (refine Z.low_osln ?_ (fun _ => rfl); (simp only [List.length_map]; done)) | exact low_oslr (fun _ => rfl) | exact Z.low_gslm (by first | rfl | exact Z.kb_some rfl) (fun _ => rfl) | exact .inl rfl | exact .inr ⟨_, rfl⟩ | apply And.intro)); done)))
    | ((first | (with_reducible refine Z.conZ_mz ?_ (jj2) ?_) | (with_reducible refine Z.callZ_mk ?_ (jj2) ?_)); (focus ((repeat' (first | exact trivial | exact ⟨_, _, _, rfl, (by first | rfl | exact Z.kb_some rfl), rfl⟩ | exact rfl | exact Z.low_nil | exact Z.low_nil2 | exact low_osl (fun _ => rfl) | (refine Z.low_osln ?_ (fun _ => rfl); (simp only [List.length_map]; done)) | exact low_oslr (fun _ => rfl) | exact Z.low_gslm (by first | rfl | exact Z.kb_some rfl) (fun _ => rfl) | exact .inl rfl | exact .inr ⟨_, rfl⟩ | apply And.intro)); done)))
    | ((with_reducible refine eqN_mk2 ?_ ?_); (focus (exact Z.kb_some rfl)))
    | ((with_reducible apply ex_and); exact rfl)
    | with_reducible first | refine Z.drawZ_rule tabOk mixOk ?_ | refine Z.apZ_mk (by kernel_rfl) ?_
    | ((with_reducible refine Z.ConZ.red ?_); (try subst hlb); (apply Z.conZ_all); (focus (repeat (first | exact Z.FK.nil | (apply Z.FK.keep; exact rfl)))); (focus rfl); (focus rfl); (focus (repeat (first | exact trivial | (refine ⟨(fun o ho => (by first | (cases ho; rfl) | (cases ho; exact Z.inL_map fun _ => rfl) | (cases ho; exact Z.inL_mapr fun _ => rfl) | exact Z.inL_gB ho fun _ => rfl)), ?_⟩)))))
    | ((refine ⟨rfl, ?_, rfl⟩); (focus (repeat (first | exact Z.DK.nil | apply Z.DK.cons))))
    | (focus (exact (rfl : Nat.ble _ _ = true))))
  all_goals (try (conv => whnf))
  all_goals try (show Nat.ble _ _ = true; rfl)
  all_goals try (exfalso; rename_i hz; cases hz; done)
  all_goals try (exfalso; (try simp only [LN] at *) <;> omega)
  all_goals first
    | ((first | (with_reducible apply Z.retF1) | (with_reducible apply Z.retF2) | (with_reducible apply Z.retF0)); (focus (exact rfl)); (repeat' (first | exact trivial | (with_reducible apply Z.frz_one) | (with_reducible apply Z.frz_agg) | (with_reducible apply Z.fq_int) | (with_reducible apply Z.fq_bool) | (exact Z.frz_nil) | (exact Z.frz_osl0 rfl rfl rfl) | (with_reducible apply Z.fq_nil) | (with_reducible apply Z.fq_ro) | ((with_reducible apply Z.fq_gsl); (focus (first | rfl | exact Z.isB_map _ | exact Z.gB_snoc.symm)); (focus (exact fun _ => rfl))) | ((with_reducible apply Z.fq_osl); (focus (exact rfl)); (focus (first | exact rfl | (simp only [List.length_map, Nat.zero_add]; done) | ((try simp only [LN] at *) <;> omega))); (focus (exact fun _ => rfl))) | ((with_reducible apply Z.fq_src); (focus (exact rfl)); (focus (first | exact rfl | (simp only [List.length_map, Nat.zero_add]; done) | ((try simp only [LN] at *) <;> omega))); (focus (exact fun _ => rfl))) | exact rfl | ((apply Z.fq_osl); (focus (exact rfl)); (focus (first | exact rfl | (simp only [List.length_map, Nat.zero_add]; done) | ((try simp only [LN] at *) <;> omega))); (focus (exact fun _ => rfl))) | ((apply Z.fq_src); (focus (exact rfl)); (focus (first | exact rfl | (simp only [List.length_map, Nat.zero_add]; done) | ((try simp only [LN] at *) <;> omega))); (focus (exact fun _ => rfl))) | (apply Z.fq_ro) | (apply Z.fq_int) | (apply Z.fq_bool) | apply And.intro)); (all_goals (try exact (fun _ => none))); all_goals (first | rfl | (simp; done) | (cases aen <;> cases ben <;> cases cen <;> first | rfl | contradiction) | (fail)))
    | (exfalso; rename_i hz; cases hz; done)
    | (exfalso; (try simp only [LN] at *) <;> omega)
    | (exfalso; exact hf ⟨by omega, by omega, by omega⟩)
    | (exfalso; omega)
    | (fail)
end Go.Proofs.Ytopieffkpdlpbaa
namespace Go.Proofs.Ytopieffkpdlpbaa
open Go Go.RowKit Wx
set_option linter.unusedVariables false
set_option linter.unusedSimpArgs false
set_option maxHeartbeats 4000000
theorem wh_3_1 (a b c : Sn) (hra : a.rows.length ≤ 1000) (hta : a.txs.length ≤ 1000) (hsa : snapR a = true) (hwa : a.w = 3) (hia : a.ix = 0) (hrb : b.rows.length ≤ 1000) (htb : b.txs.length ≤ 1000) (hsb : snapR b = true) (hf : ¬ (b.op = a.op ∧ b.w = 3 ∧ b.ix = 1)) (hrc : c.rows.length ≤ 1000) (htc : c.txs.length ≤ 1000) (hsc : snapR c = true)  : Con Try.prog 14 [.one (.ro false 14 (([a, b, c] : List Sn).map eSn))] (fun rx rK rt => rx = .tup [.agg [.v (.int .i64 zeroS.op), .v (.int .i64 zeroS.ix), .v (.int .i64 zeroS.w), .v (.bool zeroS.en), .ro true 4 (zeroS.rows.map Tab.eK), .v (.int .i64 zeroS.o0), .v (.int .i64 zeroS.o1), .v (.int .i64 zeroS.o2), .v (.int .i64 zeroS.o3), .v (.int .i64 zeroS.o4), .v (.int .i64 zeroS.o5), .v (.int .i64 zeroS.o6), .v (.int .i64 zeroS.o7), .ro true 3 (zeroS.txs.map eN)], .one (.v (.int .i64 281))] ∧ rK = [] ∧ rt = 0) := by
  refine Z.con_ofF tabOk 103 Try.f14 _ Try.func14 (by kernel_rfl) rfl rfl rfl rfl ?_
  obtain ⟨aop, aix, aw, aen, arows, ao0, ao1, ao2, ao3, ao4, ao5, ao6, ao7, atxs⟩ := a
  obtain ⟨bop, bix, bw, ben, brows, bo0, bo1, bo2, bo3, bo4, bo5, bo6, bo7, btxs⟩ := b
  obtain ⟨cop, cix, cw, cen, crows, co0, co1, co2, co3, co4, co5, co6, co7, ctxs⟩ := c
  dsimp only at *
  subst hwa hia
  have cka := scheck_con (⟨aop, 0, 3, aen, arows, ao0, ao1, ao2, ao3, ao4, ao5, ao6, ao7, atxs⟩ : Sn) hra (by show atxs.length ≤ _; omega)
  have ckb := scheck_con (⟨bop, bix, bw, ben, brows, bo0, bo1, bo2, bo3, bo4, bo5, bo6, bo7, btxs⟩ : Sn) hrb (by show btxs.length ≤ _; omega)
  have ckc := scheck_con (⟨cop, cix, cw, cen, crows, co0, co1, co2, co3, co4, co5, co6, co7, ctxs⟩ : Sn) hrc (by show ctxs.length ≤ _; omega)
  rw [hsa] at cka
  try simp only [cond_true] at cka
  try dsimp only at cka
  rw [hsb] at ckb
  try simp only [cond_true] at ckb
  try dsimp only at ckb
  rw [hsc] at ckc
  try simp only [cond_true] at ckc
  try dsimp only at ckc
  have jj0 := jnd_0_3 ao0 ao1 ao2 ao3 ao4 ao5 ao6 ao7 0 0 0 0 0 0 0 0
  repeat' ((conv => whnf); first
    | with_reducible first | refine spB_t ?_
    | ((with_reducible apply spB_cong); (focus (simp only [beq_self_eq_true, bne_self_eq_false, Bool.true_bne, Bool.false_bne, Bool.bne_true, Bool.bne_false, Bool.true_beq, Bool.false_beq, Bool.not_true, Bool.not_false, Bool.not_not, Int.reduceBEq, Int.reduceBNe, Int.reduceLE, Int.reduceLT, Int.reduceEq, decide_true, decide_false]; rfl)))
    | with_reducible first | refine spB_no (by decide) ?_
    | (with_reducible refine spB_dec ?_ ?_ <;> intro _ <;> (try (exfalso; first | contradiction | omega | (rename_i hz; refine hz ?_; simp; done) | (rename_i hz; simp at hz; done) | (simp only [LN] at *; omega))))
    | (with_reducible refine spB_beq ?_ ?_ <;> intro _ <;> (try (exfalso; first | contradiction | omega | (rename_i hz; refine hz ?_; simp; done) | (rename_i hz; simp at hz; done) | (simp only [LN] at *; omega))))
    | (with_reducible refine spB_bne ?_ ?_ <;> intro _ <;> (try (exfalso; first | contradiction | omega | (rename_i hz; refine hz ?_; simp; done) | (rename_i hz; simp at hz; done) | (simp only [LN] at *; omega))))
    | with_reducible first | refine Z.loopZ_unroll tabOk 4 ?_
    | ((with_reducible refine posE_pos ?_ ?_); (focus ((try simp only [LN] at *) <;> omega)))
    | ((with_reducible apply rowN_mk); (focus rfl))
    | ((with_reducible apply ixN_lit); (focus (exact rfl)); (focus (exact rfl)))
    | ((with_reducible refine apdN.mk ?_ ?_ ?_ ?_ ?_ ?_); (focus (first | rfl)); (focus (first | exact one_all (by rfl))); (focus ((try simp only [LN] at *) <;> omega)); (focus ((try simp only [LN] at *) <;> omega)); (focus ((try simp only [LN] at *) <;> omega)))
    | with_reducible refine wr_i64 (by first | omega | (simp only [LN] at *; omega)) ?_
    | ((first | (with_reducible refine Z.callZ_mk ?_ (jj0) ?_)); (focus ((repeat' (first | exact trivial | exact rfl | apply And.intro)); done)))
    | ((first | (with_reducible refine Z.callZ_mk ?_ (cka) ?_)); (focus ((repeat' (first | exact trivial | exact rfl | apply And.intro)); done)))
    | ((first | (with_reducible refine Z.callZ_mk ?_ (ckb) ?_)); (focus ((repeat' (first | exact trivial | exact rfl | apply And.intro)); done)))
    | ((first | (with_reducible refine Z.callZ_mk ?_ (ckc) ?_)); (focus ((repeat' (first | exact trivial | exact rfl | apply And.intro)); done)))
    | with_reducible first | refine Z.drawZ_rule tabOk mixOk ?_ | refine Z.apZ_mk (by kernel_rfl) ?_
    | fail)
  all_goals (try (conv => whnf))
  all_goals try (show Nat.ble _ _ = true; rfl)
  all_goals try (exfalso; rename_i hz; cases hz; done)
  all_goals try (exfalso; (try simp only [LN] at *) <;> omega)
  all_goals first
    | ((first | (with_reducible apply Z.retF2)); (focus (exact rfl)); (repeat' (first | exact trivial | (with_reducible apply Z.frz_one) | (with_reducible apply Z.frz_agg) | (with_reducible apply Z.fq_int) | (with_reducible apply Z.fq_bool) | (exact Z.frz_nil) | exact rfl | apply And.intro)); (all_goals (try exact (fun _ => none))); all_goals (first | (simp_all; done)))
    | fail
theorem wh_3_2 (a b c : Sn) (hra : a.rows.length ≤ 1000) (hta : a.txs.length ≤ 1000) (hsa : snapR a = true) (hwa : a.w = 3) (hia : a.ix = 0) (hrb : b.rows.length ≤ 1000) (htb : b.txs.length ≤ 1000) (hsb : snapR b = true) (hwb : b.w = 3) (hib : b.ix = 1) (hob : a.op = b.op) (hrc : c.rows.length ≤ 1000) (htc : c.txs.length ≤ 1000) (hsc : snapR c = true) (hf : ¬ (c.op = a.op ∧ c.w = 3 ∧ c.ix = 2))  : Con Try.prog 14 [.one (.ro false 14 (([a, b, c] : List Sn).map eSn))] (fun rx rK rt => rx = .tup [.agg [.v (.int .i64 zeroS.op), .v (.int .i64 zeroS.ix), .v (.int .i64 zeroS.w), .v (.bool zeroS.en), .ro true 4 (zeroS.rows.map Tab.eK), .v (.int .i64 zeroS.o0), .v (.int .i64 zeroS.o1), .v (.int .i64 zeroS.o2), .v (.int .i64 zeroS.o3), .v (.int .i64 zeroS.o4), .v (.int .i64 zeroS.o5), .v (.int .i64 zeroS.o6), .v (.int .i64 zeroS.o7), .ro true 3 (zeroS.txs.map eN)], .one (.v (.int .i64 281))] ∧ rK = [] ∧ rt = 0) := by
  refine Z.con_ofF tabOk 103 Try.f14 _ Try.func14 (by kernel_rfl) rfl rfl rfl rfl ?_
  obtain ⟨aop, aix, aw, aen, arows, ao0, ao1, ao2, ao3, ao4, ao5, ao6, ao7, atxs⟩ := a
  obtain ⟨bop, bix, bw, ben, brows, bo0, bo1, bo2, bo3, bo4, bo5, bo6, bo7, btxs⟩ := b
  obtain ⟨cop, cix, cw, cen, crows, co0, co1, co2, co3, co4, co5, co6, co7, ctxs⟩ := c
  dsimp only at *
  subst hwa hia
  subst hwb hib hob
  have cka := scheck_con (⟨aop, 0, 3, aen, arows, ao0, ao1, ao2, ao3, ao4, ao5, ao6, ao7, atxs⟩ : Sn) hra (by show atxs.length ≤ _; omega)
  have ckb := scheck_con (⟨aop, 1, 3, ben, brows, bo0, bo1, bo2, bo3, bo4, bo5, bo6, bo7, btxs⟩ : Sn) hrb (by show btxs.length ≤ _; omega)
  have ckc := scheck_con (⟨cop, cix, cw, cen, crows, co0, co1, co2, co3, co4, co5, co6, co7, ctxs⟩ : Sn) hrc (by show ctxs.length ≤ _; omega)
  rw [hsa] at cka
  try simp only [cond_true] at cka
  try dsimp only at cka
  rw [hsb] at ckb
  try simp only [cond_true] at ckb
  try dsimp only at ckb
  rw [hsc] at ckc
  try simp only [cond_true] at ckc
  try dsimp only at ckc
  have jj0 := jnd_0_3 ao0 ao1 ao2 ao3 ao4 ao5 ao6 ao7 0 0 0 0 0 0 0 0
  have jj1 := jnd_1_3 bo0 bo1 bo2 bo3 bo4 bo5 bo6 bo7 ao0 ao1 ao2 0 0 0 0 0
  repeat' ((conv => whnf); first
    | with_reducible first | refine spB_t ?_
    | ((with_reducible apply spB_cong); (focus (simp only [beq_self_eq_true, bne_self_eq_false, Bool.true_bne, Bool.false_bne, Bool.bne_true, Bool.bne_false, Bool.true_beq, Bool.false_beq, Bool.not_true, Bool.not_false, Bool.not_not, Int.reduceBEq, Int.reduceBNe, Int.reduceLE, Int.reduceLT, Int.reduceEq, decide_true, decide_false]; rfl)))
    | with_reducible first | refine spB_no (by decide) ?_
    | (with_reducible refine spB_dec ?_ ?_ <;> intro _ <;> (try (exfalso; first | contradiction | omega | (rename_i hz; refine hz ?_; simp; done) | (rename_i hz; simp at hz; done) | (simp only [LN] at *; omega))))
    | (with_reducible refine spB_beq ?_ ?_ <;> intro _ <;> (try (exfalso; first | contradiction | omega | (rename_i hz; refine hz ?_; simp; done) | (rename_i hz; simp at hz; done) | (simp only [LN] at *; omega))))
    | (with_reducible refine spB_bne ?_ ?_ <;> intro _ <;> (try (exfalso; first | contradiction | omega | (rename_i hz; refine hz ?_; simp; done) | (rename_i hz; simp at hz; done) | (simp only [LN] at *; omega))))
    | (with_reducible refine spB_mk ?_ ?_ <;> intro _ <;> (try (exfalso; first | contradiction | omega | (rename_i hz; refine hz ?_; simp; done) | (rename_i hz; simp at hz; done) | (simp only [LN] at *; omega))))
    | with_reducible first | refine Z.loopZ_unroll tabOk 4 ?_
    | ((with_reducible refine posE_pos ?_ ?_); (focus ((try simp only [LN] at *) <;> omega)))
    | ((with_reducible apply rowN_mk); (focus rfl))
    | ((with_reducible apply ixN_lit); (focus (exact rfl)); (focus (exact rfl)))
    | ((with_reducible refine eqN_mk2 ?_ ?_); (focus rfl))
    | ((with_reducible refine apdN.mk ?_ ?_ ?_ ?_ ?_ ?_); (focus (first | rfl)); (focus (first | exact one_all (by rfl))); (focus ((try simp only [LN] at *) <;> omega)); (focus ((try simp only [LN] at *) <;> omega)); (focus ((try simp only [LN] at *) <;> omega)))
    | with_reducible refine wr_i64 (by first | omega | (simp only [LN] at *; omega)) ?_
    | ((first | (with_reducible refine Z.callZ_mk ?_ (cka) ?_)); (focus ((repeat' (first | exact trivial | exact rfl | apply And.intro)); done)))
    | ((first | (with_reducible refine Z.callZ_mk ?_ (ckb) ?_)); (focus ((repeat' (first | exact trivial | exact rfl | apply And.intro)); done)))
    | ((first | (with_reducible refine Z.callZ_mk ?_ (ckc) ?_)); (focus ((repeat' (first | exact trivial | exact rfl | apply And.intro)); done)))
    | ((first | (with_reducible refine Z.callZ_mk ?_ (jj0) ?_)); (focus ((repeat' (first | exact trivial | exact rfl | apply And.intro)); done)))
    | ((first | (with_reducible refine Z.callZ_mk ?_ (jj1) ?_)); (focus ((repeat' (first | exact trivial | exact rfl | apply And.intro)); done)))
    | with_reducible first | refine Z.drawZ_rule tabOk mixOk ?_ | refine Z.apZ_mk (by kernel_rfl) ?_
    | fail)
  all_goals (try (conv => whnf))
  all_goals try (show Nat.ble _ _ = true; rfl)
  all_goals try (exfalso; rename_i hz; cases hz; done)
  all_goals try (exfalso; (try simp only [LN] at *) <;> omega)
  all_goals first
    | ((first | (with_reducible apply Z.retF2)); (focus (exact rfl)); (repeat' (first | exact trivial | (with_reducible apply Z.frz_one) | (with_reducible apply Z.frz_agg) | (with_reducible apply Z.fq_int) | (with_reducible apply Z.fq_bool) | (exact Z.frz_nil) | exact rfl | apply And.intro)); (all_goals (try exact (fun _ => none))); all_goals (first | (simp_all; done)))
    | fail
end Go.Proofs.Ytopieffkpdlpbaa
namespace Go.Proofs.Ytopieffkpdlpbaa
open Go Go.RowKit Wx
set_option linter.unusedVariables false
set_option linter.unusedSimpArgs false
set_option maxHeartbeats 4000000
theorem snapR_shq {x : Sn} (h : snapR x = true) : Tab.okS x.ix x.w := by
  unfold snapR at h
  simp only [Bool.and_eq_true, decide_eq_true_eq] at h
  exact h.1.2
theorem wholeS_1 (a : Sn) : wholeS [a] = ⟨a.op, 0, 1, a.en, gath [a.rows], a.o0, a.o1, a.o2, a.o3, a.o4, a.o5, a.o6, a.o7, [a.txs].flatten⟩ := by
  unfold wholeS
  rw [show ownW 0 [a] = a from by simp [ownW, Tab.ownG], show ownW 1 [a] = a from by simp [ownW, Tab.ownG], show ownW 2 [a] = a from by simp [ownW, Tab.ownG], show ownW 3 [a] = a from by simp [ownW, Tab.ownG], show ownW 4 [a] = a from by simp [ownW, Tab.ownG], show ownW 5 [a] = a from by simp [ownW, Tab.ownG], show ownW 6 [a] = a from by simp [ownW, Tab.ownG], show ownW 7 [a] = a from by simp [ownW, Tab.ownG]]
  rfl
theorem wholeS_2 (a b : Sn) : wholeS [a, b] = ⟨a.op, 0, 1, a.en && b.en, gath [a.rows, b.rows], a.o0, a.o1, a.o2, a.o3, b.o4, b.o5, b.o6, b.o7, [a.txs, b.txs].flatten⟩ := by
  unfold wholeS
  rw [show ownW 0 [a, b] = a from by simp [ownW, Tab.ownG], show ownW 1 [a, b] = a from by simp [ownW, Tab.ownG], show ownW 2 [a, b] = a from by simp [ownW, Tab.ownG], show ownW 3 [a, b] = a from by simp [ownW, Tab.ownG], show ownW 4 [a, b] = b from by simp [ownW, Tab.ownG], show ownW 5 [a, b] = b from by simp [ownW, Tab.ownG], show ownW 6 [a, b] = b from by simp [ownW, Tab.ownG], show ownW 7 [a, b] = b from by simp [ownW, Tab.ownG]]
  rfl
theorem wholeS_3 (a b c : Sn) : wholeS [a, b, c] = ⟨a.op, 0, 1, a.en && b.en && c.en, gath [a.rows, b.rows, c.rows], a.o0, a.o1, a.o2, b.o3, b.o4, b.o5, c.o6, c.o7, [a.txs, b.txs, c.txs].flatten⟩ := by
  unfold wholeS
  rw [show ownW 0 [a, b, c] = a from by simp [ownW, Tab.ownG], show ownW 1 [a, b, c] = a from by simp [ownW, Tab.ownG], show ownW 2 [a, b, c] = a from by simp [ownW, Tab.ownG], show ownW 3 [a, b, c] = b from by simp [ownW, Tab.ownG], show ownW 4 [a, b, c] = b from by simp [ownW, Tab.ownG], show ownW 5 [a, b, c] = b from by simp [ownW, Tab.ownG], show ownW 6 [a, b, c] = c from by simp [ownW, Tab.ownG], show ownW 7 [a, b, c] = c from by simp [ownW, Tab.ownG]]
  rfl
theorem fit_1 (a : Sn) : fitW [a] = decide (a.w = 1 ∧ a.ix = 0) := by
  rw [Bool.eq_iff_iff]; simp [fitW, fitK, List.zipIdx]
theorem fit_2 (a b : Sn) : fitW [a, b] = decide ((a.w = 2 ∧ a.ix = 0) ∧ (b.op = a.op ∧ b.w = 2 ∧ b.ix = 1)) := by
  rw [Bool.eq_iff_iff]; simp [fitW, fitK, List.zipIdx]
theorem fit_3 (a b c : Sn) : fitW [a, b, c] = decide ((a.w = 3 ∧ a.ix = 0) ∧ (b.op = a.op ∧ b.w = 3 ∧ b.ix = 1) ∧ (c.op = a.op ∧ c.w = 3 ∧ c.ix = 2)) := by
  rw [Bool.eq_iff_iff]; simp [fitW, fitK, List.zipIdx, and_assoc]
theorem fit_no {l : List Sn} {a : Sn} (h : l[0]? = some a) (hf : ¬ (a.w = (l.length : Int) ∧ a.ix = 0)) : fitW l = false := by
  cases l with
  | nil => cases h
  | cons b t =>
    have hb : b = a := by simpa using h
    subst hb
    cases hz : fitW (b :: t) with
    | false => rfl
    | true =>
      unfold fitW at hz
      simp only [Bool.and_eq_true, List.all_eq_true] at hz
      have := of_decide_eq_true (hz.2 (b, 0) (by simp [List.zipIdx]))
      exact absurd ⟨this.2.1, this.2.2⟩ hf
theorem snapR_w {x : Sn} (h : snapR x = true) : 1 ≤ x.w ∧ x.w ≤ 3 := by
  have := snapR_shq h; unfold Tab.okS at this; omega
theorem fit_len {l : List Sn} (h1 : ∀ x ∈ l, snapR x = true) (hf : fitW l = true) : (∃ a, l = [a]) ∨ (∃ a b, l = [a, b]) ∨ ∃ a b c, l = [a, b, c] := by
  match l, h1, hf with
  | [], _, hf => simp [fitW] at hf
  | [a], _, _ => exact .inl ⟨a, rfl⟩
  | [a, b], _, _ => exact .inr (.inl ⟨a, b, rfl⟩)
  | [a, b, c], _, _ => exact .inr (.inr ⟨a, b, c, rfl⟩)
  | a :: b :: c :: d :: t, h1, hf =>
    have hw := snapR_w (h1 a (by simp))
    rw [fit_no (l := a :: b :: c :: d :: t) (a := a) rfl (fun h => by have := h.1; simp only [List.length_cons] at this; omega)] at hf
    cases hf
theorem swhole_con (l : List Sn) (hA : ∀ x ∈ l, x.rows.length ≤ 1000 ∧ x.txs.length ≤ 1000) (hl : l.length ≤ 1000) : Con Try.prog 14 [.one (.ro false 14 ((l : List Sn).map eSn))] (fun rx rK rt => rx = .tup [.agg [.v (.int .i64 (wholeE l).1.op), .v (.int .i64 (wholeE l).1.ix), .v (.int .i64 (wholeE l).1.w), .v (.bool (wholeE l).1.en), .ro true 4 ((wholeE l).1.rows.map Tab.eK), .v (.int .i64 (wholeE l).1.o0), .v (.int .i64 (wholeE l).1.o1), .v (.int .i64 (wholeE l).1.o2), .v (.int .i64 (wholeE l).1.o3), .v (.int .i64 (wholeE l).1.o4), .v (.int .i64 (wholeE l).1.o5), .v (.int .i64 (wholeE l).1.o6), .v (.int .i64 (wholeE l).1.o7), .ro true 3 ((wholeE l).1.txs.map eN)], .one (.v (.int .i64 (wholeE l).2))] ∧ rK = [] ∧ rt = 0) := by
  unfold wholeE
  cases h1 : l.all snapR
  · rw [if_pos rfl]; exact wh_chk l hA hl h1
  have H1 : ∀ x ∈ l, snapR x = true := List.all_eq_true.1 h1
  rw [if_neg (by decide)]
  match l, hA, hl, H1 with
  | [], _, _, _ => rw [if_pos (.inl rfl)]; exact wh_nil
  | a :: t, hA, hl, H1 =>
    by_cases hf : a.w = ((a :: t).length : Int) ∧ a.ix = 0
    rotate_left
    · rw [if_pos (.inl (fit_no rfl hf))]
      exact wh_first (a :: t) hA hl (by simp) H1 (fun b hb => by cases hb; exact hf)
    obtain ⟨hw, hi⟩ := hf
    have hw3 := snapR_w (H1 a (by simp))
    match t, hA, hl, H1, hw with
    | [], hA, hl, H1, hw =>
      rw [fit_1, decide_eq_true ⟨hw, hi⟩]
      cases hn : namesR (List.map (fun x => x.txs) [a]).flatten
      · rw [if_pos (.inr rfl)]; exact wh_1_names a (hA a (by simp)).1 (hA a (by simp)).2 (H1 a (by simp)) hw hi hn
      · rw [if_neg (by simp), wholeS_1]; exact wh_1 a (hA a (by simp)).1 (hA a (by simp)).2 (H1 a (by simp)) hw hi hn
    | [b], hA, hl, H1, hw =>
      have pa := hA a (by simp)
      have pb := hA b (by simp)
      have ra := H1 a (by simp)
      have rb := H1 b (by simp)
      have hw : a.w = 2 := hw
      rw [fit_2]
      by_cases hb : b.op = a.op ∧ b.w = 2 ∧ b.ix = 1
      rotate_left
      · rw [decide_eq_false (fun h => hb h.2), if_pos (.inl rfl)]
        exact wh_2_1 a b pa.1 pa.2 ra hw hi pb.1 pb.2 rb hb
      rw [decide_eq_true ⟨⟨hw, hi⟩, hb⟩]
      cases hn : namesR (List.map (fun x => x.txs) [a, b]).flatten
      · rw [if_pos (.inr rfl)]; exact wh_2_names a b pa.1 pa.2 ra hw hi pb.1 pb.2 rb hb.2.1 hb.2.2 hb.1.symm hn
      · rw [if_neg (by simp), wholeS_2]; exact wh_2 a b pa.1 pa.2 ra hw hi pb.1 pb.2 rb hb.2.1 hb.2.2 hb.1.symm hn
    | [b, c], hA, hl, H1, hw =>
      have pa := hA a (by simp)
      have pb := hA b (by simp)
      have pc := hA c (by simp)
      have ra := H1 a (by simp)
      have rb := H1 b (by simp)
      have rc := H1 c (by simp)
      have hw : a.w = 3 := hw
      rw [fit_3]
      by_cases hb : b.op = a.op ∧ b.w = 3 ∧ b.ix = 1
      rotate_left
      · rw [decide_eq_false (fun h => hb h.2.1), if_pos (.inl rfl)]
        exact wh_3_1 a b c pa.1 pa.2 ra hw hi pb.1 pb.2 rb hb pc.1 pc.2 rc
      by_cases hc : c.op = a.op ∧ c.w = 3 ∧ c.ix = 2
      rotate_left
      · rw [decide_eq_false (fun h => hc h.2.2), if_pos (.inl rfl)]
        exact wh_3_2 a b c pa.1 pa.2 ra hw hi pb.1 pb.2 rb hb.2.1 hb.2.2 hb.1.symm pc.1 pc.2 rc hc
      rw [decide_eq_true ⟨⟨hw, hi⟩, hb, hc⟩]
      cases hn : namesR (List.map (fun x => x.txs) [a, b, c]).flatten
      · rw [if_pos (.inr rfl)]; exact wh_3_names a b c pa.1 pa.2 ra hw hi pb.1 pb.2 rb hb.2.1 hb.2.2 hb.1.symm pc.1 pc.2 rc hc.2.1 hc.2.2 hc.1.symm hn
      · rw [if_neg (by simp), wholeS_3]; exact wh_3 a b c pa.1 pa.2 ra hw hi pb.1 pb.2 rb hb.2.1 hb.2.2 hb.1.symm pc.1 pc.2 rc hc.2.1 hc.2.2 hc.1.symm hn
    | b :: c :: d :: t, hA, hl, H1, hw => simp only [List.length_cons] at hw; omega
end Go.Proofs.Ytopieffkpdlpbaa
namespace Go.Proofs.Ytopieffkpdlpbaa
open Go Go.RowKit Wx
set_option linter.unusedVariables false
set_option linter.unusedSimpArgs false
set_option maxHeartbeats 4000000
end Go.Proofs.Ytopieffkpdlpbaa
namespace Go.Proofs.Ytopieffkpdlpbaa
open Go Go.RowKit Wx
set_option linter.unusedVariables false
set_option linter.unusedSimpArgs false
set_option maxHeartbeats 4000000
end Go.Proofs.Ytopieffkpdlpbaa
namespace Go.Proofs.Ytopieffkpdlpbaa
open Go Go.RowKit Wx
set_option linter.unusedVariables false
set_option linter.unusedSimpArgs false
set_option maxHeartbeats 4000000
namespace Tab
end Tab
end Go.Proofs.Ytopieffkpdlpbaa
namespace Go.Proofs.Ytopieffkpdlpbaa
open Go Go.RowKit Wx
set_option linter.unusedVariables false
set_option linter.unusedSimpArgs false
set_option maxHeartbeats 4000000
namespace Tab
theorem flt_tab {T : List Kc} {p : Kc → Bool} (h : tabR T = true) : tabR (T.filter p) = true := by
  rw [tab_iff] at *
  exact ⟨fun x hx => h.1 x (List.mem_filter.1 hx).1, h.2.sublist (List.filter_sublist)⟩
theorem key_one {T : List Kc} (h : tabR T = true) {x y : Kc} (hx : x ∈ T) (hy : y ∈ T) (he : x.src = y.src ∧ x.key = y.key) : x = y := by
  have hw := (tab_iff.1 h).2
  obtain ⟨i, hi, rfl⟩ := List.mem_iff_getElem.1 hx
  obtain ⟨j, hj, rfl⟩ := List.mem_iff_getElem.1 hy
  rcases Nat.lt_trichotomy i j with hij | hij | hij
  · exact absurd (List.pairwise_iff_getElem.1 hw i j hi hj hij) (by unfold kLtK kLt; omega)
  · subst hij; rfl
  · exact absurd (List.pairwise_iff_getElem.1 hw j i hj hi hij) (by unfold kLtK kLt; omega)
theorem part_mine {T : List Kc} {i w : Int} (h : tabR T = true) (hs : okS i w) : partL T i w = T.filter fun x => decide (ownG (x.key % 8) w = i) := by
  unfold partL
  refine List.filter_congr fun x hx => ?_
  unfold mineB
  rw [((tab_iff.1 h).1 x hx).1, decide_eq_true hs]
  rfl
end Tab
end Go.Proofs.Ytopieffkpdlpbaa
namespace Go.Proofs.Ytopieffkpdlpbaa
open Go Go.RowKit Wx
set_option linter.unusedVariables false
set_option linter.unusedSimpArgs false
set_option maxHeartbeats 4000000
theorem offR_is (x : Sn) : offR x.o0 x.o1 x.o2 x.o3 x.o4 x.o5 x.o6 x.o7 x.ix x.w = decide (((0 ≤ x.o0 ∧ x.o0 ≤ 40) ∧ (0 ≤ x.o1 ∧ x.o1 ≤ 40) ∧ (0 ≤ x.o2 ∧ x.o2 ≤ 40) ∧ (0 ≤ x.o3 ∧ x.o3 ≤ 40) ∧ (0 ≤ x.o4 ∧ x.o4 ≤ 40) ∧ (0 ≤ x.o5 ∧ x.o5 ≤ 40) ∧ (0 ≤ x.o6 ∧ x.o6 ≤ 40) ∧ (0 ≤ x.o7 ∧ x.o7 ≤ 40)) ∧ (x.o0 = 0 ∨ Tab.ownG 0 x.w = x.ix) ∧ (x.o1 = 0 ∨ Tab.ownG 1 x.w = x.ix) ∧ (x.o2 = 0 ∨ Tab.ownG 2 x.w = x.ix) ∧ (x.o3 = 0 ∨ Tab.ownG 3 x.w = x.ix) ∧ (x.o4 = 0 ∨ Tab.ownG 4 x.w = x.ix) ∧ (x.o5 = 0 ∨ Tab.ownG 5 x.w = x.ix) ∧ (x.o6 = 0 ∨ Tab.ownG 6 x.w = x.ix) ∧ (x.o7 = 0 ∨ Tab.ownG 7 x.w = x.ix)) := by
  unfold offR ownO
  rw [Bool.eq_iff_iff]
  simp [List.zipIdx]
theorem rrows_is (x : Sn) (ht : Tab.tabR x.rows = true) (hs : Tab.okS x.ix x.w) : decide (Tab.partL x.rows x.ix x.w = x.rows) = decide (∀ y ∈ x.rows, Tab.ownG (y.key % 8) x.w = x.ix) := by
  rw [Tab.part_mine ht hs]
  refine decide_eq_decide.2 ?_
  rw [List.filter_eq_self]
  simp only [decide_eq_true_eq]
end Go.Proofs.Ytopieffkpdlpbaa
namespace Go.Proofs.Ytopieffkpdlpbaa
open Go Go.RowKit Wx
set_option linter.unusedVariables false
set_option linter.unusedSimpArgs false
set_option maxHeartbeats 4000000
def sumO (f : Sn → Int) (l : List Sn) : Int := (l.map f).sum
theorem sumO_at {f : Sn → Int} {l : List Sn} {k : Nat} {x : Sn} (h : l[k]? = some x) : sumO f (l.take (k + 1)) = sumO f (l.take k) + f x := by
  unfold sumO; rw [take_snoc h, List.map_append, List.sum_append]; simp
theorem sumO_rng {f : Sn → Int} : ∀ {l : List Sn}, (∀ x ∈ l, 0 ≤ f x ∧ f x ≤ 40) → 0 ≤ sumO f l ∧ sumO f l ≤ 40 * (l.length : Int)
  | [], _ => by simp [sumO]
  | x :: l, h => by
    have h1 := h x (by simp)
    have h2 := sumO_rng (l := l) fun y hy => h y (by simp [hy])
    unfold sumO at *
    rw [List.map_cons, List.sum_cons, List.length_cons]
    omega
def pw (l : List Sn) (k : Nat) : Sn := ⟨(l.headD zeroS).op, 0, 1, ((l.take k).foldl (fun e s => e && s.en) true), gath ((l.take k).map (·.rows)), sumO (·.o0) (l.take k), sumO (·.o1) (l.take k), sumO (·.o2) (l.take k), sumO (·.o3) (l.take k), sumO (·.o4) (l.take k), sumO (·.o5) (l.take k), sumO (·.o6) (l.take k), sumO (·.o7) (l.take k), ((l.take k).map (·.txs)).flatten⟩
theorem snapR_rng {x : Sn} (h : snapR x = true) : ((0 ≤ x.o0 ∧ x.o0 ≤ 40) ∧ (0 ≤ x.o1 ∧ x.o1 ≤ 40) ∧ (0 ≤ x.o2 ∧ x.o2 ≤ 40) ∧ (0 ≤ x.o3 ∧ x.o3 ≤ 40) ∧ (0 ≤ x.o4 ∧ x.o4 ≤ 40) ∧ (0 ≤ x.o5 ∧ x.o5 ≤ 40) ∧ (0 ≤ x.o6 ∧ x.o6 ≤ 40) ∧ (0 ≤ x.o7 ∧ x.o7 ≤ 40)) ∧ (x.o0 = 0 ∨ Tab.ownG 0 x.w = x.ix) ∧ (x.o1 = 0 ∨ Tab.ownG 1 x.w = x.ix) ∧ (x.o2 = 0 ∨ Tab.ownG 2 x.w = x.ix) ∧ (x.o3 = 0 ∨ Tab.ownG 3 x.w = x.ix) ∧ (x.o4 = 0 ∨ Tab.ownG 4 x.w = x.ix) ∧ (x.o5 = 0 ∨ Tab.ownG 5 x.w = x.ix) ∧ (x.o6 = 0 ∨ Tab.ownG 6 x.w = x.ix) ∧ (x.o7 = 0 ∨ Tab.ownG 7 x.w = x.ix) := by
  unfold snapR at h
  simp only [Bool.and_eq_true] at h
  have h2 := h.2.1
  rw [offR_is] at h2
  exact of_decide_eq_true h2
theorem pw_all {l : List Sn} (h1 : ∀ x ∈ l, snapR x = true) (hf : fitW l = true) : pw l l.length = wholeS l := by
  rcases fit_len h1 hf with ⟨a, rfl⟩ | ⟨a, b, rfl⟩ | ⟨a, b, c, rfl⟩
  · rw [fit_1] at hf
    have hf := of_decide_eq_true hf
    have ra := (snapR_rng (h1 a (by simp))).2
    rw [(hf).1, (hf).2] at ra
    simp [Tab.ownG] at ra
    rw [wholeS_1]
    unfold pw
    simp only [List.take_length, sumO]
    simp only [List.map_cons, List.map_nil, List.sum_cons, List.sum_nil, List.foldl_cons, List.foldl_nil, List.headD_cons, Bool.true_and]
    congr 1 <;> (try omega)
  · rw [fit_2] at hf
    have hf := of_decide_eq_true hf
    have ra := (snapR_rng (h1 a (by simp))).2
    rw [(hf.1).1, (hf.1).2] at ra
    simp [Tab.ownG] at ra
    have rb := (snapR_rng (h1 b (by simp))).2
    rw [(hf.2.2).1, (hf.2.2).2] at rb
    simp [Tab.ownG] at rb
    rw [wholeS_2]
    unfold pw
    simp only [List.take_length, sumO]
    simp only [List.map_cons, List.map_nil, List.sum_cons, List.sum_nil, List.foldl_cons, List.foldl_nil, List.headD_cons, Bool.true_and]
    congr 1 <;> (try omega)
  · rw [fit_3] at hf
    have hf := of_decide_eq_true hf
    have ra := (snapR_rng (h1 a (by simp))).2
    rw [(hf.1).1, (hf.1).2] at ra
    simp [Tab.ownG] at ra
    have rb := (snapR_rng (h1 b (by simp))).2
    rw [(hf.2.1.2).1, (hf.2.1.2).2] at rb
    simp [Tab.ownG] at rb
    have rc := (snapR_rng (h1 c (by simp))).2
    rw [(hf.2.2.2).1, (hf.2.2.2).2] at rc
    simp [Tab.ownG] at rc
    rw [wholeS_3]
    unfold pw
    simp only [List.take_length, sumO]
    simp only [List.map_cons, List.map_nil, List.sum_cons, List.sum_nil, List.foldl_cons, List.foldl_nil, List.headD_cons, Bool.true_and]
    congr 1 <;> (try omega)
end Go.Proofs.Ytopieffkpdlpbaa
namespace Go.Proofs.Ytopieffkpdlpbaa
open Go Go.RowKit Wx
set_option linter.unusedVariables false
set_option linter.unusedSimpArgs false
set_option maxHeartbeats 4000000
namespace Tab
end Tab
end Go.Proofs.Ytopieffkpdlpbaa
namespace Go.Proofs.Ytopieffkpdlpbaa
open Go Go.RowKit Wx
set_option linter.unusedVariables false
set_option linter.unusedSimpArgs false
set_option maxHeartbeats 4000000
namespace Tab
end Tab
end Go.Proofs.Ytopieffkpdlpbaa
namespace Go.Proofs.Ytopieffkpdlpbaa
open Go Go.RowKit Wx
set_option linter.unusedVariables false
set_option linter.unusedSimpArgs false
set_option maxHeartbeats 4000000
namespace Tab
end Tab
end Go.Proofs.Ytopieffkpdlpbaa
namespace Go.Proofs.Ytopieffkpdlpbaa
open Go Go.RowKit Wx
set_option linter.unusedVariables false
set_option linter.unusedSimpArgs false
set_option maxHeartbeats 4000000
namespace Tab
end Tab
end Go.Proofs.Ytopieffkpdlpbaa
namespace Go.Proofs.Ytopieffkpdlpbaa
open Go Go.RowKit Wx
set_option linter.unusedVariables false
set_option linter.unusedSimpArgs false
set_option maxHeartbeats 4000000
end Go.Proofs.Ytopieffkpdlpbaa
namespace Go.Proofs.Ytopieffkpdlpbaa
open Go Go.RowKit Wx
set_option linter.unusedVariables false
set_option linter.unusedSimpArgs false
set_option maxHeartbeats 4000000
theorem snapR_tab {x : Sn} (h : snapR x = true) : Tab.tabR x.rows = true := by
  unfold snapR at h
  simp only [Bool.and_eq_true] at h
  exact h.2.2.2.1
theorem snapR_part {x : Sn} (h : snapR x = true) : Tab.partL x.rows x.ix x.w = x.rows := by
  unfold snapR at h
  simp only [Bool.and_eq_true, decide_eq_true_eq] at h
  exact h.2.2.2.2
theorem snapR_sh {x : Sn} (h : snapR x = true) : Tab.okS x.ix x.w := by
  unfold snapR at h
  simp only [Bool.and_eq_true, decide_eq_true_eq] at h
  exact h.1.2
end Go.Proofs.Ytopieffkpdlpbaa
namespace Go.Proofs.Ytopieffkpdlpbaa
open Go Go.RowKit Wx
set_option linter.unusedVariables false
set_option linter.unusedSimpArgs false
set_option maxHeartbeats 4000000
abbrev Dsj (a b : List Tab.Kc) : Prop := ∀ x ∈ a, ∀ y ∈ b, Tab.neK x y
theorem gath_go : ∀ {L : List (List Tab.Kc)} {acc : List Tab.Kc}, Tab.tabR acc = true → (∀ r ∈ L, Tab.tabR r = true) → (∀ r ∈ L, Dsj acc r) → L.Pairwise Dsj → Tab.tabR (L.foldl (fun t r => (Tab.joinT t r).1) acc) = true ∧ ∀ x, x ∈ L.foldl (fun t r => (Tab.joinT t r).1) acc ↔ x ∈ acc ∨ ∃ r ∈ L, x ∈ r
  | [], acc, h, _, _, _ => ⟨h, fun x => by simp⟩
  | r :: L, acc, h, ht, hd, hp => by
    rw [List.pairwise_cons] at hp
    have hr := ht r (by simp)
    have b1 := Tab.tab_iff.1 hr
    have hn : Dsj acc r := hd r (by simp)
    have hc := (Tab.comm_no (b := r) h).2 hn
    have hm : (Tab.mrg acc r).Perm (acc ++ r) := Tab.mrg_perm h b1.1 hn (Tab.pw_ne b1.2)
    have hj : (Tab.joinT acc r).1 = Tab.mrg acc r := by
      unfold Tab.joinT
      rw [if_neg (by rw [h, hr]; simp), if_neg (by rw [hc]; decide)]
    have hmt : Tab.tabR (Tab.mrg acc r) = true := Tab.mrg_tab h b1.1
    have ih := gath_go (L := L) (acc := Tab.mrg acc r) hmt (fun q hq => ht q (by simp [hq])) (fun q hq x hx y hy => by
      rcases List.mem_append.1 ((hm.mem_iff (a := x)).1 hx) with e | e
      · exact hd q (by simp [hq]) x e y hy
      · exact hp.1 q hq x e y hy) hp.2
    rw [List.foldl_cons, hj]
    refine ⟨ih.1, fun x => ?_⟩
    rw [ih.2, hm.mem_iff, List.mem_append]
    constructor
    · rintro ((h1 | h1) | ⟨q, hq, h1⟩)
      · exact .inl h1
      · exact .inr ⟨r, by simp, h1⟩
      · exact .inr ⟨q, by simp [hq], h1⟩
    · rintro (h1 | ⟨q, hq, h1⟩)
      · exact .inl (.inl h1)
      · rcases List.mem_cons.1 hq with rfl | hq
        · exact .inl (.inr h1)
        · exact .inr ⟨q, hq, h1⟩
theorem gath_mem {L : List (List Tab.Kc)} (ht : ∀ r ∈ L, Tab.tabR r = true) (hp : L.Pairwise Dsj) : Tab.tabR (gath L) = true ∧ ∀ x, x ∈ gath L ↔ ∃ r ∈ L, x ∈ r := by
  have h := gath_go (L := L) (acc := []) rfl ht (fun r _ x hx => nomatch hx) hp
  exact ⟨h.1, fun x => (h.2 x).trans (by simp)⟩
theorem snapR_own {x : Sn} (h : snapR x = true) : ∀ y ∈ x.rows, Tab.ownG (y.key % 8) x.w = x.ix := by
  have h1 := rrows_is x (snapR_tab h) (snapR_sh h)
  rw [decide_eq_true (snapR_part h)] at h1
  exact of_decide_eq_true h1.symm
theorem fit_at {l : List Sn} (hf : fitW l = true) {j : Nat} {x : Sn} (hx : l[j]? = some x) : fitK l j x := by
  unfold fitW at hf
  simp only [Bool.and_eq_true, List.all_eq_true] at hf
  exact of_decide_eq_true (hf.2 (x, j) (List.mem_iff_getElem?.2 ⟨j, by rw [List.getElem?_zipIdx, hx]; simp⟩))
theorem fit_pos {l : List Sn} (h1 : ∀ x ∈ l, snapR x = true) (hf : fitW l = true) : 1 ≤ l.length ∧ l.length ≤ 3 := by
  rcases fit_len h1 hf with ⟨a, rfl⟩ | ⟨a, b, rfl⟩ | ⟨a, b, c, rfl⟩ <;> simp
theorem fit_dsj {l : List Sn} (h1 : ∀ x ∈ l, snapR x = true) (hf : fitW l = true) : (l.map (·.rows)).Pairwise Dsj := by
  rw [List.pairwise_map, List.pairwise_iff_getElem]
  intro i j hi hj hij x hx y hy he
  have fi := fit_at hf (List.getElem?_eq_getElem hi)
  have fj := fit_at hf (List.getElem?_eq_getElem hj)
  have oi := snapR_own (h1 _ (List.getElem_mem hi)) x hx
  have oj := snapR_own (h1 _ (List.getElem_mem hj)) y hy
  rw [fi.2.1, fi.2.2] at oi
  rw [fj.2.1, fj.2.2] at oj
  rw [he.2, oj] at oi
  omega
theorem whole_rows {l : List Sn} (h1 : ∀ x ∈ l, snapR x = true) (hf : fitW l = true) : Tab.tabR (wholeS l).rows = true ∧ ∀ x, x ∈ (wholeS l).rows ↔ ∃ s ∈ l, x ∈ s.rows := by
  have h := gath_mem (L := l.map (·.rows)) (fun r hr => by obtain ⟨s, hs, rfl⟩ := List.mem_map.1 hr; exact snapR_tab (h1 s hs)) (fit_dsj h1 hf)
  refine ⟨h.1, fun x => ?_⟩
  rw [show (wholeS l).rows = gath (l.map (·.rows)) from rfl, h.2]
  constructor
  · rintro ⟨r, hr, hx⟩
    obtain ⟨s, hs, rfl⟩ := List.mem_map.1 hr
    exact ⟨s, hs, hx⟩
  · rintro ⟨s, hs, hx⟩
    exact ⟨_, List.mem_map.2 ⟨s, hs, rfl⟩, hx⟩
theorem own_rng {g : Int} {n : Nat} (hg : 0 ≤ g ∧ g < 8) (hn : 1 ≤ n ∧ n ≤ 3) : 0 ≤ Tab.ownG g n ∧ Tab.ownG g n < n := by
  unfold Tab.ownG
  have h : n = 1 ∨ n = 2 ∨ n = 3 := by omega
  rcases h with rfl | rfl | rfl <;> constructor <;> simp <;> omega
theorem own_mem {l : List Sn} {g : Int} (hg : 0 ≤ g ∧ g < 8) (hn : 1 ≤ l.length ∧ l.length ≤ 3) : ownW g l ∈ l := by
  have h := own_rng hg hn
  unfold ownW
  have h2 : (Tab.ownG g l.length).toNat < l.length := by omega
  rw [List.getD_eq_getElem?_getD, List.getElem?_eq_getElem h2]
  exact List.getElem_mem h2
theorem own_one {g : Int} (hg : 0 ≤ g ∧ g < 8) : Tab.ownG g 1 = 0 := by unfold Tab.ownG; omega
theorem sn_op {x : Sn} (h : snapR x = true) : 0 ≤ x.op ∧ x.op < 8 := by
  unfold snapR at h
  simp only [Bool.and_eq_true, decide_eq_true_eq] at h
  exact h.1.1
theorem snapR_of {x : Sn} (h1 : 0 ≤ x.op ∧ x.op < 8) (h2 : Tab.okS x.ix x.w) (h3 : (0 ≤ x.o0 ∧ x.o0 ≤ 40) ∧ (0 ≤ x.o1 ∧ x.o1 ≤ 40) ∧ (0 ≤ x.o2 ∧ x.o2 ≤ 40) ∧ (0 ≤ x.o3 ∧ x.o3 ≤ 40) ∧ (0 ≤ x.o4 ∧ x.o4 ≤ 40) ∧ (0 ≤ x.o5 ∧ x.o5 ≤ 40) ∧ (0 ≤ x.o6 ∧ x.o6 ≤ 40) ∧ (0 ≤ x.o7 ∧ x.o7 ≤ 40)) (h4 : (x.o0 = 0 ∨ Tab.ownG 0 x.w = x.ix) ∧ (x.o1 = 0 ∨ Tab.ownG 1 x.w = x.ix) ∧ (x.o2 = 0 ∨ Tab.ownG 2 x.w = x.ix) ∧ (x.o3 = 0 ∨ Tab.ownG 3 x.w = x.ix) ∧ (x.o4 = 0 ∨ Tab.ownG 4 x.w = x.ix) ∧ (x.o5 = 0 ∨ Tab.ownG 5 x.w = x.ix) ∧ (x.o6 = 0 ∨ Tab.ownG 6 x.w = x.ix) ∧ (x.o7 = 0 ∨ Tab.ownG 7 x.w = x.ix)) (h5 : namesR x.txs = true) (h6 : Tab.tabR x.rows = true) (h7 : ∀ y ∈ x.rows, Tab.ownG (y.key % 8) x.w = x.ix) : snapR x = true := by
  have h8 := rrows_is x h6 h2
  rw [decide_eq_true h7] at h8
  unfold snapR
  rw [decide_eq_true ⟨h1, h2⟩, offR_is, decide_eq_true ⟨h3, h4⟩, h5, h6, h8]
  rfl
theorem whole_R {l : List Sn} (h1 : ∀ x ∈ l, snapR x = true) (hf : fitW l = true) (hn : namesR (l.map (·.txs)).flatten = true) : snapR (wholeS l) = true := by
  have hp := fit_pos h1 hf
  have hw := whole_rows h1 hf
  have hd : (wholeS l).op = (l.headD zeroS).op := rfl
  obtain ⟨a, ha⟩ : ∃ a, l[0]? = some a := ⟨_, List.getElem?_eq_getElem (by omega)⟩
  have hop := sn_op (h1 a (List.mem_of_getElem? ha))
  have fa := fit_at hf ha
  refine snapR_of (by rw [hd, ← fa.1]; exact hop) (by unfold Tab.okS; exact ⟨⟨(by decide : (1:Int) ≤ 1), (by decide : (1:Int) ≤ 3)⟩, (by decide : (0:Int) ≤ 0), (by decide : (0:Int) < 1)⟩) ⟨?_, ?_, ?_, ?_, ?_, ?_, ?_, ?_⟩ ⟨.inr (own_one (g := 0) (by decide)), .inr (own_one (g := 1) (by decide)), .inr (own_one (g := 2) (by decide)), .inr (own_one (g := 3) (by decide)), .inr (own_one (g := 4) (by decide)), .inr (own_one (g := 5) (by decide)), .inr (own_one (g := 6) (by decide)), .inr (own_one (g := 7) (by decide))⟩ hn hw.1 (fun y hy => own_one (by have := Tab.keyOk_iff.1 ((Tab.tab_iff.1 hw.1).1 y hy).1; omega))
  · exact (snapR_rng (h1 _ (own_mem (g := 0) (by decide) hp))).1.1
  · exact (snapR_rng (h1 _ (own_mem (g := 1) (by decide) hp))).1.2.1
  · exact (snapR_rng (h1 _ (own_mem (g := 2) (by decide) hp))).1.2.2.1
  · exact (snapR_rng (h1 _ (own_mem (g := 3) (by decide) hp))).1.2.2.2.1
  · exact (snapR_rng (h1 _ (own_mem (g := 4) (by decide) hp))).1.2.2.2.2.1
  · exact (snapR_rng (h1 _ (own_mem (g := 5) (by decide) hp))).1.2.2.2.2.2.1
  · exact (snapR_rng (h1 _ (own_mem (g := 6) (by decide) hp))).1.2.2.2.2.2.2.1
  · exact (snapR_rng (h1 _ (own_mem (g := 7) (by decide) hp))).1.2.2.2.2.2.2.2
theorem part_R {W : Sn} (h : snapR W = true) {i w : Int} (ho : Tab.okS i w) : snapR (partS W i w) = true := by
  have ht := snapR_tab h
  have hr := (snapR_rng h).1
  have hm : ∀ y, y ∈ Tab.partL W.rows i w → y ∈ W.rows ∧ Tab.ownG (y.key % 8) w = i := fun y hy => by
    rw [Tab.part_mine ht ho, List.mem_filter] at hy
    exact ⟨hy.1, of_decide_eq_true hy.2⟩
  have h40 : ∀ (g o : Int), 0 ≤ o ∧ o ≤ 40 → 0 ≤ own1 g i w o ∧ own1 g i w o ≤ 40 := fun g o h => by unfold own1; split <;> omega
  have h41 : ∀ (g o : Int), own1 g i w o = 0 ∨ Tab.ownG g w = i := fun g o => by unfold own1; split <;> simp_all
  exact snapR_of (x := partS W i w) (show 0 ≤ W.op ∧ W.op < 8 from sn_op h) ho ⟨h40 0 _ hr.1, h40 1 _ hr.2.1, h40 2 _ hr.2.2.1, h40 3 _ hr.2.2.2.1, h40 4 _ hr.2.2.2.2.1, h40 5 _ hr.2.2.2.2.2.1, h40 6 _ hr.2.2.2.2.2.2.1, h40 7 _ hr.2.2.2.2.2.2.2⟩ ⟨h41 0 _, h41 1 _, h41 2 _, h41 3 _, h41 4 _, h41 5 _, h41 6 _, h41 7 _⟩ rfl (by show Tab.tabR (Tab.partL W.rows i w) = true; rw [Tab.part_mine ht ho]; exact Tab.flt_tab ht) (fun y hy => (hm y hy).2)
def resc (W : Sn) (w : Int) : List Sn := if w = 1 then [partS W 0 1] else if w = 2 then [partS W 0 2, partS W 1 2] else [partS W 0 3, partS W 1 3, partS W 2 3]
theorem okS_lt {i w : Int} (h1 : 1 ≤ w) (h2 : w ≤ 3) (h3 : 0 ≤ i) (h4 : i < w) : Tab.okS i w := ⟨⟨h1, h2⟩, h3, h4⟩
theorem resc_R {W : Sn} (h : snapR W = true) (w : Int) : ∀ x ∈ resc W w, snapR x = true := by
  intro x hx
  unfold resc at hx
  split at hx
  · simp at hx; subst hx; exact part_R h (okS_lt (by decide) (by decide) (by decide) (by decide))
  split at hx
  · simp at hx
    rcases hx with rfl | rfl <;> exact part_R h (okS_lt (by decide) (by decide) (by decide) (by decide))
  · simp at hx
    rcases hx with rfl | rfl | rfl <;> exact part_R h (okS_lt (by decide) (by decide) (by decide) (by decide))
theorem resc_len {W : Sn} {w : Int} (h1 : 1 ≤ w) (h2 : w ≤ 3) : ((resc W w).length : Int) = w := by
  have h : w = 1 ∨ w = 2 ∨ w = 3 := by omega
  rcases h with rfl | rfl | rfl <;> rfl
theorem resc_at {W : Sn} {w : Int} (h1 : 1 ≤ w) (h2 : w ≤ 3) {i : Nat} (hi : (i : Int) < w) : (resc W w)[i]? = some (partS W i w) := by
  have h : w = 1 ∨ w = 2 ∨ w = 3 := by omega
  rcases h with rfl | rfl | rfl
  · have : i = 0 := by omega
    subst this; rfl
  · have : i = 0 ∨ i = 1 := by omega
    rcases this with rfl | rfl <;> rfl
  · have : i = 0 ∨ i = 1 ∨ i = 2 := by omega
    rcases this with rfl | rfl | rfl <;> rfl
theorem resc_fit {W : Sn} {w : Int} (h1 : 1 ≤ w) (h2 : w ≤ 3) : fitW (resc W w) = true := by
  have h : w = 1 ∨ w = 2 ∨ w = 3 := by omega
  rcases h with rfl | rfl | rfl
  · show fitW [_] = true
    rw [fit_1]; exact decide_eq_true ⟨rfl, rfl⟩
  · show fitW [_, _] = true
    rw [fit_2]; exact decide_eq_true ⟨⟨rfl, rfl⟩, rfl, rfl, rfl⟩
  · show fitW [_, _, _] = true
    rw [fit_3]; exact decide_eq_true ⟨⟨rfl, rfl⟩, ⟨rfl, rfl, rfl⟩, rfl, rfl, rfl⟩
def bare (W : Sn) : Sn := ⟨W.op, W.ix, W.w, W.en, W.rows, W.o0, W.o1, W.o2, W.o3, W.o4, W.o5, W.o6, W.o7, []⟩
theorem resc_rows {W : Sn} (h : snapR W = true) {w : Int} (h1 : 1 ≤ w) (h2 : w ≤ 3) : (wholeS (resc W w)).rows = W.rows := by
  have hw := whole_rows (resc_R h w) (resc_fit h1 h2)
  have ht := snapR_tab h
  refine Tab.same_pw (Tab.tab_iff.1 hw.1).2 (Tab.tab_iff.1 ht).2 fun x => ?_
  rw [hw.2]
  constructor
  · rintro ⟨s, hs, hx⟩
    obtain ⟨i, hi⟩ := List.mem_iff_getElem?.1 hs
    have hil : (i : Int) < w := by have := (List.getElem?_eq_some_iff.1 hi).1; have := resc_len (W := W) h1 h2; omega
    rw [resc_at h1 h2 hil] at hi
    cases hi
    have hx : x ∈ Tab.partL W.rows i w := hx
    rw [Tab.part_mine ht (okS_lt h1 h2 (by omega) hil), List.mem_filter] at hx
    exact hx.1
  · intro hx
    have hk := Tab.keyOk_iff.1 ((Tab.tab_iff.1 ht).1 x hx).1
    have hl := resc_len (W := W) h1 h2
    have hg := own_rng (g := x.key % 8) (n := (resc W w).length) (by omega) (by omega)
    rw [hl] at hg
    have hi := resc_at (W := W) h1 h2 (i := (Tab.ownG (x.key % 8) w).toNat) (by omega)
    refine ⟨_, List.mem_of_getElem? hi, ?_⟩
    show x ∈ Tab.partL W.rows _ w
    rw [show (((Tab.ownG (x.key % 8) w).toNat : Nat) : Int) = Tab.ownG (x.key % 8) w by omega, Tab.part_mine ht (okS_lt h1 h2 (by omega) (by omega)), List.mem_filter]
    exact ⟨hx, decide_eq_true rfl⟩
theorem resc_whole {W : Sn} (h : snapR W = true) (hi : W.ix = 0) (hw : W.w = 1) {w : Int} (h1 : 1 ≤ w) (h2 : w ≤ 3) : wholeS (resc W w) = bare W := by
  have hr := resc_rows h h1 h2
  have h3 : w = 1 ∨ w = 2 ∨ w = 3 := by omega
  unfold bare
  rw [hi, hw, ← hr]
  rcases h3 with rfl | rfl | rfl
  · show wholeS [partS W 0 1] = _
    rw [wholeS_1]
    simp only [partS, own1]
    simp [Tab.ownG]
    rfl
  · show wholeS [partS W 0 2, partS W 1 2] = _
    rw [wholeS_2]
    simp only [partS, own1]
    simp [Tab.ownG]
    first | rfl | (cases W.en <;> rfl) | exact ⟨by cases W.en <;> rfl, rfl⟩
  · show wholeS [partS W 0 3, partS W 1 3, partS W 2 3] = _
    rw [wholeS_3]
    simp only [partS, own1]
    simp [Tab.ownG]
    first | rfl | (cases W.en <;> rfl) | exact ⟨by cases W.en <;> rfl, rfl⟩
end Go.Proofs.Ytopieffkpdlpbaa
namespace Go.Proofs.Ytopieffkpdlpbaa
open Go Go.RowKit Wx
set_option linter.unusedVariables false
set_option linter.unusedSimpArgs false
set_option maxHeartbeats 4000000
def lastC (l : List Sn) (s k : Int) : Int × Int := l.foldl (fun a x => if Tab.getR x.rows s k ≠ (0, 0) then Tab.getR x.rows s k else a) (0, 0)
theorem lastC_at {l : List Sn} {i : Nat} {x : Sn} {s k : Int} (h : l[i]? = some x) : lastC (l.take (i + 1)) s k = if Tab.getR x.rows s k ≠ (0, 0) then Tab.getR x.rows s k else lastC (l.take i) s k := by
  unfold lastC; rw [take_snoc h, List.foldl_append]; rfl
theorem last_go (f : Sn → Int × Int) (c : Int × Int) : ∀ (l : List Sn) (a : Int × Int), (∀ x ∈ l, f x = (0, 0) ∨ f x = c) → (l.foldl (fun a x => if f x ≠ (0, 0) then f x else a) a = a ∧ ∀ x ∈ l, f x = (0, 0)) ∨ (l.foldl (fun a x => if f x ≠ (0, 0) then f x else a) a = c ∧ ∃ x ∈ l, f x ≠ (0, 0))
  | [], a, _ => .inl ⟨rfl, fun x h => nomatch h⟩
  | x :: l, a, h => by
    rw [List.foldl_cons]
    by_cases hx : f x = (0, 0)
    · rw [if_neg (not_not_intro hx)]
      rcases last_go f c l a (fun y hy => h y (by simp [hy])) with ⟨h1, h2⟩ | ⟨h1, y, hy, h2⟩
      · exact .inl ⟨h1, fun y hy => by rcases List.mem_cons.1 hy with rfl | e; exact hx; exact h2 y e⟩
      · exact .inr ⟨h1, y, by simp [hy], h2⟩
    · rw [if_pos hx]
      have hc : f x = c := (h x (by simp)).resolve_left hx
      rcases last_go f c l (f x) (fun y hy => h y (by simp [hy])) with ⟨h1, _⟩ | ⟨h1, _⟩
      · exact .inr ⟨h1.trans hc, x, by simp, hx⟩
      · exact .inr ⟨h1, x, by simp, hx⟩
theorem getR_mem {T : List Tab.Kc} (hT : Tab.tabR T = true) {y : Tab.Kc} (hy : y ∈ T) {s k : Int} (he : y.src = s ∧ y.key = k) : Tab.getR T s k = (y.cnt, y.sum) := by
  unfold Tab.getR
  cases hx : T.find? (Tab.eqK s k) with
  | none => exact absurd (show Tab.eqK s k y = true from decide_eq_true he) (by have := List.find?_eq_none.1 hx y hy; exact this)
  | some z =>
    have h2 := List.find?_some hx
    unfold Tab.eqK at h2
    have h3 := of_decide_eq_true h2
    have hz := Tab.key_one hT (List.mem_of_find?_eq_some hx) hy ⟨h3.1.trans he.1.symm, h3.2.trans he.2.symm⟩
    subst hz
    rfl
theorem tab_pos {T : List Tab.Kc} (hT : Tab.tabR T = true) : ∀ x ∈ T, 0 < x.cnt := fun x hx => ((Tab.tab_iff.1 hT).1 x hx).2
theorem cells_of {l : List Sn} {T : List Tab.Kc} (hl : ∀ x ∈ l, Tab.tabR x.rows = true) (hT : Tab.tabR T = true) (hm : ∀ x, x ∈ T ↔ ∃ s ∈ l, x ∈ s.rows) (s k : Int) : lastC l s k = Tab.getR T s k := by
  have h0 : ∀ x ∈ l, Tab.getR x.rows s k = (0, 0) ∨ Tab.getR x.rows s k = Tab.getR T s k := fun x hx => by
    by_cases h : Tab.getR x.rows s k = (0, 0)
    · exact .inl h
    · obtain ⟨y, hy, he⟩ := (Tab.get_in (tab_pos (hl x hx))).1 h
      exact .inr ((getR_mem (hl x hx) hy he).trans (getR_mem hT ((hm y).2 ⟨x, hx, hy⟩) he).symm)
  rcases last_go (fun x => Tab.getR x.rows s k) (Tab.getR T s k) l (0, 0) h0 with ⟨h1, h2⟩ | ⟨h1, _⟩
  · unfold lastC
    rw [h1]
    by_cases h : Tab.getR T s k = (0, 0)
    · exact h.symm
    · obtain ⟨y, hy, he⟩ := (Tab.get_in (tab_pos hT)).1 h
      obtain ⟨x, hx, hyx⟩ := (hm y).1 hy
      exact absurd (h2 x hx) ((Tab.get_in (tab_pos (hl x hx))).2 ⟨y, hyx, he⟩)
  · exact h1
def offG (g : Int) (x : Sn) : Int := ([x.o0, x.o1, x.o2, x.o3, x.o4, x.o5, x.o6, x.o7] : List Int).getD g.toNat 0
theorem g8 {g : Int} (h : 0 ≤ g ∧ g < 8) : g = 0 ∨ g = 1 ∨ g = 2 ∨ g = 3 ∨ g = 4 ∨ g = 5 ∨ g = 6 ∨ g = 7 := by omega
theorem part_no_key {W : Sn} (h : snapR W = true) {i w : Int} (ho : Tab.okS i w) {s k : Int} (hn : ¬ Tab.ownG (k % 8) w = i) : Tab.getR (partS W i w).rows s k = (0, 0) := by
  by_cases hz : Tab.getR (partS W i w).rows s k = (0, 0)
  · exact hz
  · have ht := snapR_tab (part_R h ho)
    obtain ⟨y, hy, he⟩ := (Tab.get_in (tab_pos ht)).1 hz
    have := snapR_own (part_R h ho) y hy
    rw [he.2] at this
    exact absurd this hn
theorem offG_rng {x : Sn} (h : snapR x = true) {g : Int} (hg : 0 ≤ g ∧ g < 8) : 0 ≤ offG g x ∧ offG g x ≤ 40 := by
  have hr := (snapR_rng h).1
  rcases g8 hg with rfl | rfl | rfl | rfl | rfl | rfl | rfl | rfl
  · exact hr.1
  · exact hr.2.1
  · exact hr.2.2.1
  · exact hr.2.2.2.1
  · exact hr.2.2.2.2.1
  · exact hr.2.2.2.2.2.1
  · exact hr.2.2.2.2.2.2.1
  · exact hr.2.2.2.2.2.2.2
theorem off_whole {l : List Sn} (h1 : ∀ x ∈ l, snapR x = true) (hf : fitW l = true) {g : Int} (hg : 0 ≤ g ∧ g < 8) : sumO (offG g) l = offG g (wholeS l) := by
  have h := pw_all h1 hf
  unfold pw at h
  rw [List.take_length] at h
  rcases g8 hg with rfl | rfl | rfl | rfl | rfl | rfl | rfl | rfl
  · exact congrArg Sn.o0 h
  · exact congrArg Sn.o1 h
  · exact congrArg Sn.o2 h
  · exact congrArg Sn.o3 h
  · exact congrArg Sn.o4 h
  · exact congrArg Sn.o5 h
  · exact congrArg Sn.o6 h
  · exact congrArg Sn.o7 h
theorem part_no_off {W : Sn} {i w g : Int} (hg : 0 ≤ g ∧ g < 8) (hn : ¬ Tab.ownG g w = i) : offG g (partS W i w) = 0 := by
  rcases g8 hg with rfl | rfl | rfl | rfl | rfl | rfl | rfl | rfl
  · exact if_neg hn
  · exact if_neg hn
  · exact if_neg hn
  · exact if_neg hn
  · exact if_neg hn
  · exact if_neg hn
  · exact if_neg hn
  · exact if_neg hn
end Go.Proofs.Ytopieffkpdlpbaa
namespace Go.Proofs.Ytopieffkpdlpbaa
open Go Go.RowKit Wx
set_option linter.unusedVariables false
set_option linter.unusedSimpArgs false
set_option maxHeartbeats 4000000
theorem group2_con (s k v : Int)  : Con Try.prog 27 [.agg [.v (.int .i64 s), .v (.int .i64 k), .v (.int .i64 v)]] (fun rx rK rt => rx = .tup [.one (.v (.int .i64 (bif Tab.keyOk s k then k % 8 else 0))), .one (.v (.int .i64 (bif Tab.keyOk s k then 0 else 150)))] ∧ rK = [] ∧ rt = 0) := by
  refine Z.con_ofF tabOk 12 Try.f27 _ Try.func27 (by kernel_rfl) rfl rfl rfl rfl ?_
  have ck := Tab.rec_con s k v
  cases hk : Tab.keyOk s k
  all_goals rw [hk] at ck
  all_goals try simp only [cond_true, cond_false] at ck
  · skip
    repeat' ((conv => whnf); first
      | with_reducible first | refine spB_t ?_
      | ((with_reducible apply spB_cong); (focus (simp only [beq_self_eq_true, bne_self_eq_false, Bool.true_bne, Bool.false_bne, Bool.bne_true, Bool.bne_false, Bool.true_beq, Bool.false_beq, Bool.not_true, Bool.not_false, Bool.not_not, Int.reduceBEq, Int.reduceBNe, Int.reduceLE, Int.reduceLT, Int.reduceEq, decide_true, decide_false]; rfl)))
      | ((first | (with_reducible refine Z.callZ_mk ?_ (ck) ?_)); (focus ((repeat' (first | exact trivial | exact rfl | apply And.intro)); done)))
      | fail)
    all_goals (try (conv => whnf))
    all_goals try (show Nat.ble _ _ = true; rfl)
    all_goals try (exfalso; rename_i hz; cases hz; done)
    all_goals try (exfalso; (try simp only [LN] at *) <;> omega)
    all_goals first
      | ((first | (with_reducible apply Z.retF2)); (focus (exact rfl)); (repeat' (first | exact trivial | (with_reducible apply Z.frz_one) | (with_reducible apply Z.fq_int) | exact rfl | apply And.intro)); (all_goals (try exact (fun _ => none))); all_goals (first | (simp; done)))
      | fail
  have hk2 := Tab.keyOk_iff.1 hk
  have cg := Tab.group_con s k v
  rw [Int.tmod_eq_emod_of_nonneg (by omega)] at cg
  repeat' ((conv => whnf); first
    | ((with_reducible apply spB_cong); (focus (simp only [beq_self_eq_true, bne_self_eq_false, Bool.true_bne, Bool.false_bne, Bool.bne_true, Bool.bne_false, Bool.true_beq, Bool.false_beq, Bool.not_true, Bool.not_false, Bool.not_not, Int.reduceBEq, Int.reduceBNe, Int.reduceLE, Int.reduceLT, Int.reduceEq, decide_true, decide_false]; rfl)))
    | with_reducible first | refine spB_no (by decide) ?_
    | ((first | (with_reducible refine Z.callZ_mk ?_ (ck) ?_) | (with_reducible refine Z.callZ_mk ?_ (cg) ?_)); (focus ((repeat' (first | exact trivial | exact rfl | apply And.intro)); done)))
    | fail)
  all_goals (try (conv => whnf))
  all_goals try (show Nat.ble _ _ = true; rfl)
  all_goals try (exfalso; rename_i hz; cases hz; done)
  all_goals try (exfalso; (try simp only [LN] at *) <;> omega)
  all_goals first
    | ((first | (with_reducible apply Z.retF2)); (focus (exact rfl)); (repeat' (first | exact trivial | (with_reducible apply Z.frz_one) | (with_reducible apply Z.fq_int) | exact rfl | apply And.intro)); (all_goals (try exact (fun _ => none))); all_goals (first | (simp; done)))
    | fail
end Go.Proofs.Ytopieffkpdlpbaa
namespace Go.Proofs.Ytopieffkpdlpbaa
open Go Go.RowKit Wx
set_option linter.unusedVariables false
set_option linter.unusedSimpArgs false
set_option maxHeartbeats 4000000
end Go.Proofs.Ytopieffkpdlpbaa
namespace Go.Proofs.Ytopieffkpdlpbaa
open Go Go.RowKit Wx
set_option linter.unusedVariables false
set_option linter.unusedSimpArgs false
set_option maxHeartbeats 4000000
def rescE (l : List Sn) (w : Int) : List Sn × Int := if (wholeE l).2 ≠ 0 then ([], (wholeE l).2) else if Tab.okS 0 w then (resc (wholeE l).1 w, 0) else ([], 2)
theorem wholeE_ok {l : List Sn} (h : (wholeE l).2 = 0) : (∀ x ∈ l, snapR x = true) ∧ fitW l = true ∧ namesR (l.map (·.txs)).flatten = true ∧ wholeE l = (wholeS l, 0) := by
  unfold wholeE at h ⊢
  by_cases h1 : l.all snapR = false
  · rw [if_pos h1] at h; exact absurd h (by decide)
  rw [if_neg h1] at h ⊢
  by_cases h2 : fitW l = false ∨ namesR (l.map (·.txs)).flatten = false
  · rw [if_pos h2] at h; exact absurd h (by decide)
  rw [if_neg h2]
  have h3 : l.all snapR = true := by simpa using h1
  rw [not_or] at h2
  exact ⟨List.all_eq_true.1 h3, by simpa using h2.1, by simpa using h2.2, rfl⟩
theorem wholeE_len {l : List Sn} : (wholeE l).1.rows.length ≤ 256 := by
  unfold wholeE
  split
  · exact Nat.zero_le _
  split
  · exact Nat.zero_le _
  · exact gath_len _
theorem names_len {l : List Nm} (h : namesR l = true) : l.length ≤ 24 := by
  unfold namesR at h
  simp only [Bool.and_eq_true, decide_eq_true_eq] at h
  exact h.1
theorem wholeE_txs {l : List Sn} : (wholeE l).1.txs.length ≤ 24 := by
  by_cases h : (wholeE l).2 = 0
  · obtain ⟨_, _, h3, h4⟩ := wholeE_ok h
    rw [h4]; exact names_len h3
  · unfold wholeE at h ⊢
    split
    · exact Nat.zero_le _
    split
    · exact Nat.zero_le _
    · rename_i h1 h2; rw [if_neg h1, if_neg h2] at h; exact absurd rfl h
theorem spart0_con (x : Sn) (i w : Int) (hr : x.rows.length ≤ 1000) (htb : Tab.tabR x.rows = true) (ho : Tab.okS i w) : Con Try.prog 49 [.agg [.v (.int .i64 x.op), .v (.int .i64 x.ix), .v (.int .i64 x.w), .v (.bool x.en), .ro false 4 (x.rows.map Tab.eK), .v (.int .i64 x.o0), .v (.int .i64 x.o1), .v (.int .i64 x.o2), .v (.int .i64 x.o3), .v (.int .i64 x.o4), .v (.int .i64 x.o5), .v (.int .i64 x.o6), .v (.int .i64 x.o7), .ro false 3 (x.txs.map eN)], .one (.v (.int .i64 i)), .one (.v (.int .i64 w))] (fun rx rK rt => rx = .pl (.agg [.v (.int .i64 (partS x i w).op), .v (.int .i64 (partS x i w).ix), .v (.int .i64 (partS x i w).w), .v (.bool (partS x i w).en), .ro true 4 ((partS x i w).rows.map Tab.eK), .v (.int .i64 (partS x i w).o0), .v (.int .i64 (partS x i w).o1), .v (.int .i64 (partS x i w).o2), .v (.int .i64 (partS x i w).o3), .v (.int .i64 (partS x i w).o4), .v (.int .i64 (partS x i w).o5), .v (.int .i64 (partS x i w).o6), .v (.int .i64 (partS x i w).o7), .ro true 3 ((partS x i w).txs.map eN)]) ∧ rK = [] ∧ rt = 0) := by
  refine Z.con_ofF tabOk 30 Try.f49 _ Try.func49 (by kernel_rfl) rfl rfl rfl rfl ?_
  have cpa := Tab.part_ok x.rows i w hr htb ho
  have cj := joined_con x.o0 x.o1 x.o2 x.o3 x.o4 x.o5 x.o6 x.o7 i w ho
  repeat' ((conv => whnf); first
    | with_reducible first | refine Z.callZ_in tabOk 18 Try.f88 _ Try.func88 (by kernel_rfl) rfl rfl rfl ?_
    | ((first | (with_reducible refine Z.callZ_mk ?_ (cpa) ?_) | (with_reducible refine Z.callZ_mk ?_ (cj) ?_)); (focus ((repeat' (first | exact trivial | exact rfl | apply And.intro)); done)))
    | ((with_reducible apply ex_and); exact rfl)
    | with_reducible first | refine Z.drawZ_rule tabOk mixOk ?_ | refine Z.apZ_mk (by kernel_rfl) ?_
    | ((with_reducible refine Z.ConZ.red ?_); (try subst hlb); (apply Z.conZ_all); (focus (repeat (first | exact Z.FK.nil | (apply Z.FK.keep; exact rfl)))); (focus rfl); (focus rfl); (focus (repeat (first | exact trivial | (refine ⟨(fun o ho => (by first | (cases ho; rfl) | (cases ho; exact Z.inL_map fun _ => rfl) | (cases ho; exact Z.inL_mapr fun _ => rfl) | exact Z.inL_gB ho fun _ => rfl)), ?_⟩)))))
    | ((refine ⟨rfl, ?_, rfl⟩); (focus (repeat (first | exact Z.DK.nil | apply Z.DK.cons))))
    | fail)
  all_goals (try (conv => whnf))
  all_goals try (show Nat.ble _ _ = true; rfl)
  all_goals try (exfalso; rename_i hz; cases hz; done)
  all_goals try (exfalso; (try simp only [LN] at *) <;> omega)
  all_goals first
    | ((first | (with_reducible apply Z.retF1)); (focus (exact rfl)); (repeat' (first | exact trivial | (with_reducible apply Z.frz_agg) | (with_reducible apply Z.fq_int) | (with_reducible apply Z.fq_bool) | (exact Z.frz_nil) | exact rfl | apply And.intro)); (all_goals (try exact (fun _ => none))); all_goals (first | (simp; done)))
    | fail
end Go.Proofs.Ytopieffkpdlpbaa
namespace Go.Proofs.Ytopieffkpdlpbaa
open Go Go.RowKit Wx
set_option linter.unusedVariables false
set_option linter.unusedSimpArgs false
set_option maxHeartbeats 4000000
theorem sresc_con (l : List Sn) (w : Int) (hA : ∀ x ∈ l, x.rows.length ≤ 1000 ∧ x.txs.length ≤ 1000) (hl : l.length ≤ 1000) : Con Try.prog 18 [.one (.ro false 14 ((l : List Sn).map eSn)), .one (.v (.int .i64 w))] (fun rx rK rt => rx = .tup [.one (.ro true 14 (((rescE l w).1 : List Sn).map eSn)), .one (.v (.int .i64 (rescE l w).2))] ∧ rK = [] ∧ rt = 0) := by
  refine Z.con_ofF tabOk 32 Try.f18 _ Try.func18 (by kernel_rfl) rfl rfl rfl rfl ?_
  unfold rescE
  have hok := @wholeE_ok l
  have hrl := @wholeE_len l
  have htl := @wholeE_txs l
  have cw := swhole_con l hA hl
  have hW : (wholeE l).2 = 0 → snapR (wholeE l).1 = true ∧ (wholeE l).1.w = 1 := fun h => by
    obtain ⟨h1, h2, h3, h4⟩ := wholeE_ok h
    rw [h4]
    exact ⟨whole_R h1 h2 h3, rfl⟩
  clear hok
  generalize wholeE l = D at *
  obtain ⟨W, e⟩ := D
  dsimp only at *
  by_cases he : e = 0
  rotate_left
  · rw [if_pos he]
    repeat' ((conv => whnf); first
      | (with_reducible refine spB_bne ?_ ?_ <;> intro _ <;> (try (exfalso; first | contradiction | omega | (rename_i hz; refine hz ?_; simp; done) | (rename_i hz; simp at hz; done) | (simp only [LN] at *; omega))))
      | ((first | (with_reducible refine Z.callZ_mk ?_ (cw) ?_)); (focus ((repeat' (first | exact trivial | exact rfl | apply And.intro)); done)))
      | fail)
    all_goals (try (conv => whnf))
    all_goals try (show Nat.ble _ _ = true; rfl)
    all_goals try (exfalso; rename_i hz; cases hz; done)
    all_goals try (exfalso; (try simp only [LN] at *) <;> omega)
    all_goals first
      | ((first | (with_reducible apply Z.retF2)); (focus (exact rfl)); (repeat' (first | exact trivial | (with_reducible apply Z.frz_one) | (exact Z.frz_nil) | exact rfl | apply And.intro)); (all_goals (try exact (fun _ => none))); all_goals (first | (simp; done)))
      | fail
  subst he
  rw [if_neg (by decide)]
  obtain ⟨hs, hw1⟩ := hW rfl
  by_cases ho : Tab.okS 0 w
  rotate_left
  · rw [if_neg ho]
    have cow := Tab.owned_bad 0 w ho
    repeat' ((conv => whnf); first
      | with_reducible first | refine spB_t ?_
      | ((with_reducible apply spB_cong); (focus (simp only [beq_self_eq_true, bne_self_eq_false, Bool.true_bne, Bool.false_bne, Bool.bne_true, Bool.bne_false, Bool.true_beq, Bool.false_beq, Bool.not_true, Bool.not_false, Bool.not_not, Int.reduceBEq, Int.reduceBNe, Int.reduceLE, Int.reduceLT, Int.reduceEq, decide_true, decide_false]; rfl)))
      | with_reducible first | refine spB_no (by decide) ?_
      | with_reducible first | refine Z.callZ_in tabOk 15 Try.f32 _ Try.func32 (by kernel_rfl) rfl rfl rfl ?_
      | ((first | (with_reducible refine Z.callZ_mk ?_ (cw) ?_) | (with_reducible refine Z.callZ_mk ?_ (cow) ?_)); (focus ((repeat' (first | exact trivial | exact rfl | apply And.intro)); done)))
      | ((with_reducible apply ex_and); exact rfl)
      | fail)
    all_goals (try (conv => whnf))
    all_goals try (show Nat.ble _ _ = true; rfl)
    all_goals try (exfalso; rename_i hz; cases hz; done)
    all_goals try (exfalso; (try simp only [LN] at *) <;> omega)
    all_goals first
      | ((first | (with_reducible apply Z.retF2)); (focus (exact rfl)); (repeat' (first | exact trivial | (with_reducible apply Z.frz_one) | (with_reducible apply Z.fq_int) | (exact Z.frz_nil) | exact rfl | apply And.intro)); (all_goals (try exact (fun _ => none))); all_goals (first | (simp; done)))
      | fail
  rw [if_pos ho]
  have hw3 : w = 1 ∨ w = 2 ∨ w = 3 := by unfold Tab.okS at ho; omega
  obtain ⟨L, cow⟩ := Tab.owned_ok 0 w ho
  have htb := snapR_tab hs
  rcases hw3 with rfl | rfl | rfl
  · rw [show resc W 1 = [partS W 0 1] from rfl]
    have p0 := spart0_con W 0 1 (by omega) htb (okS_lt (by decide) (by decide) (by decide) (by decide))
    repeat' ((conv => whnf); first
      | with_reducible first | refine spB_t ?_
      | ((with_reducible apply spB_cong); (focus (simp only [beq_self_eq_true, bne_self_eq_false, Bool.true_bne, Bool.false_bne, Bool.bne_true, Bool.bne_false, Bool.true_beq, Bool.false_beq, Bool.not_true, Bool.not_false, Bool.not_not, Int.reduceBEq, Int.reduceBNe, Int.reduceLE, Int.reduceLT, Int.reduceEq, decide_true, decide_false]; rfl)))
      | with_reducible first | refine spB_no (by decide) ?_
      | with_reducible first | refine Z.loopZ_unroll tabOk 2 ?_
      | ((with_reducible refine posE_pos ?_ ?_); (focus ((try simp only [LN] at *) <;> omega)))
      | ((with_reducible refine apdN.mk ?_ ?_ ?_ ?_ ?_ ?_); (focus (first | rfl)); (focus (first | exact one_all (by rfl))); (focus ((try simp only [LN] at *) <;> omega)); (focus ((try simp only [LN] at *) <;> omega)); (focus ((try simp only [LN] at *) <;> omega)))
      | with_reducible refine wr_i64 (by first | omega | (simp only [LN] at *; omega)) ?_
      | with_reducible first | refine Z.callZ_in tabOk 17 Try.f85 _ Try.func85 (by kernel_rfl) rfl rfl rfl ?_ | refine Z.callZ_in tabOk 15 Try.f32 _ Try.func32 (by kernel_rfl) rfl rfl rfl ?_ | refine Z.callZ_in tabOk 6 Try.f46 _ Try.func46 (by kernel_rfl) rfl rfl rfl ?_
      | ((first | (with_reducible refine Z.callZ_mk ?_ (p0) ?_) | (with_reducible refine Z.callZ_mk ?_ (cw) ?_) | (with_reducible refine Z.callZ_mk ?_ (cow) ?_)); (focus ((repeat' (first | exact trivial | exact rfl | apply And.intro)); done)))
      | ((with_reducible apply ex_and); exact rfl)
      | ((with_reducible refine Z.rngN.mk ?_); (try subst hlb))
      | ((with_reducible refine Z.CallZ.yl ?_); subst hlb; refine Z.yield_rule tabOk _ _ rfl rfl rfl rfl ?_)
      | ((with_reducible refine Z.RangeZ.red ?_); (refine Z.range_rule [(8, _), (25, _)] rfl ⟨rfl, rfl, trivial⟩ rfl rfl ?_); intro lb hlb)
      | fail)
    all_goals (try (conv => whnf))
    all_goals try (show Nat.ble _ _ = true; rfl)
    all_goals try (exfalso; rename_i hz; cases hz; done)
    all_goals try (exfalso; (try simp only [LN] at *) <;> omega)
    all_goals first
      | ((first | (with_reducible apply Z.retF2)); (focus (exact rfl)); (repeat' (first | exact trivial | (refine Z.frz_gsl (l := [partS W 0 1]) (f := cSn) (g := eSn) (ty := 33) ?_ (fun _ => rfl); (focus (first | rfl))) | (with_reducible apply Z.frz_one) | (with_reducible apply Z.fq_int) | exact rfl | apply And.intro)); (all_goals (try exact (fun _ => none))); all_goals (first | (simp; done)))
      | fail
  · rw [show resc W 2 = [partS W 0 2, partS W 1 2] from rfl]
    have p0 := spart0_con W 0 2 (by omega) htb (okS_lt (by decide) (by decide) (by decide) (by decide))
    have p1 := spart0_con W 1 2 (by omega) htb (okS_lt (by decide) (by decide) (by decide) (by decide))
    repeat' ((conv => whnf); first
      | with_reducible first | refine spB_t ?_
      | ((with_reducible apply spB_cong); (focus (simp only [beq_self_eq_true, bne_self_eq_false, Bool.true_bne, Bool.false_bne, Bool.bne_true, Bool.bne_false, Bool.true_beq, Bool.false_beq, Bool.not_true, Bool.not_false, Bool.not_not, Int.reduceBEq, Int.reduceBNe, Int.reduceLE, Int.reduceLT, Int.reduceEq, decide_true, decide_false]; rfl)))
      | with_reducible first | refine spB_yes (by decide) ?_ | refine spB_no (by decide) ?_
      | with_reducible first | refine Z.loopZ_unroll tabOk 3 ?_
      | ((with_reducible refine posE_pos ?_ ?_); (focus ((try simp only [LN] at *) <;> omega)))
      | ((with_reducible refine eqN_mk2 ?_ ?_); (focus rfl))
      | ((with_reducible refine apdN.mk ?_ ?_ ?_ ?_ ?_ ?_); (focus (first | rfl)); (focus (first | exact one_all (by rfl))); (focus ((try simp only [LN] at *) <;> omega)); (focus ((try simp only [LN] at *) <;> omega)); (focus ((try simp only [LN] at *) <;> omega)))
      | with_reducible refine wr_i64 (by first | omega | (simp only [LN] at *; omega)) ?_
      | with_reducible first | refine Z.callZ_in tabOk 17 Try.f85 _ Try.func85 (by kernel_rfl) rfl rfl rfl ?_ | refine Z.callZ_in tabOk 15 Try.f32 _ Try.func32 (by kernel_rfl) rfl rfl rfl ?_ | refine Z.callZ_in tabOk 6 Try.f46 _ Try.func46 (by kernel_rfl) rfl rfl rfl ?_
      | ((first | (with_reducible refine Z.callZ_mk ?_ (cw) ?_) | (with_reducible refine Z.callZ_mk ?_ (cow) ?_)); (focus ((repeat' (first | exact trivial | exact rfl | apply And.intro)); done)))
      | ((first | (with_reducible refine Z.callZ_mk ?_ (p0) ?_)); (focus ((repeat' (first | exact trivial | exact rfl | apply And.intro)); done)))
      | ((first | (with_reducible refine Z.callZ_mk ?_ (p1) ?_)); (focus ((repeat' (first | exact trivial | exact rfl | apply And.intro)); done)))
      | ((with_reducible apply ex_and); exact rfl)
      | ((with_reducible refine Z.rngN.mk ?_); (try subst hlb))
      | ((with_reducible refine Z.CallZ.yl ?_); refine Z.yield_rule tabOk _ _ rfl rfl rfl rfl ?_)
      | ((with_reducible refine Z.CallZ.yl ?_); subst hlb; refine Z.yield_rule tabOk _ _ rfl rfl rfl rfl ?_)
      | ((with_reducible refine Z.RangeZ.red ?_); (refine Z.range_rule [(8, _), (25, _)] rfl ⟨rfl, rfl, trivial⟩ rfl rfl ?_); intro lb hlb)
      | fail)
    all_goals (try (conv => whnf))
    all_goals try (show Nat.ble _ _ = true; rfl)
    all_goals try (exfalso; rename_i hz; cases hz; done)
    all_goals try (exfalso; (try simp only [LN] at *) <;> omega)
    all_goals first
      | ((first | (with_reducible apply Z.retF2)); (focus (exact rfl)); (repeat' (first | exact trivial | (refine Z.frz_gsl (l := [partS W 0 2, partS W 1 2]) (f := cSn) (g := eSn) (ty := 33) ?_ (fun _ => rfl); (focus (first | rfl))) | (with_reducible apply Z.frz_one) | (with_reducible apply Z.fq_int) | exact rfl | apply And.intro)); (all_goals (try exact (fun _ => none))); all_goals (first | (simp; done)))
      | fail
  · rw [show resc W 3 = [partS W 0 3, partS W 1 3, partS W 2 3] from rfl]
    have p0 := spart0_con W 0 3 (by omega) htb (okS_lt (by decide) (by decide) (by decide) (by decide))
    have p1 := spart0_con W 1 3 (by omega) htb (okS_lt (by decide) (by decide) (by decide) (by decide))
    have p2 := spart0_con W 2 3 (by omega) htb (okS_lt (by decide) (by decide) (by decide) (by decide))
    repeat' ((conv => whnf); first
      | with_reducible first | refine spB_t ?_
      | ((with_reducible apply spB_cong); (focus (simp only [beq_self_eq_true, bne_self_eq_false, Bool.true_bne, Bool.false_bne, Bool.bne_true, Bool.bne_false, Bool.true_beq, Bool.false_beq, Bool.not_true, Bool.not_false, Bool.not_not, Int.reduceBEq, Int.reduceBNe, Int.reduceLE, Int.reduceLT, Int.reduceEq, decide_true, decide_false]; rfl)))
      | with_reducible first | refine spB_yes (by decide) ?_ | refine spB_no (by decide) ?_
      | with_reducible first | refine Z.loopZ_unroll tabOk 4 ?_
      | ((with_reducible refine posE_pos ?_ ?_); (focus ((try simp only [LN] at *) <;> omega)))
      | ((with_reducible refine eqN_mk2 ?_ ?_); (focus rfl))
      | ((with_reducible refine apdN.mk ?_ ?_ ?_ ?_ ?_ ?_); (focus (first | rfl)); (focus (first | exact one_all (by rfl))); (focus ((try simp only [LN] at *) <;> omega)); (focus ((try simp only [LN] at *) <;> omega)); (focus ((try simp only [LN] at *) <;> omega)))
      | with_reducible refine wr_i64 (by first | omega | (simp only [LN] at *; omega)) ?_
      | with_reducible first | refine Z.callZ_in tabOk 17 Try.f85 _ Try.func85 (by kernel_rfl) rfl rfl rfl ?_ | refine Z.callZ_in tabOk 15 Try.f32 _ Try.func32 (by kernel_rfl) rfl rfl rfl ?_ | refine Z.callZ_in tabOk 6 Try.f46 _ Try.func46 (by kernel_rfl) rfl rfl rfl ?_
      | ((first | (with_reducible refine Z.callZ_mk ?_ (cw) ?_) | (with_reducible refine Z.callZ_mk ?_ (cow) ?_)); (focus ((repeat' (first | exact trivial | exact rfl | apply And.intro)); done)))
      | ((first | (with_reducible refine Z.callZ_mk ?_ (p0) ?_)); (focus ((repeat' (first | exact trivial | exact rfl | apply And.intro)); done)))
      | ((first | (with_reducible refine Z.callZ_mk ?_ (p1) ?_)); (focus ((repeat' (first | exact trivial | exact rfl | apply And.intro)); done)))
      | ((first | (with_reducible refine Z.callZ_mk ?_ (p2) ?_)); (focus ((repeat' (first | exact trivial | exact rfl | apply And.intro)); done)))
      | ((with_reducible apply ex_and); exact rfl)
      | ((with_reducible refine Z.rngN.mk ?_); (try subst hlb))
      | ((with_reducible refine Z.CallZ.yl ?_); refine Z.yield_rule tabOk _ _ rfl rfl rfl rfl ?_)
      | ((with_reducible refine Z.CallZ.yl ?_); subst hlb; refine Z.yield_rule tabOk _ _ rfl rfl rfl rfl ?_)
      | ((with_reducible refine Z.RangeZ.red ?_); (refine Z.range_rule [(8, _), (25, _)] rfl ⟨rfl, rfl, trivial⟩ rfl rfl ?_); intro lb hlb)
      | fail)
    all_goals (try (conv => whnf))
    all_goals try (show Nat.ble _ _ = true; rfl)
    all_goals try (exfalso; rename_i hz; cases hz; done)
    all_goals try (exfalso; (try simp only [LN] at *) <;> omega)
    all_goals first
      | ((first | (with_reducible apply Z.retF2)); (focus (exact rfl)); (repeat' (first | exact trivial | (refine Z.frz_gsl (l := [partS W 0 3, partS W 1 3, partS W 2 3]) (f := cSn) (g := eSn) (ty := 33) ?_ (fun _ => rfl); (focus (first | rfl))) | (with_reducible apply Z.frz_one) | (with_reducible apply Z.fq_int) | exact rfl | apply And.intro)); (all_goals (try exact (fun _ => none))); all_goals (first | (simp; done)))
      | fail
end Go.Proofs.Ytopieffkpdlpbaa
namespace Go.Proofs.Ytopieffkpdlpbaa
open Go Go.RowKit Wx
set_option linter.unusedVariables false
set_option linter.unusedSimpArgs false
set_option maxHeartbeats 4000000
def shortsS (l : List Sn) : List Sn := (l.take 4).map shortS
theorem shortsS_at {l : List Sn} {k : Nat} {x : Sn} (hx : l[k]? = some x) : shortsS (l.take (k + 1)) = shortsS (l.take k) ++ (if k < 4 then [shortS x] else []) := by
  unfold shortsS
  by_cases h : k < 4
  · rw [if_pos h, List.take_of_length_le (by rw [List.length_take]; omega), take_snoc hx, List.map_append, List.take_of_length_le (l := l.take k) (by rw [List.length_take]; omega)]
    rfl
  · rw [if_neg h, List.append_nil, List.take_take, List.take_take]
    congr 2
    omega
theorem shortsS_len {l : List Sn} : (shortsS l).length ≤ 4 ∧ ∀ x ∈ shortsS l, x.rows.length ≤ 257 ∧ x.txs.length ≤ 25 := by
  unfold shortsS
  refine ⟨by rw [List.length_map, List.length_take]; omega, fun x hx => ?_⟩
  obtain ⟨y, _, rfl⟩ := List.mem_map.1 hx
  exact shortS_len y
theorem shorts_con (l : List Sn) (hA : ∀ x ∈ l, x.rows.length ≤ 9223372036854775807 ∧ x.txs.length ≤ 9223372036854775807) (hl : l.length ≤ 9223372036854775807) : Con Try.prog 13 [.one (.ro false 14 ((l : List Sn).map eSn))] (fun rx rK rt => rx = .c (.ro true 14 ((shortsS l).map eSn)) ∧ rK = [] ∧ rt = 0) := by
  refine Z.con_ofF tabOk 22 Try.f13 _ Try.func13 (by kernel_rfl) rfl rfl rfl rfl ?_
  repeat' ((conv => whnf); first
    | with_reducible first | refine spB_t ?_
    | fail)
  all_goals (try (conv => whnf))
  all_goals try (show Nat.ble _ _ = true; rfl)
  all_goals try (exfalso; rename_i hz; cases hz; done)
  all_goals try (exfalso; (try simp only [LN] at *) <;> omega)
  refine Z.loopK tabOk (fun zq : Nat × List Sn => [(8, .val (.int .i64 (zq.1 : Int))), (3, .c (.gsl 0 (zq.2.map cSn)))]) (fun zq : Nat × List Sn => ([(0, (gB 14 33 (zq.2.map cSn)).map Z.Ob.b)] : Z.Kr)) (fun zq => zq.1 ≤ l.length ∧ zq.2 = shortsS (l.take zq.1)) (fun zq => l.length - zq.1) (0, []) 1 [(6, _), (7, _)] ⟨rfl, rfl, trivial⟩ [] trivial ?_ ?_ rfl rfl ⟨Nat.zero_le _, rfl⟩ ?_
  · repeat' (first | exact trivial | apply And.intro | exact ⟨_, rfl, Z.Imp.refl _⟩ | exact ⟨_, rfl, Z.Imp.nilg _⟩)
  · repeat' (first | exact trivial | (intro b hb; cases hb; done) | apply And.intro)
  rintro ⟨k, acc⟩ HINV
  (try dsimp only at HINV); (try dsimp only)
  obtain ⟨HI, HA⟩ := HINV
  have hal := (shortsS_len (l := l.take k)).1
  rw [← HA] at hal
  by_cases hi : k < l.length
  · obtain ⟨x, hx⟩ := getElem?_some' (xs := l) (i := k) hi
    have hsa := shortsS_at hx
    rw [← HA] at hsa
    have csx := shortS_con x (hA x (List.mem_of_getElem? hx)).1 (hA x (List.mem_of_getElem? hx)).2
    by_cases h4 : k < 4
    · rw [if_pos h4] at hsa
      repeat' ((conv => whnf); first
        | (with_reducible refine spB_dec ?_ ?_ <;> intro _ <;> (try (exfalso; first | contradiction | omega | (rename_i hz; refine hz ?_; simp; done) | (rename_i hz; simp at hz; done) | (simp only [LN] at *; omega))))
        | with_reducible first | refine Z.rowN_known hx ?_
        | ((with_reducible refine posE_pos ?_ ?_); (focus ((try simp only [LN] at *) <;> omega)))
        | ((with_reducible apply ixN_litp); (focus (exact rfl)); (focus ((try simp only [LN] at *) <;> omega)))
        | ((with_reducible refine apdN.mk ?_ ?_ ?_ ?_ ?_ ?_); (focus (first | rfl)); (focus (first | exact one_all (by rfl))); (focus ((try simp only [LN] at *) <;> omega)); (focus ((try simp only [LN] at *) <;> omega)); (focus ((try simp only [LN] at *) <;> omega)))
        | with_reducible refine wr_i64 (by first | omega | (simp only [LN] at *; omega)) ?_
        | ((first | (with_reducible refine Z.callZ_mk ?_ (csx) ?_)); (focus ((repeat' (first | exact trivial | exact rfl | apply And.intro)); done)))
        | ((with_reducible refine eqN_mk2 ?_ ?_); (focus (exact Z.kb_some rfl)))
        | fail)
      all_goals (try (conv => whnf))
      all_goals try (show Nat.ble _ _ = true; rfl)
      all_goals try (exfalso; rename_i hz; cases hz; done)
      all_goals try (exfalso; (try simp only [LN] at *) <;> omega)
      all_goals first
        | ((refine Z.rndK ((k + 1, acc ++ [shortS x])) (fun s => [s.idAt 3]) rfl rfl rfl rfl ?_ ?_ ?_ ?_); (focus (repeat' (first | exact trivial | exact rfl | (rw [List.map_append (f := cSn)]; exact rfl) | apply And.intro))); (focus (repeat' (first | exact trivial | exact Z.gB_sub' rfl (by first | rfl | (rw [List.map_append]; rfl) | simp only [List.map_append, List.map_cons, List.map_nil]) (ren_map fun _ => rfl) | apply And.intro))); (focus (exact ⟨by (try dsimp only); omega, hsa.symm⟩)); ((try dsimp only); omega))
        | fail
    · rw [if_neg h4, List.append_nil] at hsa
      repeat' ((conv => whnf); first
        | (with_reducible refine spB_dec ?_ ?_ <;> intro _ <;> (try (exfalso; first | contradiction | omega | (rename_i hz; refine hz ?_; simp; done) | (rename_i hz; simp at hz; done) | (simp only [LN] at *; omega))))
        | with_reducible first | refine Z.rowN_known hx ?_
        | ((with_reducible apply ixN_litp); (focus (exact rfl)); (focus ((try simp only [LN] at *) <;> omega)))
        | with_reducible refine wr_i64 (by first | omega | (simp only [LN] at *; omega)) ?_
        | fail)
      all_goals (try (conv => whnf))
      all_goals try (show Nat.ble _ _ = true; rfl)
      all_goals try (exfalso; rename_i hz; cases hz; done)
      all_goals try (exfalso; (try simp only [LN] at *) <;> omega)
      all_goals first
        | ((refine Z.rndK ((k + 1, acc)) (fun s => [s.idAt 3]) rfl rfl rfl rfl ?_ ?_ ?_ ?_); (focus (repeat' (first | exact trivial | exact rfl | apply And.intro))); (focus (repeat' (first | exact trivial | exact Z.gB_sub rfl rfl (ren_map fun _ => rfl) | apply And.intro))); (focus (exact ⟨by (try dsimp only); omega, hsa.symm⟩)); ((try dsimp only); omega))
        | fail
  have hil : k = l.length := by omega
  subst hil
  rw [List.take_length] at HA
  subst HA
  repeat' ((conv => whnf); first
    | (with_reducible refine spB_dec ?_ ?_ <;> intro _ <;> (try (exfalso; first | contradiction | omega | (rename_i hz; refine hz ?_; simp; done) | (rename_i hz; simp at hz; done) | (simp only [LN] at *; omega))))
    | fail)
  all_goals (try (conv => whnf))
  all_goals try (show Nat.ble _ _ = true; rfl)
  all_goals try (exfalso; rename_i hz; cases hz; done)
  all_goals try (exfalso; (try simp only [LN] at *) <;> omega)
  all_goals first
    | ((first | (with_reducible apply Z.retF1)); (focus (exact rfl)); (repeat' (first | exact trivial | (with_reducible apply Z.frz_one) | ((with_reducible apply Z.fq_gsl); (focus (first | exact Z.isB_map _)); (focus (exact fun _ => rfl))) | exact rfl | apply And.intro)); (all_goals (try exact (fun _ => none))); all_goals (first | (simp; done)))
    | fail
end Go.Proofs.Ytopieffkpdlpbaa
namespace Go.Proofs.Ytopieffkpdlpbaa
open Go Go.RowKit Wx
set_option linter.unusedVariables false
set_option linter.unusedSimpArgs false
set_option maxHeartbeats 4000000
end Go.Proofs.Ytopieffkpdlpbaa
namespace Go.Proofs.Ytopieffkpdlpbaa
open Go Go.RowKit Wx
set_option linter.unusedVariables false
set_option linter.unusedSimpArgs false
set_option maxHeartbeats 4000000
def rowsE {α : Type} (sz mx : Nat) (d : List Ce → Option α) (dr : List RT → Option α) (K : Nat → Option Y.Ob) : Ce → Option (List α)
  | .ro _ z rows => match Nat.beq z sz, rows.mapM dr with
    | true, some xs => match Nat.ble xs.length mx with
      | true => some xs
      | false => none
    | _, _ => none
  | c => Y.rowsD sz mx d K c
theorem mapM_en {α : Type} {dr : List RT → Option α} {en : α → List RT} (hd : ∀ r x, dr r = some x → r = en x) : ∀ {rows : List (List RT)} {xs : List α}, rows.mapM dr = some xs → rows = xs.map en
  | [], xs, h => by simp only [List.mapM_nil, Option.pure_def, Option.some.injEq] at h; subst h; rfl
  | r :: rows, xs, h => by
    rw [List.mapM_cons] at h
    cases h1 : dr r with
    | none => rw [h1] at h; cases h
    | some x =>
      cases h2 : rows.mapM dr with
      | none => rw [h1, h2] at h; cases h
      | some ys =>
        rw [h1, h2] at h
        simp only [Option.pure_def, Option.bind_eq_bind, Option.bind_some, Option.some.injEq] at h
        subst h
        rw [List.map_cons, ← hd r x h1, ← mapM_en hd h2]
theorem rowsE_low {α : Type} {sz mx : Nat} {d : List Ce → Option α} {dr : List RT → Option α} {en : α → List RT} (hd : ∀ r x, d r = some x → r.map RT.of = (en x).map some) (hr : ∀ r x, dr r = some x → r = en x) {K : Nat → Option Y.Ob} {c : Ce} {xs : List α} (h : rowsE sz mx d dr K c = some xs) : lowC (Y.blkOf K) c (.ro false sz (xs.map en)) ∧ xs.length ≤ mx := by
  unfold rowsE at h
  split at h
  · rename_i fl z rows
    split at h
    · rename_i ys h1 h2
      split at h
      · rename_i h3
        simp only [Option.some.injEq] at h
        subst h
        refine ⟨?_, Nat.le_of_ble_eq_true h3⟩
        have e := mapM_en hr h2
        subst e
        rw [Nat.eq_of_beq_eq_true h1]
        exact rfl
      · cases h
    · cases h
  · exact Y.rowsD_low hd h
def decK : List Ce → Option Tab.Kc
  | [.v (.int .i64 a), .v (.int .i64 b), .v (.int .i64 c), .v (.int .i64 d)] => some ⟨a, b, c, d⟩
  | _ => none
theorem decK_ok (r : List Ce) (x : Tab.Kc) (h : decK r = some x) : r.map RT.of = (Tab.eK x).map some := by
  unfold decK at h
  split at h
  · simp only [Option.some.injEq] at h; subst h; rfl
  · cases h
def decKr : List RT → Option Tab.Kc
  | [.v (.int .i64 a), .v (.int .i64 b), .v (.int .i64 c), .v (.int .i64 d)] => some ⟨a, b, c, d⟩
  | _ => none
theorem decKr_ok (r : List RT) (x : Tab.Kc) (h : decKr r = some x) : r = Tab.eK x := by
  unfold decKr at h
  split at h
  · simp only [Option.some.injEq] at h; subst h; rfl
  · cases h
def orcJ : Y.CallFn := fun c avs K top => match c, avs with
  | .fn g [], [.pl (.agg [ca]), .pl (.agg [cb])] => match Nat.beq g 79, rowsE 4 1000 decK decKr K.get ca, rowsE 4 1000 decK decKr K.get cb with
    | true, some a, some b => some ⟨.tup [.agg [.ro true 4 ((Tab.joinT a b).1.map Tab.eK)], .one (.v (.int .i64 (Tab.joinT a b).2))], K, top, []⟩
    | _, _, _ => none
  | _, _ => none
theorem orcJ_sound : Y.CallsOk Try.prog orcJ := by
  intro c avs K top r h
  unfold orcJ at h
  split at h
  · rename_i g ca cb
    split at h
    · rename_i a b h1 h2 h3
      simp only [Option.some.injEq] at h
      subst h
      obtain ⟨g1, g2⟩ := rowsE_low (en := Tab.eK) decK_ok decKr_ok h2
      obtain ⟨g3, g4⟩ := rowsE_low (en := Tab.eK) decK_ok decKr_ok h3
      have := Nat.eq_of_beq_eq_true h1
      subst this
      exact ⟨Y.con_callE (args := [.agg [.ro false 4 (a.map Tab.eK)], .agg [.ro false 4 (b.map Tab.eK)]]) ⟨⟨g1, trivial⟩, ⟨g3, trivial⟩, trivial⟩ (Tab.tjoin_con a b g2 g4) rfl, fun _ _ => rfl⟩
    · cases h
  · cases h
theorem wakes_con : Con Try.prog 9 [] (fun x K t => x = .val (.bool true) ∧ K = [] ∧ t = 0) := Y.con_runO ftabOk tabOk mixOk orcJ_sound 60 14 (by kernel_rfl) (by kernel_rfl)
end Go.Proofs.Ytopieffkpdlpbaa
namespace Go.Proofs.Ytopieffkpdlpbaa
open Go Go.RowKit Wx
set_option linter.unusedVariables false
set_option linter.unusedSimpArgs false
set_option maxHeartbeats 4000000
theorem wrap_nn (z : Int) : 0 ≤ IntKind.u64.wrap z := by unfold IntKind.wrap; simp [IntKind.signed, IntKind.bits]; omega
theorem tm3 (z : Int) : 0 ≤ (IntKind.u64.wrap z).tmod 3 ∧ (IntKind.u64.wrap z).tmod 3 < 3 := ⟨Int.tmod_nonneg _ (wrap_nn z), Int.tmod_lt_of_pos _ (by decide)⟩
theorem rescE_is {l : List Sn} {W : Sn} {w : Int} (h : wholeE l = (W, 0)) (h1 : 1 ≤ w) (h2 : w ≤ 3) : rescE l w = (resc W w, 0) := by
  unfold rescE
  rw [h, if_neg (fun hq => hq rfl), if_pos (okS_lt h1 h2 (by decide) (by omega))]
theorem partL_len {W : Sn} {i w : Int} (h : W.rows.length ≤ 256) : (partS W i w).rows.length ≤ 256 ∧ (partS W i w).txs = [] := ⟨by have := @Tab.part_len W.rows i w; show (Tab.partL W.rows i w).length ≤ 256; omega, rfl⟩
theorem resc_lens {W : Sn} {w : Int} (h : W.rows.length ≤ 256) : ∀ x ∈ resc W w, x.rows.length ≤ 1000 ∧ x.txs.length ≤ 1000 := by
  intro x hx
  have hp : ∀ i w, (partS W i w).rows.length ≤ 1000 ∧ (partS W i w).txs.length ≤ 1000 := fun i w => by have := partL_len (i := i) (w := w) h; exact ⟨by omega, by rw [this.2]; exact Nat.zero_le _⟩
  unfold resc at hx
  split at hx
  · simp at hx; subst hx; exact hp _ _
  split at hx
  · simp at hx; rcases hx with rfl | rfl <;> exact hp _ _
  · simp at hx; rcases hx with rfl | rfl | rfl <;> exact hp _ _
end Go.Proofs.Ytopieffkpdlpbaa
namespace Go.Proofs.Ytopieffkpdlpbaa
open Go Go.RowKit Wx
set_option linter.unusedVariables false
set_option linter.unusedSimpArgs false
set_option maxHeartbeats 4000000
theorem snapkeys_con (x : List Sn) (z s k v : Int) (hx : ∀ y ∈ x, y.rows.length ≤ 9223372036854775807 ∧ y.txs.length ≤ 9223372036854775807) (hl : x.length ≤ 9223372036854775807) : Con Try.prog 8 [.one (.ro false 14 ((x : List Sn).map eSn)), .one (.v (.int .i64 z)), .agg [.v (.int .i64 s), .v (.int .i64 k), .v (.int .i64 v)]] (fun rx rK rt => rx = .val (.bool true) ∧ rK = [] ∧ rt = 0) := by
  refine Z.con_ofF tabOk 116 Try.f8 _ Try.func8 (by kernel_rfl) rfl rfl rfl rfl ?_
  have csx := shorts_con x hx hl
  obtain ⟨hLl, hLx⟩ := shortsS_len (l := x)
  generalize shortsS x = L at *
  have hLa : ∀ y ∈ L, y.rows.length ≤ 1000 ∧ y.txs.length ≤ 1000 := fun y hy => by have := hLx y hy; omega
  have hr := tm3 z
  have r1 := sresc_con L (1 + (IntKind.u64.wrap z).tmod 3) hLa (by omega)
  have cgr := group2_con s k v
  by_cases he : (rescE L (1 + (IntKind.u64.wrap z).tmod 3)).2 = 0
  rotate_left
  · generalize rescE L (1 + (IntKind.u64.wrap z).tmod 3) = Q at *
    obtain ⟨Pp, e⟩ := Q
    dsimp only at *
    generalize (bif Tab.keyOk s k then k % 8 else 0) = g1 at *
    generalize (bif Tab.keyOk s k then (0 : Int) else 150) = g2 at *
    repeat' ((conv => whnf); first
      | with_reducible first | refine spB_t ?_
      | ((with_reducible apply spB_cong); (focus (simp only [beq_self_eq_true, bne_self_eq_false, Bool.true_bne, Bool.false_bne, Bool.bne_true, Bool.bne_false, Bool.true_beq, Bool.false_beq, Bool.not_true, Bool.not_false, Bool.not_not, Int.reduceBEq, Int.reduceBNe, Int.reduceLE, Int.reduceLT, Int.reduceEq, decide_true, decide_false]; rfl)))
      | with_reducible first | refine spB_no (by decide) ?_
      | (with_reducible refine spB_bne ?_ ?_ <;> intro _ <;> (try (exfalso; first | contradiction | omega | (rename_i hz; refine hz ?_; simp; done) | (rename_i hz; simp at hz; done) | (simp only [LN] at *; omega))))
      | with_reducible refine wr_i64 (by first | omega | (simp only [LN] at *; omega)) ?_
      | with_reducible first | refine wr_mk _ rfl ?_
      | with_reducible first | refine vN_mk ?_
      | with_reducible refine nzN_mk (by omega) ?_
      | ((first | (with_reducible refine Z.callZ_mk ?_ (wakes_con) ?_) | (with_reducible refine Z.callZ_mk ?_ (csx) ?_) | (with_reducible refine Z.callZ_mk ?_ (r1) ?_) | (with_reducible refine Z.callZ_mk ?_ (cgr) ?_)); (focus ((repeat' (first | exact trivial | exact rfl | apply And.intro)); done)))
      | fail)
    all_goals (try (conv => whnf))
    all_goals try (show Nat.ble _ _ = true; rfl)
    all_goals try (exfalso; rename_i hz; cases hz; done)
    all_goals try (exfalso; (try simp only [LN] at *) <;> omega)
    all_goals first
      | ((first | (with_reducible apply Z.retF1)); (focus (exact rfl)); (repeat' (first | exact trivial | (with_reducible apply Z.frz_one) | (with_reducible apply Z.fq_bool) | exact rfl | apply And.intro)); (all_goals (try exact (fun _ => none))); all_goals (first | (simp; done)))
      | fail
  cases hk : Tab.keyOk s k
  all_goals rw [hk] at cgr
  all_goals simp only [cond_true, cond_false] at cgr
  · rw [he] at r1
    generalize (rescE L (1 + (IntKind.u64.wrap z).tmod 3)).1 = Pp at *
    repeat' ((conv => whnf); first
      | with_reducible first | refine spB_t ?_
      | ((with_reducible apply spB_cong); (focus (simp only [beq_self_eq_true, bne_self_eq_false, Bool.true_bne, Bool.false_bne, Bool.bne_true, Bool.bne_false, Bool.true_beq, Bool.false_beq, Bool.not_true, Bool.not_false, Bool.not_not, Int.reduceBEq, Int.reduceBNe, Int.reduceLE, Int.reduceLT, Int.reduceEq, decide_true, decide_false]; rfl)))
      | with_reducible first | refine spB_no (by decide) ?_
      | with_reducible refine wr_i64 (by first | omega | (simp only [LN] at *; omega)) ?_
      | with_reducible first | refine wr_mk _ rfl ?_
      | with_reducible first | refine vN_mk ?_
      | with_reducible refine nzN_mk (by omega) ?_
      | ((first | (with_reducible refine Z.callZ_mk ?_ (wakes_con) ?_) | (with_reducible refine Z.callZ_mk ?_ (csx) ?_) | (with_reducible refine Z.callZ_mk ?_ (r1) ?_) | (with_reducible refine Z.callZ_mk ?_ (cgr) ?_)); (focus ((repeat' (first | exact trivial | exact rfl | apply And.intro)); done)))
      | fail)
    all_goals (try (conv => whnf))
    all_goals try (show Nat.ble _ _ = true; rfl)
    all_goals try (exfalso; rename_i hz; cases hz; done)
    all_goals try (exfalso; (try simp only [LN] at *) <;> omega)
    all_goals first
      | ((first | (with_reducible apply Z.retF1)); (focus (exact rfl)); (repeat' (first | exact trivial | (with_reducible apply Z.frz_one) | (with_reducible apply Z.fq_bool) | exact rfl | apply And.intro)); (all_goals (try exact (fun _ => none))); all_goals (first | (simp; done)))
      | fail
  have hw1 : (1 : Int) ≤ 1 + (IntKind.u64.wrap z).tmod 3 := by omega
  have hw2 : 1 + (IntKind.u64.wrap z).tmod 3 ≤ 3 := by omega
  have hew : (wholeE L).2 = 0 := by
    unfold rescE at he
    split at he
    · exact absurd he (by assumption)
    · omega
  obtain ⟨k1, k2, k3, k4⟩ := wholeE_ok hew
  have hLn := fit_pos k1 k2
  have hWR := whole_R k1 k2 k3
  have hWi : (wholeS L).ix = 0 := rfl
  have hWw : (wholeS L).w = 1 := rfl
  have hWl : (wholeS L).rows.length ≤ 256 := gath_len _
  rw [rescE_is k4 hw1 hw2] at r1
  dsimp only at r1
  have hk2 := Tab.keyOk_iff.1 hk
  have hg : 0 ≤ k % 8 ∧ k % 8 < 8 := by omega
  have hcL := cells_of (fun y hy => snapR_tab (k1 y hy)) (whole_rows k1 k2).1 (whole_rows k1 k2).2 s k
  have hoL := off_whole k1 k2 hg
  have j1 := resc_R hWR (1 + (IntKind.u64.wrap z).tmod 3)
  have j2 := resc_fit (W := wholeS L) hw1 hw2
  have hcP := cells_of (fun y hy => snapR_tab (j1 y hy)) (whole_rows j1 j2).1 (whole_rows j1 j2).2 s k
  have hoP := off_whole j1 j2 hg
  rw [resc_whole hWR hWi hWw hw1 hw2] at hcP hoP
  have hcPL : lastC (resc (wholeS L) (1 + (IntKind.u64.wrap z).tmod 3)) s k = lastC L s k := hcP.trans hcL.symm
  have hoPL : sumO (offG (k % 8)) (resc (wholeS L) (1 + (IntKind.u64.wrap z).tmod 3)) = sumO (offG (k % 8)) L := hoP.trans (hoL.trans rfl).symm
  clear hcP hoP hcL hoL
  have hPl := resc_len (W := wholeS L) hw1 hw2
  have hPa := fun (i : Nat) (hi : (i : Int) < 1 + (IntKind.u64.wrap z).tmod 3) => resc_at (W := wholeS L) hw1 hw2 hi
  have hPx := resc_lens (w := 1 + (IntKind.u64.wrap z).tmod 3) hWl
  have hRL : ∀ y ∈ L, 0 ≤ offG (k % 8) y ∧ offG (k % 8) y ≤ 40 := fun y hy => offG_rng (k1 y hy) hg
  have hRP : ∀ y ∈ resc (wholeS L) (1 + (IntKind.u64.wrap z).tmod 3), 0 ≤ offG (k % 8) y ∧ offG (k % 8) y ≤ 40 := fun y hy => offG_rng (j1 y hy) hg
  have hno := fun (i : Nat) (hi : (i : Int) < 1 + (IntKind.u64.wrap z).tmod 3) (hn : ¬ Tab.ownG (k % 8) (1 + (IntKind.u64.wrap z).tmod 3) = i) => (show Tab.getR (partS (wholeS L) i (1 + (IntKind.u64.wrap z).tmod 3)).rows s k = (0, 0) ∧ offG (k % 8) (partS (wholeS L) i (1 + (IntKind.u64.wrap z).tmod 3)) = 0 from ⟨part_no_key hWR (okS_lt hw1 hw2 (by omega) hi) hn, part_no_off hg hn⟩)
  clear k1 k2 k3 k4 j1 j2 hWR hWi hWw hew he hLx
  have cmi := fun (i : Int) => Tab.mine_con s k v i (1 + (IntKind.u64.wrap z).tmod 3)
  unfold Tab.mineB at cmi
  rw [hk] at cmi
  simp only [Bool.true_and] at cmi
  generalize hPq : resc (wholeS L) (1 + (IntKind.u64.wrap z).tmod 3) = Pp at *
  generalize wholeS L = WW at *
  generalize k % 8 = g at *
  repeat' ((conv => whnf); first
    | ((with_reducible apply spB_cong); (focus (simp only [beq_self_eq_true, bne_self_eq_false, Bool.true_bne, Bool.false_bne, Bool.bne_true, Bool.bne_false, Bool.true_beq, Bool.false_beq, Bool.not_true, Bool.not_false, Bool.not_not, Int.reduceBEq, Int.reduceBNe, Int.reduceLE, Int.reduceLT, Int.reduceEq, decide_true, decide_false]; rfl)))
    | with_reducible first | refine spB_no (by decide) ?_
    | with_reducible refine wr_i64 (by first | omega | (simp only [LN] at *; omega)) ?_
    | with_reducible first | refine wr_mk _ rfl ?_
    | with_reducible first | refine vN_mk ?_
    | with_reducible refine nzN_mk (by omega) ?_
    | ((first | (with_reducible refine Z.callZ_mk ?_ (wakes_con) ?_) | (with_reducible refine Z.callZ_mk ?_ (csx) ?_) | (with_reducible refine Z.callZ_mk ?_ (r1) ?_) | (with_reducible refine Z.callZ_mk ?_ (cgr) ?_)); (focus ((repeat' (first | exact trivial | exact rfl | apply And.intro)); done)))
    | fail)
  all_goals (try (conv => whnf))
  all_goals try (show Nat.ble _ _ = true; rfl)
  all_goals try (exfalso; rename_i hz; cases hz; done)
  all_goals try (exfalso; (try simp only [LN] at *) <;> omega)
  refine Z.loopK tabOk (fun zq : Nat × Int × Int × Int => [(50, .val (.int .i64 (zq.1 : Int))), (14, .val (.int .i64 zq.2.2.2))]) (fun zq : Nat × Int × Int × Int => ([(0, some (Z.Ob.b ⟨[[.v (.int .i64 s), .v (.int .i64 k), .v (.int .i64 v)]], 3, 61, true⟩)), (1, some (Z.Ob.b ⟨[[.v (.int .i64 zq.2.1), .v (.int .i64 zq.2.2.1)]], 2, 65, true⟩)), (2, some (Z.Ob.b ⟨[[.v (.int .i64 0), .v (.int .i64 0)]], 2, 65, true⟩))] : Z.Kr)) (fun zq => zq.1 ≤ L.length ∧ (zq.2.1, zq.2.2.1) = lastC (L.take zq.1) s k ∧ zq.2.2.2 = sumO (offG g) (L.take zq.1)) (fun zq => L.length - zq.1) (0, 0, 0, 0) 3 [(1, _), (5, _), (8, _), (10, _), (12, _), (13, _), (15, _), (48, _), (49, _)] ⟨rfl, rfl, rfl, rfl, rfl, rfl, rfl, rfl, rfl, trivial⟩ [] trivial ?_ ?_ rfl rfl ⟨Nat.zero_le _, rfl, rfl⟩ ?_
  · repeat' (first | exact trivial | apply And.intro | exact ⟨_, rfl, Z.Imp.refl _⟩)
  · repeat' (first | exact trivial | exact (fun b hb => ⟨b, hb, Z.ImpO.refl b⟩) | apply And.intro)
  rintro ⟨i, c1, c2, n⟩ HINV
  (try dsimp only at HINV); (try dsimp only)
  obtain ⟨HI, HC, HN⟩ := HINV
  have hnr := sumO_rng (f := offG g) (l := L.take i) fun y hy => hRL y (List.mem_of_mem_take hy)
  rw [← HN, List.length_take] at hnr
  by_cases hi : i < L.length
  · obtain ⟨y, hs⟩ := getElem?_some' (xs := L) (i := i) hi
    have hca := lastC_at (s := s) (k := k) hs
    have hoa := sumO_at (f := offG g) hs
    rw [← HC] at hca
    rw [← HN] at hoa
    have hym := List.mem_of_getElem? hs
    have hob := hRL _ hym
    have hya := hLa y hym
    have cge := Tab.tget_con y.rows s k v hya.1
    obtain ⟨oq, hoq⟩ : ∃ oq, offG g y = oq := ⟨_, rfl⟩
    rw [hoq] at hoa hob
    by_cases hc : Tab.getR y.rows s k = (0, 0)
    · skip
      rw [hc, if_neg (not_not_intro rfl)] at hca
      rw [hc] at cge
      dsimp only at cge
      rcases g8 hg with rfl | rfl | rfl | rfl | rfl | rfl | rfl | rfl
      all_goals simp [offG] at hoq
      all_goals (
        repeat' ((conv => whnf); first
          | ((with_reducible apply spB_cong); (focus (simp only [beq_self_eq_true, bne_self_eq_false, Bool.true_bne, Bool.false_bne, Bool.bne_true, Bool.bne_false, Bool.true_beq, Bool.false_beq, Bool.not_true, Bool.not_false, Bool.not_not, Int.reduceBEq, Int.reduceBNe, Int.reduceLE, Int.reduceLT, Int.reduceEq, decide_true, decide_false]; rfl)))
          | with_reducible first | refine spB_no (by decide) ?_
          | (with_reducible refine spB_dec ?_ ?_ <;> intro _ <;> (try (exfalso; first | contradiction | omega | (rename_i hz; refine hz ?_; simp; done) | (rename_i hz; simp at hz; done) | (simp only [LN] at *; omega))))
          | with_reducible first | refine Z.rowN_known hs ?_
          | ((with_reducible apply ixN_lit); (focus (exact rfl)); (focus (exact rfl)))
          | ((with_reducible apply ixN_litp); (focus (exact rfl)); (focus ((try simp only [LN] at *) <;> omega)))
          | with_reducible refine wr_i64 (by first | omega | (simp only [LN] at *; omega)) ?_
          | ((first | (with_reducible refine Z.callZ_mk ?_ (cge) ?_)); (focus ((repeat' (first | exact trivial | exact rfl | apply And.intro)); done)))
          | fail)
        all_goals (try (conv => whnf))
        all_goals try (show Nat.ble _ _ = true; rfl)
        all_goals try (exfalso; rename_i hz; cases hz; done)
        all_goals try (exfalso; (try simp only [LN] at *) <;> omega)
        )
      all_goals first
        | ((refine Z.rndK ((i + 1, c1, c2, n + oq)) (fun s => [0, 1, 2]) rfl rfl rfl rfl ?_ ?_ ?_ ?_); (focus (repeat' (first | exact trivial | exact congrArg (fun z : Int => some (AV.val (.int .i64 (n + z)))) hoq | exact rfl | apply And.intro))); (focus (repeat' (first | exact trivial | (intro b hb; cases hb; rfl) | apply And.intro))); (focus (exact ⟨by (try dsimp only); omega, hca.symm, hoa.symm⟩)); ((try dsimp only); omega))
        | fail
    · skip
      rw [if_pos hc] at hca
      generalize Tab.getR y.rows s k = dd at *
      obtain ⟨d1, d2⟩ := dd
      dsimp only at cge
      have hcz : (d1 == 0 && (d2 == 0 && true)) = false := by
        cases hz : (d1 == 0 && (d2 == 0 && true)) with
        | false => rfl
        | true => exact absurd (by simp at hz; rw [hz.1, hz.2]) hc
      rcases g8 hg with rfl | rfl | rfl | rfl | rfl | rfl | rfl | rfl
      all_goals simp [offG] at hoq
      all_goals (
        repeat' ((conv => whnf); first
          | with_reducible first | refine spB_not ?_ | refine spB_no (by assumption) ?_
          | (with_reducible refine spB_dec ?_ ?_ <;> intro _ <;> (try (exfalso; first | contradiction | omega | (rename_i hz; refine hz ?_; simp; done) | (rename_i hz; simp at hz; done) | (simp only [LN] at *; omega) | (rename_i hz; exact absurd (hcz.symm.trans hz) Bool.false_ne_true) | (rename_i hz; exact absurd (hz.symm.trans hcz) (by decide)))))
          | with_reducible first | refine Z.rowN_known hs ?_
          | ((with_reducible apply ixN_lit); (focus (exact rfl)); (focus (exact rfl)))
          | ((with_reducible apply ixN_litp); (focus (exact rfl)); (focus ((try simp only [LN] at *) <;> omega)))
          | with_reducible refine wr_i64 (by first | omega | (simp only [LN] at *; omega)) ?_
          | ((first | (with_reducible refine Z.callZ_mk ?_ (cge) ?_)); (focus ((repeat' (first | exact trivial | exact rfl | apply And.intro)); done)))
          | fail)
        all_goals (try (conv => whnf))
        all_goals try (show Nat.ble _ _ = true; rfl)
        all_goals try (exfalso; rename_i hz; cases hz; done)
        all_goals try (exfalso; (try simp only [LN] at *) <;> omega)
        )
      all_goals first
        | ((refine Z.rndK ((i + 1, d1, d2, n + oq)) (fun s => [0, 1, 2]) rfl rfl rfl rfl ?_ ?_ ?_ ?_); (focus (repeat' (first | exact trivial | exact congrArg (fun z : Int => some (AV.val (.int .i64 (n + z)))) hoq | exact rfl | apply And.intro))); (focus (repeat' (first | exact trivial | (intro b hb; cases hb; rfl) | apply And.intro))); (focus (exact ⟨by (try dsimp only); omega, hca.symm, hoa.symm⟩)); ((try dsimp only); omega))
        | fail
  have hil : i = L.length := by omega
  subst hil
  rw [List.take_length] at HC HN
  rw [← HC] at hcPL
  rw [← HN] at hoPL
  have hPb : Pp.length ≤ 3 := by omega
  repeat' ((conv => whnf); first
    | (with_reducible refine spB_dec ?_ ?_ <;> intro _ <;> (try (exfalso; first | contradiction | omega | (rename_i hz; refine hz ?_; simp; done) | (rename_i hz; simp at hz; done) | (simp only [LN] at *; omega))))
    | fail)
  all_goals (try (conv => whnf))
  all_goals try (show Nat.ble _ _ = true; rfl)
  all_goals try (exfalso; rename_i hz; cases hz; done)
  all_goals try (exfalso; (try simp only [LN] at *) <;> omega)
  refine Z.loopK tabOk (fun zq : Nat × Int × Int × Int => [(71, .val (.int .i64 (zq.1 : Int))), (15, .val (.int .i64 zq.2.2.2))]) (fun zq : Nat × Int × Int × Int => ([(0, some (Z.Ob.b ⟨[[.v (.int .i64 s), .v (.int .i64 k), .v (.int .i64 v)]], 3, 61, true⟩)), (1, some (Z.Ob.b ⟨[[.v (.int .i64 c1), .v (.int .i64 c2)]], 2, 65, true⟩)), (2, some (Z.Ob.b ⟨[[.v (.int .i64 zq.2.1), .v (.int .i64 zq.2.2.1)]], 2, 65, true⟩))] : Z.Kr)) (fun zq => zq.1 ≤ Pp.length ∧ (zq.2.1, zq.2.2.1) = lastC (Pp.take zq.1) s k ∧ zq.2.2.2 = sumO (offG g) (Pp.take zq.1)) (fun zq => Pp.length - zq.1) (0, 0, 0, 0) 3 [(1, _), (5, _), (10, _), (12, _), (13, _), (14, _), (69, _), (70, _)] ⟨rfl, rfl, rfl, rfl, rfl, rfl, rfl, rfl, trivial⟩ [] trivial ?_ ?_ rfl rfl ⟨Nat.zero_le _, rfl, rfl⟩ ?_
  · repeat' (first | exact trivial | apply And.intro | exact ⟨_, rfl, Z.Imp.refl _⟩)
  · repeat' (first | exact trivial | exact (fun b hb => ⟨b, hb, Z.ImpO.refl b⟩) | apply And.intro)
  rintro ⟨j, e1, e2, m⟩ HINV
  (try dsimp only at HINV); (try dsimp only)
  obtain ⟨HJ, HD, HM⟩ := HINV
  have hnr2 := sumO_rng (f := offG g) (l := Pp.take j) fun y hy => hRP y (List.mem_of_mem_take hy)
  rw [← HM, List.length_take] at hnr2
  by_cases hj : j < Pp.length
  · have hs := hPa j (by omega)
    have hnj := hno j (by omega)
    have cmj := cmi j
    generalize partS WW j (1 + (IntKind.u64.wrap z).tmod 3) = y at *
    have hca := lastC_at (s := s) (k := k) hs
    have hoa := sumO_at (f := offG g) hs
    rw [← HD] at hca
    rw [← HM] at hoa
    have hym := List.mem_of_getElem? hs
    have hob := hRP _ hym
    have hya := hPx y hym
    have cge := Tab.tget_con y.rows s k v hya.1
    obtain ⟨oq, hoq⟩ : ∃ oq, offG g y = oq := ⟨_, rfl⟩
    rw [hoq] at hoa hob
    rw [decide_eq_true (okS_lt hw1 hw2 (by omega) (by omega))] at cmj
    simp only [Bool.true_and] at cmj
    by_cases hmn : Tab.ownG g (1 + (IntKind.u64.wrap z).tmod 3) = j
    rotate_left
    · obtain ⟨hc, ho0⟩ := hnj hmn
      rw [decide_eq_false hmn] at cmj
      rw [ho0] at hoq
      subst hoq
      have hoq := ho0
      rw [hc, if_neg (not_not_intro rfl)] at hca
      rw [hc] at cge
      dsimp only at cge
      rcases g8 hg with rfl | rfl | rfl | rfl | rfl | rfl | rfl | rfl
      all_goals simp [offG] at hoq
      all_goals (
        repeat' ((conv => whnf); first
          | with_reducible first | refine spB_t ?_
          | ((with_reducible apply spB_cong); (focus (simp only [beq_self_eq_true, bne_self_eq_false, Bool.true_bne, Bool.false_bne, Bool.bne_true, Bool.bne_false, Bool.true_beq, Bool.false_beq, Bool.not_true, Bool.not_false, Bool.not_not, Int.reduceBEq, Int.reduceBNe, Int.reduceLE, Int.reduceLT, Int.reduceEq, decide_true, decide_false]; rfl)))
          | with_reducible first | refine spB_no (by decide) ?_
          | (with_reducible refine spB_dec ?_ ?_ <;> intro _ <;> (try (exfalso; first | contradiction | omega | (rename_i hz; refine hz ?_; simp; done) | (rename_i hz; simp at hz; done) | (simp only [LN] at *; omega))))
          | (with_reducible refine spB_bne ?_ ?_ <;> intro _ <;> (try (exfalso; first | contradiction | omega | (rename_i hz; refine hz ?_; simp; done) | (rename_i hz; simp at hz; done) | (simp only [LN] at *; omega))))
          | with_reducible first | refine Z.rowN_known hs ?_
          | ((with_reducible apply ixN_lit); (focus (exact rfl)); (focus (exact rfl)))
          | ((with_reducible apply ixN_litp); (focus (exact rfl)); (focus ((try simp only [LN] at *) <;> omega)))
          | with_reducible refine wr_i64 (by first | omega | (simp only [LN] at *; omega)) ?_
          | ((first | (with_reducible refine Z.callZ_mk ?_ (cge) ?_) | (with_reducible refine Z.callZ_mk ?_ (cmj) ?_)); (focus ((repeat' (first | exact trivial | exact rfl | apply And.intro)); done)))
          | fail)
        all_goals (try (conv => whnf))
        all_goals try (show Nat.ble _ _ = true; rfl)
        all_goals try (exfalso; rename_i hz; cases hz; done)
        all_goals try (exfalso; (try simp only [LN] at *) <;> omega)
        )
      all_goals first
        | ((refine Z.rndK ((j + 1, e1, e2, m + 0)) (fun s => [0, 1, 2]) rfl rfl rfl rfl ?_ ?_ ?_ ?_); (focus (repeat' (first | exact trivial | exact congrArg (fun z : Int => some (AV.val (.int .i64 (m + z)))) hoq | exact rfl | apply And.intro))); (focus (repeat' (first | exact trivial | (intro b hb; cases hb; rfl) | apply And.intro))); (focus (exact ⟨by (try dsimp only); omega, hca.symm, hoa.symm⟩)); ((try dsimp only); omega))
        | fail
    rw [decide_eq_true hmn] at cmj
    clear hnj
    by_cases hc : Tab.getR y.rows s k = (0, 0)
    · skip
      rw [hc, if_neg (not_not_intro rfl)] at hca
      rw [hc] at cge
      dsimp only at cge
      rcases g8 hg with rfl | rfl | rfl | rfl | rfl | rfl | rfl | rfl
      all_goals simp [offG] at hoq
      all_goals (
        repeat' ((conv => whnf); first
          | ((with_reducible apply spB_cong); (focus (simp only [beq_self_eq_true, bne_self_eq_false, Bool.true_bne, Bool.false_bne, Bool.bne_true, Bool.bne_false, Bool.true_beq, Bool.false_beq, Bool.not_true, Bool.not_false, Bool.not_not, Int.reduceBEq, Int.reduceBNe, Int.reduceLE, Int.reduceLT, Int.reduceEq, decide_true, decide_false]; rfl)))
          | with_reducible first | refine spB_no (by decide) ?_
          | (with_reducible refine spB_dec ?_ ?_ <;> intro _ <;> (try (exfalso; first | contradiction | omega | (rename_i hz; refine hz ?_; simp; done) | (rename_i hz; simp at hz; done) | (simp only [LN] at *; omega))))
          | with_reducible first | refine Z.rowN_known hs ?_
          | ((with_reducible apply ixN_lit); (focus (exact rfl)); (focus (exact rfl)))
          | ((with_reducible apply ixN_litp); (focus (exact rfl)); (focus ((try simp only [LN] at *) <;> omega)))
          | with_reducible refine wr_i64 (by first | omega | (simp only [LN] at *; omega)) ?_
          | ((first | (with_reducible refine Z.callZ_mk ?_ (cge) ?_) | (with_reducible refine Z.callZ_mk ?_ (cmj) ?_)); (focus ((repeat' (first | exact trivial | exact rfl | apply And.intro)); done)))
          | fail)
        all_goals (try (conv => whnf))
        all_goals try (show Nat.ble _ _ = true; rfl)
        all_goals try (exfalso; rename_i hz; cases hz; done)
        all_goals try (exfalso; (try simp only [LN] at *) <;> omega)
        )
      all_goals first
        | ((refine Z.rndK ((j + 1, e1, e2, m + oq)) (fun s => [0, 1, 2]) rfl rfl rfl rfl ?_ ?_ ?_ ?_); (focus (repeat' (first | exact trivial | exact congrArg (fun z : Int => some (AV.val (.int .i64 (m + z)))) hoq | exact rfl | apply And.intro))); (focus (repeat' (first | exact trivial | (intro b hb; cases hb; rfl) | apply And.intro))); (focus (exact ⟨by (try dsimp only); omega, hca.symm, hoa.symm⟩)); ((try dsimp only); omega))
        | fail
    · skip
      rw [if_pos hc] at hca
      generalize Tab.getR y.rows s k = dd at *
      obtain ⟨d1, d2⟩ := dd
      dsimp only at cge
      have hcz : (d1 == 0 && (d2 == 0 && true)) = false := by
        cases hz : (d1 == 0 && (d2 == 0 && true)) with
        | false => rfl
        | true => exact absurd (by simp at hz; rw [hz.1, hz.2]) hc
      rcases g8 hg with rfl | rfl | rfl | rfl | rfl | rfl | rfl | rfl
      all_goals simp [offG] at hoq
      all_goals (
        repeat' ((conv => whnf); first
          | ((with_reducible apply spB_cong); (focus (simp only [beq_self_eq_true, bne_self_eq_false, Bool.true_bne, Bool.false_bne, Bool.bne_true, Bool.bne_false, Bool.true_beq, Bool.false_beq, Bool.not_true, Bool.not_false, Bool.not_not, Int.reduceBEq, Int.reduceBNe, Int.reduceLE, Int.reduceLT, Int.reduceEq, decide_true, decide_false]; rfl)))
          | with_reducible first | refine spB_no (by decide) ?_ | refine spB_not ?_ | refine spB_no (by assumption) ?_
          | (with_reducible refine spB_dec ?_ ?_ <;> intro _ <;> (try (exfalso; first | contradiction | omega | (rename_i hz; refine hz ?_; simp; done) | (rename_i hz; simp at hz; done) | (simp only [LN] at *; omega) | (rename_i hz; exact absurd (hcz.symm.trans hz) Bool.false_ne_true) | (rename_i hz; exact absurd (hz.symm.trans hcz) (by decide)))))
          | with_reducible first | refine Z.rowN_known hs ?_
          | ((with_reducible apply ixN_lit); (focus (exact rfl)); (focus (exact rfl)))
          | ((with_reducible apply ixN_litp); (focus (exact rfl)); (focus ((try simp only [LN] at *) <;> omega)))
          | with_reducible refine wr_i64 (by first | omega | (simp only [LN] at *; omega)) ?_
          | ((first | (with_reducible refine Z.callZ_mk ?_ (cge) ?_) | (with_reducible refine Z.callZ_mk ?_ (cmj) ?_)); (focus ((repeat' (first | exact trivial | exact rfl | apply And.intro)); done)))
          | fail)
        all_goals (try (conv => whnf))
        all_goals try (show Nat.ble _ _ = true; rfl)
        all_goals try (exfalso; rename_i hz; cases hz; done)
        all_goals try (exfalso; (try simp only [LN] at *) <;> omega)
        )
      all_goals first
        | ((refine Z.rndK ((j + 1, d1, d2, m + oq)) (fun s => [0, 1, 2]) rfl rfl rfl rfl ?_ ?_ ?_ ?_); (focus (repeat' (first | exact trivial | exact congrArg (fun z : Int => some (AV.val (.int .i64 (m + z)))) hoq | exact rfl | apply And.intro))); (focus (repeat' (first | exact trivial | (intro b hb; cases hb; rfl) | apply And.intro))); (focus (exact ⟨by (try dsimp only); omega, hca.symm, hoa.symm⟩)); ((try dsimp only); omega))
        | fail
  have hjl : j = Pp.length := by omega
  subst hjl
  rw [List.take_length] at HD HM
  rw [← HD] at hcPL
  rw [← HM] at hoPL
  cases hcPL
  subst hoPL
  repeat' ((conv => whnf); first
    | with_reducible first | refine spB_t ?_
    | ((with_reducible apply spB_cong); (focus (simp only [beq_self_eq_true, bne_self_eq_false, Bool.true_bne, Bool.false_bne, Bool.bne_true, Bool.bne_false, Bool.true_beq, Bool.false_beq, Bool.not_true, Bool.not_false, Bool.not_not, Int.reduceBEq, Int.reduceBNe, Int.reduceLE, Int.reduceLT, Int.reduceEq, decide_true, decide_false]; rfl)))
    | with_reducible first | refine spB_yes (by decide) ?_
    | (with_reducible refine spB_dec ?_ ?_ <;> intro _ <;> (try (exfalso; first | contradiction | omega | (rename_i hz; refine hz ?_; simp; done) | (rename_i hz; simp at hz; done) | (simp only [LN] at *; omega))))
    | fail)
  all_goals (try (conv => whnf))
  all_goals try (show Nat.ble _ _ = true; rfl)
  all_goals try (exfalso; rename_i hz; cases hz; done)
  all_goals try (exfalso; (try simp only [LN] at *) <;> omega)
  all_goals first
    | ((first | (with_reducible apply Z.retF1)); (focus (exact rfl)); (repeat' (first | exact trivial | (with_reducible apply Z.frz_one) | (with_reducible apply Z.fq_bool) | apply And.intro)); (all_goals (try exact (fun _ => none))); all_goals (first | (simp; done)))
    | fail
end Go.Proofs.Ytopieffkpdlpbaa
