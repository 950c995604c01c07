import Derived.Test.YtopieffkpdlpbaaOwn6
set_option linter.unusedVariables false
set_option linter.unusedSimpArgs false
namespace Go.Proofs.Ytopieffkpdlpbaa
open Go Go.RowKit Wx
set_option maxHeartbeats 4000000
theorem namesok_con (l : List Nm) (hl : l.length ≤ 9223372036854775807) : Con Try.prog 44 [.one (.ro false 3 (l.map eN))] (fun rx rK rt => rx = .val (.bool (namesR l)) ∧ rK = [] ∧ rt = 0) := by
 refine Z.con_ofF tabOk 33 Try.f44 _ Try.func44 (by kernel_rfl) rfl rfl rfl rfl ?_
 unfold namesR
 by_cases hc : l.length ≤ 24
 rotate_left
 ·rw [decide_eq_false hc, Bool.false_and]
  repeat' ((conv => whnf); first
   | (with_reducible refine spB_dec ?_ ?_ <;> intro _ <;> (try (exfalso; (first | (simp only [LN] at *; omega)))))
   | fail)
  all_goals (try (conv => whnf))
  all_goals try first | (show Nat.ble _ _ = true; rfl) | (exfalso; rename_i hz; cases hz; done) | (exfalso; (try simp only [LN] at *) <;> omega)
  all_goals first
   | ((first | (with_reducible apply Z.retF1)); (focus rfl); (repeat' (first | exact trivial | (with_reducible apply Z.frz_one) | (with_reducible apply Z.fq_bool) | exact rfl | apply And.intro)); (all_goals (try exact (fun _ => none))); all_goals (first | (simp; done)))
   | fail
 rw [decide_eq_true hc, Bool.true_and]
 repeat' ((conv => whnf); first
  | (with_reducible refine spB_dec ?_ ?_ <;> intro _ <;> (try (exfalso; (first | (simp only [LN] at *; omega)))))
  | fail)
 all_goals (try (conv => whnf))
 all_goals try first | (show Nat.ble _ _ = true; rfl) | (exfalso; rename_i hz; cases hz; done) | (exfalso; (try simp only [LN] at *) <;> omega)
 refine Z.loopK tabOk (fun zq : Nat => [(10, .val (.int .i64 (zq : Int)))]) (fun zq : Nat => ([] : Z.Kr)) (fun zq => zq ≤ l.length ∧ nOk none l = nOk (nPrev l zq) (l.drop zq)) (fun zq => l.length - zq) 0 0 [(0, _), (8, _), (9, _)] ⟨rfl, rfl, rfl, trivial⟩ [] trivial ?_ ?_ rfl rfl ⟨Nat.zero_le _, rfl⟩ ?_
 ·repeat' (first | exact trivial | apply And.intro | exact ⟨_, rfl, Z.Imp.refl _⟩)
 ·repeat' (first | exact trivial)
 rintro i HINV
 (try dsimp only at HINV); (try dsimp only)
 obtain ⟨HI, HT⟩ := HINV
 by_cases hi : i < l.length
 ·obtain ⟨x, hx⟩ := getElem?_some' (xs := l) (i := i) hi
  rw [nOk_at hx] at HT
  have ck := cname_con x
  cases hk : nmOk x
  ·rw [hk] at ck HT
   simp only [Bool.false_and] at HT
   try simp only [cond_false] at ck
   rw [HT]
   repeat' ((conv => whnf); first
    | with_reducible first | refine spB_t ?_
    | ((with_reducible apply spB_cong); (focus (simp only [splQ, Int.reduceBEq, Int.reduceBNe]; rfl)))
    | (with_reducible refine spB_dec ?_ ?_ <;> intro _ <;> (try (exfalso; (first | (simp only [LN] at *; omega)))))
    | with_reducible first | refine Z.rowN_known hx ?_
    | ((with_reducible apply ixN_litp); (focus rfl); (focus ((try simp only [LN] at *) <;> omega)))
    | ((first | (with_reducible refine Z.conZ_mz ?_ (ck) ?_)); (focus ((repeat' (first | exact trivial | exact rfl | apply And.intro)); done)))
    | with_reducible first | refine Z.drawZ_rule tabOk mixOk ?_ | refine Z.apZ_mk (by kernel_rfl) ?_
    | fail)
   all_goals (try (conv => whnf))
   all_goals try first | (show Nat.ble _ _ = true; rfl) | (exfalso; rename_i hz; cases hz; done) | (exfalso; (try simp only [LN] at *) <;> omega)
   all_goals first
    | ((first | (with_reducible apply Z.retF1)); (focus rfl); (repeat' (first | exact trivial | (with_reducible apply Z.frz_one) | (with_reducible apply Z.fq_bool) | exact rfl | apply And.intro)); (all_goals (try exact (fun _ => none))); all_goals (first | (simp; done)))
    | fail
  rw [hk] at ck HT
  simp only [Bool.true_and] at HT
  try simp only [cond_true] at ck
  rcases i with _ | j
  ·have HT2 : nOk none l = nOk (nPrev l 1) (l.drop 1) := by rw [HT]; rfl
   repeat' ((conv => whnf); first
    | ((with_reducible apply spB_cong); (focus (simp only [splQ, Int.reduceBEq, Int.reduceBNe]; rfl)))
    | with_reducible first | refine spB_no (by decide) ?_
    | (with_reducible refine spB_dec ?_ ?_ <;> intro _ <;> (try (exfalso; (first | (simp only [LN] at *; omega)))))
    | with_reducible first | refine Z.rowN_known hx ?_
    | ((with_reducible apply ixN_litp); (focus rfl); (focus ((try simp only [LN] at *) <;> omega)))
    | with_reducible refine wr_i64 (by first | omega | (simp only [LN] at *; omega)) ?_
    | ((first | (with_reducible refine Z.conZ_mz ?_ (ck) ?_)); (focus ((repeat' (first | exact trivial | exact rfl | apply And.intro)); done)))
    | with_reducible first | refine Z.drawZ_rule tabOk mixOk ?_ | refine Z.apZ_mk (by kernel_rfl) ?_
    | fail)
   all_goals (try (conv => whnf))
   all_goals try first | (show Nat.ble _ _ = true; rfl) | (exfalso; rename_i hz; cases hz; done) | (exfalso; (try simp only [LN] at *) <;> omega)
   all_goals first
    | ((refine Z.rndK (1) (fun s => []) rfl rfl rfl rfl ?_ ?_ ?_ ?_); (focus (repeat' (first | exact trivial | exact rfl | apply And.intro))); (focus (repeat' (first | exact trivial))); (focus (exact ⟨by (try dsimp only); omega, HT2⟩)); ((try dsimp only); omega))
    | fail
  obtain ⟨q, hq⟩ := getElem?_some' (xs := l) (i := j) (by omega)
  have hpr : nPrev l (j + 1) = some q := hq
  rw [hpr] at HT
  simp only at HT
  have cc := ncmp_con q x
  have hcl := nC_lt q x
  generalize nC q x = C at *
  by_cases hlt : nLt q x
  ·rw [decide_eq_true hlt] at HT hcl
   have hC : ¬ 0 ≤ C := of_decide_eq_false (by simpa using hcl)
   rw [Bool.true_and] at HT
   repeat' ((conv => whnf); first
    | with_reducible first | refine spB_t ?_
    | ((with_reducible apply spB_cong); (focus (simp only [splQ, Int.reduceBEq, Int.reduceBNe]; rfl)))
    | with_reducible first | refine spB_no (by decide) ?_
    | (with_reducible refine spB_dec ?_ ?_ <;> intro _ <;> (try (exfalso; (first | contradiction | omega | (simp only [LN] at *; omega)))))
    | with_reducible first | refine Z.rowN_known hx ?_ | refine Z.rowN_known hq ?_
    | ((with_reducible refine ixN_mk (j) ?_ ?_ ?_); (focus (first | ((try simp only [LN] at *) <;> omega))); (focus ((try simp only [LN] at *) <;> omega)))
    | ((with_reducible apply ixN_litp); (focus rfl); (focus ((try simp only [LN] at *) <;> omega)))
    | with_reducible refine wr_i64 (by first | omega | (simp only [LN] at *; omega)) ?_
    | ((first | (with_reducible refine Z.conZ_mz ?_ (ck) ?_) | (with_reducible refine Z.conZ_mz ?_ (cc) ?_)); (focus ((repeat' (first | exact trivial | exact rfl | apply And.intro)); done)))
    | with_reducible first | refine Z.drawZ_rule tabOk mixOk ?_ | refine Z.apZ_mk (by kernel_rfl) ?_
    | fail)
   all_goals (try (conv => whnf))
   all_goals try first | (show Nat.ble _ _ = true; rfl) | (exfalso; rename_i hz; cases hz; done) | (exfalso; (try simp only [LN] at *) <;> omega)
   all_goals first
    | ((refine Z.rndK ((j + 1 + 1)) (fun s => []) rfl rfl rfl rfl ?_ ?_ ?_ ?_); (focus (repeat' (first | exact trivial | exact rfl | apply And.intro))); (focus (repeat' (first | exact trivial))); (focus (exact ⟨by (try dsimp only); omega, HT⟩)); ((try dsimp only); omega))
    | fail
  ·rw [decide_eq_false hlt] at HT hcl
   have hC : 0 ≤ C := of_decide_eq_true (by simpa using hcl)
   rw [Bool.false_and] at HT
   rw [HT]
   repeat' ((conv => whnf); first
    | with_reducible first | refine spB_t ?_
    | ((with_reducible apply spB_cong); (focus (simp only [splQ, Int.reduceBEq, Int.reduceBNe]; rfl)))
    | with_reducible first | refine spB_no (by decide) ?_
    | (with_reducible refine spB_dec ?_ ?_ <;> intro _ <;> (try (exfalso; (first | contradiction | omega | (simp only [LN] at *; omega)))))
    | with_reducible first | refine Z.rowN_known hx ?_ | refine Z.rowN_known hq ?_
    | ((with_reducible refine ixN_mk (j) ?_ ?_ ?_); (focus (first | ((try simp only [LN] at *) <;> omega))); (focus ((try simp only [LN] at *) <;> omega)))
    | ((with_reducible apply ixN_litp); (focus rfl); (focus ((try simp only [LN] at *) <;> omega)))
    | with_reducible refine wr_i64 (by first | omega | (simp only [LN] at *; omega)) ?_
    | ((first | (with_reducible refine Z.conZ_mz ?_ (ck) ?_) | (with_reducible refine Z.conZ_mz ?_ (cc) ?_)); (focus ((repeat' (first | exact trivial | exact rfl | apply And.intro)); done)))
    | with_reducible first | refine Z.drawZ_rule tabOk mixOk ?_ | refine Z.apZ_mk (by kernel_rfl) ?_
    | fail)
   all_goals (try (conv => whnf))
   all_goals try first | (show Nat.ble _ _ = true; rfl) | (exfalso; rename_i hz; cases hz; done) | (exfalso; (try simp only [LN] at *) <;> omega)
   all_goals first
    | ((first | (with_reducible apply Z.retF1)); (focus rfl); (repeat' (first | exact trivial | (with_reducible apply Z.frz_one) | (with_reducible apply Z.fq_bool) | exact rfl | apply And.intro)); (all_goals (try exact (fun _ => none))); all_goals (first | (simp; done)))
    | fail
 have hil : i = l.length := by omega
 subst hil
 rw [List.drop_length] at HT
 have HT3 : nOk none l = true := by rw [HT]; cases nPrev l l.length <;> rfl
 rw [HT3]
 repeat' ((conv => whnf); first
  | (with_reducible refine spB_dec ?_ ?_ <;> intro _ <;> (try (exfalso; (first | (rename_i hz; simp at hz; done)))))
  | fail)
 all_goals (try (conv => whnf))
 all_goals try first | (show Nat.ble _ _ = true; rfl) | (exfalso; rename_i hz; cases hz; done) | (exfalso; (try simp only [LN] at *) <;> omega)
 all_goals first
  | ((first | (with_reducible apply Z.retF1)); (focus rfl); (repeat' (first | exact trivial | (with_reducible apply Z.frz_one) | (with_reducible apply Z.fq_bool) | exact rfl | apply And.intro)); (all_goals (try exact (fun _ => none))); all_goals (first | (simp; done)))
  | fail
end Go.Proofs.Ytopieffkpdlpbaa
namespace Go.Proofs.Ytopieffkpdlpbaa
open Go Go.RowKit Wx
set_option maxHeartbeats 4000000
def snapR (x : Sn) : Bool := decide ((0 ≤ x.op ∧ x.op < 8) ∧ Tab.okS x.ix x.w) && (offR x.o0 x.o1 x.o2 x.o3 x.o4 x.o5 x.o6 x.o7 x.ix x.w && (namesR x.txs && (Tab.tabR x.rows && decide (Tab.partL x.rows x.ix x.w = x.rows))))
theorem maybe_con (x : Sn) (hr : x.rows.length ≤ 1000) (ht : x.txs.length ≤ 9223372036854775807) : Con Try.prog 48 [.agg [.v (.int .i64 x.op), .v (.int .i64 x.ix), .v (.int .i64 x.w), .v (.bool x.en), .ro false 4 (x.rows.map Tab.eK), .v (.int .i64 x.o0), .v (.int .i64 x.o1), .v (.int .i64 x.o2), .v (.int .i64 x.o3), .v (.int .i64 x.o4), .v (.int .i64 x.o5), .v (.int .i64 x.o6), .v (.int .i64 x.o7), .ro false 3 (x.txs.map eN)]] (fun rx rK rt => rx = .val (.bool (snapR x)) ∧ rK = [] ∧ rt = 0) := by
 refine Z.con_ofF tabOk 51 Try.f48 _ Try.func48 (by kernel_rfl) rfl rfl rfl rfl ?_
 unfold snapR
 by_cases ho : 0 ≤ x.op ∧ x.op < 8
 rotate_left
 ·rw [decide_eq_false (fun h => ho h.1), Bool.false_and]
  repeat' ((conv => whnf); first
   | with_reducible first | refine spB_t ?_
   | ((with_reducible apply spB_cong); (focus (simp only [splQ, Int.reduceBEq, Int.reduceBNe]; rfl)))
   | with_reducible first | refine spB_no (by decide) ?_ | refine spB_not ?_
   | (with_reducible refine spB_dec ?_ ?_ <;> intro _ <;> (try (exfalso; (first | omega))))
   | with_reducible first | refine Z.callZ_in tabOk 9 Try.f31 _ Try.func31 (by kernel_rfl) rfl rfl rfl ?_
   | ((with_reducible apply ex_and); exact rfl)
   | fail)
  all_goals (try (conv => whnf))
  all_goals try first | (show Nat.ble _ _ = true; rfl) | (exfalso; rename_i hz; cases hz; done) | (exfalso; (try simp only [LN] at *) <;> omega)
  all_goals first
   | ((first | (with_reducible apply Z.retF1)); (focus rfl); (repeat' (first | exact trivial | (with_reducible apply Z.frz_one) | (with_reducible apply Z.fq_bool) | exact rfl | apply And.intro)); (all_goals (try exact (fun _ => none))); all_goals (first | (simp; done)))
   | fail
 by_cases hs : Tab.okS x.ix x.w
 rotate_left
 ·have cow := Tab.owned_bad x.ix x.w hs
  rw [decide_eq_false (fun h => hs h.2), Bool.false_and]
  repeat' ((conv => whnf); first
   | with_reducible first | refine spB_t ?_
   | ((with_reducible apply spB_cong); (focus (simp only [splQ, Int.reduceBEq, Int.reduceBNe]; rfl)))
   | with_reducible first | refine spB_no (by decide) ?_ | refine spB_not ?_
   | (with_reducible refine spB_dec ?_ ?_ <;> intro _ <;> (try (exfalso; (first | omega))))
   | with_reducible first | refine Z.callZ_in tabOk 9 Try.f31 _ Try.func31 (by kernel_rfl) rfl rfl rfl ?_ | refine Z.callZ_in tabOk 15 Try.f32 _ Try.func32 (by kernel_rfl) rfl rfl rfl ?_
   | ((first | (with_reducible refine Z.callZ_mk ?_ (cow) ?_)); (focus ((repeat' (first | exact trivial | exact rfl | apply And.intro)); done)))
   | ((with_reducible apply ex_and); exact rfl)
   | fail)
  all_goals (try (conv => whnf))
  all_goals try first | (show Nat.ble _ _ = true; rfl) | (exfalso; rename_i hz; cases hz; done) | (exfalso; (try simp only [LN] at *) <;> omega)
  all_goals first
   | ((first | (with_reducible apply Z.retF1)); (focus rfl); (repeat' (first | exact trivial | (with_reducible apply Z.frz_one) | (with_reducible apply Z.fq_bool) | exact rfl | apply And.intro)); (all_goals (try exact (fun _ => none))); all_goals (first | (simp; done)))
   | fail
 obtain ⟨L, cow⟩ := Tab.owned_ok x.ix x.w hs
 rw [decide_eq_true ⟨ho, hs⟩, Bool.true_and]
 have cof := areoff_con x.o0 x.o1 x.o2 x.o3 x.o4 x.o5 x.o6 x.o7 x.ix x.w hs
 cases hof : offR x.o0 x.o1 x.o2 x.o3 x.o4 x.o5 x.o6 x.o7 x.ix x.w
 all_goals rw [hof] at cof
 ·rw [Bool.false_and]
  repeat' ((conv => whnf); first
   | with_reducible first | refine spB_t ?_
   | ((with_reducible apply spB_cong); (focus (simp only [splQ, Int.reduceBEq, Int.reduceBNe]; rfl)))
   | with_reducible first | refine spB_no (by decide) ?_ | refine spB_not ?_
   | (with_reducible refine spB_dec ?_ ?_ <;> intro _ <;> (try (exfalso; (first | omega))))
   | with_reducible first | refine Z.callZ_in tabOk 9 Try.f31 _ Try.func31 (by kernel_rfl) rfl rfl rfl ?_ | refine Z.callZ_in tabOk 15 Try.f32 _ Try.func32 (by kernel_rfl) rfl rfl rfl ?_
   | ((first | (with_reducible refine Z.callZ_mk ?_ (cof) ?_) | (with_reducible refine Z.callZ_mk ?_ (cow) ?_)); (focus ((repeat' (first | exact trivial | exact rfl | apply And.intro)); done)))
   | ((with_reducible apply ex_and); exact rfl)
   | fail)
  all_goals (try (conv => whnf))
  all_goals try first | (show Nat.ble _ _ = true; rfl) | (exfalso; rename_i hz; cases hz; done) | (exfalso; (try simp only [LN] at *) <;> omega)
  all_goals first
   | ((first | (with_reducible apply Z.retF1)); (focus rfl); (repeat' (first | exact trivial | (with_reducible apply Z.frz_one) | (with_reducible apply Z.fq_bool) | exact rfl | apply And.intro)); (all_goals (try exact (fun _ => none))); all_goals (first | (simp; done)))
   | fail
 rw [Bool.true_and]
 have cnm := namesok_con x.txs ht
 cases hnm : namesR x.txs
 all_goals rw [hnm] at cnm
 ·rw [Bool.false_and]
  repeat' ((conv => whnf); first
   | with_reducible first | refine spB_t ?_
   | ((with_reducible apply spB_cong); (focus (simp only [splQ, Int.reduceBEq, Int.reduceBNe]; rfl)))
   | with_reducible first | refine spB_no (by decide) ?_ | refine spB_not ?_
   | (with_reducible refine spB_dec ?_ ?_ <;> intro _ <;> (try (exfalso; (first | omega))))
   | with_reducible first | refine Z.callZ_in tabOk 9 Try.f31 _ Try.func31 (by kernel_rfl) rfl rfl rfl ?_ | refine Z.callZ_in tabOk 15 Try.f32 _ Try.func32 (by kernel_rfl) rfl rfl rfl ?_
   | ((first | (with_reducible refine Z.callZ_mk ?_ (cnm) ?_) | (with_reducible refine Z.callZ_mk ?_ (cof) ?_) | (with_reducible refine Z.callZ_mk ?_ (cow) ?_)); (focus ((repeat' (first | exact trivial | exact rfl | apply And.intro)); done)))
   | ((with_reducible apply ex_and); exact rfl)
   | fail)
  all_goals (try (conv => whnf))
  all_goals try first | (show Nat.ble _ _ = true; rfl) | (exfalso; rename_i hz; cases hz; done) | (exfalso; (try simp only [LN] at *) <;> omega)
  all_goals first
   | ((first | (with_reducible apply Z.retF1)); (focus rfl); (repeat' (first | exact trivial | (with_reducible apply Z.frz_one) | (with_reducible apply Z.fq_bool) | exact rfl | apply And.intro)); (all_goals (try exact (fun _ => none))); all_goals (first | (simp; done)))
   | fail
 rw [Bool.true_and]
 have cpa := Tab.tpart_con x.rows x.ix x.w hr
 unfold Tab.partT at cpa
 cases htb : Tab.tabR x.rows
 all_goals rw [htb] at cpa
 ·rw [if_pos rfl] at cpa
  rw [Bool.false_and]
  repeat' ((conv => whnf); first
   | with_reducible first | refine spB_t ?_
   | ((with_reducible apply spB_cong); (focus (simp only [splQ, Int.reduceBEq, Int.reduceBNe]; rfl)))
   | with_reducible first | refine spB_no (by decide) ?_ | refine spB_not ?_
   | (with_reducible refine spB_dec ?_ ?_ <;> intro _ <;> (try (exfalso; (first | omega))))
   | with_reducible first | refine Z.callZ_in tabOk 9 Try.f31 _ Try.func31 (by kernel_rfl) rfl rfl rfl ?_ | refine Z.callZ_in tabOk 15 Try.f32 _ Try.func32 (by kernel_rfl) rfl rfl rfl ?_
   | ((first | (with_reducible refine Z.callZ_mk ?_ (cnm) ?_) | (with_reducible refine Z.callZ_mk ?_ (cof) ?_) | (with_reducible refine Z.callZ_mk ?_ (cpa) ?_) | (with_reducible refine Z.callZ_mk ?_ (cow) ?_)); (focus ((repeat' (first | exact trivial | exact rfl | apply And.intro)); done)))
   | ((with_reducible apply ex_and); exact rfl)
   | fail)
  all_goals (try (conv => whnf))
  all_goals try first | (show Nat.ble _ _ = true; rfl) | (exfalso; rename_i hz; cases hz; done) | (exfalso; (try simp only [LN] at *) <;> omega)
  all_goals first
   | ((first | (with_reducible apply Z.retF1)); (focus rfl); (repeat' (first | exact trivial | (with_reducible apply Z.frz_one) | (with_reducible apply Z.fq_bool) | exact rfl | apply And.intro)); (all_goals (try exact (fun _ => none))); all_goals (first | (simp; done)))
   | fail
 rw [if_neg (by decide), if_pos hs] at cpa
 dsimp only at cpa
 rw [Bool.true_and]
 have hpl := @Tab.part_len x.rows x.ix x.w
 have cs := Tab.same_con (Tab.partL x.rows x.ix x.w) x.rows (by omega)
 generalize Tab.partL x.rows x.ix x.w = Q at *
 generalize decide (Q = x.rows) = B at *
 repeat' ((conv => whnf); first
  | with_reducible first | refine spB_t ?_
  | ((with_reducible apply spB_cong); (focus (simp only [splQ, Int.reduceBEq, Int.reduceBNe]; rfl)))
  | with_reducible first | refine spB_no (by decide) ?_ | refine spB_not ?_
  | (with_reducible refine spB_dec ?_ ?_ <;> intro _ <;> (try (exfalso; (first | omega))))
  | with_reducible first | refine Z.callZ_in tabOk 9 Try.f31 _ Try.func31 (by kernel_rfl) rfl rfl rfl ?_ | refine Z.callZ_in tabOk 15 Try.f32 _ Try.func32 (by kernel_rfl) rfl rfl rfl ?_
  | ((first | (with_reducible refine Z.callZ_mk ?_ (cnm) ?_) | (with_reducible refine Z.callZ_mk ?_ (cs) ?_) | (with_reducible refine Z.callZ_mk ?_ (cof) ?_) | (with_reducible refine Z.callZ_mk ?_ (cpa) ?_) | (with_reducible refine Z.callZ_mk ?_ (cow) ?_)); (focus ((repeat' (first | exact trivial | exact rfl | apply And.intro)); done)))
  | ((with_reducible apply ex_and); exact rfl)
  | fail)
 all_goals (try (conv => whnf))
 all_goals try first | (show Nat.ble _ _ = true; rfl) | (exfalso; rename_i hz; cases hz; done) | (exfalso; (try simp only [LN] at *) <;> omega)
 all_goals first
  | ((first | (with_reducible apply Z.retF1)); (focus rfl); (repeat' (first | exact trivial | exact rfl | apply And.intro)); (all_goals (try exact (fun _ => none))); all_goals (first | (simp; done)))
  | fail
theorem scheck_con (x : Sn) (hr : x.rows.length ≤ 1000) (ht : x.txs.length ≤ 9223372036854775807) : Con Try.prog 40 [.agg [.v (.int .i64 x.op), .v (.int .i64 x.ix), .v (.int .i64 x.w), .v (.bool x.en), .ro false 4 (x.rows.map Tab.eK), .v (.int .i64 x.o0), .v (.int .i64 x.o1), .v (.int .i64 x.o2), .v (.int .i64 x.o3), .v (.int .i64 x.o4), .v (.int .i64 x.o5), .v (.int .i64 x.o6), .v (.int .i64 x.o7), .ro false 3 (x.txs.map eN)]] (fun rx rK rt => rx = .val (.int .i64 (bif snapR x then 0 else 280)) ∧ rK = [] ∧ rt = 0) := by
 refine Z.con_ofF tabOk 6 Try.f40 _ Try.func40 (by kernel_rfl) rfl rfl rfl rfl ?_
 have cm := maybe_con x hr ht
 cases hz : snapR x
 all_goals rw [hz] at cm
 all_goals try simp only [cond_true, cond_false]
 ·skip
  repeat' ((conv => whnf); first
   | with_reducible first | refine spB_t ?_
   | ((with_reducible apply spB_cong); (focus (simp only [splQ, Int.reduceBEq, Int.reduceBNe]; rfl)))
   | ((first | (with_reducible refine Z.callZ_mk ?_ (cm) ?_)); (focus ((repeat' (first | exact trivial | exact rfl | apply And.intro)); done)))
   | fail)
  all_goals (try (conv => whnf))
  all_goals try first | (show Nat.ble _ _ = true; rfl) | (exfalso; rename_i hz; cases hz; done) | (exfalso; (try simp only [LN] at *) <;> omega)
  all_goals first
   | ((first | (with_reducible apply Z.retF1)); (focus rfl); (repeat' (first | exact trivial | (with_reducible apply Z.frz_one) | (with_reducible apply Z.fq_int) | exact rfl | apply And.intro)); (all_goals (try exact (fun _ => none))); all_goals (first | (simp; done)))
   | fail
 ·skip
  repeat' ((conv => whnf); first
   | ((with_reducible apply spB_cong); (focus (simp only [splQ, Int.reduceBEq, Int.reduceBNe]; rfl)))
   | with_reducible first | refine spB_no (by decide) ?_
   | ((first | (with_reducible refine Z.callZ_mk ?_ (cm) ?_)); (focus ((repeat' (first | exact trivial | exact rfl | apply And.intro)); done)))
   | fail)
  all_goals (try (conv => whnf))
  all_goals try first | (show Nat.ble _ _ = true; rfl) | (exfalso; rename_i hz; cases hz; done) | (exfalso; (try simp only [LN] at *) <;> omega)
  all_goals first
   | ((first | (with_reducible apply Z.retF1)); (focus rfl); (repeat' (first | exact trivial | (with_reducible apply Z.frz_one) | (with_reducible apply Z.fq_int) | exact rfl | apply And.intro)); (all_goals (try exact (fun _ => none))); all_goals (first | (simp; done)))
   | fail
end Go.Proofs.Ytopieffkpdlpbaa
namespace Go.Proofs.Ytopieffkpdlpbaa
open Go Go.RowKit Wx
set_option maxHeartbeats 4000000
def own1 (g i w o : Int) : Int := if Tab.ownG g w = i then o else 0
def partS (x : Sn) (i w : Int) : Sn := ⟨x.op, i, w, x.en, Tab.partL x.rows i w, own1 0 i w x.o0, own1 1 i w x.o1, own1 2 i w x.o2, own1 3 i w x.o3, own1 4 i w x.o4, own1 5 i w x.o5, own1 6 i w x.o6, own1 7 i w x.o7, []⟩
def zeroS : Sn := ⟨0, 0, 0, false, [], 0, 0, 0, 0, 0, 0, 0, 0, []⟩
def partE (x : Sn) (i w : Int) : Sn × Int := if snapR x = false then (zeroS, 280) else if x.w ≠ 1 then (zeroS, 281) else if Tab.okS i w then (partS x i w, 0) else (zeroS, 2)
theorem six {i w : Int} (h : Tab.okS i w) : (i = 0 ∧ w = 1) ∨ (i = 0 ∧ w = 2) ∨ (i = 1 ∧ w = 2) ∨ (i = 0 ∧ w = 3) ∨ (i = 1 ∧ w = 3) ∨ (i = 2 ∧ w = 3) := by unfold Tab.okS at h; omega
theorem joined_con (o0 o1 o2 o3 o4 o5 o6 o7 i w : Int) (h : Tab.okS i w) : Con Try.prog 41 [.agg [.v (.int .i64 o0), .v (.int .i64 o1), .v (.int .i64 o2), .v (.int .i64 o3), .v (.int .i64 o4), .v (.int .i64 o5), .v (.int .i64 o6), .v (.int .i64 o7)], .agg [.v (.int .i64 0), .v (.int .i64 0), .v (.int .i64 0), .v (.int .i64 0), .v (.int .i64 0), .v (.int .i64 0), .v (.int .i64 0), .v (.int .i64 0)], .one (.v (.int .i64 i)), .one (.v (.int .i64 w))] (fun rx rK rt => rx = .tup [.agg [.v (.int .i64 (own1 0 i w o0)), .v (.int .i64 (own1 1 i w o1)), .v (.int .i64 (own1 2 i w o2)), .v (.int .i64 (own1 3 i w o3)), .v (.int .i64 (own1 4 i w o4)), .v (.int .i64 (own1 5 i w o5)), .v (.int .i64 (own1 6 i w o6)), .v (.int .i64 (own1 7 i w o7))], .one (.v (.int .i64 0))] ∧ rK = [] ∧ rt = 0) := by
 rcases six h with ⟨rfl, rfl⟩ | ⟨rfl, rfl⟩ | ⟨rfl, rfl⟩ | ⟨rfl, rfl⟩ | ⟨rfl, rfl⟩ | ⟨rfl, rfl⟩
 ·exact joined_0_1 o0 o1 o2 o3 o4 o5 o6 o7
 ·exact joined_0_2 o0 o1 o2 o3 o4 o5 o6 o7
 ·exact joined_1_2 o0 o1 o2 o3 o4 o5 o6 o7
 ·exact joined_0_3 o0 o1 o2 o3 o4 o5 o6 o7
 ·exact joined_1_3 o0 o1 o2 o3 o4 o5 o6 o7
 ·exact joined_2_3 o0 o1 o2 o3 o4 o5 o6 o7
end Go.Proofs.Ytopieffkpdlpbaa
namespace Go.Proofs.Ytopieffkpdlpbaa
open Go Go.RowKit Wx
set_option maxHeartbeats 4000000
def ownW (g : Int) (l : List Sn) : Sn := l.getD (Tab.ownG g l.length).toNat zeroS
def wholeS (l : List Sn) : Sn := ⟨(l.headD zeroS).op, 0, 1, (l.foldl (fun e s => e && s.en) true), gath (l.map (·.rows)), (ownW 0 l).o0, (ownW 1 l).o1, (ownW 2 l).o2, (ownW 3 l).o3, (ownW 4 l).o4, (ownW 5 l).o5, (ownW 6 l).o6, (ownW 7 l).o7, (l.map (·.txs)).flatten⟩
def fitK (l : List Sn) (k : Nat) (x : Sn) : Prop := x.op = (l.headD zeroS).op ∧ x.w = l.length ∧ x.ix = k
instance (l : List Sn) (k : Nat) (x : Sn) : Decidable (fitK l k x) := by unfold fitK; infer_instance
def fitW (l : List Sn) : Bool := !l.isEmpty && l.zipIdx.all fun p => decide (fitK l p.2 p.1)
def wholeE (l : List Sn) : Sn × Int := if l.all snapR = false then (zeroS, 280) else if fitW l = false ∨ namesR (l.map (·.txs)).flatten = false then (zeroS, 281) else (wholeS l, 0)
theorem wh_nil   : Con Try.prog 14 [.one (.ro false 14 (([] : List Sn).map eSn))] (fun rx rK rt => rx = .tup [.agg [.v (.int .i64 zeroS.op), .v (.int .i64 zeroS.ix), .v (.int .i64 zeroS.w), .v (.bool zeroS.en), .ro true 4 (zeroS.rows.map Tab.eK), .v (.int .i64 zeroS.o0), .v (.int .i64 zeroS.o1), .v (.int .i64 zeroS.o2), .v (.int .i64 zeroS.o3), .v (.int .i64 zeroS.o4), .v (.int .i64 zeroS.o5), .v (.int .i64 zeroS.o6), .v (.int .i64 zeroS.o7), .ro true 3 (zeroS.txs.map eN)], .one (.v (.int .i64 281))] ∧ rK = [] ∧ rt = 0) := by
 refine Z.con_ofF tabOk 103 Try.f14 _ Try.func14 (by kernel_rfl) rfl rfl rfl rfl ?_
 repeat' ((conv => whnf); first
  | with_reducible first | refine spB_yes (by decide) ?_ | refine spB_no (by decide) ?_
  | with_reducible first | refine Z.loopZ_unroll tabOk 1 ?_
  | fail)
 all_goals (try (conv => whnf))
 all_goals try first | (show Nat.ble _ _ = true; rfl) | (exfalso; rename_i hz; cases hz; done) | (exfalso; (try simp only [LN] at *) <;> omega)
 all_goals first
  | ((first | (with_reducible apply Z.retF2)); (focus rfl); (repeat' (first | exact trivial | (with_reducible apply Z.frz_one) | (with_reducible apply Z.frz_agg) | (with_reducible apply Z.fq_int) | (with_reducible apply Z.fq_bool) | (exact Z.frz_nil) | exact rfl | apply And.intro)); (all_goals (try exact (fun _ => none))); all_goals (first | (simp; done)))
  | fail
theorem wh_chk (l : List Sn) (hA : ∀ x ∈ l, x.rows.length ≤ 1000 ∧ x.txs.length ≤ 1000) (hl : l.length ≤ 1000) (h1 : l.all snapR = false) : Con Try.prog 14 [.one (.ro false 14 ((l : List Sn).map eSn))] (fun rx rK rt => rx = .tup [.agg [.v (.int .i64 zeroS.op), .v (.int .i64 zeroS.ix), .v (.int .i64 zeroS.w), .v (.bool zeroS.en), .ro true 4 (zeroS.rows.map Tab.eK), .v (.int .i64 zeroS.o0), .v (.int .i64 zeroS.o1), .v (.int .i64 zeroS.o2), .v (.int .i64 zeroS.o3), .v (.int .i64 zeroS.o4), .v (.int .i64 zeroS.o5), .v (.int .i64 zeroS.o6), .v (.int .i64 zeroS.o7), .ro true 3 (zeroS.txs.map eN)], .one (.v (.int .i64 280))] ∧ rK = [] ∧ rt = 0) := by
 refine Z.con_ofF tabOk 103 Try.f14 _ Try.func14 (by kernel_rfl) rfl rfl rfl rfl ?_
 repeat' ((conv => whnf); first
  | with_reducible first | refine spB_t ?_
  | fail)
 all_goals (try (conv => whnf))
 all_goals try first | (show Nat.ble _ _ = true; rfl) | (exfalso; rename_i hz; cases hz; done) | (exfalso; (try simp only [LN] at *) <;> omega)
 refine Z.loopK tabOk (fun zq : Nat => [(14, .val (.int .i64 (zq : Int)))]) (fun zq : Nat => ([] : Z.Kr)) (fun zq => zq ≤ l.length ∧ (∀ x ∈ l.take zq, snapR x = true)) (fun zq => l.length - zq) 0 1 [(0, _), (2, _), (12, _), (13, _)] ⟨rfl, rfl, rfl, rfl, trivial⟩ [(0, some _)] ⟨rfl, trivial⟩ ?_ ?_ rfl rfl ⟨Nat.zero_le _, (fun x h => nomatch h)⟩ ?_
 ·repeat' (first | exact trivial | apply And.intro | exact ⟨_, rfl, Z.Imp.refl _⟩)
 ·repeat' (first | exact trivial)
 rintro i HINV
 (try dsimp only at HINV); (try dsimp only)
 obtain ⟨HI, HG⟩ := HINV
 by_cases hi : i < l.length
 ·obtain ⟨x, hx⟩ := getElem?_some' (xs := l) (i := i) hi
  have hxm := List.mem_of_getElem? hx
  have ck := scheck_con x (hA x hxm).1 (by have := (hA x hxm).2; omega)
  cases hs : snapR x
  all_goals rw [hs] at ck
  all_goals try simp only [cond_true, cond_false] at ck
  ·skip
   repeat' ((conv => whnf); first
    | with_reducible first | refine spB_t ?_
    | ((with_reducible apply spB_cong); (focus (simp only [splQ, Int.reduceBEq, Int.reduceBNe]; rfl)))
    | (with_reducible refine spB_dec ?_ ?_ <;> intro _ <;> (try (exfalso; (first | (simp only [LN] at *; omega)))))
    | with_reducible first | refine Z.rowN_known hx ?_
    | ((with_reducible apply ixN_litp); (focus rfl); (focus ((try simp only [LN] at *) <;> omega)))
    | ((first | (with_reducible refine Z.callZ_mk ?_ (ck) ?_)); (focus ((repeat' (first | exact trivial | exact rfl | apply And.intro)); done)))
    | fail)
   all_goals (try (conv => whnf))
   all_goals try first | (show Nat.ble _ _ = true; rfl) | (exfalso; rename_i hz; cases hz; done) | (exfalso; (try simp only [LN] at *) <;> omega)
   all_goals first
    | ((first | (with_reducible apply Z.retF2)); (focus rfl); (repeat' (first | exact trivial | (with_reducible apply Z.frz_agg) | (with_reducible apply Z.fq_int) | (with_reducible apply Z.fq_bool) | (exact Z.frz_nil) | exact rfl | apply And.intro)); (all_goals (try exact (fun _ => none))); all_goals (first | (simp; done)))
    | fail
  ·skip
   repeat' ((conv => whnf); first
    | ((with_reducible apply spB_cong); (focus (simp only [splQ, Int.reduceBEq, Int.reduceBNe]; rfl)))
    | with_reducible first | refine spB_no (by decide) ?_
    | (with_reducible refine spB_dec ?_ ?_ <;> intro _ <;> (try (exfalso; (first | (simp only [LN] at *; omega)))))
    | with_reducible first | refine Z.rowN_known hx ?_
    | ((with_reducible apply ixN_litp); (focus rfl); (focus ((try simp only [LN] at *) <;> omega)))
    | with_reducible refine wr_i64 (by first | omega | (simp only [LN] at *; omega)) ?_
    | ((first | (with_reducible refine Z.callZ_mk ?_ (ck) ?_)); (focus ((repeat' (first | exact trivial | exact rfl | apply And.intro)); done)))
    | fail)
   all_goals (try (conv => whnf))
   all_goals try first | (show Nat.ble _ _ = true; rfl) | (exfalso; rename_i hz; cases hz; done) | (exfalso; (try simp only [LN] at *) <;> omega)
   all_goals first
    | ((refine Z.rndK ((i + 1)) (fun s => [0]) rfl rfl rfl rfl ?_ ?_ ?_ ?_); (focus (repeat' (first | exact trivial | exact rfl | apply And.intro))); (focus (repeat' (first | exact trivial | (intro b hb; cases hb; rfl) | apply And.intro))); (focus ((refine ⟨by (try dsimp only); omega, ?_⟩; (try dsimp only); rw [take_snoc hx]; intro z hz; rcases List.mem_append.1 hz with h | h; exact HG z h; rw [List.mem_singleton.1 h]; exact hs))); ((try dsimp only); omega))
    | fail
 have hil : i = l.length := by omega
 subst hil
 rw [List.take_length] at HG
 exact absurd (List.all_eq_true.2 HG) (by rw [h1]; decide)
theorem wh_first (l : List Sn) (hA : ∀ x ∈ l, x.rows.length ≤ 1000 ∧ x.txs.length ≤ 1000) (hl : l.length ≤ 1000) (h0 : 0 < l.length) (h1 : ∀ x ∈ l, snapR x = true) (hf : ∀ a : Sn, l[0]? = some a → ¬ (a.w = (l.length : Int) ∧ a.ix = 0)) : Con Try.prog 14 [.one (.ro false 14 ((l : List Sn).map eSn))] (fun rx rK rt => rx = .tup [.agg [.v (.int .i64 zeroS.op), .v (.int .i64 zeroS.ix), .v (.int .i64 zeroS.w), .v (.bool zeroS.en), .ro true 4 (zeroS.rows.map Tab.eK), .v (.int .i64 zeroS.o0), .v (.int .i64 zeroS.o1), .v (.int .i64 zeroS.o2), .v (.int .i64 zeroS.o3), .v (.int .i64 zeroS.o4), .v (.int .i64 zeroS.o5), .v (.int .i64 zeroS.o6), .v (.int .i64 zeroS.o7), .ro true 3 (zeroS.txs.map eN)], .one (.v (.int .i64 281))] ∧ rK = [] ∧ rt = 0) := by
 refine Z.con_ofF tabOk 103 Try.f14 _ Try.func14 (by kernel_rfl) rfl rfl rfl rfl ?_
 repeat' ((conv => whnf); first
  | with_reducible first | refine spB_t ?_
  | fail)
 all_goals (try (conv => whnf))
 all_goals try first | (show Nat.ble _ _ = true; rfl) | (exfalso; rename_i hz; cases hz; done) | (exfalso; (try simp only [LN] at *) <;> omega)
 refine Z.loopK tabOk (fun zq : Nat => [(14, .val (.int .i64 (zq : Int)))]) (fun zq : Nat => ([] : Z.Kr)) (fun zq => zq ≤ l.length ∧ (∀ x ∈ l.take zq, snapR x = true)) (fun zq => l.length - zq) 0 1 [(0, _), (2, _), (12, _), (13, _)] ⟨rfl, rfl, rfl, rfl, trivial⟩ [(0, some _)] ⟨rfl, trivial⟩ ?_ ?_ rfl rfl ⟨Nat.zero_le _, (fun x h => nomatch h)⟩ ?_
 ·repeat' (first | exact trivial | apply And.intro | exact ⟨_, rfl, Z.Imp.refl _⟩)
 ·repeat' (first | exact trivial)
 rintro i HINV
 (try dsimp only at HINV); (try dsimp only)
 obtain ⟨HI, HG⟩ := HINV
 by_cases hi : i < l.length
 ·obtain ⟨x, hx⟩ := getElem?_some' (xs := l) (i := i) hi
  have hxm := List.mem_of_getElem? hx
  have ck := scheck_con x (hA x hxm).1 (by have := (hA x hxm).2; omega)
  cases hs : snapR x
  all_goals rw [hs] at ck
  all_goals try simp only [cond_true, cond_false] at ck
  ·exact absurd (h1 x hxm) (by rw [hs]; decide)
  ·skip
   repeat' ((conv => whnf); first
    | ((with_reducible apply spB_cong); (focus (simp only [splQ, Int.reduceBEq, Int.reduceBNe]; rfl)))
    | with_reducible first | refine spB_no (by decide) ?_
    | (with_reducible refine spB_dec ?_ ?_ <;> intro _ <;> (try (exfalso; (first | (simp only [LN] at *; omega)))))
    | with_reducible first | refine Z.rowN_known hx ?_
    | ((with_reducible apply ixN_litp); (focus rfl); (focus ((try simp only [LN] at *) <;> omega)))
    | with_reducible refine wr_i64 (by first | omega | (simp only [LN] at *; omega)) ?_
    | ((first | (with_reducible refine Z.callZ_mk ?_ (ck) ?_)); (focus ((repeat' (first | exact trivial | exact rfl | apply And.intro)); done)))
    | fail)
   all_goals (try (conv => whnf))
   all_goals try first | (show Nat.ble _ _ = true; rfl) | (exfalso; rename_i hz; cases hz; done) | (exfalso; (try simp only [LN] at *) <;> omega)
   all_goals first
    | ((refine Z.rndK ((i + 1)) (fun s => [0]) rfl rfl rfl rfl ?_ ?_ ?_ ?_); (focus (repeat' (first | exact trivial | exact rfl | apply And.intro))); (focus (repeat' (first | exact trivial | (intro b hb; cases hb; rfl) | apply And.intro))); (focus ((refine ⟨by (try dsimp only); omega, ?_⟩; (try dsimp only); rw [take_snoc hx]; intro z hz; rcases List.mem_append.1 hz with h | h; exact HG z h; rw [List.mem_singleton.1 h]; exact hs))); ((try dsimp only); omega))
    | fail
 have hil : i = l.length := by omega
 subst hil
 rw [List.take_length] at HG
 obtain ⟨a, ha⟩ := getElem?_some' (xs := l) (i := 0) h0
 have hf : ¬ (a.w = (l.length : Int) ∧ a.ix = 0) := hf a ha
 by_cases hw : a.w = (l.length : Int)
 ·skip
  repeat' ((conv => whnf); first
   | ((with_reducible apply spB_cong); (focus (simp only [splQ, Int.reduceBEq, Int.reduceBNe]; rfl)))
   | with_reducible first | refine spB_no (by decide) ?_
   | (with_reducible refine spB_dec ?_ ?_ <;> intro _ <;> (try (exfalso; (first | omega | (rename_i hz; simp at hz; done)))))
   | (with_reducible refine spB_beq ?_ ?_ <;> intro _ <;> (try (exfalso; (first | (simp only [LN] at *; omega)))))
   | (with_reducible refine spB_bne ?_ ?_ <;> intro _ <;> (try (exfalso; (first | omega | (simp only [LN] at *; omega)))))
   | with_reducible first | refine Z.rowN_known ha ?_ | refine Z.loopZ_unroll tabOk 1 ?_
   | ((with_reducible apply ixN_litp); (focus rfl); (focus ((try simp only [LN] at *) <;> omega)))
   | fail)
  all_goals (try (conv => whnf))
  all_goals try first | (show Nat.ble _ _ = true; rfl) | (exfalso; rename_i hz; cases hz; done) | (exfalso; (try simp only [LN] at *) <;> omega)
  all_goals first
   | ((first | (with_reducible apply Z.retF2)); (focus rfl); (repeat' (first | exact trivial | (with_reducible apply Z.frz_one) | (with_reducible apply Z.frz_agg) | (with_reducible apply Z.fq_int) | (with_reducible apply Z.fq_bool) | (exact Z.frz_nil) | exact rfl | apply And.intro)); (all_goals (try exact (fun _ => none))); all_goals (first | (simp; done)))
   | fail
 ·skip
  repeat' ((conv => whnf); first
   | with_reducible first | refine spB_t ?_
   | ((with_reducible apply spB_cong); (focus (simp only [splQ, Int.reduceBEq, Int.reduceBNe]; rfl)))
   | with_reducible first | refine spB_no (by decide) ?_
   | (with_reducible refine spB_dec ?_ ?_ <;> intro _ <;> (try (exfalso; (first | omega | (rename_i hz; simp at hz; done)))))
   | (with_reducible refine spB_beq ?_ ?_ <;> intro _ <;> (try (exfalso; (first | (simp only [LN] at *; omega)))))
   | (with_reducible refine spB_bne ?_ ?_ <;> intro _ <;> (try (exfalso; (first | (simp only [LN] at *; omega)))))
   | with_reducible first | refine Z.rowN_known ha ?_ | refine Z.loopZ_unroll tabOk 1 ?_
   | ((with_reducible apply ixN_litp); (focus rfl); (focus ((try simp only [LN] at *) <;> omega)))
   | fail)
  all_goals (try (conv => whnf))
  all_goals try first | (show Nat.ble _ _ = true; rfl) | (exfalso; rename_i hz; cases hz; done) | (exfalso; (try simp only [LN] at *) <;> omega)
  all_goals first
   | ((first | (with_reducible apply Z.retF2)); (focus rfl); (repeat' (first | exact trivial | (with_reducible apply Z.frz_one) | (with_reducible apply Z.frz_agg) | (with_reducible apply Z.fq_int) | (with_reducible apply Z.fq_bool) | (exact Z.frz_nil) | exact rfl | apply And.intro)); (all_goals (try exact (fun _ => none))); all_goals (first | (simp; done)))
   | fail
end Go.Proofs.Ytopieffkpdlpbaa
namespace Go.Proofs.Ytopieffkpdlpbaa
open Go Go.RowKit Wx
set_option maxHeartbeats 4000000
abbrev ownWR (W : Sn) : AV → Kr → Nat → Prop := fun rx rK rt => ∃ (cap : Option Nat) (tl : List Tab.Kc), rx = .tup [.agg [.v (.int .i64 W.op), .v (.int .i64 0), .v (.int .i64 1), .v (.bool W.en), .osl 0 0 W.rows.length cap, .v (.int .i64 W.o0), .v (.int .i64 W.o1), .v (.int .i64 W.o2), .v (.int .i64 W.o3), .v (.int .i64 W.o4), .v (.int .i64 W.o5), .v (.int .i64 W.o6), .v (.int .i64 W.o7), .osl 1 0 W.txs.length (some W.txs.length)], .one (.v (.int .i64 0))] ∧ rK = [(0, some ⟨(W.rows ++ tl).map Tab.cK, 4, 70, false⟩), (1, some ⟨W.txs.map cN, 3, 90, false⟩)] ∧ rt = 2
abbrev ownWE (W : Sn) : AV → Kr → Nat → Prop := fun rx rK rt => rx = .tup [.agg [.v (.int .i64 W.op), .v (.int .i64 0), .v (.int .i64 1), .v (.bool W.en), .ro true 4 (([] : List Tab.Kc).map Tab.eK), .v (.int .i64 W.o0), .v (.int .i64 W.o1), .v (.int .i64 W.o2), .v (.int .i64 W.o3), .v (.int .i64 W.o4), .v (.int .i64 W.o5), .v (.int .i64 W.o6), .v (.int .i64 W.o7), .osl 0 0 W.txs.length (some W.txs.length)], .one (.v (.int .i64 0))] ∧ rK = [(0, some ⟨W.txs.map cN, 3, 90, false⟩)] ∧ rt = 1
theorem who_1e (a : Sn) (hra : a.rows.length ≤ 1000) (hta : a.txs.length ≤ 1000) (hsa : snapR a = true) (hwa : a.w = 1) (hia : a.ix = 0) (hn : namesR [a.txs].flatten = true) (hg : gath [a.rows] = [])  : Con Try.prog 14 [.one (.ro false 14 (([a] : List Sn).map eSn))] (ownWE (⟨a.op, 0, 1, a.en, gath [a.rows], a.o0, a.o1, a.o2, a.o3, a.o4, a.o5, a.o6, a.o7, [a.txs].flatten⟩ : Sn)) := by
 refine Z.con_ofZ tabOk 103 Try.f14 _ Try.func14 (by kernel_rfl) rfl rfl rfl rfl ?_
 obtain ⟨aop, aix, aw, aen, arows, ao0, ao1, ao2, ao3, ao4, ao5, ao6, ao7, atxs⟩ := a
 dsimp only at *
 subst hwa hia
 have cka := scheck_con (⟨aop, 0, 1, aen, arows, ao0, ao1, ao2, ao3, ao4, ao5, ao6, ao7, atxs⟩ : Sn) hra (by show atxs.length ≤ _; omega)
 rw [hsa] at cka
 try simp only [cond_true] at cka
 try dsimp only at cka
 have jj0 := jnd_0_1 ao0 ao1 ao2 ao3 ao4 ao5 ao6 ao7 0 0 0 0 0 0 0 0
 have cg := gathered_con [arows] (by simp) (by intro r hr; simp at hr; rcases hr with rfl <;> assumption)
 rw [hg] at cg
 have cjn := joined_own [atxs] (by simp) (by simp; omega)
 have cn := namesok_con [atxs].flatten (by simp; omega)
 rw [hn] at cn
 generalize hQ : [atxs].flatten = Q at *
 repeat' ((conv => whnf); first
  | with_reducible first | refine spB_t ?_
  | ((with_reducible apply spB_cong); (focus (simp only [splQ, Int.reduceBEq, Int.reduceBNe]; rfl)))
  | with_reducible first | refine spB_no (by decide) ?_
  | (with_reducible refine spB_dec ?_ ?_ <;> intro _ <;> (try (exfalso; (first | contradiction | (rename_i hz; simp at hz; done)))))
  | (with_reducible refine spB_beq ?_ ?_ <;> intro _ <;> (try (exfalso; (first | omega))))
  | (with_reducible refine spB_bne ?_ ?_ <;> intro _ <;> (try (exfalso; (first | omega))))
  | with_reducible first | refine Z.loopZ_unroll tabOk 2 ?_
  | ((with_reducible refine Z.callZ_con ?_ (cjn) ?_); (focus ((repeat' (first | exact trivial | exact ⟨_, _, _, rfl, (by first | rfl | exact Z.kb_some rfl), rfl⟩ | apply And.intro)); done)); (rintro _ _ _ ⟨rfl, rfl, rfl⟩))
  | ((with_reducible refine posE_pos ?_ ?_); (focus ((try simp only [LN] at *) <;> omega)))
  | ((with_reducible apply rowN_mk); (focus rfl))
  | ((with_reducible apply ixN_lit); (focus rfl); (focus rfl))
  | ((with_reducible refine apdN.mk ?_ ?_ ?_ ?_ ?_ ?_); (focus (first | rfl)); (focus (first | exact one_all (by rfl))); (focus ((try simp only [LN] at *) <;> omega)); (focus ((try simp only [LN] at *) <;> omega)); (focus ((try simp only [LN] at *) <;> omega)))
  | with_reducible refine wr_i64 (by first | omega | (simp only [LN] at *; omega)) ?_
  | ((first | (with_reducible refine Z.callZ_mk ?_ (cka) ?_) | (with_reducible refine Z.callZ_mk ?_ (jj0) ?_) | (with_reducible refine Z.callZ_mk ?_ (cg) ?_) | (with_reducible refine Z.callZ_mk ?_ (cn) ?_)); (focus ((repeat' (first | exact trivial | exact ⟨_, _, _, rfl, (by first | rfl | exact Z.kb_some rfl), rfl⟩ | exact rfl | exact low_oslr (fun _ => rfl) | apply And.intro)); done)))
  | with_reducible first | refine Z.drawZ_rule tabOk mixOk ?_ | refine Z.apZ_mk (by kernel_rfl) ?_
  | fail)
 all_goals (try (conv => whnf))
 all_goals try first | (show Nat.ble _ _ = true; rfl) | (exfalso; rename_i hz; cases hz; done) | (exfalso; (try simp only [LN] at *) <;> omega)
 all_goals first
  | (refine ret1b 8 (.tup [.agg [.v (.int .i64 aop), .v (.int .i64 0), .v (.int .i64 1), .v (.bool (aen)), .ro true 4 (([] : List Tab.Kc).map Tab.eK), .v (.int .i64 ao0), .v (.int .i64 ao1), .v (.int .i64 ao2), .v (.int .i64 ao3), .v (.int .i64 ao4), .v (.int .i64 ao5), .v (.int .i64 ao6), .v (.int .i64 ao7), .osl 0 0 Q.length (some Q.length)], .one (.v (.int .i64 0))]) (Q.map cN) 3 90 false _ rfl (by first | rfl | (cases aen <;> first | rfl | contradiction)) rfl ?_ (ren_map fun _ => rfl) rfl (own_map fun _ => rfl) ⟨rfl, rfl, rfl⟩; (focus (first | exact ren_cN)))
  | fail
theorem who_1r (a : Sn) (hra : a.rows.length ≤ 1000) (hta : a.txs.length ≤ 1000) (hsa : snapR a = true) (hwa : a.w = 1) (hia : a.ix = 0) (hn : namesR [a.txs].flatten = true) (hg : gath [a.rows] ≠ [])  : Con Try.prog 14 [.one (.ro false 14 (([a] : List Sn).map eSn))] (ownWR (⟨a.op, 0, 1, a.en, gath [a.rows], a.o0, a.o1, a.o2, a.o3, a.o4, a.o5, a.o6, a.o7, [a.txs].flatten⟩ : Sn)) := by
 refine Z.con_ofZ tabOk 103 Try.f14 _ Try.func14 (by kernel_rfl) rfl rfl rfl rfl ?_
 obtain ⟨aop, aix, aw, aen, arows, ao0, ao1, ao2, ao3, ao4, ao5, ao6, ao7, atxs⟩ := a
 dsimp only at *
 subst hwa hia
 have cka := scheck_con (⟨aop, 0, 1, aen, arows, ao0, ao1, ao2, ao3, ao4, ao5, ao6, ao7, atxs⟩ : Sn) hra (by show atxs.length ≤ _; omega)
 rw [hsa] at cka
 try simp only [cond_true] at cka
 try dsimp only at cka
 have jj0 := jnd_0_1 ao0 ao1 ao2 ao3 ao4 ao5 ao6 ao7 0 0 0 0 0 0 0 0
 have cgo := gown_1 arows hra hg
 have cjn := joined_own [atxs] (by simp) (by simp; omega)
 have cn := namesok_con [atxs].flatten (by simp; omega)
 rw [hn] at cn
 generalize hQ : [atxs].flatten = Q at *
 generalize hG : gath [arows] = GG at *
 repeat' ((conv => whnf); first
  | with_reducible first | refine spB_t ?_
  | ((with_reducible apply spB_cong); (focus (simp only [splQ, Int.reduceBEq, Int.reduceBNe]; rfl)))
  | with_reducible first | refine spB_no (by decide) ?_
  | (with_reducible refine spB_dec ?_ ?_ <;> intro _ <;> (try (exfalso; (first | contradiction | (rename_i hz; simp at hz; done)))))
  | (with_reducible refine spB_beq ?_ ?_ <;> intro _ <;> (try (exfalso; (first | omega))))
  | (with_reducible refine spB_bne ?_ ?_ <;> intro _ <;> (try (exfalso; (first | omega))))
  | with_reducible first | refine Z.loopZ_unroll tabOk 2 ?_
  | ((with_reducible refine Z.callZ_con ?_ (cjn) ?_); (focus ((repeat' (first | exact trivial | exact ⟨_, _, _, rfl, (by first | rfl | exact Z.kb_some rfl), rfl⟩ | apply And.intro)); done)); (rintro _ _ _ ⟨rfl, rfl, rfl⟩))
  | ((with_reducible refine Z.callZ_con ?_ (cgo) ?_); (focus ((repeat' (first | exact trivial | exact ⟨_, _, _, rfl, (by first | rfl | exact Z.kb_some rfl), rfl⟩ | apply And.intro)); done)); (rintro _ _ _ ⟨cap, tl, rfl, rfl, rfl⟩))
  | ((with_reducible refine posE_pos ?_ ?_); (focus ((try simp only [LN] at *) <;> omega)))
  | ((with_reducible apply rowN_mk); (focus rfl))
  | ((with_reducible apply ixN_lit); (focus rfl); (focus rfl))
  | ((with_reducible refine apdN.mk ?_ ?_ ?_ ?_ ?_ ?_); (focus (first | rfl)); (focus (first | exact one_all (by rfl))); (focus ((try simp only [LN] at *) <;> omega)); (focus ((try simp only [LN] at *) <;> omega)); (focus ((try simp only [LN] at *) <;> omega)))
  | with_reducible refine wr_i64 (by first | omega | (simp only [LN] at *; omega)) ?_
  | ((first | (with_reducible refine Z.callZ_mk ?_ (cka) ?_) | (with_reducible refine Z.callZ_mk ?_ (jj0) ?_) | (with_reducible refine Z.callZ_mk ?_ (cn) ?_)); (focus ((repeat' (first | exact trivial | exact rfl | exact low_oslr (fun _ => rfl) | apply And.intro)); done)))
  | with_reducible first | refine Z.drawZ_rule tabOk mixOk ?_ | refine Z.apZ_mk (by kernel_rfl) ?_
  | fail)
 all_goals (try (conv => whnf))
 all_goals try first | (show Nat.ble _ _ = true; rfl) | (exfalso; rename_i hz; cases hz; done) | (exfalso; (try simp only [LN] at *) <;> omega)
 all_goals first
  | (refine ret2b 8 9 (by decide) (.tup [.agg [.v (.int .i64 aop), .v (.int .i64 0), .v (.int .i64 1), .v (.bool (aen)), .osl 0 0 GG.length cap, .v (.int .i64 ao0), .v (.int .i64 ao1), .v (.int .i64 ao2), .v (.int .i64 ao3), .v (.int .i64 ao4), .v (.int .i64 ao5), .v (.int .i64 ao6), .v (.int .i64 ao7), .osl 1 0 Q.length (some Q.length)], .one (.v (.int .i64 0))]) ((GG ++ tl).map Tab.cK) (Q.map cN) 4 3 70 90 false false _ rfl (by first | rfl | (cases aen <;> first | rfl | contradiction)) rfl ?_ (ren_map fun _ => rfl) rfl ?_ (ren_map fun _ => rfl) rfl (own_map fun _ => rfl) (own_map fun _ => rfl) ⟨cap, tl, rfl, rfl, rfl⟩; (focus (first | exact Tab.ren_cK)); (focus (first | exact ren_cN)))
  | fail
end Go.Proofs.Ytopieffkpdlpbaa
namespace Go.Proofs.Ytopieffkpdlpbaa
open Go Go.RowKit Wx
set_option maxHeartbeats 4000000
theorem who_2e (a b : Sn) (hra : a.rows.length ≤ 1000) (hta : a.txs.length ≤ 1000) (hsa : snapR a = true) (hwa : a.w = 2) (hia : a.ix = 0) (hrb : b.rows.length ≤ 1000) (htb : b.txs.length ≤ 1000) (hsb : snapR b = true) (hwb : b.w = 2) (hib : b.ix = 1) (hob : a.op = b.op) (hn : namesR [a.txs, b.txs].flatten = true) (hg : gath [a.rows, b.rows] = [])  : Con Try.prog 14 [.one (.ro false 14 (([a, b] : List Sn).map eSn))] (ownWE (⟨a.op, 0, 1, a.en && b.en, gath [a.rows, b.rows], a.o0, a.o1, a.o2, a.o3, b.o4, b.o5, b.o6, b.o7, [a.txs, b.txs].flatten⟩ : Sn)) := by
 refine Z.con_ofZ tabOk 103 Try.f14 _ Try.func14 (by kernel_rfl) rfl rfl rfl rfl ?_
 obtain ⟨aop, aix, aw, aen, arows, ao0, ao1, ao2, ao3, ao4, ao5, ao6, ao7, atxs⟩ := a
 obtain ⟨bop, bix, bw, ben, brows, bo0, bo1, bo2, bo3, bo4, bo5, bo6, bo7, btxs⟩ := b
 dsimp only at *
 subst hwa hia
 subst hwb hib hob
 have cka := scheck_con (⟨aop, 0, 2, aen, arows, ao0, ao1, ao2, ao3, ao4, ao5, ao6, ao7, atxs⟩ : Sn) hra (by show atxs.length ≤ _; omega)
 have ckb := scheck_con (⟨aop, 1, 2, ben, brows, bo0, bo1, bo2, bo3, bo4, bo5, bo6, bo7, btxs⟩ : Sn) hrb (by show btxs.length ≤ _; omega)
 rw [hsa] at cka
 try simp only [cond_true] at cka
 try dsimp only at cka
 rw [hsb] at ckb
 try simp only [cond_true] at ckb
 try dsimp only at ckb
 have jj0 := jnd_0_2 ao0 ao1 ao2 ao3 ao4 ao5 ao6 ao7 0 0 0 0 0 0 0 0
 have jj1 := jnd_1_2 bo0 bo1 bo2 bo3 bo4 bo5 bo6 bo7 ao0 ao1 ao2 ao3 0 0 0 0
 have cg := gathered_con [arows, brows] (by simp) (by intro r hr; simp at hr; rcases hr with rfl | rfl <;> assumption)
 rw [hg] at cg
 have cjn := joined_own [atxs, btxs] (by simp) (by simp; omega)
 have cn := namesok_con [atxs, btxs].flatten (by simp; omega)
 rw [hn] at cn
 generalize hQ : [atxs, btxs].flatten = Q at *
 repeat' ((conv => whnf); first
  | with_reducible first | refine spB_t ?_
  | ((with_reducible apply spB_cong); (focus (simp only [splQ, Int.reduceBEq, Int.reduceBNe]; rfl)))
  | with_reducible first | refine spB_no (by decide) ?_
  | (with_reducible refine spB_dec ?_ ?_ <;> intro _ <;> (try (exfalso; (first | contradiction | (rename_i hz; simp at hz; done)))))
  | (with_reducible refine spB_beq ?_ ?_ <;> intro _ <;> (try (exfalso; (first | omega))))
  | (with_reducible refine spB_bne ?_ ?_ <;> intro _ <;> (try (exfalso; (first | contradiction | omega))))
  | (with_reducible refine spB_mk ?_ ?_ <;> intro _ <;> (try (exfalso; (first | (simp only [LN] at *; omega)))))
  | with_reducible first | refine Z.loopZ_unroll tabOk 3 ?_
  | ((with_reducible refine Z.callZ_con ?_ (cjn) ?_); (focus ((repeat' (first | exact trivial | exact ⟨_, _, _, rfl, (by first | rfl | exact Z.kb_some rfl), rfl⟩ | apply And.intro)); done)); (rintro _ _ _ ⟨rfl, rfl, rfl⟩))
  | ((with_reducible refine posE_pos ?_ ?_); (focus ((try simp only [LN] at *) <;> omega)))
  | ((with_reducible apply rowN_mk); (focus rfl))
  | ((with_reducible apply ixN_lit); (focus rfl); (focus rfl))
  | ((with_reducible refine eqN_mk2 ?_ ?_); (focus rfl))
  | ((with_reducible refine apdN.mk ?_ ?_ ?_ ?_ ?_ ?_); (focus (first | rfl)); (focus (first | exact one_all (by rfl))); (focus ((try simp only [LN] at *) <;> omega)); (focus ((try simp only [LN] at *) <;> omega)); (focus ((try simp only [LN] at *) <;> omega)))
  | with_reducible refine wr_i64 (by first | omega | (simp only [LN] at *; omega)) ?_
  | ((first | (with_reducible refine Z.callZ_mk ?_ (cg) ?_) | (with_reducible refine Z.callZ_mk ?_ (cn) ?_)); (focus ((repeat' (first | exact trivial | exact ⟨_, _, _, rfl, (by first | rfl | exact Z.kb_some rfl), rfl⟩ | exact low_oslr (fun _ => rfl) | apply And.intro)); done)))
  | ((first | (with_reducible refine Z.callZ_mk ?_ (cka) ?_)); (focus ((repeat' (first | exact trivial | exact rfl | apply And.intro)); done)))
  | ((first | (with_reducible refine Z.callZ_mk ?_ (ckb) ?_)); (focus ((repeat' (first | exact trivial | exact rfl | apply And.intro)); done)))
  | ((first | (with_reducible refine Z.callZ_mk ?_ (jj0) ?_)); (focus ((repeat' (first | exact trivial | exact rfl | apply And.intro)); done)))
  | ((first | (with_reducible refine Z.callZ_mk ?_ (jj1) ?_)); (focus ((repeat' (first | exact trivial | exact rfl | apply And.intro)); done)))
  | with_reducible first | refine Z.drawZ_rule tabOk mixOk ?_ | refine Z.apZ_mk (by kernel_rfl) ?_
  | fail)
 all_goals (try (conv => whnf))
 all_goals try first | (show Nat.ble _ _ = true; rfl) | (exfalso; rename_i hz; cases hz; done) | (exfalso; (try simp only [LN] at *) <;> omega)
 all_goals first
  | (refine ret1b 14 (.tup [.agg [.v (.int .i64 aop), .v (.int .i64 0), .v (.int .i64 1), .v (.bool (aen && ben)), .ro true 4 (([] : List Tab.Kc).map Tab.eK), .v (.int .i64 ao0), .v (.int .i64 ao1), .v (.int .i64 ao2), .v (.int .i64 ao3), .v (.int .i64 bo4), .v (.int .i64 bo5), .v (.int .i64 bo6), .v (.int .i64 bo7), .osl 0 0 Q.length (some Q.length)], .one (.v (.int .i64 0))]) (Q.map cN) 3 90 false _ rfl (by first | rfl | (cases aen <;> cases ben <;> first | rfl | contradiction)) rfl ?_ (ren_map fun _ => rfl) rfl (own_map fun _ => rfl) ⟨rfl, rfl, rfl⟩; (focus (first | exact ren_cN)))
  | fail
theorem who_2r (a b : Sn) (hra : a.rows.length ≤ 1000) (hta : a.txs.length ≤ 1000) (hsa : snapR a = true) (hwa : a.w = 2) (hia : a.ix = 0) (hrb : b.rows.length ≤ 1000) (htb : b.txs.length ≤ 1000) (hsb : snapR b = true) (hwb : b.w = 2) (hib : b.ix = 1) (hob : a.op = b.op) (hn : namesR [a.txs, b.txs].flatten = true) (hg : gath [a.rows, b.rows] ≠ [])  : Con Try.prog 14 [.one (.ro false 14 (([a, b] : List Sn).map eSn))] (ownWR (⟨a.op, 0, 1, a.en && b.en, gath [a.rows, b.rows], a.o0, a.o1, a.o2, a.o3, b.o4, b.o5, b.o6, b.o7, [a.txs, b.txs].flatten⟩ : Sn)) := by
 refine Z.con_ofZ tabOk 103 Try.f14 _ Try.func14 (by kernel_rfl) rfl rfl rfl rfl ?_
 obtain ⟨aop, aix, aw, aen, arows, ao0, ao1, ao2, ao3, ao4, ao5, ao6, ao7, atxs⟩ := a
 obtain ⟨bop, bix, bw, ben, brows, bo0, bo1, bo2, bo3, bo4, bo5, bo6, bo7, btxs⟩ := b
 dsimp only at *
 subst hwa hia
 subst hwb hib hob
 have cka := scheck_con (⟨aop, 0, 2, aen, arows, ao0, ao1, ao2, ao3, ao4, ao5, ao6, ao7, atxs⟩ : Sn) hra (by show atxs.length ≤ _; omega)
 have ckb := scheck_con (⟨aop, 1, 2, ben, brows, bo0, bo1, bo2, bo3, bo4, bo5, bo6, bo7, btxs⟩ : Sn) hrb (by show btxs.length ≤ _; omega)
 rw [hsa] at cka
 try simp only [cond_true] at cka
 try dsimp only at cka
 rw [hsb] at ckb
 try simp only [cond_true] at ckb
 try dsimp only at ckb
 have jj0 := jnd_0_2 ao0 ao1 ao2 ao3 ao4 ao5 ao6 ao7 0 0 0 0 0 0 0 0
 have jj1 := jnd_1_2 bo0 bo1 bo2 bo3 bo4 bo5 bo6 bo7 ao0 ao1 ao2 ao3 0 0 0 0
 have cgo := gown_2 arows brows hra hrb hg
 have cjn := joined_own [atxs, btxs] (by simp) (by simp; omega)
 have cn := namesok_con [atxs, btxs].flatten (by simp; omega)
 rw [hn] at cn
 generalize hQ : [atxs, btxs].flatten = Q at *
 generalize hG : gath [arows, brows] = GG at *
 repeat' ((conv => whnf); first
  | with_reducible first | refine spB_t ?_
  | ((with_reducible apply spB_cong); (focus (simp only [splQ, Int.reduceBEq, Int.reduceBNe]; rfl)))
  | with_reducible first | refine spB_no (by decide) ?_
  | (with_reducible refine spB_dec ?_ ?_ <;> intro _ <;> (try (exfalso; (first | contradiction | (rename_i hz; simp at hz; done)))))
  | (with_reducible refine spB_beq ?_ ?_ <;> intro _ <;> (try (exfalso; (first | omega))))
  | (with_reducible refine spB_bne ?_ ?_ <;> intro _ <;> (try (exfalso; (first | contradiction | omega))))
  | (with_reducible refine spB_mk ?_ ?_ <;> intro _ <;> (try (exfalso; (first | (simp only [LN] at *; omega)))))
  | with_reducible first | refine Z.loopZ_unroll tabOk 3 ?_
  | ((with_reducible refine Z.callZ_con ?_ (cjn) ?_); (focus ((repeat' (first | exact trivial | exact ⟨_, _, _, rfl, (by first | rfl | exact Z.kb_some rfl), rfl⟩ | apply And.intro)); done)); (rintro _ _ _ ⟨rfl, rfl, rfl⟩))
  | ((with_reducible refine Z.callZ_con ?_ (cgo) ?_); (focus ((repeat' (first | exact trivial | exact ⟨_, _, _, rfl, (by first | rfl | exact Z.kb_some rfl), rfl⟩ | apply And.intro)); done)); (rintro _ _ _ ⟨cap, tl, rfl, rfl, rfl⟩))
  | ((with_reducible refine posE_pos ?_ ?_); (focus ((try simp only [LN] at *) <;> omega)))
  | ((with_reducible apply rowN_mk); (focus rfl))
  | ((with_reducible apply ixN_lit); (focus rfl); (focus rfl))
  | ((with_reducible refine eqN_mk2 ?_ ?_); (focus rfl))
  | ((with_reducible refine apdN.mk ?_ ?_ ?_ ?_ ?_ ?_); (focus (first | rfl)); (focus (first | exact one_all (by rfl))); (focus ((try simp only [LN] at *) <;> omega)); (focus ((try simp only [LN] at *) <;> omega)); (focus ((try simp only [LN] at *) <;> omega)))
  | with_reducible refine wr_i64 (by first | omega | (simp only [LN] at *; omega)) ?_
  | ((first | (with_reducible refine Z.callZ_mk ?_ (cn) ?_)); (focus ((repeat' (first | exact trivial | exact low_oslr (fun _ => rfl) | apply And.intro)); done)))
  | ((first | (with_reducible refine Z.callZ_mk ?_ (cka) ?_)); (focus ((repeat' (first | exact trivial | exact rfl | apply And.intro)); done)))
  | ((first | (with_reducible refine Z.callZ_mk ?_ (ckb) ?_)); (focus ((repeat' (first | exact trivial | exact rfl | apply And.intro)); done)))
  | ((first | (with_reducible refine Z.callZ_mk ?_ (jj0) ?_)); (focus ((repeat' (first | exact trivial | exact rfl | apply And.intro)); done)))
  | ((first | (with_reducible refine Z.callZ_mk ?_ (jj1) ?_)); (focus ((repeat' (first | exact trivial | exact rfl | apply And.intro)); done)))
  | with_reducible first | refine Z.drawZ_rule tabOk mixOk ?_ | refine Z.apZ_mk (by kernel_rfl) ?_
  | fail)
 all_goals (try (conv => whnf))
 all_goals try first | (show Nat.ble _ _ = true; rfl) | (exfalso; rename_i hz; cases hz; done) | (exfalso; (try simp only [LN] at *) <;> omega)
 all_goals first
  | (refine ret2b 14 15 (by decide) (.tup [.agg [.v (.int .i64 aop), .v (.int .i64 0), .v (.int .i64 1), .v (.bool (aen && ben)), .osl 0 0 GG.length cap, .v (.int .i64 ao0), .v (.int .i64 ao1), .v (.int .i64 ao2), .v (.int .i64 ao3), .v (.int .i64 bo4), .v (.int .i64 bo5), .v (.int .i64 bo6), .v (.int .i64 bo7), .osl 1 0 Q.length (some Q.length)], .one (.v (.int .i64 0))]) ((GG ++ tl).map Tab.cK) (Q.map cN) 4 3 70 90 false false _ rfl (by first | rfl | (cases aen <;> cases ben <;> first | rfl | contradiction)) rfl ?_ (ren_map fun _ => rfl) rfl ?_ (ren_map fun _ => rfl) rfl (own_map fun _ => rfl) (own_map fun _ => rfl) ⟨cap, tl, rfl, rfl, rfl⟩; (focus (first | exact Tab.ren_cK)); (focus (first | exact ren_cN)))
  | fail
end Go.Proofs.Ytopieffkpdlpbaa
namespace Go.Proofs.Ytopieffkpdlpbaa
open Go Go.RowKit Wx
set_option maxHeartbeats 4000000
theorem who_3e (a b c : Sn) (hra : a.rows.length ≤ 1000) (hta : a.txs.length ≤ 1000) (hsa : snapR a = true) (hwa : a.w = 3) (hia : a.ix = 0) (hrb : b.rows.length ≤ 1000) (htb : b.txs.length ≤ 1000) (hsb : snapR b = true) (hwb : b.w = 3) (hib : b.ix = 1) (hob : a.op = b.op) (hrc : c.rows.length ≤ 1000) (htc : c.txs.length ≤ 1000) (hsc : snapR c = true) (hwc : c.w = 3) (hic : c.ix = 2) (hoc : a.op = c.op) (hn : namesR [a.txs, b.txs, c.txs].flatten = true) (hg : gath [a.rows, b.rows, c.rows] = [])  : Con Try.prog 14 [.one (.ro false 14 (([a, b, c] : List Sn).map eSn))] (ownWE (⟨a.op, 0, 1, a.en && b.en && c.en, gath [a.rows, b.rows, c.rows], a.o0, a.o1, a.o2, b.o3, b.o4, b.o5, c.o6, c.o7, [a.txs, b.txs, c.txs].flatten⟩ : Sn)) := by
 refine Z.con_ofZ tabOk 103 Try.f14 _ Try.func14 (by kernel_rfl) rfl rfl rfl rfl ?_
 obtain ⟨aop, aix, aw, aen, arows, ao0, ao1, ao2, ao3, ao4, ao5, ao6, ao7, atxs⟩ := a
 obtain ⟨bop, bix, bw, ben, brows, bo0, bo1, bo2, bo3, bo4, bo5, bo6, bo7, btxs⟩ := b
 obtain ⟨cop, cix, cw, cen, crows, co0, co1, co2, co3, co4, co5, co6, co7, ctxs⟩ := c
 dsimp only at *
 subst hwa hia
 subst hwb hib hob
 subst hwc hic hoc
 have cka := scheck_con (⟨aop, 0, 3, aen, arows, ao0, ao1, ao2, ao3, ao4, ao5, ao6, ao7, atxs⟩ : Sn) hra (by show atxs.length ≤ _; omega)
 have ckb := scheck_con (⟨aop, 1, 3, ben, brows, bo0, bo1, bo2, bo3, bo4, bo5, bo6, bo7, btxs⟩ : Sn) hrb (by show btxs.length ≤ _; omega)
 have ckc := scheck_con (⟨aop, 2, 3, cen, crows, co0, co1, co2, co3, co4, co5, co6, co7, ctxs⟩ : Sn) hrc (by show ctxs.length ≤ _; omega)
 rw [hsa] at cka
 try simp only [cond_true] at cka
 try dsimp only at cka
 rw [hsb] at ckb
 try simp only [cond_true] at ckb
 try dsimp only at ckb
 rw [hsc] at ckc
 try simp only [cond_true] at ckc
 try dsimp only at ckc
 have jj0 := jnd_0_3 ao0 ao1 ao2 ao3 ao4 ao5 ao6 ao7 0 0 0 0 0 0 0 0
 have jj1 := jnd_1_3 bo0 bo1 bo2 bo3 bo4 bo5 bo6 bo7 ao0 ao1 ao2 0 0 0 0 0
 have jj2 := jnd_2_3 co0 co1 co2 co3 co4 co5 co6 co7 ao0 ao1 ao2 bo3 bo4 bo5 0 0
 have cg := gathered_con [arows, brows, crows] (by simp) (by intro r hr; simp at hr; rcases hr with rfl | rfl | rfl <;> assumption)
 rw [hg] at cg
 have cjn := joined_own [atxs, btxs, ctxs] (by simp) (by simp; omega)
 have cn := namesok_con [atxs, btxs, ctxs].flatten (by simp; omega)
 rw [hn] at cn
 generalize hQ : [atxs, btxs, ctxs].flatten = Q at *
 repeat' ((conv => whnf); first
  | with_reducible first | refine spB_t ?_
  | ((with_reducible apply spB_cong); (focus (simp only [splQ, Int.reduceBEq, Int.reduceBNe]; rfl)))
  | with_reducible first | refine spB_no (by decide) ?_
  | (with_reducible refine spB_dec ?_ ?_ <;> intro _ <;> (try (exfalso; (first | contradiction | (rename_i hz; simp at hz; done)))))
  | (with_reducible refine spB_beq ?_ ?_ <;> intro _ <;> (try (exfalso; (first | omega))))
  | (with_reducible refine spB_bne ?_ ?_ <;> intro _ <;> (try (exfalso; (first | contradiction | omega))))
  | (with_reducible refine spB_mk ?_ ?_ <;> intro _ <;> (try (exfalso; (first | (simp only [LN] at *; omega)))))
  | with_reducible first | refine Z.loopZ_unroll tabOk 4 ?_
  | ((with_reducible refine Z.callZ_con ?_ (cjn) ?_); (focus ((repeat' (first | exact trivial | exact ⟨_, _, _, rfl, (by first | rfl | exact Z.kb_some rfl), rfl⟩ | apply And.intro)); done)); (rintro _ _ _ ⟨rfl, rfl, rfl⟩))
  | ((with_reducible refine posE_pos ?_ ?_); (focus ((try simp only [LN] at *) <;> omega)))
  | ((with_reducible apply rowN_mk); (focus rfl))
  | ((with_reducible apply ixN_lit); (focus rfl); (focus rfl))
  | ((with_reducible refine eqN_mk2 ?_ ?_); (focus rfl))
  | ((with_reducible refine apdN.mk ?_ ?_ ?_ ?_ ?_ ?_); (focus (first | rfl)); (focus (first | exact one_all (by rfl))); (focus ((try simp only [LN] at *) <;> omega)); (focus ((try simp only [LN] at *) <;> omega)); (focus ((try simp only [LN] at *) <;> omega)))
  | with_reducible refine wr_i64 (by first | omega | (simp only [LN] at *; omega)) ?_
  | ((first | (with_reducible refine Z.callZ_mk ?_ (cg) ?_) | (with_reducible refine Z.callZ_mk ?_ (cn) ?_)); (focus ((repeat' (first | exact trivial | exact ⟨_, _, _, rfl, (by first | rfl | exact Z.kb_some rfl), rfl⟩ | exact low_oslr (fun _ => rfl) | apply And.intro)); done)))
  | ((first | (with_reducible refine Z.callZ_mk ?_ (cka) ?_)); (focus ((repeat' (first | exact trivial | exact rfl | apply And.intro)); done)))
  | ((first | (with_reducible refine Z.callZ_mk ?_ (ckb) ?_)); (focus ((repeat' (first | exact trivial | exact rfl | apply And.intro)); done)))
  | ((first | (with_reducible refine Z.callZ_mk ?_ (ckc) ?_)); (focus ((repeat' (first | exact trivial | exact rfl | apply And.intro)); done)))
  | ((first | (with_reducible refine Z.callZ_mk ?_ (jj0) ?_)); (focus ((repeat' (first | exact trivial | exact rfl | apply And.intro)); done)))
  | ((first | (with_reducible refine Z.callZ_mk ?_ (jj1) ?_)); (focus ((repeat' (first | exact trivial | exact rfl | apply And.intro)); done)))
  | ((first | (with_reducible refine Z.callZ_mk ?_ (jj2) ?_)); (focus ((repeat' (first | exact trivial | exact rfl | apply And.intro)); done)))
  | with_reducible first | refine Z.drawZ_rule tabOk mixOk ?_ | refine Z.apZ_mk (by kernel_rfl) ?_
  | fail)
 all_goals (try (conv => whnf))
 all_goals try first | (show Nat.ble _ _ = true; rfl) | (exfalso; rename_i hz; cases hz; done) | (exfalso; (try simp only [LN] at *) <;> omega)
 all_goals first
  | (refine ret1b 20 (.tup [.agg [.v (.int .i64 aop), .v (.int .i64 0), .v (.int .i64 1), .v (.bool (aen && ben && cen)), .ro true 4 (([] : List Tab.Kc).map Tab.eK), .v (.int .i64 ao0), .v (.int .i64 ao1), .v (.int .i64 ao2), .v (.int .i64 bo3), .v (.int .i64 bo4), .v (.int .i64 bo5), .v (.int .i64 co6), .v (.int .i64 co7), .osl 0 0 Q.length (some Q.length)], .one (.v (.int .i64 0))]) (Q.map cN) 3 90 false _ rfl (by first | rfl | (cases aen <;> cases ben <;> cases cen <;> first | rfl | contradiction)) rfl ?_ (ren_map fun _ => rfl) rfl (own_map fun _ => rfl) ⟨rfl, rfl, rfl⟩; (focus (first | exact ren_cN)))
  | fail
end Go.Proofs.Ytopieffkpdlpbaa
namespace Go.Proofs.Ytopieffkpdlpbaa
open Go Go.RowKit Wx
set_option maxHeartbeats 4000000
theorem who_3r (a b c : Sn) (hra : a.rows.length ≤ 1000) (hta : a.txs.length ≤ 1000) (hsa : snapR a = true) (hwa : a.w = 3) (hia : a.ix = 0) (hrb : b.rows.length ≤ 1000) (htb : b.txs.length ≤ 1000) (hsb : snapR b = true) (hwb : b.w = 3) (hib : b.ix = 1) (hob : a.op = b.op) (hrc : c.rows.length ≤ 1000) (htc : c.txs.length ≤ 1000) (hsc : snapR c = true) (hwc : c.w = 3) (hic : c.ix = 2) (hoc : a.op = c.op) (hn : namesR [a.txs, b.txs, c.txs].flatten = true) (hg : gath [a.rows, b.rows, c.rows] ≠ [])  : Con Try.prog 14 [.one (.ro false 14 (([a, b, c] : List Sn).map eSn))] (ownWR (⟨a.op, 0, 1, a.en && b.en && c.en, gath [a.rows, b.rows, c.rows], a.o0, a.o1, a.o2, b.o3, b.o4, b.o5, c.o6, c.o7, [a.txs, b.txs, c.txs].flatten⟩ : Sn)) := by
 refine Z.con_ofZ tabOk 103 Try.f14 _ Try.func14 (by kernel_rfl) rfl rfl rfl rfl ?_
 obtain ⟨aop, aix, aw, aen, arows, ao0, ao1, ao2, ao3, ao4, ao5, ao6, ao7, atxs⟩ := a
 obtain ⟨bop, bix, bw, ben, brows, bo0, bo1, bo2, bo3, bo4, bo5, bo6, bo7, btxs⟩ := b
 obtain ⟨cop, cix, cw, cen, crows, co0, co1, co2, co3, co4, co5, co6, co7, ctxs⟩ := c
 dsimp only at *
 subst hwa hia
 subst hwb hib hob
 subst hwc hic hoc
 have cka := scheck_con (⟨aop, 0, 3, aen, arows, ao0, ao1, ao2, ao3, ao4, ao5, ao6, ao7, atxs⟩ : Sn) hra (by show atxs.length ≤ _; omega)
 have ckb := scheck_con (⟨aop, 1, 3, ben, brows, bo0, bo1, bo2, bo3, bo4, bo5, bo6, bo7, btxs⟩ : Sn) hrb (by show btxs.length ≤ _; omega)
 have ckc := scheck_con (⟨aop, 2, 3, cen, crows, co0, co1, co2, co3, co4, co5, co6, co7, ctxs⟩ : Sn) hrc (by show ctxs.length ≤ _; omega)
 rw [hsa] at cka
 try simp only [cond_true] at cka
 try dsimp only at cka
 rw [hsb] at ckb
 try simp only [cond_true] at ckb
 try dsimp only at ckb
 rw [hsc] at ckc
 try simp only [cond_true] at ckc
 try dsimp only at ckc
 have jj0 := jnd_0_3 ao0 ao1 ao2 ao3 ao4 ao5 ao6 ao7 0 0 0 0 0 0 0 0
 have jj1 := jnd_1_3 bo0 bo1 bo2 bo3 bo4 bo5 bo6 bo7 ao0 ao1 ao2 0 0 0 0 0
 have jj2 := jnd_2_3 co0 co1 co2 co3 co4 co5 co6 co7 ao0 ao1 ao2 bo3 bo4 bo5 0 0
 have cgo := gown_3 arows brows crows hra hrb hrc hg
 have cjn := joined_own [atxs, btxs, ctxs] (by simp) (by simp; omega)
 have cn := namesok_con [atxs, btxs, ctxs].flatten (by simp; omega)
 rw [hn] at cn
 generalize hQ : [atxs, btxs, ctxs].flatten = Q at *
 generalize hG : gath [arows, brows, crows] = GG at *
 repeat' ((conv => whnf); first
  | with_reducible first | refine spB_t ?_
  | ((with_reducible apply spB_cong); (focus (simp only [splQ, Int.reduceBEq, Int.reduceBNe]; rfl)))
  | with_reducible first | refine spB_no (by decide) ?_
  | (with_reducible refine spB_dec ?_ ?_ <;> intro _ <;> (try (exfalso; (first | contradiction | (rename_i hz; simp at hz; done)))))
  | (with_reducible refine spB_beq ?_ ?_ <;> intro _ <;> (try (exfalso; (first | omega))))
  | (with_reducible refine spB_bne ?_ ?_ <;> intro _ <;> (try (exfalso; (first | contradiction | omega))))
  | (with_reducible refine spB_mk ?_ ?_ <;> intro _ <;> (try (exfalso; (first | (simp only [LN] at *; omega)))))
  | with_reducible first | refine Z.loopZ_unroll tabOk 4 ?_
  | ((with_reducible refine Z.callZ_con ?_ (cjn) ?_); (focus ((repeat' (first | exact trivial | exact ⟨_, _, _, rfl, (by first | rfl | exact Z.kb_some rfl), rfl⟩ | apply And.intro)); done)); (rintro _ _ _ ⟨rfl, rfl, rfl⟩))
  | ((with_reducible refine Z.callZ_con ?_ (cgo) ?_); (focus ((repeat' (first | exact trivial | exact ⟨_, _, _, rfl, (by first | rfl | exact Z.kb_some rfl), rfl⟩ | apply And.intro)); done)); (rintro _ _ _ ⟨cap, tl, rfl, rfl, rfl⟩))
  | ((with_reducible refine posE_pos ?_ ?_); (focus ((try simp only [LN] at *) <;> omega)))
  | ((with_reducible apply rowN_mk); (focus rfl))
  | ((with_reducible apply ixN_lit); (focus rfl); (focus rfl))
  | ((with_reducible refine eqN_mk2 ?_ ?_); (focus rfl))
  | ((with_reducible refine apdN.mk ?_ ?_ ?_ ?_ ?_ ?_); (focus (first | rfl)); (focus (first | exact one_all (by rfl))); (focus ((try simp only [LN] at *) <;> omega)); (focus ((try simp only [LN] at *) <;> omega)); (focus ((try simp only [LN] at *) <;> omega)))
  | with_reducible refine wr_i64 (by first | omega | (simp only [LN] at *; omega)) ?_
  | ((first | (with_reducible refine Z.callZ_mk ?_ (cn) ?_)); (focus ((repeat' (first | exact trivial | exact low_oslr (fun _ => rfl) | apply And.intro)); done)))
  | ((first | (with_reducible refine Z.callZ_mk ?_ (cka) ?_)); (focus ((repeat' (first | exact trivial | exact rfl | apply And.intro)); done)))
  | ((first | (with_reducible refine Z.callZ_mk ?_ (ckb) ?_)); (focus ((repeat' (first | exact trivial | exact rfl | apply And.intro)); done)))
  | ((first | (with_reducible refine Z.callZ_mk ?_ (ckc) ?_)); (focus ((repeat' (first | exact trivial | exact rfl | apply And.intro)); done)))
  | ((first | (with_reducible refine Z.callZ_mk ?_ (jj0) ?_)); (focus ((repeat' (first | exact trivial | exact rfl | apply And.intro)); done)))
  | ((first | (with_reducible refine Z.callZ_mk ?_ (jj1) ?_)); (focus ((repeat' (first | exact trivial | exact rfl | apply And.intro)); done)))
  | ((first | (with_reducible refine Z.callZ_mk ?_ (jj2) ?_)); (focus ((repeat' (first | exact trivial | exact rfl | apply And.intro)); done)))
  | with_reducible first | refine Z.drawZ_rule tabOk mixOk ?_ | refine Z.apZ_mk (by kernel_rfl) ?_
  | fail)
 all_goals (try (conv => whnf))
 all_goals try first | (show Nat.ble _ _ = true; rfl) | (exfalso; rename_i hz; cases hz; done) | (exfalso; (try simp only [LN] at *) <;> omega)
 all_goals first
  | (refine ret2b 20 21 (by decide) (.tup [.agg [.v (.int .i64 aop), .v (.int .i64 0), .v (.int .i64 1), .v (.bool (aen && ben && cen)), .osl 0 0 GG.length cap, .v (.int .i64 ao0), .v (.int .i64 ao1), .v (.int .i64 ao2), .v (.int .i64 bo3), .v (.int .i64 bo4), .v (.int .i64 bo5), .v (.int .i64 co6), .v (.int .i64 co7), .osl 1 0 Q.length (some Q.length)], .one (.v (.int .i64 0))]) ((GG ++ tl).map Tab.cK) (Q.map cN) 4 3 70 90 false false _ rfl (by first | rfl | (cases aen <;> cases ben <;> cases cen <;> first | rfl | contradiction)) rfl ?_ (ren_map fun _ => rfl) rfl ?_ (ren_map fun _ => rfl) rfl (own_map fun _ => rfl) (own_map fun _ => rfl) ⟨cap, tl, rfl, rfl, rfl⟩; (focus (first | exact Tab.ren_cK)); (focus (first | exact ren_cN)))
  | fail
end Go.Proofs.Ytopieffkpdlpbaa
namespace Go.Proofs.Ytopieffkpdlpbaa
open Go Go.RowKit Wx
set_option maxHeartbeats 4000000
theorem wh_1 (a : Sn) (hra : a.rows.length ≤ 1000) (hta : a.txs.length ≤ 1000) (hsa : snapR a = true) (hwa : a.w = 1) (hia : a.ix = 0) (hn : namesR [a.txs].flatten = true)  : Con Try.prog 14 [.one (.ro false 14 (([a] : List Sn).map eSn))] (fun rx rK rt => rx = .tup [.agg [.v (.int .i64 a.op), .v (.int .i64 0), .v (.int .i64 1), .v (.bool (a.en)), .ro true 4 ((gath [a.rows]).map Tab.eK), .v (.int .i64 a.o0), .v (.int .i64 a.o1), .v (.int .i64 a.o2), .v (.int .i64 a.o3), .v (.int .i64 a.o4), .v (.int .i64 a.o5), .v (.int .i64 a.o6), .v (.int .i64 a.o7), .ro true 3 ([a.txs].flatten.map eN)], .one (.v (.int .i64 0))] ∧ rK = [] ∧ rt = 0) := by
 refine Z.con_ofF tabOk 103 Try.f14 _ Try.func14 (by kernel_rfl) rfl rfl rfl rfl ?_
 obtain ⟨aop, aix, aw, aen, arows, ao0, ao1, ao2, ao3, ao4, ao5, ao6, ao7, atxs⟩ := a
 dsimp only at *
 subst hwa hia
 have cka := scheck_con (⟨aop, 0, 1, aen, arows, ao0, ao1, ao2, ao3, ao4, ao5, ao6, ao7, atxs⟩ : Sn) hra (by show atxs.length ≤ _; omega)
 rw [hsa] at cka
 try simp only [cond_true] at cka
 try dsimp only at cka
 have jj0 := jnd_0_1 ao0 ao1 ao2 ao3 ao4 ao5 ao6 ao7 0 0 0 0 0 0 0 0
 have cg := gathered_con [arows] (by simp) (by intro r hr; simp at hr; rcases hr with rfl <;> assumption)
 have cj := joinedn_con [atxs] (by simp) (by simp; omega)
 have cn := namesok_con [atxs].flatten (by simp; omega)
 rw [hn] at cn
 generalize hQ : [atxs].flatten = Q at *
 generalize hG : gath [arows] = GG at *
 repeat' ((conv => whnf); first
  | with_reducible first | refine spB_t ?_
  | ((with_reducible apply spB_cong); (focus (simp only [splQ, Int.reduceBEq, Int.reduceBNe]; rfl)))
  | with_reducible first | refine spB_no (by decide) ?_
  | (with_reducible refine spB_dec ?_ ?_ <;> intro _ <;> (try (exfalso; (first | contradiction | (rename_i hz; simp at hz; done)))))
  | (with_reducible refine spB_beq ?_ ?_ <;> intro _ <;> (try (exfalso; (first | omega))))
  | (with_reducible refine spB_bne ?_ ?_ <;> intro _ <;> (try (exfalso; (first | omega))))
  | with_reducible first | refine Z.loopZ_unroll tabOk 2 ?_
  | ((with_reducible refine posE_pos ?_ ?_); (focus ((try simp only [LN] at *) <;> omega)))
  | ((with_reducible apply rowN_mk); (focus rfl))
  | ((with_reducible apply ixN_lit); (focus rfl); (focus rfl))
  | ((with_reducible refine apdN.mk ?_ ?_ ?_ ?_ ?_ ?_); (focus (first | rfl)); (focus (first | exact one_all (by rfl))); (focus ((try simp only [LN] at *) <;> omega)); (focus ((try simp only [LN] at *) <;> omega)); (focus ((try simp only [LN] at *) <;> omega)))
  | with_reducible refine wr_i64 (by first | omega | (simp only [LN] at *; omega)) ?_
  | ((first | (with_reducible refine Z.callZ_mk ?_ (cka) ?_) | (with_reducible refine Z.callZ_mk ?_ (jj0) ?_) | (with_reducible refine Z.callZ_mk ?_ (cg) ?_) | (with_reducible refine Z.callZ_mk ?_ (cj) ?_) | (with_reducible refine Z.callZ_mk ?_ (cn) ?_)); (focus ((repeat' (first | exact trivial | exact ⟨_, _, _, rfl, (by first | rfl | exact Z.kb_some rfl), rfl⟩ | exact rfl | apply And.intro)); done)))
  | with_reducible first | refine Z.drawZ_rule tabOk mixOk ?_ | refine Z.apZ_mk (by kernel_rfl) ?_
  | fail)
 all_goals (try (conv => whnf))
 all_goals try first | (show Nat.ble _ _ = true; rfl) | (exfalso; rename_i hz; cases hz; done) | (exfalso; (try simp only [LN] at *) <;> omega)
 all_goals first
  | ((first | (with_reducible apply Z.retF2)); (focus rfl); (repeat' (first | exact trivial | (with_reducible apply Z.frz_one) | (with_reducible apply Z.frz_agg) | (with_reducible apply Z.fq_int) | exact rfl | apply And.intro)); (all_goals (try exact (fun _ => none))); all_goals (first | (simp_all; done)))
  | fail
theorem wh_1_names (a : Sn) (hra : a.rows.length ≤ 1000) (hta : a.txs.length ≤ 1000) (hsa : snapR a = true) (hwa : a.w = 1) (hia : a.ix = 0) (hn : namesR [a.txs].flatten = false)  : Con Try.prog 14 [.one (.ro false 14 (([a] : List Sn).map eSn))] (fun rx rK rt => rx = .tup [.agg [.v (.int .i64 zeroS.op), .v (.int .i64 zeroS.ix), .v (.int .i64 zeroS.w), .v (.bool zeroS.en), .ro true 4 (zeroS.rows.map Tab.eK), .v (.int .i64 zeroS.o0), .v (.int .i64 zeroS.o1), .v (.int .i64 zeroS.o2), .v (.int .i64 zeroS.o3), .v (.int .i64 zeroS.o4), .v (.int .i64 zeroS.o5), .v (.int .i64 zeroS.o6), .v (.int .i64 zeroS.o7), .ro true 3 (zeroS.txs.map eN)], .one (.v (.int .i64 281))] ∧ rK = [] ∧ rt = 0) := by
 refine Z.con_ofF tabOk 103 Try.f14 _ Try.func14 (by kernel_rfl) rfl rfl rfl rfl ?_
 obtain ⟨aop, aix, aw, aen, arows, ao0, ao1, ao2, ao3, ao4, ao5, ao6, ao7, atxs⟩ := a
 dsimp only at *
 subst hwa hia
 have cka := scheck_con (⟨aop, 0, 1, aen, arows, ao0, ao1, ao2, ao3, ao4, ao5, ao6, ao7, atxs⟩ : Sn) hra (by show atxs.length ≤ _; omega)
 rw [hsa] at cka
 try simp only [cond_true] at cka
 try dsimp only at cka
 have jj0 := jnd_0_1 ao0 ao1 ao2 ao3 ao4 ao5 ao6 ao7 0 0 0 0 0 0 0 0
 have cg := gathered_con [arows] (by simp) (by intro r hr; simp at hr; rcases hr with rfl <;> assumption)
 have cj := joinedn_con [atxs] (by simp) (by simp; omega)
 have cn := namesok_con [atxs].flatten (by simp; omega)
 rw [hn] at cn
 generalize hQ : [atxs].flatten = Q at *
 generalize hG : gath [arows] = GG at *
 repeat' ((conv => whnf); first
  | with_reducible first | refine spB_t ?_
  | ((with_reducible apply spB_cong); (focus (simp only [splQ, Int.reduceBEq, Int.reduceBNe]; rfl)))
  | with_reducible first | refine spB_no (by decide) ?_
  | (with_reducible refine spB_dec ?_ ?_ <;> intro _ <;> (try (exfalso; (first | contradiction | (rename_i hz; simp at hz; done)))))
  | (with_reducible refine spB_beq ?_ ?_ <;> intro _ <;> (try (exfalso; (first | omega))))
  | (with_reducible refine spB_bne ?_ ?_ <;> intro _ <;> (try (exfalso; (first | omega))))
  | with_reducible first | refine Z.loopZ_unroll tabOk 2 ?_
  | ((with_reducible refine posE_pos ?_ ?_); (focus ((try simp only [LN] at *) <;> omega)))
  | ((with_reducible apply rowN_mk); (focus rfl))
  | ((with_reducible apply ixN_lit); (focus rfl); (focus rfl))
  | ((with_reducible refine apdN.mk ?_ ?_ ?_ ?_ ?_ ?_); (focus (first | rfl)); (focus (first | exact one_all (by rfl))); (focus ((try simp only [LN] at *) <;> omega)); (focus ((try simp only [LN] at *) <;> omega)); (focus ((try simp only [LN] at *) <;> omega)))
  | with_reducible refine wr_i64 (by first | omega | (simp only [LN] at *; omega)) ?_
  | ((first | (with_reducible refine Z.callZ_mk ?_ (cka) ?_) | (with_reducible refine Z.callZ_mk ?_ (jj0) ?_) | (with_reducible refine Z.callZ_mk ?_ (cg) ?_) | (with_reducible refine Z.callZ_mk ?_ (cj) ?_) | (with_reducible refine Z.callZ_mk ?_ (cn) ?_)); (focus ((repeat' (first | exact trivial | exact ⟨_, _, _, rfl, (by first | rfl | exact Z.kb_some rfl), rfl⟩ | exact rfl | apply And.intro)); done)))
  | with_reducible first | refine Z.drawZ_rule tabOk mixOk ?_ | refine Z.apZ_mk (by kernel_rfl) ?_
  | fail)
 all_goals (try (conv => whnf))
 all_goals try first | (show Nat.ble _ _ = true; rfl) | (exfalso; rename_i hz; cases hz; done) | (exfalso; (try simp only [LN] at *) <;> omega)
 all_goals first
  | ((first | (with_reducible apply Z.retF2)); (focus rfl); (repeat' (first | exact trivial | (with_reducible apply Z.frz_one) | (with_reducible apply Z.frz_agg) | (with_reducible apply Z.fq_int) | (with_reducible apply Z.fq_bool) | (exact Z.frz_nil) | exact rfl | apply And.intro)); (all_goals (try exact (fun _ => none))); all_goals (first | (simp_all; done)))
  | fail
end Go.Proofs.Ytopieffkpdlpbaa
namespace Go.Proofs.Ytopieffkpdlpbaa
open Go Go.RowKit Wx
set_option maxHeartbeats 4000000
theorem wh_2 (a b : Sn) (hra : a.rows.length ≤ 1000) (hta : a.txs.length ≤ 1000) (hsa : snapR a = true) (hwa : a.w = 2) (hia : a.ix = 0) (hrb : b.rows.length ≤ 1000) (htb : b.txs.length ≤ 1000) (hsb : snapR b = true) (hwb : b.w = 2) (hib : b.ix = 1) (hob : a.op = b.op) (hn : namesR [a.txs, b.txs].flatten = true)  : Con Try.prog 14 [.one (.ro false 14 (([a, b] : List Sn).map eSn))] (fun rx rK rt => rx = .tup [.agg [.v (.int .i64 a.op), .v (.int .i64 0), .v (.int .i64 1), .v (.bool (a.en && b.en)), .ro true 4 ((gath [a.rows, b.rows]).map Tab.eK), .v (.int .i64 a.o0), .v (.int .i64 a.o1), .v (.int .i64 a.o2), .v (.int .i64 a.o3), .v (.int .i64 b.o4), .v (.int .i64 b.o5), .v (.int .i64 b.o6), .v (.int .i64 b.o7), .ro true 3 ([a.txs, b.txs].flatten.map eN)], .one (.v (.int .i64 0))] ∧ rK = [] ∧ rt = 0) := by
 refine Z.con_ofF tabOk 103 Try.f14 _ Try.func14 (by kernel_rfl) rfl rfl rfl rfl ?_
 obtain ⟨aop, aix, aw, aen, arows, ao0, ao1, ao2, ao3, ao4, ao5, ao6, ao7, atxs⟩ := a
 obtain ⟨bop, bix, bw, ben, brows, bo0, bo1, bo2, bo3, bo4, bo5, bo6, bo7, btxs⟩ := b
 dsimp only at *
 subst hwa hia
 subst hwb hib hob
 have cka := scheck_con (⟨aop, 0, 2, aen, arows, ao0, ao1, ao2, ao3, ao4, ao5, ao6, ao7, atxs⟩ : Sn) hra (by show atxs.length ≤ _; omega)
 have ckb := scheck_con (⟨aop, 1, 2, ben, brows, bo0, bo1, bo2, bo3, bo4, bo5, bo6, bo7, btxs⟩ : Sn) hrb (by show btxs.length ≤ _; omega)
 rw [hsa] at cka
 try simp only [cond_true] at cka
 try dsimp only at cka
 rw [hsb] at ckb
 try simp only [cond_true] at ckb
 try dsimp only at ckb
 have jj0 := jnd_0_2 ao0 ao1 ao2 ao3 ao4 ao5 ao6 ao7 0 0 0 0 0 0 0 0
 have jj1 := jnd_1_2 bo0 bo1 bo2 bo3 bo4 bo5 bo6 bo7 ao0 ao1 ao2 ao3 0 0 0 0
 have cg := gathered_con [arows, brows] (by simp) (by intro r hr; simp at hr; rcases hr with rfl | rfl <;> assumption)
 have cj := joinedn_con [atxs, btxs] (by simp) (by simp; omega)
 have cn := namesok_con [atxs, btxs].flatten (by simp; omega)
 rw [hn] at cn
 generalize hQ : [atxs, btxs].flatten = Q at *
 generalize hG : gath [arows, brows] = GG at *
 repeat' ((conv => whnf); first
  | with_reducible first | refine spB_t ?_
  | ((with_reducible apply spB_cong); (focus (simp only [splQ, Int.reduceBEq, Int.reduceBNe]; rfl)))
  | with_reducible first | refine spB_no (by decide) ?_
  | (with_reducible refine spB_dec ?_ ?_ <;> intro _ <;> (try (exfalso; (first | contradiction | (rename_i hz; simp at hz; done)))))
  | (with_reducible refine spB_beq ?_ ?_ <;> intro _ <;> (try (exfalso; (first | omega))))
  | (with_reducible refine spB_bne ?_ ?_ <;> intro _ <;> (try (exfalso; (first | contradiction | omega))))
  | (with_reducible refine spB_mk ?_ ?_ <;> intro _ <;> (try (exfalso; (first | (simp only [LN] at *; omega)))))
  | with_reducible first | refine Z.loopZ_unroll tabOk 3 ?_
  | ((with_reducible refine posE_pos ?_ ?_); (focus ((try simp only [LN] at *) <;> omega)))
  | ((with_reducible apply rowN_mk); (focus rfl))
  | ((with_reducible apply ixN_lit); (focus rfl); (focus rfl))
  | ((with_reducible refine eqN_mk2 ?_ ?_); (focus rfl))
  | ((with_reducible refine apdN.mk ?_ ?_ ?_ ?_ ?_ ?_); (focus (first | rfl)); (focus (first | exact one_all (by rfl))); (focus ((try simp only [LN] at *) <;> omega)); (focus ((try simp only [LN] at *) <;> omega)); (focus ((try simp only [LN] at *) <;> omega)))
  | with_reducible refine wr_i64 (by first | omega | (simp only [LN] at *; omega)) ?_
  | ((first | (with_reducible refine Z.callZ_mk ?_ (cg) ?_) | (with_reducible refine Z.callZ_mk ?_ (cj) ?_) | (with_reducible refine Z.callZ_mk ?_ (cn) ?_)); (focus ((repeat' (first | exact trivial | exact ⟨_, _, _, rfl, (by first | rfl | exact Z.kb_some rfl), rfl⟩ | exact rfl | apply And.intro)); done)))
  | ((first | (with_reducible refine Z.callZ_mk ?_ (cka) ?_)); (focus ((repeat' (first | exact trivial | exact rfl | apply And.intro)); done)))
  | ((first | (with_reducible refine Z.callZ_mk ?_ (ckb) ?_)); (focus ((repeat' (first | exact trivial | exact rfl | apply And.intro)); done)))
  | ((first | (with_reducible refine Z.callZ_mk ?_ (jj0) ?_)); (focus ((repeat' (first | exact trivial | exact rfl | apply And.intro)); done)))
  | ((first | (with_reducible refine Z.callZ_mk ?_ (jj1) ?_)); (focus ((repeat' (first | exact trivial | exact rfl | apply And.intro)); done)))
  | with_reducible first | refine Z.drawZ_rule tabOk mixOk ?_ | refine Z.apZ_mk (by kernel_rfl) ?_
  | fail)
 all_goals (try (conv => whnf))
 all_goals try first | (show Nat.ble _ _ = true; rfl) | (exfalso; rename_i hz; cases hz; done) | (exfalso; (try simp only [LN] at *) <;> omega)
 all_goals first
  | ((first | (with_reducible apply Z.retF2)); (focus rfl); (repeat' (first | exact trivial | (with_reducible apply Z.frz_one) | (with_reducible apply Z.frz_agg) | (with_reducible apply Z.fq_int) | (with_reducible apply Z.fq_bool) | exact rfl | (apply Z.fq_bool) | apply And.intro)); (all_goals (try exact (fun _ => none))); all_goals (first | (cases aen <;> cases ben <;> first | rfl | contradiction)))
  | fail
theorem wh_2_names (a b : Sn) (hra : a.rows.length ≤ 1000) (hta : a.txs.length ≤ 1000) (hsa : snapR a = true) (hwa : a.w = 2) (hia : a.ix = 0) (hrb : b.rows.length ≤ 1000) (htb : b.txs.length ≤ 1000) (hsb : snapR b = true) (hwb : b.w = 2) (hib : b.ix = 1) (hob : a.op = b.op) (hn : namesR [a.txs, b.txs].flatten = false)  : Con Try.prog 14 [.one (.ro false 14 (([a, b] : List Sn).map eSn))] (fun rx rK rt => rx = .tup [.agg [.v (.int .i64 zeroS.op), .v (.int .i64 zeroS.ix), .v (.int .i64 zeroS.w), .v (.bool zeroS.en), .ro true 4 (zeroS.rows.map Tab.eK), .v (.int .i64 zeroS.o0), .v (.int .i64 zeroS.o1), .v (.int .i64 zeroS.o2), .v (.int .i64 zeroS.o3), .v (.int .i64 zeroS.o4), .v (.int .i64 zeroS.o5), .v (.int .i64 zeroS.o6), .v (.int .i64 zeroS.o7), .ro true 3 (zeroS.txs.map eN)], .one (.v (.int .i64 281))] ∧ rK = [] ∧ rt = 0) := by
 refine Z.con_ofF tabOk 103 Try.f14 _ Try.func14 (by kernel_rfl) rfl rfl rfl rfl ?_
 obtain ⟨aop, aix, aw, aen, arows, ao0, ao1, ao2, ao3, ao4, ao5, ao6, ao7, atxs⟩ := a
 obtain ⟨bop, bix, bw, ben, brows, bo0, bo1, bo2, bo3, bo4, bo5, bo6, bo7, btxs⟩ := b
 dsimp only at *
 subst hwa hia
 subst hwb hib hob
 have cka := scheck_con (⟨aop, 0, 2, aen, arows, ao0, ao1, ao2, ao3, ao4, ao5, ao6, ao7, atxs⟩ : Sn) hra (by show atxs.length ≤ _; omega)
 have ckb := scheck_con (⟨aop, 1, 2, ben, brows, bo0, bo1, bo2, bo3, bo4, bo5, bo6, bo7, btxs⟩ : Sn) hrb (by show btxs.length ≤ _; omega)
 rw [hsa] at cka
 try simp only [cond_true] at cka
 try dsimp only at cka
 rw [hsb] at ckb
 try simp only [cond_true] at ckb
 try dsimp only at ckb
 have jj0 := jnd_0_2 ao0 ao1 ao2 ao3 ao4 ao5 ao6 ao7 0 0 0 0 0 0 0 0
 have jj1 := jnd_1_2 bo0 bo1 bo2 bo3 bo4 bo5 bo6 bo7 ao0 ao1 ao2 ao3 0 0 0 0
 have cg := gathered_con [arows, brows] (by simp) (by intro r hr; simp at hr; rcases hr with rfl | rfl <;> assumption)
 have cj := joinedn_con [atxs, btxs] (by simp) (by simp; omega)
 have cn := namesok_con [atxs, btxs].flatten (by simp; omega)
 rw [hn] at cn
 generalize hQ : [atxs, btxs].flatten = Q at *
 generalize hG : gath [arows, brows] = GG at *
 repeat' ((conv => whnf); first
  | with_reducible first | refine spB_t ?_
  | ((with_reducible apply spB_cong); (focus (simp only [splQ, Int.reduceBEq, Int.reduceBNe]; rfl)))
  | with_reducible first | refine spB_no (by decide) ?_
  | (with_reducible refine spB_dec ?_ ?_ <;> intro _ <;> (try (exfalso; (first | contradiction | (rename_i hz; simp at hz; done)))))
  | (with_reducible refine spB_beq ?_ ?_ <;> intro _ <;> (try (exfalso; (first | omega))))
  | (with_reducible refine spB_bne ?_ ?_ <;> intro _ <;> (try (exfalso; (first | contradiction | omega))))
  | (with_reducible refine spB_mk ?_ ?_ <;> intro _ <;> (try (exfalso; (first | (simp only [LN] at *; omega)))))
  | with_reducible first | refine Z.loopZ_unroll tabOk 3 ?_
  | ((with_reducible refine posE_pos ?_ ?_); (focus ((try simp only [LN] at *) <;> omega)))
  | ((with_reducible apply rowN_mk); (focus rfl))
  | ((with_reducible apply ixN_lit); (focus rfl); (focus rfl))
  | ((with_reducible refine eqN_mk2 ?_ ?_); (focus rfl))
  | ((with_reducible refine apdN.mk ?_ ?_ ?_ ?_ ?_ ?_); (focus (first | rfl)); (focus (first | exact one_all (by rfl))); (focus ((try simp only [LN] at *) <;> omega)); (focus ((try simp only [LN] at *) <;> omega)); (focus ((try simp only [LN] at *) <;> omega)))
  | with_reducible refine wr_i64 (by first | omega | (simp only [LN] at *; omega)) ?_
  | ((first | (with_reducible refine Z.callZ_mk ?_ (cg) ?_) | (with_reducible refine Z.callZ_mk ?_ (cj) ?_) | (with_reducible refine Z.callZ_mk ?_ (cn) ?_)); (focus ((repeat' (first | exact trivial | exact ⟨_, _, _, rfl, (by first | rfl | exact Z.kb_some rfl), rfl⟩ | exact rfl | apply And.intro)); done)))
  | ((first | (with_reducible refine Z.callZ_mk ?_ (cka) ?_)); (focus ((repeat' (first | exact trivial | exact rfl | apply And.intro)); done)))
  | ((first | (with_reducible refine Z.callZ_mk ?_ (ckb) ?_)); (focus ((repeat' (first | exact trivial | exact rfl | apply And.intro)); done)))
  | ((first | (with_reducible refine Z.callZ_mk ?_ (jj0) ?_)); (focus ((repeat' (first | exact trivial | exact rfl | apply And.intro)); done)))
  | ((first | (with_reducible refine Z.callZ_mk ?_ (jj1) ?_)); (focus ((repeat' (first | exact trivial | exact rfl | apply And.intro)); done)))
  | with_reducible first | refine Z.drawZ_rule tabOk mixOk ?_ | refine Z.apZ_mk (by kernel_rfl) ?_
  | fail)
 all_goals (try (conv => whnf))
 all_goals try first | (show Nat.ble _ _ = true; rfl) | (exfalso; rename_i hz; cases hz; done) | (exfalso; (try simp only [LN] at *) <;> omega)
 all_goals first
  | ((first | (with_reducible apply Z.retF2)); (focus rfl); (repeat' (first | exact trivial | (with_reducible apply Z.frz_one) | (with_reducible apply Z.frz_agg) | (with_reducible apply Z.fq_int) | (with_reducible apply Z.fq_bool) | (exact Z.frz_nil) | exact rfl | apply And.intro)); (all_goals (try exact (fun _ => none))); all_goals (first | (fail)))
  | fail
theorem wh_2_1 (a b : Sn) (hra : a.rows.length ≤ 1000) (hta : a.txs.length ≤ 1000) (hsa : snapR a = true) (hwa : a.w = 2) (hia : a.ix = 0) (hrb : b.rows.length ≤ 1000) (htb : b.txs.length ≤ 1000) (hsb : snapR b = true) (hf : ¬ (b.op = a.op ∧ b.w = 2 ∧ b.ix = 1))  : Con Try.prog 14 [.one (.ro false 14 (([a, b] : List Sn).map eSn))] (fun rx rK rt => rx = .tup [.agg [.v (.int .i64 zeroS.op), .v (.int .i64 zeroS.ix), .v (.int .i64 zeroS.w), .v (.bool zeroS.en), .ro true 4 (zeroS.rows.map Tab.eK), .v (.int .i64 zeroS.o0), .v (.int .i64 zeroS.o1), .v (.int .i64 zeroS.o2), .v (.int .i64 zeroS.o3), .v (.int .i64 zeroS.o4), .v (.int .i64 zeroS.o5), .v (.int .i64 zeroS.o6), .v (.int .i64 zeroS.o7), .ro true 3 (zeroS.txs.map eN)], .one (.v (.int .i64 281))] ∧ rK = [] ∧ rt = 0) := by
 refine Z.con_ofF tabOk 103 Try.f14 _ Try.func14 (by kernel_rfl) rfl rfl rfl rfl ?_
 obtain ⟨aop, aix, aw, aen, arows, ao0, ao1, ao2, ao3, ao4, ao5, ao6, ao7, atxs⟩ := a
 obtain ⟨bop, bix, bw, ben, brows, bo0, bo1, bo2, bo3, bo4, bo5, bo6, bo7, btxs⟩ := b
 dsimp only at *
 subst hwa hia
 have cka := scheck_con (⟨aop, 0, 2, aen, arows, ao0, ao1, ao2, ao3, ao4, ao5, ao6, ao7, atxs⟩ : Sn) hra (by show atxs.length ≤ _; omega)
 have ckb := scheck_con (⟨bop, bix, bw, ben, brows, bo0, bo1, bo2, bo3, bo4, bo5, bo6, bo7, btxs⟩ : Sn) hrb (by show btxs.length ≤ _; omega)
 rw [hsa] at cka
 try simp only [cond_true] at cka
 try dsimp only at cka
 rw [hsb] at ckb
 try simp only [cond_true] at ckb
 try dsimp only at ckb
 have jj0 := jnd_0_2 ao0 ao1 ao2 ao3 ao4 ao5 ao6 ao7 0 0 0 0 0 0 0 0
 repeat' ((conv => whnf); first
  | with_reducible first | refine spB_t ?_
  | ((with_reducible apply spB_cong); (focus (simp only [splQ, Int.reduceBEq, Int.reduceBNe]; rfl)))
  | with_reducible first | refine spB_no (by decide) ?_
  | (with_reducible refine spB_dec ?_ ?_ <;> intro _ <;> (try (exfalso; (first | contradiction | (rename_i hz; simp at hz; done)))))
  | (with_reducible refine spB_beq ?_ ?_ <;> intro _ <;> (try (exfalso; (first | omega))))
  | (with_reducible refine spB_bne ?_ ?_ <;> intro _ <;> (try (exfalso; (first | omega))))
  | with_reducible first | refine Z.loopZ_unroll tabOk 3 ?_
  | ((with_reducible refine posE_pos ?_ ?_); (focus ((try simp only [LN] at *) <;> omega)))
  | ((with_reducible apply rowN_mk); (focus rfl))
  | ((with_reducible apply ixN_lit); (focus rfl); (focus rfl))
  | ((with_reducible refine apdN.mk ?_ ?_ ?_ ?_ ?_ ?_); (focus (first | rfl)); (focus (first | exact one_all (by rfl))); (focus ((try simp only [LN] at *) <;> omega)); (focus ((try simp only [LN] at *) <;> omega)); (focus ((try simp only [LN] at *) <;> omega)))
  | with_reducible refine wr_i64 (by first | omega | (simp only [LN] at *; omega)) ?_
  | ((first | (with_reducible refine Z.callZ_mk ?_ (jj0) ?_)); (focus ((repeat' (first | exact trivial | exact rfl | apply And.intro)); done)))
  | ((first | (with_reducible refine Z.callZ_mk ?_ (cka) ?_)); (focus ((repeat' (first | exact trivial | exact rfl | apply And.intro)); done)))
  | ((first | (with_reducible refine Z.callZ_mk ?_ (ckb) ?_)); (focus ((repeat' (first | exact trivial | exact rfl | apply And.intro)); done)))
  | with_reducible first | refine Z.drawZ_rule tabOk mixOk ?_ | refine Z.apZ_mk (by kernel_rfl) ?_
  | fail)
 all_goals (try (conv => whnf))
 all_goals try first | (show Nat.ble _ _ = true; rfl) | (exfalso; rename_i hz; cases hz; done) | (exfalso; (try simp only [LN] at *) <;> omega)
 all_goals first
  | ((first | (with_reducible apply Z.retF2)); (focus rfl); (repeat' (first | exact trivial | (with_reducible apply Z.frz_one) | (with_reducible apply Z.frz_agg) | (with_reducible apply Z.fq_int) | (with_reducible apply Z.fq_bool) | (exact Z.frz_nil) | exact rfl | apply And.intro)); (all_goals (try exact (fun _ => none))); all_goals (first | (fail)))
  | fail
end Go.Proofs.Ytopieffkpdlpbaa
namespace Go.Proofs.Ytopieffkpdlpbaa
open Go Go.RowKit Wx
set_option maxHeartbeats 4000000
theorem wh_3 (a b c : Sn) (hra : a.rows.length ≤ 1000) (hta : a.txs.length ≤ 1000) (hsa : snapR a = true) (hwa : a.w = 3) (hia : a.ix = 0) (hrb : b.rows.length ≤ 1000) (htb : b.txs.length ≤ 1000) (hsb : snapR b = true) (hwb : b.w = 3) (hib : b.ix = 1) (hob : a.op = b.op) (hrc : c.rows.length ≤ 1000) (htc : c.txs.length ≤ 1000) (hsc : snapR c = true) (hwc : c.w = 3) (hic : c.ix = 2) (hoc : a.op = c.op) (hn : namesR [a.txs, b.txs, c.txs].flatten = true)  : Con Try.prog 14 [.one (.ro false 14 (([a, b, c] : List Sn).map eSn))] (fun rx rK rt => rx = .tup [.agg [.v (.int .i64 a.op), .v (.int .i64 0), .v (.int .i64 1), .v (.bool (a.en && b.en && c.en)), .ro true 4 ((gath [a.rows, b.rows, c.rows]).map Tab.eK), .v (.int .i64 a.o0), .v (.int .i64 a.o1), .v (.int .i64 a.o2), .v (.int .i64 b.o3), .v (.int .i64 b.o4), .v (.int .i64 b.o5), .v (.int .i64 c.o6), .v (.int .i64 c.o7), .ro true 3 ([a.txs, b.txs, c.txs].flatten.map eN)], .one (.v (.int .i64 0))] ∧ rK = [] ∧ rt = 0) := by
 refine Z.con_ofF tabOk 103 Try.f14 _ Try.func14 (by kernel_rfl) rfl rfl rfl rfl ?_
 obtain ⟨aop, aix, aw, aen, arows, ao0, ao1, ao2, ao3, ao4, ao5, ao6, ao7, atxs⟩ := a
 obtain ⟨bop, bix, bw, ben, brows, bo0, bo1, bo2, bo3, bo4, bo5, bo6, bo7, btxs⟩ := b
 obtain ⟨cop, cix, cw, cen, crows, co0, co1, co2, co3, co4, co5, co6, co7, ctxs⟩ := c
 dsimp only at *
 subst hwa hia
 subst hwb hib hob
 subst hwc hic hoc
 have cka := scheck_con (⟨aop, 0, 3, aen, arows, ao0, ao1, ao2, ao3, ao4, ao5, ao6, ao7, atxs⟩ : Sn) hra (by show atxs.length ≤ _; omega)
 have ckb := scheck_con (⟨aop, 1, 3, ben, brows, bo0, bo1, bo2, bo3, bo4, bo5, bo6, bo7, btxs⟩ : Sn) hrb (by show btxs.length ≤ _; omega)
 have ckc := scheck_con (⟨aop, 2, 3, cen, crows, co0, co1, co2, co3, co4, co5, co6, co7, ctxs⟩ : Sn) hrc (by show ctxs.length ≤ _; omega)
 rw [hsa] at cka
 try simp only [cond_true] at cka
 try dsimp only at cka
 rw [hsb] at ckb
 try simp only [cond_true] at ckb
 try dsimp only at ckb
 rw [hsc] at ckc
 try simp only [cond_true] at ckc
 try dsimp only at ckc
 have jj0 := jnd_0_3 ao0 ao1 ao2 ao3 ao4 ao5 ao6 ao7 0 0 0 0 0 0 0 0
 have jj1 := jnd_1_3 bo0 bo1 bo2 bo3 bo4 bo5 bo6 bo7 ao0 ao1 ao2 0 0 0 0 0
 have jj2 := jnd_2_3 co0 co1 co2 co3 co4 co5 co6 co7 ao0 ao1 ao2 bo3 bo4 bo5 0 0
 have cg := gathered_con [arows, brows, crows] (by simp) (by intro r hr; simp at hr; rcases hr with rfl | rfl | rfl <;> assumption)
 have cj := joinedn_con [atxs, btxs, ctxs] (by simp) (by simp; omega)
 have cn := namesok_con [atxs, btxs, ctxs].flatten (by simp; omega)
 rw [hn] at cn
 generalize hQ : [atxs, btxs, ctxs].flatten = Q at *
 generalize hG : gath [arows, brows, crows] = GG at *
 repeat' ((conv => whnf); first
  | with_reducible first | refine spB_t ?_
  | ((with_reducible apply spB_cong); (focus (simp only [splQ, Int.reduceBEq, Int.reduceBNe]; rfl)))
  | with_reducible first | refine spB_no (by decide) ?_
  | (with_reducible refine spB_dec ?_ ?_ <;> intro _ <;> (try (exfalso; (first | contradiction | (rename_i hz; simp at hz; done)))))
  | (with_reducible refine spB_beq ?_ ?_ <;> intro _ <;> (try (exfalso; (first | omega))))
  | (with_reducible refine spB_bne ?_ ?_ <;> intro _ <;> (try (exfalso; (first | contradiction | omega))))
  | (with_reducible refine spB_mk ?_ ?_ <;> intro _ <;> (try (exfalso; (first | (simp only [LN] at *; omega)))))
  | with_reducible first | refine Z.loopZ_unroll tabOk 4 ?_
  | ((with_reducible refine posE_pos ?_ ?_); (focus ((try simp only [LN] at *) <;> omega)))
  | ((with_reducible apply rowN_mk); (focus rfl))
  | ((with_reducible apply ixN_lit); (focus rfl); (focus rfl))
  | ((with_reducible refine eqN_mk2 ?_ ?_); (focus rfl))
  | ((with_reducible refine apdN.mk ?_ ?_ ?_ ?_ ?_ ?_); (focus (first | rfl)); (focus (first | exact one_all (by rfl))); (focus ((try simp only [LN] at *) <;> omega)); (focus ((try simp only [LN] at *) <;> omega)); (focus ((try simp only [LN] at *) <;> omega)))
  | with_reducible refine wr_i64 (by first | omega | (simp only [LN] at *; omega)) ?_
  | ((first | (with_reducible refine Z.callZ_mk ?_ (cg) ?_) | (with_reducible refine Z.callZ_mk ?_ (cj) ?_) | (with_reducible refine Z.callZ_mk ?_ (cn) ?_)); (focus ((repeat' (first | exact trivial | exact ⟨_, _, _, rfl, (by first | rfl | exact Z.kb_some rfl), rfl⟩ | exact rfl | apply And.intro)); done)))
  | ((first | (with_reducible refine Z.callZ_mk ?_ (cka) ?_)); (focus ((repeat' (first | exact trivial | exact rfl | apply And.intro)); done)))
  | ((first | (with_reducible refine Z.callZ_mk ?_ (ckb) ?_)); (focus ((repeat' (first | exact trivial | exact rfl | apply And.intro)); done)))
  | ((first | (with_reducible refine Z.callZ_mk ?_ (ckc) ?_)); (focus ((repeat' (first | exact trivial | exact rfl | apply And.intro)); done)))
  | ((first | (with_reducible refine Z.callZ_mk ?_ (jj0) ?_)); (focus ((repeat' (first | exact trivial | exact rfl | apply And.intro)); done)))
  | ((first | (with_reducible refine Z.callZ_mk ?_ (jj1) ?_)); (focus ((repeat' (first | exact trivial | exact rfl | apply And.intro)); done)))
  | ((first | (with_reducible refine Z.callZ_mk ?_ (jj2) ?_)); (focus ((repeat' (first | exact trivial | exact rfl | apply And.intro)); done)))
  | with_reducible first | refine Z.drawZ_rule tabOk mixOk ?_ | refine Z.apZ_mk (by kernel_rfl) ?_
  | fail)
 all_goals (try (conv => whnf))
 all_goals try first | (show Nat.ble _ _ = true; rfl) | (exfalso; rename_i hz; cases hz; done) | (exfalso; (try simp only [LN] at *) <;> omega)
 all_goals first
  | ((first | (with_reducible apply Z.retF2)); (focus rfl); (repeat' (first | exact trivial | (with_reducible apply Z.frz_one) | (with_reducible apply Z.frz_agg) | (with_reducible apply Z.fq_int) | (with_reducible apply Z.fq_bool) | exact rfl | (apply Z.fq_bool) | apply And.intro)); (all_goals (try exact (fun _ => none))); all_goals (first | (cases aen <;> cases ben <;> cases cen <;> first | rfl | contradiction)))
  | fail
theorem wh_3_names (a b c : Sn) (hra : a.rows.length ≤ 1000) (hta : a.txs.length ≤ 1000) (hsa : snapR a = true) (hwa : a.w = 3) (hia : a.ix = 0) (hrb : b.rows.length ≤ 1000) (htb : b.txs.length ≤ 1000) (hsb : snapR b = true) (hwb : b.w = 3) (hib : b.ix = 1) (hob : a.op = b.op) (hrc : c.rows.length ≤ 1000) (htc : c.txs.length ≤ 1000) (hsc : snapR c = true) (hwc : c.w = 3) (hic : c.ix = 2) (hoc : a.op = c.op) (hn : namesR [a.txs, b.txs, c.txs].flatten = false)  : Con Try.prog 14 [.one (.ro false 14 (([a, b, c] : List Sn).map eSn))] (fun rx rK rt => rx = .tup [.agg [.v (.int .i64 zeroS.op), .v (.int .i64 zeroS.ix), .v (.int .i64 zeroS.w), .v (.bool zeroS.en), .ro true 4 (zeroS.rows.map Tab.eK), .v (.int .i64 zeroS.o0), .v (.int .i64 zeroS.o1), .v (.int .i64 zeroS.o2), .v (.int .i64 zeroS.o3), .v (.int .i64 zeroS.o4), .v (.int .i64 zeroS.o5), .v (.int .i64 zeroS.o6), .v (.int .i64 zeroS.o7), .ro true 3 (zeroS.txs.map eN)], .one (.v (.int .i64 281))] ∧ rK = [] ∧ rt = 0) := by
 refine Z.con_ofF tabOk 103 Try.f14 _ Try.func14 (by kernel_rfl) rfl rfl rfl rfl ?_
 obtain ⟨aop, aix, aw, aen, arows, ao0, ao1, ao2, ao3, ao4, ao5, ao6, ao7, atxs⟩ := a
 obtain ⟨bop, bix, bw, ben, brows, bo0, bo1, bo2, bo3, bo4, bo5, bo6, bo7, btxs⟩ := b
 obtain ⟨cop, cix, cw, cen, crows, co0, co1, co2, co3, co4, co5, co6, co7, ctxs⟩ := c
 dsimp only at *
 subst hwa hia
 subst hwb hib hob
 subst hwc hic hoc
 have cka := scheck_con (⟨aop, 0, 3, aen, arows, ao0, ao1, ao2, ao3, ao4, ao5, ao6, ao7, atxs⟩ : Sn) hra (by show atxs.length ≤ _; omega)
 have ckb := scheck_con (⟨aop, 1, 3, ben, brows, bo0, bo1, bo2, bo3, bo4, bo5, bo6, bo7, btxs⟩ : Sn) hrb (by show btxs.length ≤ _; omega)
 have ckc := scheck_con (⟨aop, 2, 3, cen, crows, co0, co1, co2, co3, co4, co5, co6, co7, ctxs⟩ : Sn) hrc (by show ctxs.length ≤ _; omega)
 rw [hsa] at cka
 try simp only [cond_true] at cka
 try dsimp only at cka
 rw [hsb] at ckb
 try simp only [cond_true] at ckb
 try dsimp only at ckb
 rw [hsc] at ckc
 try simp only [cond_true] at ckc
 try dsimp only at ckc
 have jj0 := jnd_0_3 ao0 ao1 ao2 ao3 ao4 ao5 ao6 ao7 0 0 0 0 0 0 0 0
 have jj1 := jnd_1_3 bo0 bo1 bo2 bo3 bo4 bo5 bo6 bo7 ao0 ao1 ao2 0 0 0 0 0
 have jj2 := jnd_2_3 co0 co1 co2 co3 co4 co5 co6 co7 ao0 ao1 ao2 bo3 bo4 bo5 0 0
 have cg := gathered_con [arows, brows, crows] (by simp) (by intro r hr; simp at hr; rcases hr with rfl | rfl | rfl <;> assumption)
 have cj := joinedn_con [atxs, btxs, ctxs] (by simp) (by simp; omega)
 have cn := namesok_con [atxs, btxs, ctxs].flatten (by simp; omega)
 rw [hn] at cn
 generalize hQ : [atxs, btxs, ctxs].flatten = Q at *
 generalize hG : gath [arows, brows, crows] = GG at *
 repeat' ((conv => whnf); first
  | with_reducible first | refine spB_t ?_
  | ((with_reducible apply spB_cong); (focus (simp only [splQ, Int.reduceBEq, Int.reduceBNe]; rfl)))
  | with_reducible first | refine spB_no (by decide) ?_
  | (with_reducible refine spB_dec ?_ ?_ <;> intro _ <;> (try (exfalso; (first | contradiction | (rename_i hz; simp at hz; done)))))
  | (with_reducible refine spB_beq ?_ ?_ <;> intro _ <;> (try (exfalso; (first | omega))))
  | (with_reducible refine spB_bne ?_ ?_ <;> intro _ <;> (try (exfalso; (first | contradiction | omega))))
  | (with_reducible refine spB_mk ?_ ?_ <;> intro _ <;> (try (exfalso; (first | (simp only [LN] at *; omega)))))
  | with_reducible first | refine Z.loopZ_unroll tabOk 4 ?_
  | ((with_reducible refine posE_pos ?_ ?_); (focus ((try simp only [LN] at *) <;> omega)))
  | ((with_reducible apply rowN_mk); (focus rfl))
  | ((with_reducible apply ixN_lit); (focus rfl); (focus rfl))
  | ((with_reducible refine eqN_mk2 ?_ ?_); (focus rfl))
  | ((with_reducible refine apdN.mk ?_ ?_ ?_ ?_ ?_ ?_); (focus (first | rfl)); (focus (first | exact one_all (by rfl))); (focus ((try simp only [LN] at *) <;> omega)); (focus ((try simp only [LN] at *) <;> omega)); (focus ((try simp only [LN] at *) <;> omega)))
  | with_reducible refine wr_i64 (by first | omega | (simp only [LN] at *; omega)) ?_
  | ((first | (with_reducible refine Z.callZ_mk ?_ (cg) ?_) | (with_reducible refine Z.callZ_mk ?_ (cj) ?_) | (with_reducible refine Z.callZ_mk ?_ (cn) ?_)); (focus ((repeat' (first | exact trivial | exact ⟨_, _, _, rfl, (by first | rfl | exact Z.kb_some rfl), rfl⟩ | exact rfl | apply And.intro)); done)))
  | ((first | (with_reducible refine Z.callZ_mk ?_ (cka) ?_)); (focus ((repeat' (first | exact trivial | exact rfl | apply And.intro)); done)))
  | ((first | (with_reducible refine Z.callZ_mk ?_ (ckb) ?_)); (focus ((repeat' (first | exact trivial | exact rfl | apply And.intro)); done)))
  | ((first | (with_reducible refine Z.callZ_mk ?_ (ckc) ?_)); (focus ((repeat' (first | exact trivial | exact rfl | apply And.intro)); done)))
  | ((first | (with_reducible refine Z.callZ_mk ?_ (jj0) ?_)); (focus ((repeat' (first | exact trivial | exact rfl | apply And.intro)); done)))
  | ((first | (with_reducible refine Z.callZ_mk ?_ (jj1) ?_)); (focus ((repeat' (first | exact trivial | exact rfl | apply And.intro)); done)))
  | ((first | (with_reducible refine Z.callZ_mk ?_ (jj2) ?_)); (focus ((repeat' (first | exact trivial | exact rfl | apply And.intro)); done)))
  | with_reducible first | refine Z.drawZ_rule tabOk mixOk ?_ | refine Z.apZ_mk (by kernel_rfl) ?_
  | fail)
 all_goals (try (conv => whnf))
 all_goals try first | (show Nat.ble _ _ = true; rfl) | (exfalso; rename_i hz; cases hz; done) | (exfalso; (try simp only [LN] at *) <;> omega)
 all_goals first
  | ((first | (with_reducible apply Z.retF2)); (focus rfl); (repeat' (first | exact trivial | (with_reducible apply Z.frz_one) | (with_reducible apply Z.frz_agg) | (with_reducible apply Z.fq_int) | (with_reducible apply Z.fq_bool) | (exact Z.frz_nil) | exact rfl | apply And.intro)); (all_goals (try exact (fun _ => none))); all_goals (first | (fail)))
  | fail
end Go.Proofs.Ytopieffkpdlpbaa
namespace Go.Proofs.Ytopieffkpdlpbaa
open Go Go.RowKit Wx
set_option maxHeartbeats 4000000
theorem wh_3_1 (a b c : Sn) (hra : a.rows.length ≤ 1000) (hta : a.txs.length ≤ 1000) (hsa : snapR a = true) (hwa : a.w = 3) (hia : a.ix = 0) (hrb : b.rows.length ≤ 1000) (htb : b.txs.length ≤ 1000) (hsb : snapR b = true) (hf : ¬ (b.op = a.op ∧ b.w = 3 ∧ b.ix = 1)) (hrc : c.rows.length ≤ 1000) (htc : c.txs.length ≤ 1000) (hsc : snapR c = true)  : Con Try.prog 14 [.one (.ro false 14 (([a, b, c] : List Sn).map eSn))] (fun rx rK rt => rx = .tup [.agg [.v (.int .i64 zeroS.op), .v (.int .i64 zeroS.ix), .v (.int .i64 zeroS.w), .v (.bool zeroS.en), .ro true 4 (zeroS.rows.map Tab.eK), .v (.int .i64 zeroS.o0), .v (.int .i64 zeroS.o1), .v (.int .i64 zeroS.o2), .v (.int .i64 zeroS.o3), .v (.int .i64 zeroS.o4), .v (.int .i64 zeroS.o5), .v (.int .i64 zeroS.o6), .v (.int .i64 zeroS.o7), .ro true 3 (zeroS.txs.map eN)], .one (.v (.int .i64 281))] ∧ rK = [] ∧ rt = 0) := by
 refine Z.con_ofF tabOk 103 Try.f14 _ Try.func14 (by kernel_rfl) rfl rfl rfl rfl ?_
 obtain ⟨aop, aix, aw, aen, arows, ao0, ao1, ao2, ao3, ao4, ao5, ao6, ao7, atxs⟩ := a
 obtain ⟨bop, bix, bw, ben, brows, bo0, bo1, bo2, bo3, bo4, bo5, bo6, bo7, btxs⟩ := b
 obtain ⟨cop, cix, cw, cen, crows, co0, co1, co2, co3, co4, co5, co6, co7, ctxs⟩ := c
 dsimp only at *
 subst hwa hia
 have cka := scheck_con (⟨aop, 0, 3, aen, arows, ao0, ao1, ao2, ao3, ao4, ao5, ao6, ao7, atxs⟩ : Sn) hra (by show atxs.length ≤ _; omega)
 have ckb := scheck_con (⟨bop, bix, bw, ben, brows, bo0, bo1, bo2, bo3, bo4, bo5, bo6, bo7, btxs⟩ : Sn) hrb (by show btxs.length ≤ _; omega)
 have ckc := scheck_con (⟨cop, cix, cw, cen, crows, co0, co1, co2, co3, co4, co5, co6, co7, ctxs⟩ : Sn) hrc (by show ctxs.length ≤ _; omega)
 rw [hsa] at cka
 try simp only [cond_true] at cka
 try dsimp only at cka
 rw [hsb] at ckb
 try simp only [cond_true] at ckb
 try dsimp only at ckb
 rw [hsc] at ckc
 try simp only [cond_true] at ckc
 try dsimp only at ckc
 have jj0 := jnd_0_3 ao0 ao1 ao2 ao3 ao4 ao5 ao6 ao7 0 0 0 0 0 0 0 0
 repeat' ((conv => whnf); first
  | with_reducible first | refine spB_t ?_
  | ((with_reducible apply spB_cong); (focus (simp only [splQ, Int.reduceBEq, Int.reduceBNe]; rfl)))
  | with_reducible first | refine spB_no (by decide) ?_
  | (with_reducible refine spB_dec ?_ ?_ <;> intro _ <;> (try (exfalso; (first | contradiction | (rename_i hz; simp at hz; done)))))
  | (with_reducible refine spB_beq ?_ ?_ <;> intro _ <;> (try (exfalso; (first | omega))))
  | (with_reducible refine spB_bne ?_ ?_ <;> intro _ <;> (try (exfalso; (first | omega))))
  | with_reducible first | refine Z.loopZ_unroll tabOk 4 ?_
  | ((with_reducible refine posE_pos ?_ ?_); (focus ((try simp only [LN] at *) <;> omega)))
  | ((with_reducible apply rowN_mk); (focus rfl))
  | ((with_reducible apply ixN_lit); (focus rfl); (focus rfl))
  | ((with_reducible refine apdN.mk ?_ ?_ ?_ ?_ ?_ ?_); (focus (first | rfl)); (focus (first | exact one_all (by rfl))); (focus ((try simp only [LN] at *) <;> omega)); (focus ((try simp only [LN] at *) <;> omega)); (focus ((try simp only [LN] at *) <;> omega)))
  | with_reducible refine wr_i64 (by first | omega | (simp only [LN] at *; omega)) ?_
  | ((first | (with_reducible refine Z.callZ_mk ?_ (jj0) ?_)); (focus ((repeat' (first | exact trivial | exact rfl | apply And.intro)); done)))
  | ((first | (with_reducible refine Z.callZ_mk ?_ (cka) ?_)); (focus ((repeat' (first | exact trivial | exact rfl | apply And.intro)); done)))
  | ((first | (with_reducible refine Z.callZ_mk ?_ (ckb) ?_)); (focus ((repeat' (first | exact trivial | exact rfl | apply And.intro)); done)))
  | ((first | (with_reducible refine Z.callZ_mk ?_ (ckc) ?_)); (focus ((repeat' (first | exact trivial | exact rfl | apply And.intro)); done)))
  | with_reducible first | refine Z.drawZ_rule tabOk mixOk ?_ | refine Z.apZ_mk (by kernel_rfl) ?_
  | fail)
 all_goals (try (conv => whnf))
 all_goals try first | (show Nat.ble _ _ = true; rfl) | (exfalso; rename_i hz; cases hz; done) | (exfalso; (try simp only [LN] at *) <;> omega)
 all_goals first
  | ((first | (with_reducible apply Z.retF2)); (focus rfl); (repeat' (first | exact trivial | (with_reducible apply Z.frz_one) | (with_reducible apply Z.frz_agg) | (with_reducible apply Z.fq_int) | (with_reducible apply Z.fq_bool) | (exact Z.frz_nil) | exact rfl | apply And.intro)); (all_goals (try exact (fun _ => none))); all_goals (first | (simp_all; done)))
  | fail
theorem wh_3_2 (a b c : Sn) (hra : a.rows.length ≤ 1000) (hta : a.txs.length ≤ 1000) (hsa : snapR a = true) (hwa : a.w = 3) (hia : a.ix = 0) (hrb : b.rows.length ≤ 1000) (htb : b.txs.length ≤ 1000) (hsb : snapR b = true) (hwb : b.w = 3) (hib : b.ix = 1) (hob : a.op = b.op) (hrc : c.rows.length ≤ 1000) (htc : c.txs.length ≤ 1000) (hsc : snapR c = true) (hf : ¬ (c.op = a.op ∧ c.w = 3 ∧ c.ix = 2))  : Con Try.prog 14 [.one (.ro false 14 (([a, b, c] : List Sn).map eSn))] (fun rx rK rt => rx = .tup [.agg [.v (.int .i64 zeroS.op), .v (.int .i64 zeroS.ix), .v (.int .i64 zeroS.w), .v (.bool zeroS.en), .ro true 4 (zeroS.rows.map Tab.eK), .v (.int .i64 zeroS.o0), .v (.int .i64 zeroS.o1), .v (.int .i64 zeroS.o2), .v (.int .i64 zeroS.o3), .v (.int .i64 zeroS.o4), .v (.int .i64 zeroS.o5), .v (.int .i64 zeroS.o6), .v (.int .i64 zeroS.o7), .ro true 3 (zeroS.txs.map eN)], .one (.v (.int .i64 281))] ∧ rK = [] ∧ rt = 0) := by
 refine Z.con_ofF tabOk 103 Try.f14 _ Try.func14 (by kernel_rfl) rfl rfl rfl rfl ?_
 obtain ⟨aop, aix, aw, aen, arows, ao0, ao1, ao2, ao3, ao4, ao5, ao6, ao7, atxs⟩ := a
 obtain ⟨bop, bix, bw, ben, brows, bo0, bo1, bo2, bo3, bo4, bo5, bo6, bo7, btxs⟩ := b
 obtain ⟨cop, cix, cw, cen, crows, co0, co1, co2, co3, co4, co5, co6, co7, ctxs⟩ := c
 dsimp only at *
 subst hwa hia
 subst hwb hib hob
 have cka := scheck_con (⟨aop, 0, 3, aen, arows, ao0, ao1, ao2, ao3, ao4, ao5, ao6, ao7, atxs⟩ : Sn) hra (by show atxs.length ≤ _; omega)
 have ckb := scheck_con (⟨aop, 1, 3, ben, brows, bo0, bo1, bo2, bo3, bo4, bo5, bo6, bo7, btxs⟩ : Sn) hrb (by show btxs.length ≤ _; omega)
 have ckc := scheck_con (⟨cop, cix, cw, cen, crows, co0, co1, co2, co3, co4, co5, co6, co7, ctxs⟩ : Sn) hrc (by show ctxs.length ≤ _; omega)
 rw [hsa] at cka
 try simp only [cond_true] at cka
 try dsimp only at cka
 rw [hsb] at ckb
 try simp only [cond_true] at ckb
 try dsimp only at ckb
 rw [hsc] at ckc
 try simp only [cond_true] at ckc
 try dsimp only at ckc
 have jj0 := jnd_0_3 ao0 ao1 ao2 ao3 ao4 ao5 ao6 ao7 0 0 0 0 0 0 0 0
 have jj1 := jnd_1_3 bo0 bo1 bo2 bo3 bo4 bo5 bo6 bo7 ao0 ao1 ao2 0 0 0 0 0
 repeat' ((conv => whnf); first
  | with_reducible first | refine spB_t ?_
  | ((with_reducible apply spB_cong); (focus (simp only [splQ, Int.reduceBEq, Int.reduceBNe]; rfl)))
  | with_reducible first | refine spB_no (by decide) ?_
  | (with_reducible refine spB_dec ?_ ?_ <;> intro _ <;> (try (exfalso; (first | contradiction | (rename_i hz; simp at hz; done)))))
  | (with_reducible refine spB_beq ?_ ?_ <;> intro _ <;> (try (exfalso; (first | omega))))
  | (with_reducible refine spB_bne ?_ ?_ <;> intro _ <;> (try (exfalso; (first | contradiction | omega))))
  | (with_reducible refine spB_mk ?_ ?_ <;> intro _ <;> (try (exfalso; (first | (simp only [LN] at *; omega)))))
  | with_reducible first | refine Z.loopZ_unroll tabOk 4 ?_
  | ((with_reducible refine posE_pos ?_ ?_); (focus ((try simp only [LN] at *) <;> omega)))
  | ((with_reducible apply rowN_mk); (focus rfl))
  | ((with_reducible apply ixN_lit); (focus rfl); (focus rfl))
  | ((with_reducible refine eqN_mk2 ?_ ?_); (focus rfl))
  | ((with_reducible refine apdN.mk ?_ ?_ ?_ ?_ ?_ ?_); (focus (first | rfl)); (focus (first | exact one_all (by rfl))); (focus ((try simp only [LN] at *) <;> omega)); (focus ((try simp only [LN] at *) <;> omega)); (focus ((try simp only [LN] at *) <;> omega)))
  | with_reducible refine wr_i64 (by first | omega | (simp only [LN] at *; omega)) ?_
  | ((first | (with_reducible refine Z.callZ_mk ?_ (cka) ?_)); (focus ((repeat' (first | exact trivial | exact rfl | apply And.intro)); done)))
  | ((first | (with_reducible refine Z.callZ_mk ?_ (ckb) ?_)); (focus ((repeat' (first | exact trivial | exact rfl | apply And.intro)); done)))
  | ((first | (with_reducible refine Z.callZ_mk ?_ (ckc) ?_)); (focus ((repeat' (first | exact trivial | exact rfl | apply And.intro)); done)))
  | ((first | (with_reducible refine Z.callZ_mk ?_ (jj0) ?_)); (focus ((repeat' (first | exact trivial | exact rfl | apply And.intro)); done)))
  | ((first | (with_reducible refine Z.callZ_mk ?_ (jj1) ?_)); (focus ((repeat' (first | exact trivial | exact rfl | apply And.intro)); done)))
  | with_reducible first | refine Z.drawZ_rule tabOk mixOk ?_ | refine Z.apZ_mk (by kernel_rfl) ?_
  | fail)
 all_goals (try (conv => whnf))
 all_goals try first | (show Nat.ble _ _ = true; rfl) | (exfalso; rename_i hz; cases hz; done) | (exfalso; (try simp only [LN] at *) <;> omega)
 all_goals first
  | ((first | (with_reducible apply Z.retF2)); (focus rfl); (repeat' (first | exact trivial | (with_reducible apply Z.frz_one) | (with_reducible apply Z.frz_agg) | (with_reducible apply Z.fq_int) | (with_reducible apply Z.fq_bool) | (exact Z.frz_nil) | exact rfl | apply And.intro)); (all_goals (try exact (fun _ => none))); all_goals (first | (simp_all; done)))
  | fail
end Go.Proofs.Ytopieffkpdlpbaa
namespace Go.Proofs.Ytopieffkpdlpbaa
open Go Go.RowKit Wx
set_option maxHeartbeats 4000000
theorem snapR_shq {x : Sn} (h : snapR x = true) : Tab.okS x.ix x.w := by
 unfold snapR at h
 simp only [Bool.and_eq_true, decide_eq_true_eq] at h
 exact h.1.2
theorem wholeS_1 (a : Sn) : wholeS [a] = ⟨a.op, 0, 1, a.en, gath [a.rows], a.o0, a.o1, a.o2, a.o3, a.o4, a.o5, a.o6, a.o7, [a.txs].flatten⟩ := by
 unfold wholeS
 rw [show ownW 0 [a] = a from by simp [ownW, Tab.ownG], show ownW 1 [a] = a from by simp [ownW, Tab.ownG], show ownW 2 [a] = a from by simp [ownW, Tab.ownG], show ownW 3 [a] = a from by simp [ownW, Tab.ownG], show ownW 4 [a] = a from by simp [ownW, Tab.ownG], show ownW 5 [a] = a from by simp [ownW, Tab.ownG], show ownW 6 [a] = a from by simp [ownW, Tab.ownG], show ownW 7 [a] = a from by simp [ownW, Tab.ownG]]
 rfl
theorem wholeS_2 (a b : Sn) : wholeS [a, b] = ⟨a.op, 0, 1, a.en && b.en, gath [a.rows, b.rows], a.o0, a.o1, a.o2, a.o3, b.o4, b.o5, b.o6, b.o7, [a.txs, b.txs].flatten⟩ := by
 unfold wholeS
 rw [show ownW 0 [a, b] = a from by simp [ownW, Tab.ownG], show ownW 1 [a, b] = a from by simp [ownW, Tab.ownG], show ownW 2 [a, b] = a from by simp [ownW, Tab.ownG], show ownW 3 [a, b] = a from by simp [ownW, Tab.ownG], show ownW 4 [a, b] = b from by simp [ownW, Tab.ownG], show ownW 5 [a, b] = b from by simp [ownW, Tab.ownG], show ownW 6 [a, b] = b from by simp [ownW, Tab.ownG], show ownW 7 [a, b] = b from by simp [ownW, Tab.ownG]]
 rfl
theorem wholeS_3 (a b c : Sn) : wholeS [a, b, c] = ⟨a.op, 0, 1, a.en && b.en && c.en, gath [a.rows, b.rows, c.rows], a.o0, a.o1, a.o2, b.o3, b.o4, b.o5, c.o6, c.o7, [a.txs, b.txs, c.txs].flatten⟩ := by
 unfold wholeS
 rw [show ownW 0 [a, b, c] = a from by simp [ownW, Tab.ownG], show ownW 1 [a, b, c] = a from by simp [ownW, Tab.ownG], show ownW 2 [a, b, c] = a from by simp [ownW, Tab.ownG], show ownW 3 [a, b, c] = b from by simp [ownW, Tab.ownG], show ownW 4 [a, b, c] = b from by simp [ownW, Tab.ownG], show ownW 5 [a, b, c] = b from by simp [ownW, Tab.ownG], show ownW 6 [a, b, c] = c from by simp [ownW, Tab.ownG], show ownW 7 [a, b, c] = c from by simp [ownW, Tab.ownG]]
 rfl
theorem fit_1 (a : Sn) : fitW [a] = decide (a.w = 1 ∧ a.ix = 0) := by
 rw [Bool.eq_iff_iff]; simp [fitW, fitK, List.zipIdx]
theorem fit_2 (a b : Sn) : fitW [a, b] = decide ((a.w = 2 ∧ a.ix = 0) ∧ (b.op = a.op ∧ b.w = 2 ∧ b.ix = 1)) := by
 rw [Bool.eq_iff_iff]; simp [fitW, fitK, List.zipIdx]
theorem fit_3 (a b c : Sn) : fitW [a, b, c] = decide ((a.w = 3 ∧ a.ix = 0) ∧ (b.op = a.op ∧ b.w = 3 ∧ b.ix = 1) ∧ (c.op = a.op ∧ c.w = 3 ∧ c.ix = 2)) := by
 rw [Bool.eq_iff_iff]; simp [fitW, fitK, List.zipIdx, and_assoc]
theorem fit_no {l : List Sn} {a : Sn} (h : l[0]? = some a) (hf : ¬ (a.w = (l.length : Int) ∧ a.ix = 0)) : fitW l = false := by
 cases l with
 | nil => cases h
 | cons b t =>
  have hb : b = a := by simpa using h
  subst hb
  cases hz : fitW (b :: t) with
  | false => rfl
  | true =>
   unfold fitW at hz
   simp only [Bool.and_eq_true, List.all_eq_true] at hz
   have := of_decide_eq_true (hz.2 (b, 0) (by simp [List.zipIdx]))
   exact absurd ⟨this.2.1, this.2.2⟩ hf
theorem snapR_w {x : Sn} (h : snapR x = true) : 1 ≤ x.w ∧ x.w ≤ 3 := by
 have := snapR_shq h; unfold Tab.okS at this; omega
theorem fit_len {l : List Sn} (h1 : ∀ x ∈ l, snapR x = true) (hf : fitW l = true) : (∃ a, l = [a]) ∨ (∃ a b, l = [a, b]) ∨ ∃ a b c, l = [a, b, c] := by
 match l, h1, hf with
 | [], _, hf => simp [fitW] at hf
 | [a], _, _ => exact .inl ⟨a, rfl⟩
 | [a, b], _, _ => exact .inr (.inl ⟨a, b, rfl⟩)
 | [a, b, c], _, _ => exact .inr (.inr ⟨a, b, c, rfl⟩)
 | a :: b :: c :: d :: t, h1, hf =>
  have hw := snapR_w (h1 a (by simp))
  rw [fit_no (l := a :: b :: c :: d :: t) (a := a) rfl (fun h => by have := h.1; simp only [List.length_cons] at this; omega)] at hf
  cases hf
theorem swhole_con (l : List Sn) (hA : ∀ x ∈ l, x.rows.length ≤ 1000 ∧ x.txs.length ≤ 1000) (hl : l.length ≤ 1000) : Con Try.prog 14 [.one (.ro false 14 ((l : List Sn).map eSn))] (fun rx rK rt => rx = .tup [.agg [.v (.int .i64 (wholeE l).1.op), .v (.int .i64 (wholeE l).1.ix), .v (.int .i64 (wholeE l).1.w), .v (.bool (wholeE l).1.en), .ro true 4 ((wholeE l).1.rows.map Tab.eK), .v (.int .i64 (wholeE l).1.o0), .v (.int .i64 (wholeE l).1.o1), .v (.int .i64 (wholeE l).1.o2), .v (.int .i64 (wholeE l).1.o3), .v (.int .i64 (wholeE l).1.o4), .v (.int .i64 (wholeE l).1.o5), .v (.int .i64 (wholeE l).1.o6), .v (.int .i64 (wholeE l).1.o7), .ro true 3 ((wholeE l).1.txs.map eN)], .one (.v (.int .i64 (wholeE l).2))] ∧ rK = [] ∧ rt = 0) := by
 unfold wholeE
 cases h1 : l.all snapR
 ·rw [if_pos rfl]; exact wh_chk l hA hl h1
 have H1 : ∀ x ∈ l, snapR x = true := List.all_eq_true.1 h1
 rw [if_neg (by decide)]
 match l, hA, hl, H1 with
 | [], _, _, _ => rw [if_pos (.inl rfl)]; exact wh_nil
 | a :: t, hA, hl, H1 =>
  by_cases hf : a.w = ((a :: t).length : Int) ∧ a.ix = 0
  rotate_left
  ·rw [if_pos (.inl (fit_no rfl hf))]
   exact wh_first (a :: t) hA hl (by simp) H1 (fun b hb => by cases hb; exact hf)
  obtain ⟨hw, hi⟩ := hf
  have hw3 := snapR_w (H1 a (by simp))
  match t, hA, hl, H1, hw with
  | [], hA, hl, H1, hw =>
   rw [fit_1, decide_eq_true ⟨hw, hi⟩]
   cases hn : namesR (List.map (fun x => x.txs) [a]).flatten
   ·rw [if_pos (.inr rfl)]; exact wh_1_names a (hA a (by simp)).1 (hA a (by simp)).2 (H1 a (by simp)) hw hi hn
   ·rw [if_neg (by simp), wholeS_1]; exact wh_1 a (hA a (by simp)).1 (hA a (by simp)).2 (H1 a (by simp)) hw hi hn
  | [b], hA, hl, H1, hw =>
   have pa := hA a (by simp)
   have pb := hA b (by simp)
   have ra := H1 a (by simp)
   have rb := H1 b (by simp)
   have hw : a.w = 2 := hw
   rw [fit_2]
   by_cases hb : b.op = a.op ∧ b.w = 2 ∧ b.ix = 1
   rotate_left
   ·rw [decide_eq_false (fun h => hb h.2), if_pos (.inl rfl)]
    exact wh_2_1 a b pa.1 pa.2 ra hw hi pb.1 pb.2 rb hb
   rw [decide_eq_true ⟨⟨hw, hi⟩, hb⟩]
   cases hn : namesR (List.map (fun x => x.txs) [a, b]).flatten
   ·rw [if_pos (.inr rfl)]; exact wh_2_names a b pa.1 pa.2 ra hw hi pb.1 pb.2 rb hb.2.1 hb.2.2 hb.1.symm hn
   ·rw [if_neg (by simp), wholeS_2]; exact wh_2 a b pa.1 pa.2 ra hw hi pb.1 pb.2 rb hb.2.1 hb.2.2 hb.1.symm hn
  | [b, c], hA, hl, H1, hw =>
   have pa := hA a (by simp)
   have pb := hA b (by simp)
   have pc := hA c (by simp)
   have ra := H1 a (by simp)
   have rb := H1 b (by simp)
   have rc := H1 c (by simp)
   have hw : a.w = 3 := hw
   rw [fit_3]
   by_cases hb : b.op = a.op ∧ b.w = 3 ∧ b.ix = 1
   rotate_left
   ·rw [decide_eq_false (fun h => hb h.2.1), if_pos (.inl rfl)]
    exact wh_3_1 a b c pa.1 pa.2 ra hw hi pb.1 pb.2 rb hb pc.1 pc.2 rc
   by_cases hc : c.op = a.op ∧ c.w = 3 ∧ c.ix = 2
   rotate_left
   ·rw [decide_eq_false (fun h => hc h.2.2), if_pos (.inl rfl)]
    exact wh_3_2 a b c pa.1 pa.2 ra hw hi pb.1 pb.2 rb hb.2.1 hb.2.2 hb.1.symm pc.1 pc.2 rc hc
   rw [decide_eq_true ⟨⟨hw, hi⟩, hb, hc⟩]
   cases hn : namesR (List.map (fun x => x.txs) [a, b, c]).flatten
   ·rw [if_pos (.inr rfl)]; exact wh_3_names a b c pa.1 pa.2 ra hw hi pb.1 pb.2 rb hb.2.1 hb.2.2 hb.1.symm pc.1 pc.2 rc hc.2.1 hc.2.2 hc.1.symm hn
   ·rw [if_neg (by simp), wholeS_3]; exact wh_3 a b c pa.1 pa.2 ra hw hi pb.1 pb.2 rb hb.2.1 hb.2.2 hb.1.symm pc.1 pc.2 rc hc.2.1 hc.2.2 hc.1.symm hn
  | b :: c :: d :: t, hA, hl, H1, hw => simp only [List.length_cons] at hw; omega
end Go.Proofs.Ytopieffkpdlpbaa
namespace Go.Proofs.Ytopieffkpdlpbaa
open Go Go.RowKit Wx
set_option maxHeartbeats 4000000
theorem rown_0_0_1 : Con Try.prog 36 [.one (.v (.int .i64 0)), .one (.v (.int .i64 0)), .one (.v (.int .i64 1))] (fun rx rK rt => rx = .val (.bool true) ∧ rK = [] ∧ rt = 0) := Y.con_eval ftabOk tabOk mixOk 40 12 (by kernel_rfl) (by rfl) (by kernel_rfl)
theorem rown_0_0_2 : Con Try.prog 36 [.one (.v (.int .i64 0)), .one (.v (.int .i64 0)), .one (.v (.int .i64 2))] (fun rx rK rt => rx = .val (.bool true) ∧ rK = [] ∧ rt = 0) := Y.con_eval ftabOk tabOk mixOk 40 12 (by kernel_rfl) (by rfl) (by kernel_rfl)
theorem rown_0_1_2 : Con Try.prog 36 [.one (.v (.int .i64 0)), .one (.v (.int .i64 1)), .one (.v (.int .i64 2))] (fun rx rK rt => rx = .val (.bool false) ∧ rK = [] ∧ rt = 0) := Y.con_eval ftabOk tabOk mixOk 40 12 (by kernel_rfl) (by rfl) (by kernel_rfl)
theorem rown_0_0_3 : Con Try.prog 36 [.one (.v (.int .i64 0)), .one (.v (.int .i64 0)), .one (.v (.int .i64 3))] (fun rx rK rt => rx = .val (.bool true) ∧ rK = [] ∧ rt = 0) := Y.con_eval ftabOk tabOk mixOk 40 12 (by kernel_rfl) (by rfl) (by kernel_rfl)
theorem rown_0_1_3 : Con Try.prog 36 [.one (.v (.int .i64 0)), .one (.v (.int .i64 1)), .one (.v (.int .i64 3))] (fun rx rK rt => rx = .val (.bool false) ∧ rK = [] ∧ rt = 0) := Y.con_eval ftabOk tabOk mixOk 40 12 (by kernel_rfl) (by rfl) (by kernel_rfl)
theorem rown_0_2_3 : Con Try.prog 36 [.one (.v (.int .i64 0)), .one (.v (.int .i64 2)), .one (.v (.int .i64 3))] (fun rx rK rt => rx = .val (.bool false) ∧ rK = [] ∧ rt = 0) := Y.con_eval ftabOk tabOk mixOk 40 12 (by kernel_rfl) (by rfl) (by kernel_rfl)
theorem rown_1_0_1 : Con Try.prog 36 [.one (.v (.int .i64 1)), .one (.v (.int .i64 0)), .one (.v (.int .i64 1))] (fun rx rK rt => rx = .val (.bool true) ∧ rK = [] ∧ rt = 0) := Y.con_eval ftabOk tabOk mixOk 40 12 (by kernel_rfl) (by rfl) (by kernel_rfl)
theorem rown_1_0_2 : Con Try.prog 36 [.one (.v (.int .i64 1)), .one (.v (.int .i64 0)), .one (.v (.int .i64 2))] (fun rx rK rt => rx = .val (.bool true) ∧ rK = [] ∧ rt = 0) := Y.con_eval ftabOk tabOk mixOk 40 12 (by kernel_rfl) (by rfl) (by kernel_rfl)
theorem rown_1_1_2 : Con Try.prog 36 [.one (.v (.int .i64 1)), .one (.v (.int .i64 1)), .one (.v (.int .i64 2))] (fun rx rK rt => rx = .val (.bool false) ∧ rK = [] ∧ rt = 0) := Y.con_eval ftabOk tabOk mixOk 40 12 (by kernel_rfl) (by rfl) (by kernel_rfl)
theorem rown_1_0_3 : Con Try.prog 36 [.one (.v (.int .i64 1)), .one (.v (.int .i64 0)), .one (.v (.int .i64 3))] (fun rx rK rt => rx = .val (.bool true) ∧ rK = [] ∧ rt = 0) := Y.con_eval ftabOk tabOk mixOk 40 12 (by kernel_rfl) (by rfl) (by kernel_rfl)
theorem rown_1_1_3 : Con Try.prog 36 [.one (.v (.int .i64 1)), .one (.v (.int .i64 1)), .one (.v (.int .i64 3))] (fun rx rK rt => rx = .val (.bool false) ∧ rK = [] ∧ rt = 0) := Y.con_eval ftabOk tabOk mixOk 40 12 (by kernel_rfl) (by rfl) (by kernel_rfl)
theorem rown_1_2_3 : Con Try.prog 36 [.one (.v (.int .i64 1)), .one (.v (.int .i64 2)), .one (.v (.int .i64 3))] (fun rx rK rt => rx = .val (.bool false) ∧ rK = [] ∧ rt = 0) := Y.con_eval ftabOk tabOk mixOk 40 12 (by kernel_rfl) (by rfl) (by kernel_rfl)
theorem rown_2_0_1 : Con Try.prog 36 [.one (.v (.int .i64 2)), .one (.v (.int .i64 0)), .one (.v (.int .i64 1))] (fun rx rK rt => rx = .val (.bool true) ∧ rK = [] ∧ rt = 0) := Y.con_eval ftabOk tabOk mixOk 40 12 (by kernel_rfl) (by rfl) (by kernel_rfl)
theorem rown_2_0_2 : Con Try.prog 36 [.one (.v (.int .i64 2)), .one (.v (.int .i64 0)), .one (.v (.int .i64 2))] (fun rx rK rt => rx = .val (.bool true) ∧ rK = [] ∧ rt = 0) := Y.con_eval ftabOk tabOk mixOk 40 12 (by kernel_rfl) (by rfl) (by kernel_rfl)
theorem rown_2_1_2 : Con Try.prog 36 [.one (.v (.int .i64 2)), .one (.v (.int .i64 1)), .one (.v (.int .i64 2))] (fun rx rK rt => rx = .val (.bool false) ∧ rK = [] ∧ rt = 0) := Y.con_eval ftabOk tabOk mixOk 40 12 (by kernel_rfl) (by rfl) (by kernel_rfl)
theorem rown_2_0_3 : Con Try.prog 36 [.one (.v (.int .i64 2)), .one (.v (.int .i64 0)), .one (.v (.int .i64 3))] (fun rx rK rt => rx = .val (.bool true) ∧ rK = [] ∧ rt = 0) := Y.con_eval ftabOk tabOk mixOk 40 12 (by kernel_rfl) (by rfl) (by kernel_rfl)
theorem rown_2_1_3 : Con Try.prog 36 [.one (.v (.int .i64 2)), .one (.v (.int .i64 1)), .one (.v (.int .i64 3))] (fun rx rK rt => rx = .val (.bool false) ∧ rK = [] ∧ rt = 0) := Y.con_eval ftabOk tabOk mixOk 40 12 (by kernel_rfl) (by rfl) (by kernel_rfl)
theorem rown_2_2_3 : Con Try.prog 36 [.one (.v (.int .i64 2)), .one (.v (.int .i64 2)), .one (.v (.int .i64 3))] (fun rx rK rt => rx = .val (.bool false) ∧ rK = [] ∧ rt = 0) := Y.con_eval ftabOk tabOk mixOk 40 12 (by kernel_rfl) (by rfl) (by kernel_rfl)
theorem rown_3_0_1 : Con Try.prog 36 [.one (.v (.int .i64 3)), .one (.v (.int .i64 0)), .one (.v (.int .i64 1))] (fun rx rK rt => rx = .val (.bool true) ∧ rK = [] ∧ rt = 0) := Y.con_eval ftabOk tabOk mixOk 40 12 (by kernel_rfl) (by rfl) (by kernel_rfl)
theorem rown_3_0_2 : Con Try.prog 36 [.one (.v (.int .i64 3)), .one (.v (.int .i64 0)), .one (.v (.int .i64 2))] (fun rx rK rt => rx = .val (.bool true) ∧ rK = [] ∧ rt = 0) := Y.con_eval ftabOk tabOk mixOk 40 12 (by kernel_rfl) (by rfl) (by kernel_rfl)
theorem rown_3_1_2 : Con Try.prog 36 [.one (.v (.int .i64 3)), .one (.v (.int .i64 1)), .one (.v (.int .i64 2))] (fun rx rK rt => rx = .val (.bool false) ∧ rK = [] ∧ rt = 0) := Y.con_eval ftabOk tabOk mixOk 40 12 (by kernel_rfl) (by rfl) (by kernel_rfl)
theorem rown_3_0_3 : Con Try.prog 36 [.one (.v (.int .i64 3)), .one (.v (.int .i64 0)), .one (.v (.int .i64 3))] (fun rx rK rt => rx = .val (.bool false) ∧ rK = [] ∧ rt = 0) := Y.con_eval ftabOk tabOk mixOk 40 12 (by kernel_rfl) (by rfl) (by kernel_rfl)
theorem rown_3_1_3 : Con Try.prog 36 [.one (.v (.int .i64 3)), .one (.v (.int .i64 1)), .one (.v (.int .i64 3))] (fun rx rK rt => rx = .val (.bool true) ∧ rK = [] ∧ rt = 0) := Y.con_eval ftabOk tabOk mixOk 40 12 (by kernel_rfl) (by rfl) (by kernel_rfl)
theorem rown_3_2_3 : Con Try.prog 36 [.one (.v (.int .i64 3)), .one (.v (.int .i64 2)), .one (.v (.int .i64 3))] (fun rx rK rt => rx = .val (.bool false) ∧ rK = [] ∧ rt = 0) := Y.con_eval ftabOk tabOk mixOk 40 12 (by kernel_rfl) (by rfl) (by kernel_rfl)
theorem rown_4_0_1 : Con Try.prog 36 [.one (.v (.int .i64 4)), .one (.v (.int .i64 0)), .one (.v (.int .i64 1))] (fun rx rK rt => rx = .val (.bool true) ∧ rK = [] ∧ rt = 0) := Y.con_eval ftabOk tabOk mixOk 40 12 (by kernel_rfl) (by rfl) (by kernel_rfl)
theorem rown_4_0_2 : Con Try.prog 36 [.one (.v (.int .i64 4)), .one (.v (.int .i64 0)), .one (.v (.int .i64 2))] (fun rx rK rt => rx = .val (.bool false) ∧ rK = [] ∧ rt = 0) := Y.con_eval ftabOk tabOk mixOk 40 12 (by kernel_rfl) (by rfl) (by kernel_rfl)
theorem rown_4_1_2 : Con Try.prog 36 [.one (.v (.int .i64 4)), .one (.v (.int .i64 1)), .one (.v (.int .i64 2))] (fun rx rK rt => rx = .val (.bool true) ∧ rK = [] ∧ rt = 0) := Y.con_eval ftabOk tabOk mixOk 40 12 (by kernel_rfl) (by rfl) (by kernel_rfl)
theorem rown_4_0_3 : Con Try.prog 36 [.one (.v (.int .i64 4)), .one (.v (.int .i64 0)), .one (.v (.int .i64 3))] (fun rx rK rt => rx = .val (.bool false) ∧ rK = [] ∧ rt = 0) := Y.con_eval ftabOk tabOk mixOk 40 12 (by kernel_rfl) (by rfl) (by kernel_rfl)
theorem rown_4_1_3 : Con Try.prog 36 [.one (.v (.int .i64 4)), .one (.v (.int .i64 1)), .one (.v (.int .i64 3))] (fun rx rK rt => rx = .val (.bool true) ∧ rK = [] ∧ rt = 0) := Y.con_eval ftabOk tabOk mixOk 40 12 (by kernel_rfl) (by rfl) (by kernel_rfl)
theorem rown_4_2_3 : Con Try.prog 36 [.one (.v (.int .i64 4)), .one (.v (.int .i64 2)), .one (.v (.int .i64 3))] (fun rx rK rt => rx = .val (.bool false) ∧ rK = [] ∧ rt = 0) := Y.con_eval ftabOk tabOk mixOk 40 12 (by kernel_rfl) (by rfl) (by kernel_rfl)
theorem rown_5_0_1 : Con Try.prog 36 [.one (.v (.int .i64 5)), .one (.v (.int .i64 0)), .one (.v (.int .i64 1))] (fun rx rK rt => rx = .val (.bool true) ∧ rK = [] ∧ rt = 0) := Y.con_eval ftabOk tabOk mixOk 40 12 (by kernel_rfl) (by rfl) (by kernel_rfl)
theorem rown_5_0_2 : Con Try.prog 36 [.one (.v (.int .i64 5)), .one (.v (.int .i64 0)), .one (.v (.int .i64 2))] (fun rx rK rt => rx = .val (.bool false) ∧ rK = [] ∧ rt = 0) := Y.con_eval ftabOk tabOk mixOk 40 12 (by kernel_rfl) (by rfl) (by kernel_rfl)
theorem rown_5_1_2 : Con Try.prog 36 [.one (.v (.int .i64 5)), .one (.v (.int .i64 1)), .one (.v (.int .i64 2))] (fun rx rK rt => rx = .val (.bool true) ∧ rK = [] ∧ rt = 0) := Y.con_eval ftabOk tabOk mixOk 40 12 (by kernel_rfl) (by rfl) (by kernel_rfl)
theorem rown_5_0_3 : Con Try.prog 36 [.one (.v (.int .i64 5)), .one (.v (.int .i64 0)), .one (.v (.int .i64 3))] (fun rx rK rt => rx = .val (.bool false) ∧ rK = [] ∧ rt = 0) := Y.con_eval ftabOk tabOk mixOk 40 12 (by kernel_rfl) (by rfl) (by kernel_rfl)
theorem rown_5_1_3 : Con Try.prog 36 [.one (.v (.int .i64 5)), .one (.v (.int .i64 1)), .one (.v (.int .i64 3))] (fun rx rK rt => rx = .val (.bool true) ∧ rK = [] ∧ rt = 0) := Y.con_eval ftabOk tabOk mixOk 40 12 (by kernel_rfl) (by rfl) (by kernel_rfl)
theorem rown_5_2_3 : Con Try.prog 36 [.one (.v (.int .i64 5)), .one (.v (.int .i64 2)), .one (.v (.int .i64 3))] (fun rx rK rt => rx = .val (.bool false) ∧ rK = [] ∧ rt = 0) := Y.con_eval ftabOk tabOk mixOk 40 12 (by kernel_rfl) (by rfl) (by kernel_rfl)
theorem rown_6_0_1 : Con Try.prog 36 [.one (.v (.int .i64 6)), .one (.v (.int .i64 0)), .one (.v (.int .i64 1))] (fun rx rK rt => rx = .val (.bool true) ∧ rK = [] ∧ rt = 0) := Y.con_eval ftabOk tabOk mixOk 40 12 (by kernel_rfl) (by rfl) (by kernel_rfl)
theorem rown_6_0_2 : Con Try.prog 36 [.one (.v (.int .i64 6)), .one (.v (.int .i64 0)), .one (.v (.int .i64 2))] (fun rx rK rt => rx = .val (.bool false) ∧ rK = [] ∧ rt = 0) := Y.con_eval ftabOk tabOk mixOk 40 12 (by kernel_rfl) (by rfl) (by kernel_rfl)
theorem rown_6_1_2 : Con Try.prog 36 [.one (.v (.int .i64 6)), .one (.v (.int .i64 1)), .one (.v (.int .i64 2))] (fun rx rK rt => rx = .val (.bool true) ∧ rK = [] ∧ rt = 0) := Y.con_eval ftabOk tabOk mixOk 40 12 (by kernel_rfl) (by rfl) (by kernel_rfl)
theorem rown_6_0_3 : Con Try.prog 36 [.one (.v (.int .i64 6)), .one (.v (.int .i64 0)), .one (.v (.int .i64 3))] (fun rx rK rt => rx = .val (.bool false) ∧ rK = [] ∧ rt = 0) := Y.con_eval ftabOk tabOk mixOk 40 12 (by kernel_rfl) (by rfl) (by kernel_rfl)
theorem rown_6_1_3 : Con Try.prog 36 [.one (.v (.int .i64 6)), .one (.v (.int .i64 1)), .one (.v (.int .i64 3))] (fun rx rK rt => rx = .val (.bool false) ∧ rK = [] ∧ rt = 0) := Y.con_eval ftabOk tabOk mixOk 40 12 (by kernel_rfl) (by rfl) (by kernel_rfl)
theorem rown_6_2_3 : Con Try.prog 36 [.one (.v (.int .i64 6)), .one (.v (.int .i64 2)), .one (.v (.int .i64 3))] (fun rx rK rt => rx = .val (.bool true) ∧ rK = [] ∧ rt = 0) := Y.con_eval ftabOk tabOk mixOk 40 12 (by kernel_rfl) (by rfl) (by kernel_rfl)
theorem rown_7_0_1 : Con Try.prog 36 [.one (.v (.int .i64 7)), .one (.v (.int .i64 0)), .one (.v (.int .i64 1))] (fun rx rK rt => rx = .val (.bool true) ∧ rK = [] ∧ rt = 0) := Y.con_eval ftabOk tabOk mixOk 40 12 (by kernel_rfl) (by rfl) (by kernel_rfl)
theorem rown_7_0_2 : Con Try.prog 36 [.one (.v (.int .i64 7)), .one (.v (.int .i64 0)), .one (.v (.int .i64 2))] (fun rx rK rt => rx = .val (.bool false) ∧ rK = [] ∧ rt = 0) := Y.con_eval ftabOk tabOk mixOk 40 12 (by kernel_rfl) (by rfl) (by kernel_rfl)
theorem rown_7_1_2 : Con Try.prog 36 [.one (.v (.int .i64 7)), .one (.v (.int .i64 1)), .one (.v (.int .i64 2))] (fun rx rK rt => rx = .val (.bool true) ∧ rK = [] ∧ rt = 0) := Y.con_eval ftabOk tabOk mixOk 40 12 (by kernel_rfl) (by rfl) (by kernel_rfl)
theorem rown_7_0_3 : Con Try.prog 36 [.one (.v (.int .i64 7)), .one (.v (.int .i64 0)), .one (.v (.int .i64 3))] (fun rx rK rt => rx = .val (.bool false) ∧ rK = [] ∧ rt = 0) := Y.con_eval ftabOk tabOk mixOk 40 12 (by kernel_rfl) (by rfl) (by kernel_rfl)
theorem rown_7_1_3 : Con Try.prog 36 [.one (.v (.int .i64 7)), .one (.v (.int .i64 1)), .one (.v (.int .i64 3))] (fun rx rK rt => rx = .val (.bool false) ∧ rK = [] ∧ rt = 0) := Y.con_eval ftabOk tabOk mixOk 40 12 (by kernel_rfl) (by rfl) (by kernel_rfl)
theorem rown_7_2_3 : Con Try.prog 36 [.one (.v (.int .i64 7)), .one (.v (.int .i64 2)), .one (.v (.int .i64 3))] (fun rx rK rt => rx = .val (.bool true) ∧ rK = [] ∧ rt = 0) := Y.con_eval ftabOk tabOk mixOk 40 12 (by kernel_rfl) (by rfl) (by kernel_rfl)
theorem rowned_ok (g i w : Int) (hg : 0 ≤ g ∧ g < 8) (h : Tab.okS i w) : Con Try.prog 36 [.one (.v (.int .i64 g)), .one (.v (.int .i64 i)), .one (.v (.int .i64 w))] (fun rx rK rt => rx = .val (.bool (decide (Tab.ownG g w = i))) ∧ rK = [] ∧ rt = 0) := by
 have h1 : g = 0 ∨ g = 1 ∨ g = 2 ∨ g = 3 ∨ g = 4 ∨ g = 5 ∨ g = 6 ∨ g = 7 := by omega
 have h2 : (i = 0 ∧ w = 1) ∨ (i = 0 ∧ w = 2) ∨ (i = 1 ∧ w = 2) ∨ (i = 0 ∧ w = 3) ∨ (i = 1 ∧ w = 3) ∨ (i = 2 ∧ w = 3) := by unfold Tab.okS at h; omega
 rcases h1 with rfl | rfl | rfl | rfl | rfl | rfl | rfl | rfl <;> rcases h2 with ⟨rfl, rfl⟩ | ⟨rfl, rfl⟩ | ⟨rfl, rfl⟩ | ⟨rfl, rfl⟩ | ⟨rfl, rfl⟩ | ⟨rfl, rfl⟩
 ·exact rown_0_0_1
 ·exact rown_0_0_2
 ·exact rown_0_1_2
 ·exact rown_0_0_3
 ·exact rown_0_1_3
 ·exact rown_0_2_3
 ·exact rown_1_0_1
 ·exact rown_1_0_2
 ·exact rown_1_1_2
 ·exact rown_1_0_3
 ·exact rown_1_1_3
 ·exact rown_1_2_3
 ·exact rown_2_0_1
 ·exact rown_2_0_2
 ·exact rown_2_1_2
 ·exact rown_2_0_3
 ·exact rown_2_1_3
 ·exact rown_2_2_3
 ·exact rown_3_0_1
 ·exact rown_3_0_2
 ·exact rown_3_1_2
 ·exact rown_3_0_3
 ·exact rown_3_1_3
 ·exact rown_3_2_3
 ·exact rown_4_0_1
 ·exact rown_4_0_2
 ·exact rown_4_1_2
 ·exact rown_4_0_3
 ·exact rown_4_1_3
 ·exact rown_4_2_3
 ·exact rown_5_0_1
 ·exact rown_5_0_2
 ·exact rown_5_1_2
 ·exact rown_5_0_3
 ·exact rown_5_1_3
 ·exact rown_5_2_3
 ·exact rown_6_0_1
 ·exact rown_6_0_2
 ·exact rown_6_1_2
 ·exact rown_6_0_3
 ·exact rown_6_1_3
 ·exact rown_6_2_3
 ·exact rown_7_0_1
 ·exact rown_7_0_2
 ·exact rown_7_1_2
 ·exact rown_7_0_3
 ·exact rown_7_1_3
 ·exact rown_7_2_3
end Go.Proofs.Ytopieffkpdlpbaa
namespace Go.Proofs.Ytopieffkpdlpbaa
open Go Go.RowKit Wx
set_option maxHeartbeats 4000000
theorem rnamesok_con (l : List Nm) (hl : l.length ≤ 9223372036854775807) : Con Try.prog 35 [.one (.ro false 3 (l.map eN))] (fun rx rK rt => rx = .val (.bool (namesR l)) ∧ rK = [] ∧ rt = 0) := by
 refine Z.con_ofF tabOk 33 Try.f35 _ Try.func35 (by kernel_rfl) rfl rfl rfl rfl ?_
 unfold namesR
 repeat' ((conv => whnf); first
  | with_reducible first | refine spB_t ?_
  | fail)
 all_goals (try (conv => whnf))
 all_goals try first | (show Nat.ble _ _ = true; rfl) | (exfalso; rename_i hz; cases hz; done) | (exfalso; (try simp only [LN] at *) <;> omega)
 refine Z.loopK tabOk (fun zq : Nat => [(7, .val (.int .i64 (zq : Int)))]) (fun zq : Nat => ([] : Z.Kr)) (fun zq => zq ≤ l.length ∧ nOk none l = nOk (nPrev l zq) (l.drop zq)) (fun zq => l.length - zq) 0 0 [(0, _), (5, _), (6, _)] ⟨rfl, rfl, rfl, trivial⟩ [] trivial ?_ ?_ rfl rfl ⟨Nat.zero_le _, rfl⟩ ?_
 ·repeat' (first | exact trivial | apply And.intro | exact ⟨_, rfl, Z.Imp.refl _⟩)
 ·repeat' (first | exact trivial)
 rintro i HINV
 (try dsimp only at HINV); (try dsimp only)
 obtain ⟨HI, HT⟩ := HINV
 by_cases hi : i < l.length
 ·obtain ⟨x, hx⟩ := getElem?_some' (xs := l) (i := i) hi
  rw [nOk_at hx] at HT
  have ck := rname_con x
  cases hk : nmOk x
  ·rw [hk] at ck HT
   simp only [Bool.false_and] at HT
   try simp only [cond_false] at ck
   rw [HT, Bool.and_false]
   repeat' ((conv => whnf); first
    | with_reducible first | refine spB_t ?_
    | ((with_reducible apply spB_cong); (focus (simp only [splQ, Int.reduceBEq, Int.reduceBNe]; rfl)))
    | (with_reducible refine spB_dec ?_ ?_ <;> intro _ <;> (try (exfalso; (first | (simp only [LN] at *; omega)))))
    | with_reducible first | refine Z.rowN_known hx ?_
    | ((with_reducible apply ixN_litp); (focus rfl); (focus ((try simp only [LN] at *) <;> omega)))
    | ((first | (with_reducible refine Z.conZ_mz ?_ (ck) ?_)); (focus ((repeat' (first | exact trivial | exact rfl | apply And.intro)); done)))
    | with_reducible first | refine Z.drawZ_rule tabOk mixOk ?_ | refine Z.apZ_mk (by kernel_rfl) ?_
    | fail)
   all_goals (try (conv => whnf))
   all_goals try first | (show Nat.ble _ _ = true; rfl) | (exfalso; rename_i hz; cases hz; done) | (exfalso; (try simp only [LN] at *) <;> omega)
   all_goals first
    | ((first | (with_reducible apply Z.retF1)); (focus rfl); (repeat' (first | exact trivial | (with_reducible apply Z.frz_one) | (with_reducible apply Z.fq_bool) | exact rfl | apply And.intro)); (all_goals (try exact (fun _ => none))); all_goals (first | (simp; done)))
    | fail
  rw [hk] at ck HT
  simp only [Bool.true_and] at HT
  try simp only [cond_true] at ck
  rcases i with _ | j
  ·have HT2 : nOk none l = nOk (nPrev l 1) (l.drop 1) := by rw [HT]; rfl
   repeat' ((conv => whnf); first
    | ((with_reducible apply spB_cong); (focus (simp only [splQ, Int.reduceBEq, Int.reduceBNe]; rfl)))
    | with_reducible first | refine spB_no (by decide) ?_
    | (with_reducible refine spB_dec ?_ ?_ <;> intro _ <;> (try (exfalso; (first | (simp only [LN] at *; omega)))))
    | with_reducible first | refine Z.rowN_known hx ?_
    | ((with_reducible apply ixN_litp); (focus rfl); (focus ((try simp only [LN] at *) <;> omega)))
    | with_reducible refine wr_i64 (by first | omega | (simp only [LN] at *; omega)) ?_
    | ((first | (with_reducible refine Z.conZ_mz ?_ (ck) ?_)); (focus ((repeat' (first | exact trivial | exact rfl | apply And.intro)); done)))
    | with_reducible first | refine Z.drawZ_rule tabOk mixOk ?_ | refine Z.apZ_mk (by kernel_rfl) ?_
    | fail)
   all_goals (try (conv => whnf))
   all_goals try first | (show Nat.ble _ _ = true; rfl) | (exfalso; rename_i hz; cases hz; done) | (exfalso; (try simp only [LN] at *) <;> omega)
   all_goals first
    | ((refine Z.rndK (1) (fun s => []) rfl rfl rfl rfl ?_ ?_ ?_ ?_); (focus (repeat' (first | exact trivial | exact rfl | apply And.intro))); (focus (repeat' (first | exact trivial))); (focus (exact ⟨by (try dsimp only); omega, HT2⟩)); ((try dsimp only); omega))
    | fail
  obtain ⟨q, hq⟩ := getElem?_some' (xs := l) (i := j) (by omega)
  have hpr : nPrev l (j + 1) = some q := hq
  rw [hpr] at HT
  simp only at HT
  have cc := nless_con q x
  by_cases hlt : nLt q x
  ·rw [decide_eq_true hlt] at HT cc
   rw [Bool.true_and] at HT
   repeat' ((conv => whnf); first
    | with_reducible first | refine spB_t ?_
    | ((with_reducible apply spB_cong); (focus (simp only [splQ, Int.reduceBEq, Int.reduceBNe]; rfl)))
    | with_reducible first | refine spB_no (by decide) ?_
    | (with_reducible refine spB_dec ?_ ?_ <;> intro _ <;> (try (exfalso; (first | omega | (simp only [LN] at *; omega)))))
    | with_reducible first | refine Z.rowN_known hx ?_ | refine Z.rowN_known hq ?_
    | ((with_reducible refine ixN_mk (j) ?_ ?_ ?_); (focus (first | ((try simp only [LN] at *) <;> omega))); (focus ((try simp only [LN] at *) <;> omega)))
    | ((with_reducible apply ixN_litp); (focus rfl); (focus ((try simp only [LN] at *) <;> omega)))
    | with_reducible refine wr_i64 (by first | omega | (simp only [LN] at *; omega)) ?_
    | ((first | (with_reducible refine Z.conZ_mz ?_ (ck) ?_) | (with_reducible refine Z.conZ_mz ?_ (cc) ?_)); (focus ((repeat' (first | exact trivial | exact rfl | apply And.intro)); done)))
    | with_reducible first | refine Z.drawZ_rule tabOk mixOk ?_ | refine Z.apZ_mk (by kernel_rfl) ?_
    | fail)
   all_goals (try (conv => whnf))
   all_goals try first | (show Nat.ble _ _ = true; rfl) | (exfalso; rename_i hz; cases hz; done) | (exfalso; (try simp only [LN] at *) <;> omega)
   all_goals first
    | ((refine Z.rndK ((j + 1 + 1)) (fun s => []) rfl rfl rfl rfl ?_ ?_ ?_ ?_); (focus (repeat' (first | exact trivial | exact rfl | apply And.intro))); (focus (repeat' (first | exact trivial))); (focus (exact ⟨by (try dsimp only); omega, HT⟩)); ((try dsimp only); omega))
    | fail
  ·rw [decide_eq_false hlt] at HT cc
   rw [Bool.false_and] at HT
   rw [HT, Bool.and_false]
   repeat' ((conv => whnf); first
    | with_reducible first | refine spB_t ?_
    | ((with_reducible apply spB_cong); (focus (simp only [splQ, Int.reduceBEq, Int.reduceBNe]; rfl)))
    | with_reducible first | refine spB_no (by decide) ?_
    | (with_reducible refine spB_dec ?_ ?_ <;> intro _ <;> (try (exfalso; (first | omega | (simp only [LN] at *; omega)))))
    | with_reducible first | refine Z.rowN_known hx ?_ | refine Z.rowN_known hq ?_
    | ((with_reducible refine ixN_mk (j) ?_ ?_ ?_); (focus (first | ((try simp only [LN] at *) <;> omega))); (focus ((try simp only [LN] at *) <;> omega)))
    | ((with_reducible apply ixN_litp); (focus rfl); (focus ((try simp only [LN] at *) <;> omega)))
    | with_reducible refine wr_i64 (by first | omega | (simp only [LN] at *; omega)) ?_
    | ((first | (with_reducible refine Z.conZ_mz ?_ (ck) ?_) | (with_reducible refine Z.conZ_mz ?_ (cc) ?_)); (focus ((repeat' (first | exact trivial | exact rfl | apply And.intro)); done)))
    | with_reducible first | refine Z.drawZ_rule tabOk mixOk ?_ | refine Z.apZ_mk (by kernel_rfl) ?_
    | fail)
   all_goals (try (conv => whnf))
   all_goals try first | (show Nat.ble _ _ = true; rfl) | (exfalso; rename_i hz; cases hz; done) | (exfalso; (try simp only [LN] at *) <;> omega)
   all_goals first
    | ((first | (with_reducible apply Z.retF1)); (focus rfl); (repeat' (first | exact trivial | (with_reducible apply Z.frz_one) | (with_reducible apply Z.fq_bool) | exact rfl | apply And.intro)); (all_goals (try exact (fun _ => none))); all_goals (first | (simp; done)))
    | fail
 have hil : i = l.length := by omega
 subst hil
 rw [List.drop_length] at HT
 have HT3 : nOk none l = true := by rw [HT]; cases nPrev l l.length <;> rfl
 rw [HT3]
 rw [Bool.and_true]
 by_cases hc : l.length ≤ 24
 ·rw [decide_eq_true hc]
  repeat' ((conv => whnf); first
   | (with_reducible refine spB_dec ?_ ?_ <;> intro _ <;> (try (exfalso; (first | (rename_i hz; simp at hz; done)))))
   | fail)
  all_goals (try (conv => whnf))
  all_goals try first | (show Nat.ble _ _ = true; rfl) | (exfalso; rename_i hz; cases hz; done) | (exfalso; (try simp only [LN] at *) <;> omega)
  all_goals first
   | ((first | (with_reducible apply Z.retF1)); (focus rfl); (repeat' (first | exact trivial | (with_reducible apply Z.frz_one) | (with_reducible apply Z.fq_bool) | apply And.intro)); (all_goals (try exact (fun _ => none))); all_goals (first | (simp; omega)))
   | fail
 ·rw [decide_eq_false hc]
  repeat' ((conv => whnf); first
   | (with_reducible refine spB_dec ?_ ?_ <;> intro _ <;> (try (exfalso; (first | (rename_i hz; simp at hz; done)))))
   | fail)
  all_goals (try (conv => whnf))
  all_goals try first | (show Nat.ble _ _ = true; rfl) | (exfalso; rename_i hz; cases hz; done) | (exfalso; (try simp only [LN] at *) <;> omega)
  all_goals first
   | ((first | (with_reducible apply Z.retF1)); (focus rfl); (repeat' (first | exact trivial | (with_reducible apply Z.frz_one) | (with_reducible apply Z.fq_bool) | apply And.intro)); (all_goals (try exact (fun _ => none))); all_goals (first | (simp; omega)))
   | fail
end Go.Proofs.Ytopieffkpdlpbaa
namespace Go.Proofs.Ytopieffkpdlpbaa
open Go Go.RowKit Wx
set_option maxHeartbeats 4000000
namespace Tab
theorem rcheck_con (l : List Kc) (hl : l.length ≤ 9223372036854775807) : Con Try.prog 34 [.agg [.ro false 4 (l.map eK)]] (fun rx rK rt => rx = .val (.bool (tabR l)) ∧ rK = [] ∧ rt = 0) := by
 refine Z.con_ofF tabOk 41 Try.f34 _ Try.func34 (by kernel_rfl) rfl rfl rfl rfl ?_
 repeat' ((conv => whnf); first
  | with_reducible first | refine spB_t ?_
  | fail)
 all_goals (try (conv => whnf))
 all_goals try first | (show Nat.ble _ _ = true; rfl) | (exfalso; rename_i hz; cases hz; done) | (exfalso; (try simp only [LN] at *) <;> omega)
 refine Z.loopK tabOk (fun zq : Nat => [(8, .val (.int .i64 (zq : Int)))]) (fun zq : Nat => ([(0, some (Z.Ob.b ⟨[[.ro false 4 (l.map eK)]], 1, 28, true⟩))] : Z.Kr)) (fun zq => zq ≤ l.length ∧ tabR l = okT (prevR l zq) (l.drop zq)) (fun zq => l.length - zq) 0 1 [(1, _), (6, _), (7, _)] ⟨rfl, rfl, rfl, trivial⟩ [] trivial ?_ ?_ rfl rfl ⟨Nat.zero_le _, rfl⟩ ?_
 ·repeat' (first | exact trivial | apply And.intro | exact ⟨_, rfl, Z.Imp.refl _⟩)
 ·repeat' (first | exact trivial | exact (fun b hb => ⟨b, hb, Z.ImpO.refl b⟩) | apply And.intro)
 rintro i HINV
 (try dsimp only at HINV); (try dsimp only)
 obtain ⟨HI, HT⟩ := HINV
 by_cases hi : i < l.length
 ·obtain ⟨x, hx⟩ := getElem?_some' (xs := l) (i := i) hi
  rw [okT_at hx] at HT
  have ck := rrec_con x.src x.key 0
  cases hk : keyOk x.src x.key
  ·rw [hk] at ck HT
   simp only [Bool.false_and, cond_false] at ck HT
   rw [HT]
   try simp only [cond_false]
   repeat' ((conv => whnf); first
    | with_reducible first | refine spB_t ?_
    | ((with_reducible apply spB_cong); (focus (simp only [splQ, Int.reduceBEq, Int.reduceBNe]; rfl)))
    | (with_reducible refine spB_dec ?_ ?_ <;> intro _ <;> (try (exfalso; (first | (simp only [LN] at *; omega)))))
    | with_reducible first | refine Z.rowN_known hx ?_
    | ((with_reducible apply ixN_litp); (focus rfl); (focus ((try simp only [LN] at *) <;> omega)))
    | with_reducible first | refine Z.callZ_in tabOk 8 Try.f74 _ Try.func74 (by kernel_rfl) rfl rfl rfl ?_
    | ((first | (with_reducible refine Z.conZ_mz ?_ (ck) ?_)); (focus ((repeat' (first | exact trivial | exact rfl | apply And.intro)); done)))
    | ((with_reducible apply ex_and); exact rfl)
    | with_reducible first | refine Z.drawZ_rule tabOk mixOk ?_ | refine Z.apZ_mk (by kernel_rfl) ?_
    | ((with_reducible refine Z.ConZ.red ?_); (try subst hlb); (apply Z.conZ_all); (focus (repeat (first | exact Z.FK.nil | (apply Z.FK.keep; exact rfl)))); (focus rfl); (focus rfl); (focus (repeat (first | exact trivial | (refine ⟨(fun o ho => (by first | (cases ho; rfl) | (cases ho; exact Z.inL_map fun _ => rfl) | (cases ho; exact Z.inL_mapr fun _ => rfl) | exact Z.inL_gB ho fun _ => rfl)), ?_⟩)))))
    | ((refine ⟨rfl, ?_, rfl⟩); (focus (repeat (first | exact Z.DK.nil | apply Z.DK.cons))))
    | fail)
   all_goals (try (conv => whnf))
   all_goals try first | (show Nat.ble _ _ = true; rfl) | (exfalso; rename_i hz; cases hz; done) | (exfalso; (try simp only [LN] at *) <;> omega)
   all_goals first
    | ((first | (with_reducible apply Z.retF1)); (focus rfl); (repeat' (first | exact trivial | (with_reducible apply Z.frz_one) | (with_reducible apply Z.fq_bool) | exact rfl | apply And.intro)); (all_goals (try exact (fun _ => none))); all_goals (first | (simp; done)))
    | fail
  rw [hk] at ck HT
  simp only [Bool.true_and, cond_true] at ck HT
  by_cases hc : 0 < x.cnt
  rotate_left
  ·rw [decide_eq_false hc, Bool.false_and, Bool.false_and] at HT
   rw [HT]
   try simp only [cond_false]
   repeat' ((conv => whnf); first
    | with_reducible first | refine spB_t ?_
    | ((with_reducible apply spB_cong); (focus (simp only [splQ, Int.reduceBEq, Int.reduceBNe]; rfl)))
    | with_reducible first | refine spB_no (by decide) ?_
    | (with_reducible refine spB_dec ?_ ?_ <;> intro _ <;> (try (exfalso; (first | omega | (simp only [LN] at *; omega)))))
    | with_reducible first | refine Z.rowN_known hx ?_
    | ((with_reducible apply ixN_litp); (focus rfl); (focus ((try simp only [LN] at *) <;> omega)))
    | with_reducible first | refine Z.callZ_in tabOk 8 Try.f74 _ Try.func74 (by kernel_rfl) rfl rfl rfl ?_
    | ((first | (with_reducible refine Z.conZ_mz ?_ (ck) ?_)); (focus ((repeat' (first | exact trivial | exact rfl | apply And.intro)); done)))
    | ((with_reducible apply ex_and); exact rfl)
    | with_reducible first | refine Z.drawZ_rule tabOk mixOk ?_ | refine Z.apZ_mk (by kernel_rfl) ?_
    | ((with_reducible refine Z.ConZ.red ?_); (try subst hlb); (apply Z.conZ_all); (focus (repeat (first | exact Z.FK.nil | (apply Z.FK.keep; exact rfl)))); (focus rfl); (focus rfl); (focus (repeat (first | exact trivial | (refine ⟨(fun o ho => (by first | (cases ho; rfl) | (cases ho; exact Z.inL_map fun _ => rfl) | (cases ho; exact Z.inL_mapr fun _ => rfl) | exact Z.inL_gB ho fun _ => rfl)), ?_⟩)))))
    | ((refine ⟨rfl, ?_, rfl⟩); (focus (repeat (first | exact Z.DK.nil | apply Z.DK.cons))))
    | fail)
   all_goals (try (conv => whnf))
   all_goals try first | (show Nat.ble _ _ = true; rfl) | (exfalso; rename_i hz; cases hz; done) | (exfalso; (try simp only [LN] at *) <;> omega)
   all_goals first
    | ((first | (with_reducible apply Z.retF1)); (focus rfl); (repeat' (first | exact trivial | (with_reducible apply Z.frz_one) | (with_reducible apply Z.fq_bool) | exact rfl | apply And.intro)); (all_goals (try exact (fun _ => none))); all_goals (first | (simp; done)))
    | fail
  rw [decide_eq_true hc, Bool.true_and] at HT
  rcases i with _ | j
  ·have HT2 : tabR l = okT (prevR l 1) (l.drop 1) := by rw [HT]; rfl
   repeat' ((conv => whnf); first
    | ((with_reducible apply spB_cong); (focus (simp only [splQ, Int.reduceBEq, Int.reduceBNe]; rfl)))
    | with_reducible first | refine spB_no (by decide) ?_
    | (with_reducible refine spB_dec ?_ ?_ <;> intro _ <;> (try (exfalso; (first | omega | (simp only [LN] at *; omega)))))
    | with_reducible first | refine Z.rowN_known hx ?_
    | ((with_reducible apply ixN_litp); (focus rfl); (focus ((try simp only [LN] at *) <;> omega)))
    | with_reducible refine wr_i64 (by first | omega | (simp only [LN] at *; omega)) ?_
    | with_reducible first | refine Z.callZ_in tabOk 8 Try.f74 _ Try.func74 (by kernel_rfl) rfl rfl rfl ?_
    | ((first | (with_reducible refine Z.conZ_mz ?_ (ck) ?_)); (focus ((repeat' (first | exact trivial | exact rfl | apply And.intro)); done)))
    | ((with_reducible apply ex_and); exact rfl)
    | with_reducible first | refine Z.drawZ_rule tabOk mixOk ?_ | refine Z.apZ_mk (by kernel_rfl) ?_
    | ((with_reducible refine Z.ConZ.red ?_); (try subst hlb); (apply Z.conZ_all); (focus (repeat (first | exact Z.FK.nil | (apply Z.FK.keep; exact rfl)))); (focus rfl); (focus rfl); (focus (repeat (first | exact trivial | (refine ⟨(fun o ho => (by first | (cases ho; rfl) | (cases ho; exact Z.inL_map fun _ => rfl) | (cases ho; exact Z.inL_mapr fun _ => rfl) | exact Z.inL_gB ho fun _ => rfl)), ?_⟩)))))
    | ((refine ⟨rfl, ?_, rfl⟩); (focus (repeat (first | exact Z.DK.nil | apply Z.DK.cons))))
    | fail)
   all_goals (try (conv => whnf))
   all_goals try first | (show Nat.ble _ _ = true; rfl) | (exfalso; rename_i hz; cases hz; done) | (exfalso; (try simp only [LN] at *) <;> omega)
   all_goals first
    | ((refine Z.rndK (1) (fun s => [0]) rfl rfl rfl rfl ?_ ?_ ?_ ?_); (focus (repeat' (first | exact trivial | exact rfl | apply And.intro))); (focus (repeat' (first | exact trivial | (intro b hb; cases hb; rfl) | apply And.intro))); (focus (exact ⟨by (try dsimp only); omega, HT2⟩)); ((try dsimp only); omega))
    | fail
  obtain ⟨q, hq⟩ := getElem?_some' (xs := l) (i := j) (by omega)
  have hpr : prevR l (j + 1) = some q := hq
  rw [hpr] at HT
  simp only at HT
  have cc := rcompare_con q.src q.key 0 x.src x.key 0
  have hcl := @cmp_lt q.src q.key x.src x.key
  generalize cmpR q.src q.key x.src x.key = C at *
  by_cases hlt : kLt q.src q.key x.src x.key
  ·rw [decide_eq_true hlt] at HT hcl
   have hC : ¬ 0 ≤ C := of_decide_eq_false (by simpa using hcl)
   rw [Bool.true_and] at HT
   repeat' ((conv => whnf); first
    | with_reducible first | refine spB_t ?_
    | ((with_reducible apply spB_cong); (focus (simp only [splQ, Int.reduceBEq, Int.reduceBNe]; rfl)))
    | with_reducible first | refine spB_no (by decide) ?_
    | (with_reducible refine spB_dec ?_ ?_ <;> intro _ <;> (try (exfalso; (first | contradiction | omega | (simp only [LN] at *; omega)))))
    | with_reducible first | refine Z.rowN_known hx ?_ | refine Z.rowN_known hq ?_
    | ((with_reducible refine ixN_mk (j) ?_ ?_ ?_); (focus (first | ((try simp only [LN] at *) <;> omega))); (focus ((try simp only [LN] at *) <;> omega)))
    | ((with_reducible apply ixN_litp); (focus rfl); (focus ((try simp only [LN] at *) <;> omega)))
    | with_reducible refine wr_i64 (by first | omega | (simp only [LN] at *; omega)) ?_
    | with_reducible first | refine Z.callZ_in tabOk 8 Try.f74 _ Try.func74 (by kernel_rfl) rfl rfl rfl ?_
    | ((first | (with_reducible refine Z.conZ_mz ?_ (ck) ?_) | (with_reducible refine Z.conZ_mz ?_ (cc) ?_)); (focus ((repeat' (first | exact trivial | exact rfl | apply And.intro)); done)))
    | ((with_reducible apply ex_and); exact rfl)
    | with_reducible first | refine Z.drawZ_rule tabOk mixOk ?_ | refine Z.apZ_mk (by kernel_rfl) ?_
    | ((with_reducible refine Z.ConZ.red ?_); (try subst hlb); (apply Z.conZ_all); (focus (repeat (first | exact Z.FK.nil | (apply Z.FK.keep; exact rfl)))); (focus rfl); (focus rfl); (focus (repeat (first | exact trivial | (refine ⟨(fun o ho => (by first | (cases ho; rfl) | (cases ho; exact Z.inL_map fun _ => rfl) | (cases ho; exact Z.inL_mapr fun _ => rfl) | exact Z.inL_gB ho fun _ => rfl)), ?_⟩)))))
    | ((refine ⟨rfl, ?_, rfl⟩); (focus (repeat (first | exact Z.DK.nil | apply Z.DK.cons))))
    | fail)
   all_goals (try (conv => whnf))
   all_goals try first | (show Nat.ble _ _ = true; rfl) | (exfalso; rename_i hz; cases hz; done) | (exfalso; (try simp only [LN] at *) <;> omega)
   all_goals first
    | ((refine Z.rndK ((j + 1 + 1)) (fun s => [0]) rfl rfl rfl rfl ?_ ?_ ?_ ?_); (focus (repeat' (first | exact trivial | exact rfl | apply And.intro))); (focus (repeat' (first | exact trivial | (intro b hb; cases hb; rfl) | apply And.intro))); (focus (exact ⟨by (try dsimp only); omega, HT⟩)); ((try dsimp only); omega))
    | fail
  ·rw [decide_eq_false hlt] at HT hcl
   have hC : 0 ≤ C := of_decide_eq_true (by simpa using hcl)
   rw [Bool.false_and] at HT
   rw [HT]
   try simp only [cond_false]
   repeat' ((conv => whnf); first
    | with_reducible first | refine spB_t ?_
    | ((with_reducible apply spB_cong); (focus (simp only [splQ, Int.reduceBEq, Int.reduceBNe]; rfl)))
    | with_reducible first | refine spB_no (by decide) ?_
    | (with_reducible refine spB_dec ?_ ?_ <;> intro _ <;> (try (exfalso; (first | contradiction | omega | (simp only [LN] at *; omega)))))
    | with_reducible first | refine Z.rowN_known hx ?_ | refine Z.rowN_known hq ?_
    | ((with_reducible refine ixN_mk (j) ?_ ?_ ?_); (focus (first | ((try simp only [LN] at *) <;> omega))); (focus ((try simp only [LN] at *) <;> omega)))
    | ((with_reducible apply ixN_litp); (focus rfl); (focus ((try simp only [LN] at *) <;> omega)))
    | with_reducible refine wr_i64 (by first | omega | (simp only [LN] at *; omega)) ?_
    | with_reducible first | refine Z.callZ_in tabOk 8 Try.f74 _ Try.func74 (by kernel_rfl) rfl rfl rfl ?_
    | ((first | (with_reducible refine Z.conZ_mz ?_ (ck) ?_) | (with_reducible refine Z.conZ_mz ?_ (cc) ?_)); (focus ((repeat' (first | exact trivial | exact rfl | apply And.intro)); done)))
    | ((with_reducible apply ex_and); exact rfl)
    | with_reducible first | refine Z.drawZ_rule tabOk mixOk ?_ | refine Z.apZ_mk (by kernel_rfl) ?_
    | ((with_reducible refine Z.ConZ.red ?_); (try subst hlb); (apply Z.conZ_all); (focus (repeat (first | exact Z.FK.nil | (apply Z.FK.keep; exact rfl)))); (focus rfl); (focus rfl); (focus (repeat (first | exact trivial | (refine ⟨(fun o ho => (by first | (cases ho; rfl) | (cases ho; exact Z.inL_map fun _ => rfl) | (cases ho; exact Z.inL_mapr fun _ => rfl) | exact Z.inL_gB ho fun _ => rfl)), ?_⟩)))))
    | ((refine ⟨rfl, ?_, rfl⟩); (focus (repeat (first | exact Z.DK.nil | apply Z.DK.cons))))
    | fail)
   all_goals (try (conv => whnf))
   all_goals try first | (show Nat.ble _ _ = true; rfl) | (exfalso; rename_i hz; cases hz; done) | (exfalso; (try simp only [LN] at *) <;> omega)
   all_goals first
    | ((first | (with_reducible apply Z.retF1)); (focus rfl); (repeat' (first | exact trivial | (with_reducible apply Z.frz_one) | (with_reducible apply Z.fq_bool) | exact rfl | apply And.intro)); (all_goals (try exact (fun _ => none))); all_goals (first | (simp; done)))
    | fail
 have hil : i = l.length := by omega
 subst hil
 rw [List.drop_length] at HT
 have HT3 : tabR l = true := by rw [HT]; cases prevR l l.length <;> rfl
 rw [HT3]
 try simp only [cond_true]
 repeat' ((conv => whnf); first
  | (with_reducible refine spB_dec ?_ ?_ <;> intro _ <;> (try (exfalso; (first | (rename_i hz; simp at hz; done)))))
  | fail)
 all_goals (try (conv => whnf))
 all_goals try first | (show Nat.ble _ _ = true; rfl) | (exfalso; rename_i hz; cases hz; done) | (exfalso; (try simp only [LN] at *) <;> omega)
 all_goals first
  | ((first | (with_reducible apply Z.retF1)); (focus rfl); (repeat' (first | exact trivial | (with_reducible apply Z.frz_one) | (with_reducible apply Z.fq_bool) | exact rfl | apply And.intro)); (all_goals (try exact (fun _ => none))); all_goals (first | (simp; done)))
  | fail
end Tab
end Go.Proofs.Ytopieffkpdlpbaa
namespace Go.Proofs.Ytopieffkpdlpbaa
open Go Go.RowKit Wx
set_option maxHeartbeats 4000000
namespace Tab
theorem part_mine {T : List Kc} {i w : Int} (h : tabR T = true) (hs : okS i w) : partL T i w = T.filter fun x => decide (ownG (x.key % 8) w = i) := by
 unfold partL
 refine List.filter_congr fun x hx => ?_
 unfold mineB
 rw [((tab_iff.1 h).1 x hx).1, decide_eq_true hs]
 rfl
end Tab
end Go.Proofs.Ytopieffkpdlpbaa
namespace Go.Proofs.Ytopieffkpdlpbaa
open Go Go.RowKit Wx
set_option maxHeartbeats 4000000
def okO (O E : List Int) (ix : Int) (k : Nat) : Prop := (0 ≤ O.getD k 0 ∧ O.getD k 0 ≤ 40) ∧ (O.getD k 0 = 0 ∨ E.getD k 0 = ix)
theorem offR_is (x : Sn) : offR x.o0 x.o1 x.o2 x.o3 x.o4 x.o5 x.o6 x.o7 x.ix x.w = decide (((0 ≤ x.o0 ∧ x.o0 ≤ 40) ∧ (0 ≤ x.o1 ∧ x.o1 ≤ 40) ∧ (0 ≤ x.o2 ∧ x.o2 ≤ 40) ∧ (0 ≤ x.o3 ∧ x.o3 ≤ 40) ∧ (0 ≤ x.o4 ∧ x.o4 ≤ 40) ∧ (0 ≤ x.o5 ∧ x.o5 ≤ 40) ∧ (0 ≤ x.o6 ∧ x.o6 ≤ 40) ∧ (0 ≤ x.o7 ∧ x.o7 ≤ 40)) ∧ (x.o0 = 0 ∨ Tab.ownG 0 x.w = x.ix) ∧ (x.o1 = 0 ∨ Tab.ownG 1 x.w = x.ix) ∧ (x.o2 = 0 ∨ Tab.ownG 2 x.w = x.ix) ∧ (x.o3 = 0 ∨ Tab.ownG 3 x.w = x.ix) ∧ (x.o4 = 0 ∨ Tab.ownG 4 x.w = x.ix) ∧ (x.o5 = 0 ∨ Tab.ownG 5 x.w = x.ix) ∧ (x.o6 = 0 ∨ Tab.ownG 6 x.w = x.ix) ∧ (x.o7 = 0 ∨ Tab.ownG 7 x.w = x.ix)) := by
 unfold offR ownO
 rw [Bool.eq_iff_iff]
 simp [List.zipIdx]
theorem rrows_is (x : Sn) (ht : Tab.tabR x.rows = true) (hs : Tab.okS x.ix x.w) : decide (Tab.partL x.rows x.ix x.w = x.rows) = decide (∀ y ∈ x.rows, Tab.ownG (y.key % 8) x.w = x.ix) := by
 rw [Tab.part_mine ht hs]
 refine decide_eq_decide.2 ?_
 rw [List.filter_eq_self]
 simp only [decide_eq_true_eq]
theorem rright_con (x : Sn) (hr : x.rows.length ≤ 1000) (ht : x.txs.length ≤ 9223372036854775807) : Con Try.prog 11 [.agg [.v (.int .i64 x.op), .v (.int .i64 x.ix), .v (.int .i64 x.w), .v (.bool x.en), .ro false 4 (x.rows.map Tab.eK), .v (.int .i64 x.o0), .v (.int .i64 x.o1), .v (.int .i64 x.o2), .v (.int .i64 x.o3), .v (.int .i64 x.o4), .v (.int .i64 x.o5), .v (.int .i64 x.o6), .v (.int .i64 x.o7), .ro false 3 (x.txs.map eN)]] (fun rx rK rt => rx = .val (.bool (snapR x)) ∧ rK = [] ∧ rt = 0) := by
 refine Z.con_ofF tabOk 71 Try.f11 _ Try.func11 (by kernel_rfl) rfl rfl rfl rfl ?_
 have csh := Tab.rshare_con x.ix x.w
 have hrr := rrows_is x
 unfold snapR at *
 by_cases ho : 0 ≤ x.op ∧ x.op < 8
 rotate_left
 ·rw [decide_eq_false (fun h => ho h.1), Bool.false_and]
  repeat' ((conv => whnf); first
   | with_reducible first | refine spB_t ?_
   | ((with_reducible apply spB_cong); (focus (simp only [splQ, Int.reduceBEq, Int.reduceBNe]; rfl)))
   | with_reducible first | refine spB_no (by decide) ?_
   | (with_reducible refine spB_dec ?_ ?_ <;> intro _ <;> (try (exfalso; (first | omega))))
   | with_reducible first | refine Z.callZ_in tabOk 18 Try.f33 _ Try.func33 (by kernel_rfl) rfl rfl rfl ?_
   | ((with_reducible apply ex_and); exact rfl)
   | fail)
  all_goals (try (conv => whnf))
  all_goals try first | (show Nat.ble _ _ = true; rfl) | (exfalso; rename_i hz; cases hz; done) | (exfalso; (try simp only [LN] at *) <;> omega)
  all_goals first
   | ((first | (with_reducible apply Z.retF1)); (focus rfl); (repeat' (first | exact trivial | (with_reducible apply Z.frz_one) | (with_reducible apply Z.fq_bool) | exact rfl | apply And.intro)); (all_goals (try exact (fun _ => none))); all_goals (first | (simp; done)))
   | fail
 by_cases hs : Tab.okS x.ix x.w
 rotate_left
 ·rw [decide_eq_false hs] at csh
  rw [decide_eq_false (fun h => hs h.2), Bool.false_and]
  repeat' ((conv => whnf); first
   | with_reducible first | refine spB_t ?_
   | ((with_reducible apply spB_cong); (focus (simp only [splQ, Int.reduceBEq, Int.reduceBNe]; rfl)))
   | (with_reducible refine spB_dec ?_ ?_ <;> intro _ <;> (try (exfalso; (first | omega))))
   | with_reducible first | refine Z.callZ_in tabOk 18 Try.f33 _ Try.func33 (by kernel_rfl) rfl rfl rfl ?_
   | ((first | (with_reducible refine Z.callZ_mk ?_ (csh) ?_)); (focus ((repeat' (first | exact trivial | exact rfl | apply And.intro)); done)))
   | ((with_reducible apply ex_and); exact rfl)
   | fail)
  all_goals (try (conv => whnf))
  all_goals try first | (show Nat.ble _ _ = true; rfl) | (exfalso; rename_i hz; cases hz; done) | (exfalso; (try simp only [LN] at *) <;> omega)
  all_goals first
   | ((first | (with_reducible apply Z.retF1)); (focus rfl); (repeat' (first | exact trivial | (with_reducible apply Z.frz_one) | (with_reducible apply Z.fq_bool) | exact rfl | apply And.intro)); (all_goals (try exact (fun _ => none))); all_goals (first | (simp; done)))
   | fail
 rw [decide_eq_true hs] at csh
 rw [decide_eq_true ⟨ho, hs⟩, Bool.true_and]
 have cc := Tab.rcheck_con x.rows (by omega)
 cases htb : Tab.tabR x.rows
 all_goals rw [htb] at cc
 ·rw [Bool.false_and, Bool.and_false, Bool.and_false]
  repeat' ((conv => whnf); first
   | with_reducible first | refine spB_t ?_
   | ((with_reducible apply spB_cong); (focus (simp only [splQ, Int.reduceBEq, Int.reduceBNe]; rfl)))
   | with_reducible first | refine spB_no (by decide) ?_
   | (with_reducible refine spB_dec ?_ ?_ <;> intro _ <;> (try (exfalso; (first | omega))))
   | with_reducible first | refine Z.callZ_in tabOk 18 Try.f33 _ Try.func33 (by kernel_rfl) rfl rfl rfl ?_
   | ((first | (with_reducible refine Z.callZ_mk ?_ (cc) ?_) | (with_reducible refine Z.callZ_mk ?_ (csh) ?_)); (focus ((repeat' (first | exact trivial | exact rfl | apply And.intro)); done)))
   | ((with_reducible apply ex_and); exact rfl)
   | fail)
  all_goals (try (conv => whnf))
  all_goals try first | (show Nat.ble _ _ = true; rfl) | (exfalso; rename_i hz; cases hz; done) | (exfalso; (try simp only [LN] at *) <;> omega)
  all_goals first
   | ((first | (with_reducible apply Z.retF1)); (focus rfl); (repeat' (first | exact trivial | (with_reducible apply Z.frz_one) | (with_reducible apply Z.fq_bool) | exact rfl | apply And.intro)); (all_goals (try exact (fun _ => none))); all_goals (first | (simp; done)))
   | fail
 rw [Bool.true_and]
 have cn := rnamesok_con x.txs ht
 cases hnm : namesR x.txs
 all_goals rw [hnm] at cn
 ·rw [Bool.false_and, Bool.and_false]
  repeat' ((conv => whnf); first
   | with_reducible first | refine spB_t ?_
   | ((with_reducible apply spB_cong); (focus (simp only [splQ, Int.reduceBEq, Int.reduceBNe]; rfl)))
   | with_reducible first | refine spB_no (by decide) ?_
   | (with_reducible refine spB_dec ?_ ?_ <;> intro _ <;> (try (exfalso; (first | omega))))
   | with_reducible first | refine Z.callZ_in tabOk 18 Try.f33 _ Try.func33 (by kernel_rfl) rfl rfl rfl ?_
   | ((first | (with_reducible refine Z.callZ_mk ?_ (cc) ?_) | (with_reducible refine Z.callZ_mk ?_ (cn) ?_) | (with_reducible refine Z.callZ_mk ?_ (csh) ?_)); (focus ((repeat' (first | exact trivial | exact rfl | apply And.intro)); done)))
   | ((with_reducible apply ex_and); exact rfl)
   | fail)
  all_goals (try (conv => whnf))
  all_goals try first | (show Nat.ble _ _ = true; rfl) | (exfalso; rename_i hz; cases hz; done) | (exfalso; (try simp only [LN] at *) <;> omega)
  all_goals first
   | ((first | (with_reducible apply Z.retF1)); (focus rfl); (repeat' (first | exact trivial | (with_reducible apply Z.frz_one) | (with_reducible apply Z.fq_bool) | exact rfl | apply And.intro)); (all_goals (try exact (fun _ => none))); all_goals (first | (simp; done)))
   | fail
 rw [Bool.true_and, hrr htb hs]
 repeat' ((conv => whnf); first
  | with_reducible first | refine spB_t ?_
  | ((with_reducible apply spB_cong); (focus (simp only [splQ, Int.reduceBEq, Int.reduceBNe]; rfl)))
  | with_reducible first | refine spB_no (by decide) ?_
  | (with_reducible refine spB_dec ?_ ?_ <;> intro _ <;> (try (exfalso; (first | omega))))
  | with_reducible first | refine Z.callZ_in tabOk 18 Try.f33 _ Try.func33 (by kernel_rfl) rfl rfl rfl ?_
  | ((first | (with_reducible refine Z.callZ_mk ?_ (cc) ?_) | (with_reducible refine Z.callZ_mk ?_ (cn) ?_) | (with_reducible refine Z.callZ_mk ?_ (csh) ?_)); (focus ((repeat' (first | exact trivial | exact rfl | apply And.intro)); done)))
  | ((with_reducible apply ex_and); exact rfl)
  | fail)
 all_goals (try (conv => whnf))
 all_goals try first | (show Nat.ble _ _ = true; rfl) | (exfalso; rename_i hz; cases hz; done) | (exfalso; (try simp only [LN] at *) <;> omega)
 refine Z.loopK tabOk (fun zq : Nat => [(31, .val (.int .i64 (zq : Int)))]) (fun zq : Nat => ([] : Z.Kr)) (fun zq => zq ≤ x.rows.length ∧ (∀ y ∈ x.rows.take zq, Tab.ownG (y.key % 8) x.w = x.ix)) (fun zq => x.rows.length - zq) 0 1 [(1, _), (29, _), (30, _)] ⟨rfl, rfl, rfl, trivial⟩ [(0, some _)] ⟨rfl, trivial⟩ ?_ ?_ rfl rfl ⟨Nat.zero_le _, (fun y h => nomatch h)⟩ ?_
 ·repeat' (first | exact trivial | apply And.intro | exact ⟨_, rfl, Z.Imp.refl _⟩)
 ·repeat' (first | exact trivial)
 rintro i HINV
 (try dsimp only at HINV); (try dsimp only)
 obtain ⟨HI, HG⟩ := HINV
 by_cases hi : i < x.rows.length
 ·obtain ⟨y, hy⟩ := getElem?_some' (xs := x.rows) (i := i) hi
  have hym := List.mem_of_getElem? hy
  have hk := Tab.keyOk_iff.1 ((Tab.tab_iff.1 htb).1 y hym).1
  have cg := Tab.rgroup_con y.key
  rw [Int.tmod_eq_emod_of_nonneg (by omega)] at cg
  have cr := rowned_ok (y.key % 8) x.ix x.w (by omega) hs
  by_cases hg : Tab.ownG (y.key % 8) x.w = x.ix
  ·rw [decide_eq_true hg] at cr
   repeat' ((conv => whnf); first
    | ((with_reducible apply spB_cong); (focus (simp only [splQ, Int.reduceBEq, Int.reduceBNe]; rfl)))
    | with_reducible first | refine spB_no (by decide) ?_
    | (with_reducible refine spB_dec ?_ ?_ <;> intro _ <;> (try (exfalso; (first | (simp only [LN] at *; omega)))))
    | with_reducible first | refine Z.rowN_known hy ?_
    | ((with_reducible apply ixN_litp); (focus rfl); (focus ((try simp only [LN] at *) <;> omega)))
    | with_reducible refine wr_i64 (by first | omega | (simp only [LN] at *; omega)) ?_
    | ((first | (with_reducible refine Z.conZ_mz ?_ (cr) ?_) | (with_reducible refine Z.conZ_mz ?_ (cg) ?_)); (focus ((repeat' (first | exact trivial | exact rfl | apply And.intro)); done)))
    | with_reducible first | refine Z.drawZ_rule tabOk mixOk ?_ | refine Z.apZ_mk (by kernel_rfl) ?_
    | fail)
   all_goals (try (conv => whnf))
   all_goals try first | (show Nat.ble _ _ = true; rfl) | (exfalso; rename_i hz; cases hz; done) | (exfalso; (try simp only [LN] at *) <;> omega)
   all_goals first
    | ((refine Z.rndK ((i + 1)) (fun s => [0]) rfl rfl rfl rfl ?_ ?_ ?_ ?_); (focus (repeat' (first | exact trivial | exact rfl | apply And.intro))); (focus (repeat' (first | exact trivial | (intro b hb; cases hb; rfl) | apply And.intro))); (focus ((refine ⟨by (try dsimp only); omega, ?_⟩; (try dsimp only); rw [take_snoc hy]; intro z hz; rcases List.mem_append.1 hz with h | h; exact HG z h; rw [List.mem_singleton.1 h]; exact hg))); ((try dsimp only); omega))
    | fail
  ·rw [decide_eq_false hg] at cr
   rw [decide_eq_false (fun h => hg (h y hym)), Bool.and_false]
   repeat' ((conv => whnf); first
    | with_reducible first | refine spB_t ?_
    | ((with_reducible apply spB_cong); (focus (simp only [splQ, Int.reduceBEq, Int.reduceBNe]; rfl)))
    | (with_reducible refine spB_dec ?_ ?_ <;> intro _ <;> (try (exfalso; (first | (simp only [LN] at *; omega)))))
    | with_reducible first | refine Z.rowN_known hy ?_
    | ((with_reducible apply ixN_litp); (focus rfl); (focus ((try simp only [LN] at *) <;> omega)))
    | ((first | (with_reducible refine Z.conZ_mz ?_ (cr) ?_) | (with_reducible refine Z.conZ_mz ?_ (cg) ?_)); (focus ((repeat' (first | exact trivial | exact rfl | apply And.intro)); done)))
    | with_reducible first | refine Z.drawZ_rule tabOk mixOk ?_ | refine Z.apZ_mk (by kernel_rfl) ?_
    | fail)
   all_goals (try (conv => whnf))
   all_goals try first | (show Nat.ble _ _ = true; rfl) | (exfalso; rename_i hz; cases hz; done) | (exfalso; (try simp only [LN] at *) <;> omega)
   all_goals first
    | ((first | (with_reducible apply Z.retF1)); (focus rfl); (repeat' (first | exact trivial | (with_reducible apply Z.frz_one) | (with_reducible apply Z.fq_bool) | exact rfl | apply And.intro)); (all_goals (try exact (fun _ => none))); all_goals (first | (simp; done)))
    | fail
 have hil : i = x.rows.length := by omega
 subst hil
 rw [List.take_length] at HG
 rw [decide_eq_true HG, Bool.and_true]
 clear hrr
 have c0 := rowned_ok 0 x.ix x.w (by omega) hs
 have c1 := rowned_ok 1 x.ix x.w (by omega) hs
 have c2 := rowned_ok 2 x.ix x.w (by omega) hs
 have c3 := rowned_ok 3 x.ix x.w (by omega) hs
 have c4 := rowned_ok 4 x.ix x.w (by omega) hs
 have c5 := rowned_ok 5 x.ix x.w (by omega) hs
 have c6 := rowned_ok 6 x.ix x.w (by omega) hs
 have c7 := rowned_ok 7 x.ix x.w (by omega) hs
 have hoo := offR_is x
 generalize Tab.ownG 0 x.w = e0 at *
 generalize Tab.ownG 1 x.w = e1 at *
 generalize Tab.ownG 2 x.w = e2 at *
 generalize Tab.ownG 3 x.w = e3 at *
 generalize Tab.ownG 4 x.w = e4 at *
 generalize Tab.ownG 5 x.w = e5 at *
 generalize Tab.ownG 6 x.w = e6 at *
 generalize Tab.ownG 7 x.w = e7 at *
 rw [hoo]
 clear hoo
 repeat' ((conv => whnf); first
  | (with_reducible refine spB_dec ?_ ?_ <;> intro _ <;> (try (exfalso; (first | (rename_i hz; simp at hz; done)))))
  | fail)
 all_goals (try (conv => whnf))
 all_goals try first | (show Nat.ble _ _ = true; rfl) | (exfalso; rename_i hz; cases hz; done) | (exfalso; (try simp only [LN] at *) <;> omega)
 refine Z.loopK tabOk (fun zq : Nat => [(47, .val (.int .i64 (zq : Int)))]) (fun zq : Nat => ([] : Z.Kr)) (fun zq => zq ≤ 8 ∧ ∀ k < zq, okO [x.o0, x.o1, x.o2, x.o3, x.o4, x.o5, x.o6, x.o7] [e0, e1, e2, e3, e4, e5, e6, e7] x.ix k) (fun zq => 8 - zq) 0 1 [(1, _), (46, _)] ⟨rfl, rfl, trivial⟩ [(0, some _)] ⟨rfl, trivial⟩ ?_ ?_ rfl rfl ⟨Nat.zero_le _, (fun k hk => absurd hk (Nat.not_lt_zero _))⟩ ?_
 ·repeat' (first | exact trivial | apply And.intro | exact ⟨_, rfl, Z.Imp.refl _⟩)
 ·repeat' (first | exact trivial)
 rintro i HINV
 (try dsimp only at HINV); (try dsimp only)
 obtain ⟨HI, HP⟩ := HINV
 have hc9 : i = 0 ∨ i = 1 ∨ i = 2 ∨ i = 3 ∨ i = 4 ∨ i = 5 ∨ i = 6 ∨ i = 7 ∨ i = 8 := by omega
 rcases hc9 with rfl | rfl | rfl | rfl | rfl | rfl | rfl | rfl | rfl
 ·by_cases hok : (0 ≤ x.o0 ∧ x.o0 ≤ 40) ∧ (x.o0 = 0 ∨ e0 = x.ix)
  ·skip
   repeat' ((conv => whnf); first
    | with_reducible first | refine spB_t ?_
    | with_reducible first | refine spB_yes (by decide) ?_ | refine spB_no (by decide) ?_ | refine spB_not ?_
    | (with_reducible refine spB_dec ?_ ?_ <;> intro _ <;> (try (exfalso; (first | omega))))
    | (with_reducible refine spB_bne ?_ ?_ <;> intro _ <;> (try (exfalso; (first | (simp only [LN] at *; omega)))))
    | ((with_reducible apply ixN_lit); (focus rfl); (focus rfl))
    | with_reducible refine wr_i64 (by first | omega | (simp only [LN] at *; omega)) ?_
    | ((first | (with_reducible refine Z.callZ_mk ?_ (c0) ?_)); (focus ((repeat' (first | exact trivial | exact rfl | apply And.intro)); done)))
    | fail)
   all_goals (try (conv => whnf))
   all_goals try first | (show Nat.ble _ _ = true; rfl) | (exfalso; rename_i hz; cases hz; done) | (exfalso; (try simp only [LN] at *) <;> omega)
   all_goals first
    | ((refine Z.rndK (1) (fun s => [0]) rfl rfl rfl rfl ?_ ?_ ?_ ?_); (focus (repeat' (first | exact trivial | exact rfl | apply And.intro))); (focus (repeat' (first | exact trivial | (intro b hb; cases hb; rfl) | apply And.intro))); (focus ((refine ⟨by (try dsimp only); omega, fun k hk => ?_⟩; (try dsimp only at hk); rcases Nat.lt_succ_iff_lt_or_eq.1 hk with h | h; exact HP k h; subst h; exact hok))); ((try dsimp only); omega))
    | fail
  rw [decide_eq_false (fun h => hok ⟨h.1.1, h.2.1⟩)]
  repeat' ((conv => whnf); first
   | with_reducible first | refine spB_t ?_
   | with_reducible first | refine spB_yes (by decide) ?_ | refine spB_no (by decide) ?_ | refine spB_not ?_
   | (with_reducible refine spB_dec ?_ ?_ <;> intro _ <;> (try (exfalso; (first | omega))))
   | (with_reducible refine spB_bne ?_ ?_ <;> intro _ <;> (try (exfalso; (first | omega))))
   | ((with_reducible apply ixN_lit); (focus rfl); (focus rfl))
   | ((first | (with_reducible refine Z.callZ_mk ?_ (c0) ?_)); (focus ((repeat' (first | exact trivial | exact rfl | apply And.intro)); done)))
   | fail)
  all_goals (try (conv => whnf))
  all_goals try first | (show Nat.ble _ _ = true; rfl) | (exfalso; rename_i hz; cases hz; done) | (exfalso; (try simp only [LN] at *) <;> omega)
  all_goals first
   | ((first | (with_reducible apply Z.retF1)); (focus rfl); (repeat' (first | exact trivial | (with_reducible apply Z.frz_one) | (with_reducible apply Z.fq_bool) | exact rfl | apply And.intro)); (all_goals (try exact (fun _ => none))); all_goals (first | (simp; done)))
   | fail
 ·by_cases hok : (0 ≤ x.o1 ∧ x.o1 ≤ 40) ∧ (x.o1 = 0 ∨ e1 = x.ix)
  ·skip
   repeat' ((conv => whnf); first
    | with_reducible first | refine spB_t ?_
    | with_reducible first | refine spB_yes (by decide) ?_ | refine spB_no (by decide) ?_ | refine spB_not ?_
    | (with_reducible refine spB_dec ?_ ?_ <;> intro _ <;> (try (exfalso; (first | omega))))
    | (with_reducible refine spB_bne ?_ ?_ <;> intro _ <;> (try (exfalso; (first | (simp only [LN] at *; omega)))))
    | ((with_reducible apply ixN_lit); (focus rfl); (focus rfl))
    | with_reducible refine wr_i64 (by first | omega | (simp only [LN] at *; omega)) ?_
    | ((first | (with_reducible refine Z.callZ_mk ?_ (c1) ?_)); (focus ((repeat' (first | exact trivial | exact rfl | apply And.intro)); done)))
    | fail)
   all_goals (try (conv => whnf))
   all_goals try first | (show Nat.ble _ _ = true; rfl) | (exfalso; rename_i hz; cases hz; done) | (exfalso; (try simp only [LN] at *) <;> omega)
   all_goals first
    | ((refine Z.rndK (2) (fun s => [0]) rfl rfl rfl rfl ?_ ?_ ?_ ?_); (focus (repeat' (first | exact trivial | exact rfl | apply And.intro))); (focus (repeat' (first | exact trivial | (intro b hb; cases hb; rfl) | apply And.intro))); (focus ((refine ⟨by (try dsimp only); omega, fun k hk => ?_⟩; (try dsimp only at hk); rcases Nat.lt_succ_iff_lt_or_eq.1 hk with h | h; exact HP k h; subst h; exact hok))); ((try dsimp only); omega))
    | fail
  rw [decide_eq_false (fun h => hok ⟨h.1.2.1, h.2.2.1⟩)]
  repeat' ((conv => whnf); first
   | with_reducible first | refine spB_t ?_
   | with_reducible first | refine spB_yes (by decide) ?_ | refine spB_no (by decide) ?_ | refine spB_not ?_
   | (with_reducible refine spB_dec ?_ ?_ <;> intro _ <;> (try (exfalso; (first | omega))))
   | (with_reducible refine spB_bne ?_ ?_ <;> intro _ <;> (try (exfalso; (first | omega))))
   | ((with_reducible apply ixN_lit); (focus rfl); (focus rfl))
   | ((first | (with_reducible refine Z.callZ_mk ?_ (c1) ?_)); (focus ((repeat' (first | exact trivial | exact rfl | apply And.intro)); done)))
   | fail)
  all_goals (try (conv => whnf))
  all_goals try first | (show Nat.ble _ _ = true; rfl) | (exfalso; rename_i hz; cases hz; done) | (exfalso; (try simp only [LN] at *) <;> omega)
  all_goals first
   | ((first | (with_reducible apply Z.retF1)); (focus rfl); (repeat' (first | exact trivial | (with_reducible apply Z.frz_one) | (with_reducible apply Z.fq_bool) | exact rfl | apply And.intro)); (all_goals (try exact (fun _ => none))); all_goals (first | (simp; done)))
   | fail
 ·by_cases hok : (0 ≤ x.o2 ∧ x.o2 ≤ 40) ∧ (x.o2 = 0 ∨ e2 = x.ix)
  ·skip
   repeat' ((conv => whnf); first
    | with_reducible first | refine spB_t ?_
    | with_reducible first | refine spB_yes (by decide) ?_ | refine spB_no (by decide) ?_ | refine spB_not ?_
    | (with_reducible refine spB_dec ?_ ?_ <;> intro _ <;> (try (exfalso; (first | omega))))
    | (with_reducible refine spB_bne ?_ ?_ <;> intro _ <;> (try (exfalso; (first | (simp only [LN] at *; omega)))))
    | ((with_reducible apply ixN_lit); (focus rfl); (focus rfl))
    | with_reducible refine wr_i64 (by first | omega | (simp only [LN] at *; omega)) ?_
    | ((first | (with_reducible refine Z.callZ_mk ?_ (c2) ?_)); (focus ((repeat' (first | exact trivial | exact rfl | apply And.intro)); done)))
    | fail)
   all_goals (try (conv => whnf))
   all_goals try first | (show Nat.ble _ _ = true; rfl) | (exfalso; rename_i hz; cases hz; done) | (exfalso; (try simp only [LN] at *) <;> omega)
   all_goals first
    | ((refine Z.rndK (3) (fun s => [0]) rfl rfl rfl rfl ?_ ?_ ?_ ?_); (focus (repeat' (first | exact trivial | exact rfl | apply And.intro))); (focus (repeat' (first | exact trivial | (intro b hb; cases hb; rfl) | apply And.intro))); (focus ((refine ⟨by (try dsimp only); omega, fun k hk => ?_⟩; (try dsimp only at hk); rcases Nat.lt_succ_iff_lt_or_eq.1 hk with h | h; exact HP k h; subst h; exact hok))); ((try dsimp only); omega))
    | fail
  rw [decide_eq_false (fun h => hok ⟨h.1.2.2.1, h.2.2.2.1⟩)]
  repeat' ((conv => whnf); first
   | with_reducible first | refine spB_t ?_
   | with_reducible first | refine spB_yes (by decide) ?_ | refine spB_no (by decide) ?_ | refine spB_not ?_
   | (with_reducible refine spB_dec ?_ ?_ <;> intro _ <;> (try (exfalso; (first | omega))))
   | (with_reducible refine spB_bne ?_ ?_ <;> intro _ <;> (try (exfalso; (first | omega))))
   | ((with_reducible apply ixN_lit); (focus rfl); (focus rfl))
   | ((first | (with_reducible refine Z.callZ_mk ?_ (c2) ?_)); (focus ((repeat' (first | exact trivial | exact rfl | apply And.intro)); done)))
   | fail)
  all_goals (try (conv => whnf))
  all_goals try first | (show Nat.ble _ _ = true; rfl) | (exfalso; rename_i hz; cases hz; done) | (exfalso; (try simp only [LN] at *) <;> omega)
  all_goals first
   | ((first | (with_reducible apply Z.retF1)); (focus rfl); (repeat' (first | exact trivial | (with_reducible apply Z.frz_one) | (with_reducible apply Z.fq_bool) | exact rfl | apply And.intro)); (all_goals (try exact (fun _ => none))); all_goals (first | (simp; done)))
   | fail
 ·by_cases hok : (0 ≤ x.o3 ∧ x.o3 ≤ 40) ∧ (x.o3 = 0 ∨ e3 = x.ix)
  ·skip
   repeat' ((conv => whnf); first
    | with_reducible first | refine spB_t ?_
    | with_reducible first | refine spB_yes (by decide) ?_ | refine spB_no (by decide) ?_ | refine spB_not ?_
    | (with_reducible refine spB_dec ?_ ?_ <;> intro _ <;> (try (exfalso; (first | omega))))
    | (with_reducible refine spB_bne ?_ ?_ <;> intro _ <;> (try (exfalso; (first | (simp only [LN] at *; omega)))))
    | ((with_reducible apply ixN_lit); (focus rfl); (focus rfl))
    | with_reducible refine wr_i64 (by first | omega | (simp only [LN] at *; omega)) ?_
    | ((first | (with_reducible refine Z.callZ_mk ?_ (c3) ?_)); (focus ((repeat' (first | exact trivial | exact rfl | apply And.intro)); done)))
    | fail)
   all_goals (try (conv => whnf))
   all_goals try first | (show Nat.ble _ _ = true; rfl) | (exfalso; rename_i hz; cases hz; done) | (exfalso; (try simp only [LN] at *) <;> omega)
   all_goals first
    | ((refine Z.rndK (4) (fun s => [0]) rfl rfl rfl rfl ?_ ?_ ?_ ?_); (focus (repeat' (first | exact trivial | exact rfl | apply And.intro))); (focus (repeat' (first | exact trivial | (intro b hb; cases hb; rfl) | apply And.intro))); (focus ((refine ⟨by (try dsimp only); omega, fun k hk => ?_⟩; (try dsimp only at hk); rcases Nat.lt_succ_iff_lt_or_eq.1 hk with h | h; exact HP k h; subst h; exact hok))); ((try dsimp only); omega))
    | fail
  rw [decide_eq_false (fun h => hok ⟨h.1.2.2.2.1, h.2.2.2.2.1⟩)]
  repeat' ((conv => whnf); first
   | with_reducible first | refine spB_t ?_
   | with_reducible first | refine spB_yes (by decide) ?_ | refine spB_no (by decide) ?_ | refine spB_not ?_
   | (with_reducible refine spB_dec ?_ ?_ <;> intro _ <;> (try (exfalso; (first | omega))))
   | (with_reducible refine spB_bne ?_ ?_ <;> intro _ <;> (try (exfalso; (first | omega))))
   | ((with_reducible apply ixN_lit); (focus rfl); (focus rfl))
   | ((first | (with_reducible refine Z.callZ_mk ?_ (c3) ?_)); (focus ((repeat' (first | exact trivial | exact rfl | apply And.intro)); done)))
   | fail)
  all_goals (try (conv => whnf))
  all_goals try first | (show Nat.ble _ _ = true; rfl) | (exfalso; rename_i hz; cases hz; done) | (exfalso; (try simp only [LN] at *) <;> omega)
  all_goals first
   | ((first | (with_reducible apply Z.retF1)); (focus rfl); (repeat' (first | exact trivial | (with_reducible apply Z.frz_one) | (with_reducible apply Z.fq_bool) | exact rfl | apply And.intro)); (all_goals (try exact (fun _ => none))); all_goals (first | (simp; done)))
   | fail
 ·by_cases hok : (0 ≤ x.o4 ∧ x.o4 ≤ 40) ∧ (x.o4 = 0 ∨ e4 = x.ix)
  ·skip
   repeat' ((conv => whnf); first
    | with_reducible first | refine spB_t ?_
    | with_reducible first | refine spB_yes (by decide) ?_ | refine spB_no (by decide) ?_ | refine spB_not ?_
    | (with_reducible refine spB_dec ?_ ?_ <;> intro _ <;> (try (exfalso; (first | omega))))
    | (with_reducible refine spB_bne ?_ ?_ <;> intro _ <;> (try (exfalso; (first | (simp only [LN] at *; omega)))))
    | ((with_reducible apply ixN_lit); (focus rfl); (focus rfl))
    | with_reducible refine wr_i64 (by first | omega | (simp only [LN] at *; omega)) ?_
    | ((first | (with_reducible refine Z.callZ_mk ?_ (c4) ?_)); (focus ((repeat' (first | exact trivial | exact rfl | apply And.intro)); done)))
    | fail)
   all_goals (try (conv => whnf))
   all_goals try first | (show Nat.ble _ _ = true; rfl) | (exfalso; rename_i hz; cases hz; done) | (exfalso; (try simp only [LN] at *) <;> omega)
   all_goals first
    | ((refine Z.rndK (5) (fun s => [0]) rfl rfl rfl rfl ?_ ?_ ?_ ?_); (focus (repeat' (first | exact trivial | exact rfl | apply And.intro))); (focus (repeat' (first | exact trivial | (intro b hb; cases hb; rfl) | apply And.intro))); (focus ((refine ⟨by (try dsimp only); omega, fun k hk => ?_⟩; (try dsimp only at hk); rcases Nat.lt_succ_iff_lt_or_eq.1 hk with h | h; exact HP k h; subst h; exact hok))); ((try dsimp only); omega))
    | fail
  rw [decide_eq_false (fun h => hok ⟨h.1.2.2.2.2.1, h.2.2.2.2.2.1⟩)]
  repeat' ((conv => whnf); first
   | with_reducible first | refine spB_t ?_
   | with_reducible first | refine spB_yes (by decide) ?_ | refine spB_no (by decide) ?_ | refine spB_not ?_
   | (with_reducible refine spB_dec ?_ ?_ <;> intro _ <;> (try (exfalso; (first | omega))))
   | (with_reducible refine spB_bne ?_ ?_ <;> intro _ <;> (try (exfalso; (first | omega))))
   | ((with_reducible apply ixN_lit); (focus rfl); (focus rfl))
   | ((first | (with_reducible refine Z.callZ_mk ?_ (c4) ?_)); (focus ((repeat' (first | exact trivial | exact rfl | apply And.intro)); done)))
   | fail)
  all_goals (try (conv => whnf))
  all_goals try first | (show Nat.ble _ _ = true; rfl) | (exfalso; rename_i hz; cases hz; done) | (exfalso; (try simp only [LN] at *) <;> omega)
  all_goals first
   | ((first | (with_reducible apply Z.retF1)); (focus rfl); (repeat' (first | exact trivial | (with_reducible apply Z.frz_one) | (with_reducible apply Z.fq_bool) | exact rfl | apply And.intro)); (all_goals (try exact (fun _ => none))); all_goals (first | (simp; done)))
   | fail
 ·by_cases hok : (0 ≤ x.o5 ∧ x.o5 ≤ 40) ∧ (x.o5 = 0 ∨ e5 = x.ix)
  ·skip
   repeat' ((conv => whnf); first
    | with_reducible first | refine spB_t ?_
    | with_reducible first | refine spB_yes (by decide) ?_ | refine spB_no (by decide) ?_ | refine spB_not ?_
    | (with_reducible refine spB_dec ?_ ?_ <;> intro _ <;> (try (exfalso; (first | omega))))
    | (with_reducible refine spB_bne ?_ ?_ <;> intro _ <;> (try (exfalso; (first | (simp only [LN] at *; omega)))))
    | ((with_reducible apply ixN_lit); (focus rfl); (focus rfl))
    | with_reducible refine wr_i64 (by first | omega | (simp only [LN] at *; omega)) ?_
    | ((first | (with_reducible refine Z.callZ_mk ?_ (c5) ?_)); (focus ((repeat' (first | exact trivial | exact rfl | apply And.intro)); done)))
    | fail)
   all_goals (try (conv => whnf))
   all_goals try first | (show Nat.ble _ _ = true; rfl) | (exfalso; rename_i hz; cases hz; done) | (exfalso; (try simp only [LN] at *) <;> omega)
   all_goals first
    | ((refine Z.rndK (6) (fun s => [0]) rfl rfl rfl rfl ?_ ?_ ?_ ?_); (focus (repeat' (first | exact trivial | exact rfl | apply And.intro))); (focus (repeat' (first | exact trivial | (intro b hb; cases hb; rfl) | apply And.intro))); (focus ((refine ⟨by (try dsimp only); omega, fun k hk => ?_⟩; (try dsimp only at hk); rcases Nat.lt_succ_iff_lt_or_eq.1 hk with h | h; exact HP k h; subst h; exact hok))); ((try dsimp only); omega))
    | fail
  rw [decide_eq_false (fun h => hok ⟨h.1.2.2.2.2.2.1, h.2.2.2.2.2.2.1⟩)]
  repeat' ((conv => whnf); first
   | with_reducible first | refine spB_t ?_
   | with_reducible first | refine spB_yes (by decide) ?_ | refine spB_no (by decide) ?_ | refine spB_not ?_
   | (with_reducible refine spB_dec ?_ ?_ <;> intro _ <;> (try (exfalso; (first | omega))))
   | (with_reducible refine spB_bne ?_ ?_ <;> intro _ <;> (try (exfalso; (first | omega))))
   | ((with_reducible apply ixN_lit); (focus rfl); (focus rfl))
   | ((first | (with_reducible refine Z.callZ_mk ?_ (c5) ?_)); (focus ((repeat' (first | exact trivial | exact rfl | apply And.intro)); done)))
   | fail)
  all_goals (try (conv => whnf))
  all_goals try first | (show Nat.ble _ _ = true; rfl) | (exfalso; rename_i hz; cases hz; done) | (exfalso; (try simp only [LN] at *) <;> omega)
  all_goals first
   | ((first | (with_reducible apply Z.retF1)); (focus rfl); (repeat' (first | exact trivial | (with_reducible apply Z.frz_one) | (with_reducible apply Z.fq_bool) | exact rfl | apply And.intro)); (all_goals (try exact (fun _ => none))); all_goals (first | (simp; done)))
   | fail
 ·by_cases hok : (0 ≤ x.o6 ∧ x.o6 ≤ 40) ∧ (x.o6 = 0 ∨ e6 = x.ix)
  ·skip
   repeat' ((conv => whnf); first
    | with_reducible first | refine spB_t ?_
    | with_reducible first | refine spB_yes (by decide) ?_ | refine spB_no (by decide) ?_ | refine spB_not ?_
    | (with_reducible refine spB_dec ?_ ?_ <;> intro _ <;> (try (exfalso; (first | omega))))
    | (with_reducible refine spB_bne ?_ ?_ <;> intro _ <;> (try (exfalso; (first | (simp only [LN] at *; omega)))))
    | ((with_reducible apply ixN_lit); (focus rfl); (focus rfl))
    | with_reducible refine wr_i64 (by first | omega | (simp only [LN] at *; omega)) ?_
    | ((first | (with_reducible refine Z.callZ_mk ?_ (c6) ?_)); (focus ((repeat' (first | exact trivial | exact rfl | apply And.intro)); done)))
    | fail)
   all_goals (try (conv => whnf))
   all_goals try first | (show Nat.ble _ _ = true; rfl) | (exfalso; rename_i hz; cases hz; done) | (exfalso; (try simp only [LN] at *) <;> omega)
   all_goals first
    | ((refine Z.rndK (7) (fun s => [0]) rfl rfl rfl rfl ?_ ?_ ?_ ?_); (focus (repeat' (first | exact trivial | exact rfl | apply And.intro))); (focus (repeat' (first | exact trivial | (intro b hb; cases hb; rfl) | apply And.intro))); (focus ((refine ⟨by (try dsimp only); omega, fun k hk => ?_⟩; (try dsimp only at hk); rcases Nat.lt_succ_iff_lt_or_eq.1 hk with h | h; exact HP k h; subst h; exact hok))); ((try dsimp only); omega))
    | fail
  rw [decide_eq_false (fun h => hok ⟨h.1.2.2.2.2.2.2.1, h.2.2.2.2.2.2.2.1⟩)]
  repeat' ((conv => whnf); first
   | with_reducible first | refine spB_t ?_
   | with_reducible first | refine spB_yes (by decide) ?_ | refine spB_no (by decide) ?_ | refine spB_not ?_
   | (with_reducible refine spB_dec ?_ ?_ <;> intro _ <;> (try (exfalso; (first | omega))))
   | (with_reducible refine spB_bne ?_ ?_ <;> intro _ <;> (try (exfalso; (first | omega))))
   | ((with_reducible apply ixN_lit); (focus rfl); (focus rfl))
   | ((first | (with_reducible refine Z.callZ_mk ?_ (c6) ?_)); (focus ((repeat' (first | exact trivial | exact rfl | apply And.intro)); done)))
   | fail)
  all_goals (try (conv => whnf))
  all_goals try first | (show Nat.ble _ _ = true; rfl) | (exfalso; rename_i hz; cases hz; done) | (exfalso; (try simp only [LN] at *) <;> omega)
  all_goals first
   | ((first | (with_reducible apply Z.retF1)); (focus rfl); (repeat' (first | exact trivial | (with_reducible apply Z.frz_one) | (with_reducible apply Z.fq_bool) | exact rfl | apply And.intro)); (all_goals (try exact (fun _ => none))); all_goals (first | (simp; done)))
   | fail
 ·by_cases hok : (0 ≤ x.o7 ∧ x.o7 ≤ 40) ∧ (x.o7 = 0 ∨ e7 = x.ix)
  ·skip
   repeat' ((conv => whnf); first
    | with_reducible first | refine spB_t ?_
    | with_reducible first | refine spB_yes (by decide) ?_ | refine spB_no (by decide) ?_ | refine spB_not ?_
    | (with_reducible refine spB_dec ?_ ?_ <;> intro _ <;> (try (exfalso; (first | omega))))
    | (with_reducible refine spB_bne ?_ ?_ <;> intro _ <;> (try (exfalso; (first | (simp only [LN] at *; omega)))))
    | ((with_reducible apply ixN_lit); (focus rfl); (focus rfl))
    | with_reducible refine wr_i64 (by first | omega | (simp only [LN] at *; omega)) ?_
    | ((first | (with_reducible refine Z.callZ_mk ?_ (c7) ?_)); (focus ((repeat' (first | exact trivial | exact rfl | apply And.intro)); done)))
    | fail)
   all_goals (try (conv => whnf))
   all_goals try first | (show Nat.ble _ _ = true; rfl) | (exfalso; rename_i hz; cases hz; done) | (exfalso; (try simp only [LN] at *) <;> omega)
   all_goals first
    | ((refine Z.rndK (8) (fun s => [0]) rfl rfl rfl rfl ?_ ?_ ?_ ?_); (focus (repeat' (first | exact trivial | exact rfl | apply And.intro))); (focus (repeat' (first | exact trivial | (intro b hb; cases hb; rfl) | apply And.intro))); (focus ((refine ⟨by (try dsimp only); omega, fun k hk => ?_⟩; (try dsimp only at hk); rcases Nat.lt_succ_iff_lt_or_eq.1 hk with h | h; exact HP k h; subst h; exact hok))); ((try dsimp only); omega))
    | fail
  rw [decide_eq_false (fun h => hok ⟨h.1.2.2.2.2.2.2.2, h.2.2.2.2.2.2.2.2⟩)]
  repeat' ((conv => whnf); first
   | with_reducible first | refine spB_t ?_
   | with_reducible first | refine spB_yes (by decide) ?_ | refine spB_no (by decide) ?_ | refine spB_not ?_
   | (with_reducible refine spB_dec ?_ ?_ <;> intro _ <;> (try (exfalso; (first | omega))))
   | (with_reducible refine spB_bne ?_ ?_ <;> intro _ <;> (try (exfalso; (first | omega))))
   | ((with_reducible apply ixN_lit); (focus rfl); (focus rfl))
   | ((first | (with_reducible refine Z.callZ_mk ?_ (c7) ?_)); (focus ((repeat' (first | exact trivial | exact rfl | apply And.intro)); done)))
   | fail)
  all_goals (try (conv => whnf))
  all_goals try first | (show Nat.ble _ _ = true; rfl) | (exfalso; rename_i hz; cases hz; done) | (exfalso; (try simp only [LN] at *) <;> omega)
  all_goals first
   | ((first | (with_reducible apply Z.retF1)); (focus rfl); (repeat' (first | exact trivial | (with_reducible apply Z.frz_one) | (with_reducible apply Z.fq_bool) | exact rfl | apply And.intro)); (all_goals (try exact (fun _ => none))); all_goals (first | (simp; done)))
   | fail
 rw [decide_eq_true ⟨⟨(HP 0 (by decide)).1, (HP 1 (by decide)).1, (HP 2 (by decide)).1, (HP 3 (by decide)).1, (HP 4 (by decide)).1, (HP 5 (by decide)).1, (HP 6 (by decide)).1, (HP 7 (by decide)).1⟩, ⟨(HP 0 (by decide)).2, (HP 1 (by decide)).2, (HP 2 (by decide)).2, (HP 3 (by decide)).2, (HP 4 (by decide)).2, (HP 5 (by decide)).2, (HP 6 (by decide)).2, (HP 7 (by decide)).2⟩⟩]
 repeat' ((conv => whnf); first
  | with_reducible first | refine spB_no (by decide) ?_
  | fail)
 all_goals (try (conv => whnf))
 all_goals try first | (show Nat.ble _ _ = true; rfl) | (exfalso; rename_i hz; cases hz; done) | (exfalso; (try simp only [LN] at *) <;> omega)
 all_goals first
  | ((first | (with_reducible apply Z.retF1)); (focus rfl); (repeat' (first | exact trivial | (with_reducible apply Z.frz_one) | (with_reducible apply Z.fq_bool) | exact rfl | apply And.intro)); (all_goals (try exact (fun _ => none))); all_goals (first | (simp; done)))
  | fail
end Go.Proofs.Ytopieffkpdlpbaa
namespace Go.Proofs.Ytopieffkpdlpbaa
open Go Go.RowKit Wx
set_option maxHeartbeats 4000000
def sumO (f : Sn → Int) (l : List Sn) : Int := (l.map f).sum
theorem sumO_at {f : Sn → Int} {l : List Sn} {k : Nat} {x : Sn} (h : l[k]? = some x) : sumO f (l.take (k + 1)) = sumO f (l.take k) + f x := by
 unfold sumO; rw [take_snoc h, List.map_append, List.sum_append]; simp
theorem sumO_rng {f : Sn → Int} : ∀ {l : List Sn}, (∀ x ∈ l, 0 ≤ f x ∧ f x ≤ 40) → 0 ≤ sumO f l ∧ sumO f l ≤ 40 * (l.length : Int)
 | [], _ => by simp [sumO]
 | x :: l, h => by
  have h1 := h x (by simp)
  have h2 := sumO_rng (l := l) fun y hy => h y (by simp [hy])
  unfold sumO at *
  rw [List.map_cons, List.sum_cons, List.length_cons]
  omega
def pw (l : List Sn) (k : Nat) : Sn := ⟨(l.headD zeroS).op, 0, 1, ((l.take k).foldl (fun e s => e && s.en) true), gath ((l.take k).map (·.rows)), sumO (·.o0) (l.take k), sumO (·.o1) (l.take k), sumO (·.o2) (l.take k), sumO (·.o3) (l.take k), sumO (·.o4) (l.take k), sumO (·.o5) (l.take k), sumO (·.o6) (l.take k), sumO (·.o7) (l.take k), ((l.take k).map (·.txs)).flatten⟩
theorem pw_at {l : List Sn} {k : Nat} {x : Sn} (h : l[k]? = some x) : pw l (k + 1) = ⟨(l.headD zeroS).op, 0, 1, (pw l k).en && x.en, (Tab.joinT (pw l k).rows x.rows).1, (pw l k).o0 + x.o0, (pw l k).o1 + x.o1, (pw l k).o2 + x.o2, (pw l k).o3 + x.o3, (pw l k).o4 + x.o4, (pw l k).o5 + x.o5, (pw l k).o6 + x.o6, (pw l k).o7 + x.o7, (pw l k).txs ++ x.txs⟩ := by
 have hr : (l.map (·.rows))[k]? = some x.rows := by rw [List.getElem?_map, h]; rfl
 have hn : (l.map (·.txs))[k]? = some x.txs := by rw [List.getElem?_map, h]; rfl
 have h1 := gath_at hr
 have h2 := fl_snoc hn
 unfold pw
 simp only [List.map_take] at *
 rw [h1, h2, sumO_at (f := (·.o0)) h, sumO_at (f := (·.o1)) h, sumO_at (f := (·.o2)) h, sumO_at (f := (·.o3)) h, sumO_at (f := (·.o4)) h, sumO_at (f := (·.o5)) h, sumO_at (f := (·.o6)) h, sumO_at (f := (·.o7)) h, take_snoc h, List.foldl_append]
 rfl
theorem snapR_rng {x : Sn} (h : snapR x = true) : ((0 ≤ x.o0 ∧ x.o0 ≤ 40) ∧ (0 ≤ x.o1 ∧ x.o1 ≤ 40) ∧ (0 ≤ x.o2 ∧ x.o2 ≤ 40) ∧ (0 ≤ x.o3 ∧ x.o3 ≤ 40) ∧ (0 ≤ x.o4 ∧ x.o4 ≤ 40) ∧ (0 ≤ x.o5 ∧ x.o5 ≤ 40) ∧ (0 ≤ x.o6 ∧ x.o6 ≤ 40) ∧ (0 ≤ x.o7 ∧ x.o7 ≤ 40)) ∧ (x.o0 = 0 ∨ Tab.ownG 0 x.w = x.ix) ∧ (x.o1 = 0 ∨ Tab.ownG 1 x.w = x.ix) ∧ (x.o2 = 0 ∨ Tab.ownG 2 x.w = x.ix) ∧ (x.o3 = 0 ∨ Tab.ownG 3 x.w = x.ix) ∧ (x.o4 = 0 ∨ Tab.ownG 4 x.w = x.ix) ∧ (x.o5 = 0 ∨ Tab.ownG 5 x.w = x.ix) ∧ (x.o6 = 0 ∨ Tab.ownG 6 x.w = x.ix) ∧ (x.o7 = 0 ∨ Tab.ownG 7 x.w = x.ix) := by
 unfold snapR at h
 simp only [Bool.and_eq_true] at h
 have h2 := h.2.1
 rw [offR_is] at h2
 exact of_decide_eq_true h2
theorem flat_txs : ∀ {l : List Sn}, (∀ x ∈ l, x.txs.length ≤ 1000) → (l.map (·.txs)).flatten.length ≤ 1000 * l.length
 | [], _ => by simp
 | x :: l, h => by
  have h1 := h x (by simp)
  have h2 := flat_txs (l := l) fun y hy => h y (by simp [hy])
  rw [List.map_cons, List.flatten_cons, List.length_append, List.length_cons]
  omega
theorem pw_rng {l : List Sn} {k : Nat} (hk : k ≤ l.length) (hl : l.length ≤ 1000) (hA : ∀ x ∈ l, x.rows.length ≤ 1000 ∧ x.txs.length ≤ 1000) (h1 : ∀ x ∈ l, snapR x = true) : ((0 ≤ (pw l k).o0 ∧ (pw l k).o0 ≤ 40000) ∧ (0 ≤ (pw l k).o1 ∧ (pw l k).o1 ≤ 40000) ∧ (0 ≤ (pw l k).o2 ∧ (pw l k).o2 ≤ 40000) ∧ (0 ≤ (pw l k).o3 ∧ (pw l k).o3 ≤ 40000) ∧ (0 ≤ (pw l k).o4 ∧ (pw l k).o4 ≤ 40000) ∧ (0 ≤ (pw l k).o5 ∧ (pw l k).o5 ≤ 40000) ∧ (0 ≤ (pw l k).o6 ∧ (pw l k).o6 ≤ 40000) ∧ (0 ≤ (pw l k).o7 ∧ (pw l k).o7 ≤ 40000)) ∧ (pw l k).rows.length ≤ 256 ∧ (pw l k).txs.length ≤ 1000000 := by
 have hm : ∀ x ∈ l.take k, x ∈ l := fun x hx => List.mem_of_mem_take hx
 have hlk : (l.take k).length ≤ 1000 := by rw [List.length_take]; omega
 have hf := flat_txs (l := l.take k) fun x hx => (hA x (hm x hx)).2
 refine ⟨⟨?_, ?_, ?_, ?_, ?_, ?_, ?_, ?_⟩, gath_len _, by show ((l.take k).map (·.txs)).flatten.length ≤ _; omega⟩
 ·have := sumO_rng (f := (·.o0)) (l := l.take k) fun x hx => (snapR_rng (h1 x (hm x hx))).1.1
  show 0 ≤ sumO (·.o0) (l.take k) ∧ sumO (·.o0) (l.take k) ≤ 40000
  omega
 ·have := sumO_rng (f := (·.o1)) (l := l.take k) fun x hx => (snapR_rng (h1 x (hm x hx))).1.2.1
  show 0 ≤ sumO (·.o1) (l.take k) ∧ sumO (·.o1) (l.take k) ≤ 40000
  omega
 ·have := sumO_rng (f := (·.o2)) (l := l.take k) fun x hx => (snapR_rng (h1 x (hm x hx))).1.2.2.1
  show 0 ≤ sumO (·.o2) (l.take k) ∧ sumO (·.o2) (l.take k) ≤ 40000
  omega
 ·have := sumO_rng (f := (·.o3)) (l := l.take k) fun x hx => (snapR_rng (h1 x (hm x hx))).1.2.2.2.1
  show 0 ≤ sumO (·.o3) (l.take k) ∧ sumO (·.o3) (l.take k) ≤ 40000
  omega
 ·have := sumO_rng (f := (·.o4)) (l := l.take k) fun x hx => (snapR_rng (h1 x (hm x hx))).1.2.2.2.2.1
  show 0 ≤ sumO (·.o4) (l.take k) ∧ sumO (·.o4) (l.take k) ≤ 40000
  omega
 ·have := sumO_rng (f := (·.o5)) (l := l.take k) fun x hx => (snapR_rng (h1 x (hm x hx))).1.2.2.2.2.2.1
  show 0 ≤ sumO (·.o5) (l.take k) ∧ sumO (·.o5) (l.take k) ≤ 40000
  omega
 ·have := sumO_rng (f := (·.o6)) (l := l.take k) fun x hx => (snapR_rng (h1 x (hm x hx))).1.2.2.2.2.2.2.1
  show 0 ≤ sumO (·.o6) (l.take k) ∧ sumO (·.o6) (l.take k) ≤ 40000
  omega
 ·have := sumO_rng (f := (·.o7)) (l := l.take k) fun x hx => (snapR_rng (h1 x (hm x hx))).1.2.2.2.2.2.2.2
  show 0 ≤ sumO (·.o7) (l.take k) ∧ sumO (·.o7) (l.take k) ≤ 40000
  omega
theorem pw_all {l : List Sn} (h1 : ∀ x ∈ l, snapR x = true) (hf : fitW l = true) : pw l l.length = wholeS l := by
 rcases fit_len h1 hf with ⟨a, rfl⟩ | ⟨a, b, rfl⟩ | ⟨a, b, c, rfl⟩
 ·rw [fit_1] at hf
  have hf := of_decide_eq_true hf
  have ra := (snapR_rng (h1 a (by simp))).2
  rw [(hf).1, (hf).2] at ra
  simp [Tab.ownG] at ra
  rw [wholeS_1]
  unfold pw
  simp only [List.take_length, sumO]
  simp only [List.map_cons, List.map_nil, List.sum_cons, List.sum_nil, List.foldl_cons, List.foldl_nil, List.headD_cons, Bool.true_and]
  congr 1 <;> (try omega)
 ·rw [fit_2] at hf
  have hf := of_decide_eq_true hf
  have ra := (snapR_rng (h1 a (by simp))).2
  rw [(hf.1).1, (hf.1).2] at ra
  simp [Tab.ownG] at ra
  have rb := (snapR_rng (h1 b (by simp))).2
  rw [(hf.2.2).1, (hf.2.2).2] at rb
  simp [Tab.ownG] at rb
  rw [wholeS_2]
  unfold pw
  simp only [List.take_length, sumO]
  simp only [List.map_cons, List.map_nil, List.sum_cons, List.sum_nil, List.foldl_cons, List.foldl_nil, List.headD_cons, Bool.true_and]
  congr 1 <;> (try omega)
 ·rw [fit_3] at hf
  have hf := of_decide_eq_true hf
  have ra := (snapR_rng (h1 a (by simp))).2
  rw [(hf.1).1, (hf.1).2] at ra
  simp [Tab.ownG] at ra
  have rb := (snapR_rng (h1 b (by simp))).2
  rw [(hf.2.1.2).1, (hf.2.1.2).2] at rb
  simp [Tab.ownG] at rb
  have rc := (snapR_rng (h1 c (by simp))).2
  rw [(hf.2.2.2).1, (hf.2.2.2).2] at rc
  simp [Tab.ownG] at rc
  rw [wholeS_3]
  unfold pw
  simp only [List.take_length, sumO]
  simp only [List.map_cons, List.map_nil, List.sum_cons, List.sum_nil, List.foldl_cons, List.foldl_nil, List.headD_cons, Bool.true_and]
  congr 1 <;> (try omega)
end Go.Proofs.Ytopieffkpdlpbaa
