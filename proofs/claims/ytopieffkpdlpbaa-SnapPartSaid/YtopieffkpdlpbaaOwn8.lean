import Derived.Test.YtopieffkpdlpbaaOwn7
import Derived.Test.YtopieffkpdlpbaaOwn6
namespace Go.Proofs.Ytopieffkpdlpbaa
open Go Go.RowKit Wx
set_option linter.unusedVariables false
set_option linter.unusedSimpArgs false
set_option maxHeartbeats 4000000
def okO (O E : List Int) (ix : Int) (k : Nat) : Prop := (0 ≤ O.getD k 0 ∧ O.getD k 0 ≤ 40) ∧ (O.getD k 0 = 0 ∨ E.getD k 0 = ix)
theorem offR_is (x : Sn) : offR x.o0 x.o1 x.o2 x.o3 x.o4 x.o5 x.o6 x.o7 x.ix x.w = decide (((0 ≤ x.o0 ∧ x.o0 ≤ 40) ∧ (0 ≤ x.o1 ∧ x.o1 ≤ 40) ∧ (0 ≤ x.o2 ∧ x.o2 ≤ 40) ∧ (0 ≤ x.o3 ∧ x.o3 ≤ 40) ∧ (0 ≤ x.o4 ∧ x.o4 ≤ 40) ∧ (0 ≤ x.o5 ∧ x.o5 ≤ 40) ∧ (0 ≤ x.o6 ∧ x.o6 ≤ 40) ∧ (0 ≤ x.o7 ∧ x.o7 ≤ 40)) ∧ (x.o0 = 0 ∨ Tab.ownG 0 x.w = x.ix) ∧ (x.o1 = 0 ∨ Tab.ownG 1 x.w = x.ix) ∧ (x.o2 = 0 ∨ Tab.ownG 2 x.w = x.ix) ∧ (x.o3 = 0 ∨ Tab.ownG 3 x.w = x.ix) ∧ (x.o4 = 0 ∨ Tab.ownG 4 x.w = x.ix) ∧ (x.o5 = 0 ∨ Tab.ownG 5 x.w = x.ix) ∧ (x.o6 = 0 ∨ Tab.ownG 6 x.w = x.ix) ∧ (x.o7 = 0 ∨ Tab.ownG 7 x.w = x.ix)) := by
  unfold offR ownO
  rw [Bool.eq_iff_iff]
  simp [List.zipIdx]
theorem rrows_is (x : Sn) (ht : Tab.tabR x.rows = true) (hs : Tab.okS x.ix x.w) : decide (Tab.partL x.rows x.ix x.w = x.rows) = decide (∀ y ∈ x.rows, Tab.ownG (y.key % 8) x.w = x.ix) := by
  rw [Tab.part_mine ht hs]
  refine decide_eq_decide.2 ?_
  rw [List.filter_eq_self]
  simp only [decide_eq_true_eq]
theorem rright_con (x : Sn) (hr : x.rows.length ≤ 1000) (ht : x.txs.length ≤ 9223372036854775807) : Con Try.prog 11 [.agg [.v (.int .i64 x.op), .v (.int .i64 x.ix), .v (.int .i64 x.w), .v (.bool x.en), .ro false 4 (x.rows.map Tab.eK), .v (.int .i64 x.o0), .v (.int .i64 x.o1), .v (.int .i64 x.o2), .v (.int .i64 x.o3), .v (.int .i64 x.o4), .v (.int .i64 x.o5), .v (.int .i64 x.o6), .v (.int .i64 x.o7), .ro false 3 (x.txs.map eN)]] (fun rx rK rt => rx = .val (.bool (snapR x)) ∧ rK = [] ∧ rt = 0) := by
  refine Z.con_ofF tabOk 71 Try.f11 _ Try.func11 (by kernel_rfl) rfl rfl rfl rfl ?_
  have csh := Tab.rshare_con x.ix x.w
  have hrr := rrows_is x
  unfold snapR at *
  by_cases ho : 0 ≤ x.op ∧ x.op < 8
  rotate_left
  · rw [decide_eq_false (fun h => ho h.1), Bool.false_and]
    repeat' ((conv => whnf); first
      | with_reducible first | refine spB_t ?_
      | ((with_reducible apply spB_cong); (focus (simp only [beq_self_eq_true, bne_self_eq_false, Bool.true_bne, Bool.false_bne, Bool.bne_true, Bool.bne_false, Bool.true_beq, Bool.false_beq, Bool.not_true, Bool.not_false, Bool.not_not, Int.reduceBEq, Int.reduceBNe, Int.reduceLE, Int.reduceLT, Int.reduceEq, decide_true, decide_false]; rfl)))
      | with_reducible first | refine spB_no (by decide) ?_
      | (with_reducible refine spB_dec ?_ ?_ <;> intro _ <;> (try (exfalso; first | contradiction | omega | (rename_i hz; refine hz ?_; simp; done) | (rename_i hz; simp at hz; done) | (simp only [LN] at *; omega))))
      | with_reducible first | refine Z.callZ_in tabOk 18 Try.f33 _ Try.func33 (by kernel_rfl) rfl rfl rfl ?_
      | ((with_reducible apply ex_and); exact rfl)
      | fail)
    all_goals (try (conv => whnf))
    all_goals try (show Nat.ble _ _ = true; rfl)
    all_goals try (exfalso; rename_i hz; cases hz; done)
    all_goals try (exfalso; (try simp only [LN] at *) <;> omega)
    all_goals first
      | ((first | (with_reducible apply Z.retF1)); (focus (exact rfl)); (repeat' (first | exact trivial | (with_reducible apply Z.frz_one) | (with_reducible apply Z.fq_bool) | exact rfl | apply And.intro)); (all_goals (try exact (fun _ => none))); all_goals (first | (simp; done)))
      | fail
  by_cases hs : Tab.okS x.ix x.w
  rotate_left
  · rw [decide_eq_false hs] at csh
    rw [decide_eq_false (fun h => hs h.2), Bool.false_and]
    repeat' ((conv => whnf); first
      | with_reducible first | refine spB_t ?_
      | ((with_reducible apply spB_cong); (focus (simp only [beq_self_eq_true, bne_self_eq_false, Bool.true_bne, Bool.false_bne, Bool.bne_true, Bool.bne_false, Bool.true_beq, Bool.false_beq, Bool.not_true, Bool.not_false, Bool.not_not, Int.reduceBEq, Int.reduceBNe, Int.reduceLE, Int.reduceLT, Int.reduceEq, decide_true, decide_false]; rfl)))
      | (with_reducible refine spB_dec ?_ ?_ <;> intro _ <;> (try (exfalso; first | contradiction | omega | (rename_i hz; refine hz ?_; simp; done) | (rename_i hz; simp at hz; done) | (simp only [LN] at *; omega))))
      | with_reducible first | refine Z.callZ_in tabOk 18 Try.f33 _ Try.func33 (by kernel_rfl) rfl rfl rfl ?_
      | ((first | (with_reducible refine Z.callZ_mk ?_ (csh) ?_)); (focus ((repeat' (first | exact trivial | exact rfl | apply And.intro)); done)))
      | ((with_reducible apply ex_and); exact rfl)
      | fail)
    all_goals (try (conv => whnf))
    all_goals try (show Nat.ble _ _ = true; rfl)
    all_goals try (exfalso; rename_i hz; cases hz; done)
    all_goals try (exfalso; (try simp only [LN] at *) <;> omega)
    all_goals first
      | ((first | (with_reducible apply Z.retF1)); (focus (exact rfl)); (repeat' (first | exact trivial | (with_reducible apply Z.frz_one) | (with_reducible apply Z.fq_bool) | exact rfl | apply And.intro)); (all_goals (try exact (fun _ => none))); all_goals (first | (simp; done)))
      | fail
  rw [decide_eq_true hs] at csh
  rw [decide_eq_true ⟨ho, hs⟩, Bool.true_and]
  have cc := Tab.rcheck_con x.rows (by omega)
  cases htb : Tab.tabR x.rows
  all_goals rw [htb] at cc
  · rw [Bool.false_and, Bool.and_false, Bool.and_false]
    repeat' ((conv => whnf); first
      | with_reducible first | refine spB_t ?_
      | ((with_reducible apply spB_cong); (focus (simp only [beq_self_eq_true, bne_self_eq_false, Bool.true_bne, Bool.false_bne, Bool.bne_true, Bool.bne_false, Bool.true_beq, Bool.false_beq, Bool.not_true, Bool.not_false, Bool.not_not, Int.reduceBEq, Int.reduceBNe, Int.reduceLE, Int.reduceLT, Int.reduceEq, decide_true, decide_false]; rfl)))
      | with_reducible first | refine spB_no (by decide) ?_
      | (with_reducible refine spB_dec ?_ ?_ <;> intro _ <;> (try (exfalso; first | contradiction | omega | (rename_i hz; refine hz ?_; simp; done) | (rename_i hz; simp at hz; done) | (simp only [LN] at *; omega))))
      | with_reducible first | refine Z.callZ_in tabOk 18 Try.f33 _ Try.func33 (by kernel_rfl) rfl rfl rfl ?_
      | ((first | (with_reducible refine Z.callZ_mk ?_ (cc) ?_) | (with_reducible refine Z.callZ_mk ?_ (csh) ?_)); (focus ((repeat' (first | exact trivial | exact rfl | apply And.intro)); done)))
      | ((with_reducible apply ex_and); exact rfl)
      | fail)
    all_goals (try (conv => whnf))
    all_goals try (show Nat.ble _ _ = true; rfl)
    all_goals try (exfalso; rename_i hz; cases hz; done)
    all_goals try (exfalso; (try simp only [LN] at *) <;> omega)
    all_goals first
      | ((first | (with_reducible apply Z.retF1)); (focus (exact rfl)); (repeat' (first | exact trivial | (with_reducible apply Z.frz_one) | (with_reducible apply Z.fq_bool) | exact rfl | apply And.intro)); (all_goals (try exact (fun _ => none))); all_goals (first | (simp; done)))
      | fail
  rw [Bool.true_and]
  have cn := rnamesok_con x.txs ht
  cases hnm : namesR x.txs
  all_goals rw [hnm] at cn
  · rw [Bool.false_and, Bool.and_false]
    repeat' ((conv => whnf); first
      | with_reducible first | refine spB_t ?_
      | ((with_reducible apply spB_cong); (focus (simp only [beq_self_eq_true, bne_self_eq_false, Bool.true_bne, Bool.false_bne, Bool.bne_true, Bool.bne_false, Bool.true_beq, Bool.false_beq, Bool.not_true, Bool.not_false, Bool.not_not, Int.reduceBEq, Int.reduceBNe, Int.reduceLE, Int.reduceLT, Int.reduceEq, decide_true, decide_false]; rfl)))
      | with_reducible first | refine spB_no (by decide) ?_
      | (with_reducible refine spB_dec ?_ ?_ <;> intro _ <;> (try (exfalso; first | contradiction | omega | (rename_i hz; refine hz ?_; simp; done) | (rename_i hz; simp at hz; done) | (simp only [LN] at *; omega))))
      | with_reducible first | refine Z.callZ_in tabOk 18 Try.f33 _ Try.func33 (by kernel_rfl) rfl rfl rfl ?_
      | ((first | (with_reducible refine Z.callZ_mk ?_ (cc) ?_) | (with_reducible refine Z.callZ_mk ?_ (cn) ?_) | (with_reducible refine Z.callZ_mk ?_ (csh) ?_)); (focus ((repeat' (first | exact trivial | exact rfl | apply And.intro)); done)))
      | ((with_reducible apply ex_and); exact rfl)
      | fail)
    all_goals (try (conv => whnf))
    all_goals try (show Nat.ble _ _ = true; rfl)
    all_goals try (exfalso; rename_i hz; cases hz; done)
    all_goals try (exfalso; (try simp only [LN] at *) <;> omega)
    all_goals first
      | ((first | (with_reducible apply Z.retF1)); (focus (exact rfl)); (repeat' (first | exact trivial | (with_reducible apply Z.frz_one) | (with_reducible apply Z.fq_bool) | exact rfl | apply And.intro)); (all_goals (try exact (fun _ => none))); all_goals (first | (simp; done)))
      | fail
  rw [Bool.true_and, hrr htb hs]
  repeat' ((conv => whnf); first
    | with_reducible first | refine spB_t ?_
    | ((with_reducible apply spB_cong); (focus (simp only [beq_self_eq_true, bne_self_eq_false, Bool.true_bne, Bool.false_bne, Bool.bne_true, Bool.bne_false, Bool.true_beq, Bool.false_beq, Bool.not_true, Bool.not_false, Bool.not_not, Int.reduceBEq, Int.reduceBNe, Int.reduceLE, Int.reduceLT, Int.reduceEq, decide_true, decide_false]; rfl)))
    | with_reducible first | refine spB_no (by decide) ?_
    | (with_reducible refine spB_dec ?_ ?_ <;> intro _ <;> (try (exfalso; first | contradiction | omega | (rename_i hz; refine hz ?_; simp; done) | (rename_i hz; simp at hz; done) | (simp only [LN] at *; omega))))
    | with_reducible first | refine Z.callZ_in tabOk 18 Try.f33 _ Try.func33 (by kernel_rfl) rfl rfl rfl ?_
    | ((first | (with_reducible refine Z.callZ_mk ?_ (cc) ?_) | (with_reducible refine Z.callZ_mk ?_ (cn) ?_) | (with_reducible refine Z.callZ_mk ?_ (csh) ?_)); (focus ((repeat' (first | exact trivial | exact rfl | apply And.intro)); done)))
    | ((with_reducible apply ex_and); exact rfl)
    | fail)
  all_goals (try (conv => whnf))
  all_goals try (show Nat.ble _ _ = true; rfl)
  all_goals try (exfalso; rename_i hz; cases hz; done)
  all_goals try (exfalso; (try simp only [LN] at *) <;> omega)
  refine Z.loopK tabOk (fun zq : Nat => [(31, .val (.int .i64 (zq : Int)))]) (fun zq : Nat => ([] : Z.Kr)) (fun zq => zq ≤ x.rows.length ∧ (∀ y ∈ x.rows.take zq, Tab.ownG (y.key % 8) x.w = x.ix)) (fun zq => x.rows.length - zq) 0 1 [(1, _), (29, _), (30, _)] ⟨rfl, rfl, rfl, trivial⟩ [(0, some _)] ⟨rfl, trivial⟩ ?_ ?_ rfl rfl ⟨Nat.zero_le _, (fun y h => nomatch h)⟩ ?_
  · repeat' (first | exact trivial | apply And.intro | exact ⟨_, rfl, Z.Imp.refl _⟩)
  · repeat' (first | exact trivial)
  rintro i HINV
  (try dsimp only at HINV); (try dsimp only)
  obtain ⟨HI, HG⟩ := HINV
  by_cases hi : i < x.rows.length
  · obtain ⟨y, hy⟩ := getElem?_some' (xs := x.rows) (i := i) hi
    have hym := List.mem_of_getElem? hy
    have hk := Tab.keyOk_iff.1 ((Tab.tab_iff.1 htb).1 y hym).1
    have cg := Tab.rgroup_con y.key
    rw [Int.tmod_eq_emod_of_nonneg (by omega)] at cg
    have cr := rowned_ok (y.key % 8) x.ix x.w (by omega) hs
    by_cases hg : Tab.ownG (y.key % 8) x.w = x.ix
    · rw [decide_eq_true hg] at cr
      repeat' ((conv => whnf); first
        | ((with_reducible apply spB_cong); (focus (simp only [beq_self_eq_true, bne_self_eq_false, Bool.true_bne, Bool.false_bne, Bool.bne_true, Bool.bne_false, Bool.true_beq, Bool.false_beq, Bool.not_true, Bool.not_false, Bool.not_not, Int.reduceBEq, Int.reduceBNe, Int.reduceLE, Int.reduceLT, Int.reduceEq, decide_true, decide_false]; rfl)))
        | with_reducible first | refine spB_no (by decide) ?_
        | (with_reducible refine spB_dec ?_ ?_ <;> intro _ <;> (try (exfalso; first | contradiction | omega | (rename_i hz; refine hz ?_; simp; done) | (rename_i hz; simp at hz; done) | (simp only [LN] at *; omega))))
        | with_reducible first | refine Z.rowN_known hy ?_
        | ((with_reducible apply ixN_litp); (focus (exact rfl)); (focus ((try simp only [LN] at *) <;> omega)))
        | with_reducible refine wr_i64 (by first | omega | (simp only [LN] at *; omega)) ?_
        | ((first | (with_reducible refine Z.conZ_mz ?_ (cr) ?_) | (with_reducible refine Z.conZ_mz ?_ (cg) ?_)); (focus ((repeat' (first | exact trivial | exact rfl | apply And.intro)); done)))
        | with_reducible first | refine Z.drawZ_rule tabOk mixOk ?_ | refine Z.apZ_mk (by kernel_rfl) ?_
        | fail)
      all_goals (try (conv => whnf))
      all_goals try (show Nat.ble _ _ = true; rfl)
      all_goals try (exfalso; rename_i hz; cases hz; done)
      all_goals try (exfalso; (try simp only [LN] at *) <;> omega)
      all_goals first
        | ((refine Z.rndK ((i + 1)) (fun s => [0]) rfl rfl rfl rfl ?_ ?_ ?_ ?_); (focus (repeat' (first | exact trivial | exact rfl | apply And.intro))); (focus (repeat' (first | exact trivial | (intro b hb; cases hb; rfl) | apply And.intro))); (focus ((refine ⟨by (try dsimp only); omega, ?_⟩; (try dsimp only); rw [take_snoc hy]; intro z hz; rcases List.mem_append.1 hz with h | h; exact HG z h; rw [List.mem_singleton.1 h]; exact hg))); ((try dsimp only); omega))
        | fail
    · rw [decide_eq_false hg] at cr
      rw [decide_eq_false (fun h => hg (h y hym)), Bool.and_false]
      repeat' ((conv => whnf); first
        | with_reducible first | refine spB_t ?_
        | ((with_reducible apply spB_cong); (focus (simp only [beq_self_eq_true, bne_self_eq_false, Bool.true_bne, Bool.false_bne, Bool.bne_true, Bool.bne_false, Bool.true_beq, Bool.false_beq, Bool.not_true, Bool.not_false, Bool.not_not, Int.reduceBEq, Int.reduceBNe, Int.reduceLE, Int.reduceLT, Int.reduceEq, decide_true, decide_false]; rfl)))
        | (with_reducible refine spB_dec ?_ ?_ <;> intro _ <;> (try (exfalso; first | contradiction | omega | (rename_i hz; refine hz ?_; simp; done) | (rename_i hz; simp at hz; done) | (simp only [LN] at *; omega))))
        | with_reducible first | refine Z.rowN_known hy ?_
        | ((with_reducible apply ixN_litp); (focus (exact rfl)); (focus ((try simp only [LN] at *) <;> omega)))
        | ((first | (with_reducible refine Z.conZ_mz ?_ (cr) ?_) | (with_reducible refine Z.conZ_mz ?_ (cg) ?_)); (focus ((repeat' (first | exact trivial | exact rfl | apply And.intro)); done)))
        | with_reducible first | refine Z.drawZ_rule tabOk mixOk ?_ | refine Z.apZ_mk (by kernel_rfl) ?_
        | fail)
      all_goals (try (conv => whnf))
      all_goals try (show Nat.ble _ _ = true; rfl)
      all_goals try (exfalso; rename_i hz; cases hz; done)
      all_goals try (exfalso; (try simp only [LN] at *) <;> omega)
      all_goals first
        | ((first | (with_reducible apply Z.retF1)); (focus (exact rfl)); (repeat' (first | exact trivial | (with_reducible apply Z.frz_one) | (with_reducible apply Z.fq_bool) | exact rfl | apply And.intro)); (all_goals (try exact (fun _ => none))); all_goals (first | (simp; done)))
        | fail
  have hil : i = x.rows.length := by omega
  subst hil
  rw [List.take_length] at HG
  rw [decide_eq_true HG, Bool.and_true]
  clear hrr
  have c0 := rowned_ok 0 x.ix x.w (by omega) hs
  have c1 := rowned_ok 1 x.ix x.w (by omega) hs
  have c2 := rowned_ok 2 x.ix x.w (by omega) hs
  have c3 := rowned_ok 3 x.ix x.w (by omega) hs
  have c4 := rowned_ok 4 x.ix x.w (by omega) hs
  have c5 := rowned_ok 5 x.ix x.w (by omega) hs
  have c6 := rowned_ok 6 x.ix x.w (by omega) hs
  have c7 := rowned_ok 7 x.ix x.w (by omega) hs
  have hoo := offR_is x
  generalize Tab.ownG 0 x.w = e0 at *
  generalize Tab.ownG 1 x.w = e1 at *
  generalize Tab.ownG 2 x.w = e2 at *
  generalize Tab.ownG 3 x.w = e3 at *
  generalize Tab.ownG 4 x.w = e4 at *
  generalize Tab.ownG 5 x.w = e5 at *
  generalize Tab.ownG 6 x.w = e6 at *
  generalize Tab.ownG 7 x.w = e7 at *
  rw [hoo]
  clear hoo
  repeat' ((conv => whnf); first
    | (with_reducible refine spB_dec ?_ ?_ <;> intro _ <;> (try (exfalso; first | contradiction | omega | (rename_i hz; refine hz ?_; simp; done) | (rename_i hz; simp at hz; done) | (simp only [LN] at *; omega))))
    | fail)
  all_goals (try (conv => whnf))
  all_goals try (show Nat.ble _ _ = true; rfl)
  all_goals try (exfalso; rename_i hz; cases hz; done)
  all_goals try (exfalso; (try simp only [LN] at *) <;> omega)
  refine Z.loopK tabOk (fun zq : Nat => [(47, .val (.int .i64 (zq : Int)))]) (fun zq : Nat => ([] : Z.Kr)) (fun zq => zq ≤ 8 ∧ ∀ k < zq, okO [x.o0, x.o1, x.o2, x.o3, x.o4, x.o5, x.o6, x.o7] [e0, e1, e2, e3, e4, e5, e6, e7] x.ix k) (fun zq => 8 - zq) 0 1 [(1, _), (46, _)] ⟨rfl, rfl, trivial⟩ [(0, some _)] ⟨rfl, trivial⟩ ?_ ?_ rfl rfl ⟨Nat.zero_le _, (fun k hk => absurd hk (Nat.not_lt_zero _))⟩ ?_
  · repeat' (first | exact trivial | apply And.intro | exact ⟨_, rfl, Z.Imp.refl _⟩)
  · repeat' (first | exact trivial)
  rintro i HINV
  (try dsimp only at HINV); (try dsimp only)
  obtain ⟨HI, HP⟩ := HINV
  have hc9 : i = 0 ∨ i = 1 ∨ i = 2 ∨ i = 3 ∨ i = 4 ∨ i = 5 ∨ i = 6 ∨ i = 7 ∨ i = 8 := by omega
  rcases hc9 with rfl | rfl | rfl | rfl | rfl | rfl | rfl | rfl | rfl
  · by_cases hok : (0 ≤ x.o0 ∧ x.o0 ≤ 40) ∧ (x.o0 = 0 ∨ e0 = x.ix)
    · skip
      repeat' ((conv => whnf); first
        | with_reducible first | refine spB_t ?_
        | with_reducible first | refine spB_yes (by decide) ?_ | refine spB_no (by decide) ?_ | refine spB_not ?_
        | (with_reducible refine spB_dec ?_ ?_ <;> intro _ <;> (try (exfalso; first | contradiction | omega | (rename_i hz; refine hz ?_; simp; done) | (rename_i hz; simp at hz; done) | (simp only [LN] at *; omega))))
        | (with_reducible refine spB_bne ?_ ?_ <;> intro _ <;> (try (exfalso; first | contradiction | omega | (rename_i hz; refine hz ?_; simp; done) | (rename_i hz; simp at hz; done) | (simp only [LN] at *; omega))))
        | ((with_reducible apply ixN_lit); (focus (exact rfl)); (focus (exact rfl)))
        | with_reducible refine wr_i64 (by first | omega | (simp only [LN] at *; omega)) ?_
        | ((first | (with_reducible refine Z.callZ_mk ?_ (c0) ?_)); (focus ((repeat' (first | exact trivial | exact rfl | apply And.intro)); done)))
        | fail)
      all_goals (try (conv => whnf))
      all_goals try (show Nat.ble _ _ = true; rfl)
      all_goals try (exfalso; rename_i hz; cases hz; done)
      all_goals try (exfalso; (try simp only [LN] at *) <;> omega)
      all_goals first
        | ((refine Z.rndK (1) (fun s => [0]) rfl rfl rfl rfl ?_ ?_ ?_ ?_); (focus (repeat' (first | exact trivial | exact rfl | apply And.intro))); (focus (repeat' (first | exact trivial | (intro b hb; cases hb; rfl) | apply And.intro))); (focus ((refine ⟨by (try dsimp only); omega, fun k hk => ?_⟩; (try dsimp only at hk); rcases Nat.lt_succ_iff_lt_or_eq.1 hk with h | h; exact HP k h; subst h; exact hok))); ((try dsimp only); omega))
        | fail
    rw [decide_eq_false (fun h => hok ⟨h.1.1, h.2.1⟩)]
    repeat' ((conv => whnf); first
      | with_reducible first | refine spB_t ?_
      | with_reducible first | refine spB_yes (by decide) ?_ | refine spB_no (by decide) ?_ | refine spB_not ?_
      | (with_reducible refine spB_dec ?_ ?_ <;> intro _ <;> (try (exfalso; first | contradiction | omega | (rename_i hz; refine hz ?_; simp; done) | (rename_i hz; simp at hz; done) | (simp only [LN] at *; omega))))
      | (with_reducible refine spB_bne ?_ ?_ <;> intro _ <;> (try (exfalso; first | contradiction | omega | (rename_i hz; refine hz ?_; simp; done) | (rename_i hz; simp at hz; done) | (simp only [LN] at *; omega))))
      | ((with_reducible apply ixN_lit); (focus (exact rfl)); (focus (exact rfl)))
      | ((first | (with_reducible refine Z.callZ_mk ?_ (c0) ?_)); (focus ((repeat' (first | exact trivial | exact rfl | apply And.intro)); done)))
      | fail)
    all_goals (try (conv => whnf))
    all_goals try (show Nat.ble _ _ = true; rfl)
    all_goals try (exfalso; rename_i hz; cases hz; done)
    all_goals try (exfalso; (try simp only [LN] at *) <;> omega)
    all_goals first
      | ((first | (with_reducible apply Z.retF1)); (focus (exact rfl)); (repeat' (first | exact trivial | (with_reducible apply Z.frz_one) | (with_reducible apply Z.fq_bool) | exact rfl | apply And.intro)); (all_goals (try exact (fun _ => none))); all_goals (first | (simp; done)))
      | fail
  · by_cases hok : (0 ≤ x.o1 ∧ x.o1 ≤ 40) ∧ (x.o1 = 0 ∨ e1 = x.ix)
    · skip
      repeat' ((conv => whnf); first
        | with_reducible first | refine spB_t ?_
        | with_reducible first | refine spB_yes (by decide) ?_ | refine spB_no (by decide) ?_ | refine spB_not ?_
        | (with_reducible refine spB_dec ?_ ?_ <;> intro _ <;> (try (exfalso; first | contradiction | omega | (rename_i hz; refine hz ?_; simp; done) | (rename_i hz; simp at hz; done) | (simp only [LN] at *; omega))))
        | (with_reducible refine spB_bne ?_ ?_ <;> intro _ <;> (try (exfalso; first | contradiction | omega | (rename_i hz; refine hz ?_; simp; done) | (rename_i hz; simp at hz; done) | (simp only [LN] at *; omega))))
        | ((with_reducible apply ixN_lit); (focus (exact rfl)); (focus (exact rfl)))
        | with_reducible refine wr_i64 (by first | omega | (simp only [LN] at *; omega)) ?_
        | ((first | (with_reducible refine Z.callZ_mk ?_ (c1) ?_)); (focus ((repeat' (first | exact trivial | exact rfl | apply And.intro)); done)))
        | fail)
      all_goals (try (conv => whnf))
      all_goals try (show Nat.ble _ _ = true; rfl)
      all_goals try (exfalso; rename_i hz; cases hz; done)
      all_goals try (exfalso; (try simp only [LN] at *) <;> omega)
      all_goals first
        | ((refine Z.rndK (2) (fun s => [0]) rfl rfl rfl rfl ?_ ?_ ?_ ?_); (focus (repeat' (first | exact trivial | exact rfl | apply And.intro))); (focus (repeat' (first | exact trivial | (intro b hb; cases hb; rfl) | apply And.intro))); (focus ((refine ⟨by (try dsimp only); omega, fun k hk => ?_⟩; (try dsimp only at hk); rcases Nat.lt_succ_iff_lt_or_eq.1 hk with h | h; exact HP k h; subst h; exact hok))); ((try dsimp only); omega))
        | fail
    rw [decide_eq_false (fun h => hok ⟨h.1.2.1, h.2.2.1⟩)]
    repeat' ((conv => whnf); first
      | with_reducible first | refine spB_t ?_
      | with_reducible first | refine spB_yes (by decide) ?_ | refine spB_no (by decide) ?_ | refine spB_not ?_
      | (with_reducible refine spB_dec ?_ ?_ <;> intro _ <;> (try (exfalso; first | contradiction | omega | (rename_i hz; refine hz ?_; simp; done) | (rename_i hz; simp at hz; done) | (simp only [LN] at *; omega))))
      | (with_reducible refine spB_bne ?_ ?_ <;> intro _ <;> (try (exfalso; first | contradiction | omega | (rename_i hz; refine hz ?_; simp; done) | (rename_i hz; simp at hz; done) | (simp only [LN] at *; omega))))
      | ((with_reducible apply ixN_lit); (focus (exact rfl)); (focus (exact rfl)))
      | ((first | (with_reducible refine Z.callZ_mk ?_ (c1) ?_)); (focus ((repeat' (first | exact trivial | exact rfl | apply And.intro)); done)))
      | fail)
    all_goals (try (conv => whnf))
    all_goals try (show Nat.ble _ _ = true; rfl)
    all_goals try (exfalso; rename_i hz; cases hz; done)
    all_goals try (exfalso; (try simp only [LN] at *) <;> omega)
    all_goals first
      | ((first | (with_reducible apply Z.retF1)); (focus (exact rfl)); (repeat' (first | exact trivial | (with_reducible apply Z.frz_one) | (with_reducible apply Z.fq_bool) | exact rfl | apply And.intro)); (all_goals (try exact (fun _ => none))); all_goals (first | (simp; done)))
      | fail
  · by_cases hok : (0 ≤ x.o2 ∧ x.o2 ≤ 40) ∧ (x.o2 = 0 ∨ e2 = x.ix)
    · skip
      repeat' ((conv => whnf); first
        | with_reducible first | refine spB_t ?_
        | with_reducible first | refine spB_yes (by decide) ?_ | refine spB_no (by decide) ?_ | refine spB_not ?_
        | (with_reducible refine spB_dec ?_ ?_ <;> intro _ <;> (try (exfalso; first | contradiction | omega | (rename_i hz; refine hz ?_; simp; done) | (rename_i hz; simp at hz; done) | (simp only [LN] at *; omega))))
        | (with_reducible refine spB_bne ?_ ?_ <;> intro _ <;> (try (exfalso; first | contradiction | omega | (rename_i hz; refine hz ?_; simp; done) | (rename_i hz; simp at hz; done) | (simp only [LN] at *; omega))))
        | ((with_reducible apply ixN_lit); (focus (exact rfl)); (focus (exact rfl)))
        | with_reducible refine wr_i64 (by first | omega | (simp only [LN] at *; omega)) ?_
        | ((first | (with_reducible refine Z.callZ_mk ?_ (c2) ?_)); (focus ((repeat' (first | exact trivial | exact rfl | apply And.intro)); done)))
        | fail)
      all_goals (try (conv => whnf))
      all_goals try (show Nat.ble _ _ = true; rfl)
      all_goals try (exfalso; rename_i hz; cases hz; done)
      all_goals try (exfalso; (try simp only [LN] at *) <;> omega)
      all_goals first
        | ((refine Z.rndK (3) (fun s => [0]) rfl rfl rfl rfl ?_ ?_ ?_ ?_); (focus (repeat' (first | exact trivial | exact rfl | apply And.intro))); (focus (repeat' (first | exact trivial | (intro b hb; cases hb; rfl) | apply And.intro))); (focus ((refine ⟨by (try dsimp only); omega, fun k hk => ?_⟩; (try dsimp only at hk); rcases Nat.lt_succ_iff_lt_or_eq.1 hk with h | h; exact HP k h; subst h; exact hok))); ((try dsimp only); omega))
        | fail
    rw [decide_eq_false (fun h => hok ⟨h.1.2.2.1, h.2.2.2.1⟩)]
    repeat' ((conv => whnf); first
      | with_reducible first | refine spB_t ?_
      | with_reducible first | refine spB_yes (by decide) ?_ | refine spB_no (by decide) ?_ | refine spB_not ?_
      | (with_reducible refine spB_dec ?_ ?_ <;> intro _ <;> (try (exfalso; first | contradiction | omega | (rename_i hz; refine hz ?_; simp; done) | (rename_i hz; simp at hz; done) | (simp only [LN] at *; omega))))
      | (with_reducible refine spB_bne ?_ ?_ <;> intro _ <;> (try (exfalso; first | contradiction | omega | (rename_i hz; refine hz ?_; simp; done) | (rename_i hz; simp at hz; done) | (simp only [LN] at *; omega))))
      | ((with_reducible apply ixN_lit); (focus (exact rfl)); (focus (exact rfl)))
      | ((first | (with_reducible refine Z.callZ_mk ?_ (c2) ?_)); (focus ((repeat' (first | exact trivial | exact rfl | apply And.intro)); done)))
      | fail)
    all_goals (try (conv => whnf))
    all_goals try (show Nat.ble _ _ = true; rfl)
    all_goals try (exfalso; rename_i hz; cases hz; done)
    all_goals try (exfalso; (try simp only [LN] at *) <;> omega)
    all_goals first
      | ((first | (with_reducible apply Z.retF1)); (focus (exact rfl)); (repeat' (first | exact trivial | (with_reducible apply Z.frz_one) | (with_reducible apply Z.fq_bool) | exact rfl | apply And.intro)); (all_goals (try exact (fun _ => none))); all_goals (first | (simp; done)))
      | fail
  · by_cases hok : (0 ≤ x.o3 ∧ x.o3 ≤ 40) ∧ (x.o3 = 0 ∨ e3 = x.ix)
    · skip
      repeat' ((conv => whnf); first
        | with_reducible first | refine spB_t ?_
        | with_reducible first | refine spB_yes (by decide) ?_ | refine spB_no (by decide) ?_ | refine spB_not ?_
        | (with_reducible refine spB_dec ?_ ?_ <;> intro _ <;> (try (exfalso; first | contradiction | omega | (rename_i hz; refine hz ?_; simp; done) | (rename_i hz; simp at hz; done) | (simp only [LN] at *; omega))))
        | (with_reducible refine spB_bne ?_ ?_ <;> intro _ <;> (try (exfalso; first | contradiction | omega | (rename_i hz; refine hz ?_; simp; done) | (rename_i hz; simp at hz; done) | (simp only [LN] at *; omega))))
        | ((with_reducible apply ixN_lit); (focus (exact rfl)); (focus (exact rfl)))
        | with_reducible refine wr_i64 (by first | omega | (simp only [LN] at *; omega)) ?_
        | ((first | (with_reducible refine Z.callZ_mk ?_ (c3) ?_)); (focus ((repeat' (first | exact trivial | exact rfl | apply And.intro)); done)))
        | fail)
      all_goals (try (conv => whnf))
      all_goals try (show Nat.ble _ _ = true; rfl)
      all_goals try (exfalso; rename_i hz; cases hz; done)
      all_goals try (exfalso; (try simp only [LN] at *) <;> omega)
      all_goals first
        | ((refine Z.rndK (4) (fun s => [0]) rfl rfl rfl rfl ?_ ?_ ?_ ?_); (focus (repeat' (first | exact trivial | exact rfl | apply And.intro))); (focus (repeat' (first | exact trivial | (intro b hb; cases hb; rfl) | apply And.intro))); (focus ((refine ⟨by (try dsimp only); omega, fun k hk => ?_⟩; (try dsimp only at hk); rcases Nat.lt_succ_iff_lt_or_eq.1 hk with h | h; exact HP k h; subst h; exact hok))); ((try dsimp only); omega))
        | fail
    rw [decide_eq_false (fun h => hok ⟨h.1.2.2.2.1, h.2.2.2.2.1⟩)]
    repeat' ((conv => whnf); first
      | with_reducible first | refine spB_t ?_
      | with_reducible first | refine spB_yes (by decide) ?_ | refine spB_no (by decide) ?_ | refine spB_not ?_
      | (with_reducible refine spB_dec ?_ ?_ <;> intro _ <;> (try (exfalso; first | contradiction | omega | (rename_i hz; refine hz ?_; simp; done) | (rename_i hz; simp at hz; done) | (simp only [LN] at *; omega))))
      | (with_reducible refine spB_bne ?_ ?_ <;> intro _ <;> (try (exfalso; first | contradiction | omega | (rename_i hz; refine hz ?_; simp; done) | (rename_i hz; simp at hz; done) | (simp only [LN] at *; omega))))
      | ((with_reducible apply ixN_lit); (focus (exact rfl)); (focus (exact rfl)))
      | ((first | (with_reducible refine Z.callZ_mk ?_ (c3) ?_)); (focus ((repeat' (first | exact trivial | exact rfl | apply And.intro)); done)))
      | fail)
    all_goals (try (conv => whnf))
    all_goals try (show Nat.ble _ _ = true; rfl)
    all_goals try (exfalso; rename_i hz; cases hz; done)
    all_goals try (exfalso; (try simp only [LN] at *) <;> omega)
    all_goals first
      | ((first | (with_reducible apply Z.retF1)); (focus (exact rfl)); (repeat' (first | exact trivial | (with_reducible apply Z.frz_one) | (with_reducible apply Z.fq_bool) | exact rfl | apply And.intro)); (all_goals (try exact (fun _ => none))); all_goals (first | (simp; done)))
      | fail
  · by_cases hok : (0 ≤ x.o4 ∧ x.o4 ≤ 40) ∧ (x.o4 = 0 ∨ e4 = x.ix)
    · skip
      repeat' ((conv => whnf); first
        | with_reducible first | refine spB_t ?_
        | with_reducible first | refine spB_yes (by decide) ?_ | refine spB_no (by decide) ?_ | refine spB_not ?_
        | (with_reducible refine spB_dec ?_ ?_ <;> intro _ <;> (try (exfalso; first | contradiction | omega | (rename_i hz; refine hz ?_; simp; done) | (rename_i hz; simp at hz; done) | (simp only [LN] at *; omega))))
        | (with_reducible refine spB_bne ?_ ?_ <;> intro _ <;> (try (exfalso; first | contradiction | omega | (rename_i hz; refine hz ?_; simp; done) | (rename_i hz; simp at hz; done) | (simp only [LN] at *; omega))))
        | ((with_reducible apply ixN_lit); (focus (exact rfl)); (focus (exact rfl)))
        | with_reducible refine wr_i64 (by first | omega | (simp only [LN] at *; omega)) ?_
        | ((first | (with_reducible refine Z.callZ_mk ?_ (c4) ?_)); (focus ((repeat' (first | exact trivial | exact rfl | apply And.intro)); done)))
        | fail)
      all_goals (try (conv => whnf))
      all_goals try (show Nat.ble _ _ = true; rfl)
      all_goals try (exfalso; rename_i hz; cases hz; done)
      all_goals try (exfalso; (try simp only [LN] at *) <;> omega)
      all_goals first
        | ((refine Z.rndK (5) (fun s => [0]) rfl rfl rfl rfl ?_ ?_ ?_ ?_); (focus (repeat' (first | exact trivial | exact rfl | apply And.intro))); (focus (repeat' (first | exact trivial | (intro b hb; cases hb; rfl) | apply And.intro))); (focus ((refine ⟨by (try dsimp only); omega, fun k hk => ?_⟩; (try dsimp only at hk); rcases Nat.lt_succ_iff_lt_or_eq.1 hk with h | h; exact HP k h; subst h; exact hok))); ((try dsimp only); omega))
        | fail
    rw [decide_eq_false (fun h => hok ⟨h.1.2.2.2.2.1, h.2.2.2.2.2.1⟩)]
    repeat' ((conv => whnf); first
      | with_reducible first | refine spB_t ?_
      | with_reducible first | refine spB_yes (by decide) ?_ | refine spB_no (by decide) ?_ | refine spB_not ?_
      | (with_reducible refine spB_dec ?_ ?_ <;> intro _ <;> (try (exfalso; first | contradiction | omega | (rename_i hz; refine hz ?_; simp; done) | (rename_i hz; simp at hz; done) | (simp only [LN] at *; omega))))
      | (with_reducible refine spB_bne ?_ ?_ <;> intro _ <;> (try (exfalso; first | contradiction | omega | (rename_i hz; refine hz ?_; simp; done) | (rename_i hz; simp at hz; done) | (simp only [LN] at *; omega))))
      | ((with_reducible apply ixN_lit); (focus (exact rfl)); (focus (exact rfl)))
      | ((first | (with_reducible refine Z.callZ_mk ?_ (c4) ?_)); (focus ((repeat' (first | exact trivial | exact rfl | apply And.intro)); done)))
      | fail)
    all_goals (try (conv => whnf))
    all_goals try (show Nat.ble _ _ = true; rfl)
    all_goals try (exfalso; rename_i hz; cases hz; done)
    all_goals try (exfalso; (try simp only [LN] at *) <;> omega)
    all_goals first
      | ((first | (with_reducible apply Z.retF1)); (focus (exact rfl)); (repeat' (first | exact trivial | (with_reducible apply Z.frz_one) | (with_reducible apply Z.fq_bool) | exact rfl | apply And.intro)); (all_goals (try exact (fun _ => none))); all_goals (first | (simp; done)))
      | fail
  · by_cases hok : (0 ≤ x.o5 ∧ x.o5 ≤ 40) ∧ (x.o5 = 0 ∨ e5 = x.ix)
    · skip
      repeat' ((conv => whnf); first
        | with_reducible first | refine spB_t ?_
        | with_reducible first | refine spB_yes (by decide) ?_ | refine spB_no (by decide) ?_ | refine spB_not ?_
        | (with_reducible refine spB_dec ?_ ?_ <;> intro _ <;> (try (exfalso; first | contradiction | omega | (rename_i hz; refine hz ?_; simp; done) | (rename_i hz; simp at hz; done) | (simp only [LN] at *; omega))))
        | (with_reducible refine spB_bne ?_ ?_ <;> intro _ <;> (try (exfalso; first | contradiction | omega | (rename_i hz; refine hz ?_; simp; done) | (rename_i hz; simp at hz; done) | (simp only [LN] at *; omega))))
        | ((with_reducible apply ixN_lit); (focus (exact rfl)); (focus (exact rfl)))
        | with_reducible refine wr_i64 (by first | omega | (simp only [LN] at *; omega)) ?_
        | ((first | (with_reducible refine Z.callZ_mk ?_ (c5) ?_)); (focus ((repeat' (first | exact trivial | exact rfl | apply And.intro)); done)))
        | fail)
      all_goals (try (conv => whnf))
      all_goals try (show Nat.ble _ _ = true; rfl)
      all_goals try (exfalso; rename_i hz; cases hz; done)
      all_goals try (exfalso; (try simp only [LN] at *) <;> omega)
      all_goals first
        | ((refine Z.rndK (6) (fun s => [0]) rfl rfl rfl rfl ?_ ?_ ?_ ?_); (focus (repeat' (first | exact trivial | exact rfl | apply And.intro))); (focus (repeat' (first | exact trivial | (intro b hb; cases hb; rfl) | apply And.intro))); (focus ((refine ⟨by (try dsimp only); omega, fun k hk => ?_⟩; (try dsimp only at hk); rcases Nat.lt_succ_iff_lt_or_eq.1 hk with h | h; exact HP k h; subst h; exact hok))); ((try dsimp only); omega))
        | fail
    rw [decide_eq_false (fun h => hok ⟨h.1.2.2.2.2.2.1, h.2.2.2.2.2.2.1⟩)]
    repeat' ((conv => whnf); first
      | with_reducible first | refine spB_t ?_
      | with_reducible first | refine spB_yes (by decide) ?_ | refine spB_no (by decide) ?_ | refine spB_not ?_
      | (with_reducible refine spB_dec ?_ ?_ <;> intro _ <;> (try (exfalso; first | contradiction | omega | (rename_i hz; refine hz ?_; simp; done) | (rename_i hz; simp at hz; done) | (simp only [LN] at *; omega))))
      | (with_reducible refine spB_bne ?_ ?_ <;> intro _ <;> (try (exfalso; first | contradiction | omega | (rename_i hz; refine hz ?_; simp; done) | (rename_i hz; simp at hz; done) | (simp only [LN] at *; omega))))
      | ((with_reducible apply ixN_lit); (focus (exact rfl)); (focus (exact rfl)))
      | ((first | (with_reducible refine Z.callZ_mk ?_ (c5) ?_)); (focus ((repeat' (first | exact trivial | exact rfl | apply And.intro)); done)))
      | fail)
    all_goals (try (conv => whnf))
    all_goals try (show Nat.ble _ _ = true; rfl)
    all_goals try (exfalso; rename_i hz; cases hz; done)
    all_goals try (exfalso; (try simp only [LN] at *) <;> omega)
    all_goals first
      | ((first | (with_reducible apply Z.retF1)); (focus (exact rfl)); (repeat' (first | exact trivial | (with_reducible apply Z.frz_one) | (with_reducible apply Z.fq_bool) | exact rfl | apply And.intro)); (all_goals (try exact (fun _ => none))); all_goals (first | (simp; done)))
      | fail
  · by_cases hok : (0 ≤ x.o6 ∧ x.o6 ≤ 40) ∧ (x.o6 = 0 ∨ e6 = x.ix)
    · skip
      repeat' ((conv => whnf); first
        | with_reducible first | refine spB_t ?_
        | with_reducible first | refine spB_yes (by decide) ?_ | refine spB_no (by decide) ?_ | refine spB_not ?_
        | (with_reducible refine spB_dec ?_ ?_ <;> intro _ <;> (try (exfalso; first | contradiction | omega | (rename_i hz; refine hz ?_; simp; done) | (rename_i hz; simp at hz; done) | (simp only [LN] at *; omega))))
        | (with_reducible refine spB_bne ?_ ?_ <;> intro _ <;> (try (exfalso; first | contradiction | omega | (rename_i hz; refine hz ?_; simp; done) | (rename_i hz; simp at hz; done) | (simp only [LN] at *; omega))))
        | ((with_reducible apply ixN_lit); (focus (exact rfl)); (focus (exact rfl)))
        | with_reducible refine wr_i64 (by first | omega | (simp only [LN] at *; omega)) ?_
        | ((first | (with_reducible refine Z.callZ_mk ?_ (c6) ?_)); (focus ((repeat' (first | exact trivial | exact rfl | apply And.intro)); done)))
        | fail)
      all_goals (try (conv => whnf))
      all_goals try (show Nat.ble _ _ = true; rfl)
      all_goals try (exfalso; rename_i hz; cases hz; done)
      all_goals try (exfalso; (try simp only [LN] at *) <;> omega)
      all_goals first
        | ((refine Z.rndK (7) (fun s => [0]) rfl rfl rfl rfl ?_ ?_ ?_ ?_); (focus (repeat' (first | exact trivial | exact rfl | apply And.intro))); (focus (repeat' (first | exact trivial | (intro b hb; cases hb; rfl) | apply And.intro))); (focus ((refine ⟨by (try dsimp only); omega, fun k hk => ?_⟩; (try dsimp only at hk); rcases Nat.lt_succ_iff_lt_or_eq.1 hk with h | h; exact HP k h; subst h; exact hok))); ((try dsimp only); omega))
        | fail
    rw [decide_eq_false (fun h => hok ⟨h.1.2.2.2.2.2.2.1, h.2.2.2.2.2.2.2.1⟩)]
    repeat' ((conv => whnf); first
      | with_reducible first | refine spB_t ?_
      | with_reducible first | refine spB_yes (by decide) ?_ | refine spB_no (by decide) ?_ | refine spB_not ?_
      | (with_reducible refine spB_dec ?_ ?_ <;> intro _ <;> (try (exfalso; first | contradiction | omega | (rename_i hz; refine hz ?_; simp; done) | (rename_i hz; simp at hz; done) | (simp only [LN] at *; omega))))
      | (with_reducible refine spB_bne ?_ ?_ <;> intro _ <;> (try (exfalso; first | contradiction | omega | (rename_i hz; refine hz ?_; simp; done) | (rename_i hz; simp at hz; done) | (simp only [LN] at *; omega))))
      | ((with_reducible apply ixN_lit); (focus (exact rfl)); (focus (exact rfl)))
      | ((first | (with_reducible refine Z.callZ_mk ?_ (c6) ?_)); (focus ((repeat' (first | exact trivial | exact rfl | apply And.intro)); done)))
      | fail)
    all_goals (try (conv => whnf))
    all_goals try (show Nat.ble _ _ = true; rfl)
    all_goals try (exfalso; rename_i hz; cases hz; done)
    all_goals try (exfalso; (try simp only [LN] at *) <;> omega)
    all_goals first
      | ((first | (with_reducible apply Z.retF1)); (focus (exact rfl)); (repeat' (first | exact trivial | (with_reducible apply Z.frz_one) | (with_reducible apply Z.fq_bool) | exact rfl | apply And.intro)); (all_goals (try exact (fun _ => none))); all_goals (first | (simp; done)))
      | fail
  · by_cases hok : (0 ≤ x.o7 ∧ x.o7 ≤ 40) ∧ (x.o7 = 0 ∨ e7 = x.ix)
    · skip
      repeat' ((conv => whnf); first
        | with_reducible first | refine spB_t ?_
        | with_reducible first | refine spB_yes (by decide) ?_ | refine spB_no (by decide) ?_ | refine spB_not ?_
        | (with_reducible refine spB_dec ?_ ?_ <;> intro _ <;> (try (exfalso; first | contradiction | omega | (rename_i hz; refine hz ?_; simp; done) | (rename_i hz; simp at hz; done) | (simp only [LN] at *; omega))))
        | (with_reducible refine spB_bne ?_ ?_ <;> intro _ <;> (try (exfalso; first | contradiction | omega | (rename_i hz; refine hz ?_; simp; done) | (rename_i hz; simp at hz; done) | (simp only [LN] at *; omega))))
        | ((with_reducible apply ixN_lit); (focus (exact rfl)); (focus (exact rfl)))
        | with_reducible refine wr_i64 (by first | omega | (simp only [LN] at *; omega)) ?_
        | ((first | (with_reducible refine Z.callZ_mk ?_ (c7) ?_)); (focus ((repeat' (first | exact trivial | exact rfl | apply And.intro)); done)))
        | fail)
      all_goals (try (conv => whnf))
      all_goals try (show Nat.ble _ _ = true; rfl)
      all_goals try (exfalso; rename_i hz; cases hz; done)
      all_goals try (exfalso; (try simp only [LN] at *) <;> omega)
      all_goals first
        | ((refine Z.rndK (8) (fun s => [0]) rfl rfl rfl rfl ?_ ?_ ?_ ?_); (focus (repeat' (first | exact trivial | exact rfl | apply And.intro))); (focus (repeat' (first | exact trivial | (intro b hb; cases hb; rfl) | apply And.intro))); (focus ((refine ⟨by (try dsimp only); omega, fun k hk => ?_⟩; (try dsimp only at hk); rcases Nat.lt_succ_iff_lt_or_eq.1 hk with h | h; exact HP k h; subst h; exact hok))); ((try dsimp only); omega))
        | fail
    rw [decide_eq_false (fun h => hok ⟨h.1.2.2.2.2.2.2.2, h.2.2.2.2.2.2.2.2⟩)]
    repeat' ((conv => whnf); first
      | with_reducible first | refine spB_t ?_
      | with_reducible first | refine spB_yes (by decide) ?_ | refine spB_no (by decide) ?_ | refine spB_not ?_
      | (with_reducible refine spB_dec ?_ ?_ <;> intro _ <;> (try (exfalso; first | contradiction | omega | (rename_i hz; refine hz ?_; simp; done) | (rename_i hz; simp at hz; done) | (simp only [LN] at *; omega))))
      | (with_reducible refine spB_bne ?_ ?_ <;> intro _ <;> (try (exfalso; first | contradiction | omega | (rename_i hz; refine hz ?_; simp; done) | (rename_i hz; simp at hz; done) | (simp only [LN] at *; omega))))
      | ((with_reducible apply ixN_lit); (focus (exact rfl)); (focus (exact rfl)))
      | ((first | (with_reducible refine Z.callZ_mk ?_ (c7) ?_)); (focus ((repeat' (first | exact trivial | exact rfl | apply And.intro)); done)))
      | fail)
    all_goals (try (conv => whnf))
    all_goals try (show Nat.ble _ _ = true; rfl)
    all_goals try (exfalso; rename_i hz; cases hz; done)
    all_goals try (exfalso; (try simp only [LN] at *) <;> omega)
    all_goals first
      | ((first | (with_reducible apply Z.retF1)); (focus (exact rfl)); (repeat' (first | exact trivial | (with_reducible apply Z.frz_one) | (with_reducible apply Z.fq_bool) | exact rfl | apply And.intro)); (all_goals (try exact (fun _ => none))); all_goals (first | (simp; done)))
      | fail
  rw [decide_eq_true ⟨⟨(HP 0 (by decide)).1, (HP 1 (by decide)).1, (HP 2 (by decide)).1, (HP 3 (by decide)).1, (HP 4 (by decide)).1, (HP 5 (by decide)).1, (HP 6 (by decide)).1, (HP 7 (by decide)).1⟩, ⟨(HP 0 (by decide)).2, (HP 1 (by decide)).2, (HP 2 (by decide)).2, (HP 3 (by decide)).2, (HP 4 (by decide)).2, (HP 5 (by decide)).2, (HP 6 (by decide)).2, (HP 7 (by decide)).2⟩⟩]
  repeat' ((conv => whnf); first
    | with_reducible first | refine spB_no (by decide) ?_
    | fail)
  all_goals (try (conv => whnf))
  all_goals try (show Nat.ble _ _ = true; rfl)
  all_goals try (exfalso; rename_i hz; cases hz; done)
  all_goals try (exfalso; (try simp only [LN] at *) <;> omega)
  all_goals first
    | ((first | (with_reducible apply Z.retF1)); (focus (exact rfl)); (repeat' (first | exact trivial | (with_reducible apply Z.frz_one) | (with_reducible apply Z.fq_bool) | exact rfl | apply And.intro)); (all_goals (try exact (fun _ => none))); all_goals (first | (simp; done)))
    | fail
end Go.Proofs.Ytopieffkpdlpbaa
namespace Go.Proofs.Ytopieffkpdlpbaa
open Go Go.RowKit Wx
set_option linter.unusedVariables false
set_option linter.unusedSimpArgs false
set_option maxHeartbeats 4000000
namespace Tab
theorem rpart_con (l : List Kc) (a w : Int) (hl : l.length ≤ 1000) : Con Try.prog 51 [.agg [.ro false 4 (l.map eK)], .one (.v (.int .i64 a)), .one (.v (.int .i64 w))] (fun rx rK rt => rx = .tup [.agg [.ro true 4 ((partT l a w).1.map eK)], .one (.v (.int .i64 (partT l a w).2))] ∧ rK = [] ∧ rt = 0) := by
  refine Z.con_ofF tabOk 42 Try.f51 _ Try.func51 (by kernel_rfl) rfl rfl rfl rfl ?_
  have cc := rcheck_con l (by omega)
  have csh := rshare_con a w
  unfold partT
  cases ht : tabR l
  all_goals rw [ht] at cc
  · simp only [if_true]
    repeat' ((conv => whnf); first
      | with_reducible first | refine spB_t ?_
      | ((with_reducible apply spB_cong); (focus (simp only [beq_self_eq_true, bne_self_eq_false, Bool.true_bne, Bool.false_bne, Bool.bne_true, Bool.bne_false, Bool.true_beq, Bool.false_beq, Bool.not_true, Bool.not_false, Bool.not_not, Int.reduceBEq, Int.reduceBNe, Int.reduceLE, Int.reduceLT, Int.reduceEq, decide_true, decide_false]; rfl)))
      | ((first | (with_reducible refine Z.callZ_mk ?_ (cc) ?_)); (focus ((repeat' (first | exact trivial | exact rfl | apply And.intro)); done)))
      | fail)
    all_goals (try (conv => whnf))
    all_goals try (show Nat.ble _ _ = true; rfl)
    all_goals try (exfalso; rename_i hz; cases hz; done)
    all_goals try (exfalso; (try simp only [LN] at *) <;> omega)
    all_goals first
      | ((first | (with_reducible apply Z.retF2)); (focus (exact rfl)); (repeat' (first | exact trivial | (with_reducible apply Z.frz_one) | (with_reducible apply Z.frz_agg) | (with_reducible apply Z.fq_int) | (exact Z.frz_nil) | exact rfl | apply And.intro)); (all_goals (try exact (fun _ => none))); all_goals (first | (simp; done)))
      | fail
  simp only [Bool.true_eq_false, if_false]
  by_cases hs : okS a w
  rotate_left
  · rw [decide_eq_false hs] at csh
    rw [if_neg hs]
    repeat' ((conv => whnf); first
      | with_reducible first | refine spB_t ?_
      | ((with_reducible apply spB_cong); (focus (simp only [beq_self_eq_true, bne_self_eq_false, Bool.true_bne, Bool.false_bne, Bool.bne_true, Bool.bne_false, Bool.true_beq, Bool.false_beq, Bool.not_true, Bool.not_false, Bool.not_not, Int.reduceBEq, Int.reduceBNe, Int.reduceLE, Int.reduceLT, Int.reduceEq, decide_true, decide_false]; rfl)))
      | with_reducible first | refine spB_no (by decide) ?_
      | ((first | (with_reducible refine Z.callZ_mk ?_ (cc) ?_) | (with_reducible refine Z.callZ_mk ?_ (csh) ?_)); (focus ((repeat' (first | exact trivial | exact rfl | apply And.intro)); done)))
      | fail)
    all_goals (try (conv => whnf))
    all_goals try (show Nat.ble _ _ = true; rfl)
    all_goals try (exfalso; rename_i hz; cases hz; done)
    all_goals try (exfalso; (try simp only [LN] at *) <;> omega)
    all_goals first
      | ((first | (with_reducible apply Z.retF2)); (focus (exact rfl)); (repeat' (first | exact trivial | (with_reducible apply Z.frz_one) | (with_reducible apply Z.frz_agg) | (with_reducible apply Z.fq_int) | (exact Z.frz_nil) | exact rfl | apply And.intro)); (all_goals (try exact (fun _ => none))); all_goals (first | (simp; done)))
      | fail
  rw [decide_eq_true hs] at csh
  rw [if_pos hs]
  repeat' ((conv => whnf); first
    | ((with_reducible apply spB_cong); (focus (simp only [beq_self_eq_true, bne_self_eq_false, Bool.true_bne, Bool.false_bne, Bool.bne_true, Bool.bne_false, Bool.true_beq, Bool.false_beq, Bool.not_true, Bool.not_false, Bool.not_not, Int.reduceBEq, Int.reduceBNe, Int.reduceLE, Int.reduceLT, Int.reduceEq, decide_true, decide_false]; rfl)))
    | with_reducible first | refine spB_no (by decide) ?_
    | ((first | (with_reducible refine Z.callZ_mk ?_ (cc) ?_) | (with_reducible refine Z.callZ_mk ?_ (csh) ?_)); (focus ((repeat' (first | exact trivial | exact rfl | apply And.intro)); done)))
    | fail)
  all_goals (try (conv => whnf))
  all_goals try (show Nat.ble _ _ = true; rfl)
  all_goals try (exfalso; rename_i hz; cases hz; done)
  all_goals try (exfalso; (try simp only [LN] at *) <;> omega)
  refine Z.loopK tabOk (fun zq : Nat × List Kc => [(25, .val (.int .i64 (zq.1 : Int)))]) (fun zq : Nat × List Kc => ([(2, some (Z.Ob.b ⟨[[.gsl 3 (zq.2.map cK)]], 1, 28, true⟩)), (3, (gB 4 70 (zq.2.map cK)).map Z.Ob.b)] : Z.Kr)) (fun zq => zq.1 ≤ l.length ∧ zq.2 = partL (l.take zq.1) a w) (fun zq => l.length - zq.1) (0, []) 4 [(1, _), (2, _), (6, _), (8, _), (23, _), (24, _)] ⟨rfl, rfl, rfl, rfl, rfl, rfl, trivial⟩ [(0, some _), (1, some _)] ⟨rfl, rfl, trivial⟩ ?_ ?_ rfl rfl ⟨Nat.zero_le _, by simp [partL]⟩ ?_
  · repeat' (first | exact trivial | apply And.intro | exact ⟨_, rfl, Z.Imp.refl _⟩)
  · repeat' (first | exact trivial | (intro b hb; cases hb; done) | (intro b hb; cases hb; refine ⟨_, rfl, ⟨rfl, rfl, rfl⟩, ?_⟩; (repeat' (first | exact trivial | apply And.intro | exact Z.Imp.nilg _)); done) | apply And.intro)
  rintro ⟨i, acc⟩ HINV
  (try dsimp only at HINV); (try dsimp only)
  obtain ⟨HI, HA⟩ := HINV
  have hpl := @part_len (l.take i) a w
  rw [List.length_take, ← HA] at hpl
  by_cases hi2 : i < l.length
  · obtain ⟨x, hx⟩ := getElem?_some' (xs := l) (i := i) hi2
    have hpa := part_at (i := a) (w := w) hx
    rw [← HA] at hpa
    have cm := rmine_con x.src x.key 0 a w
    cases hm : mineB x.src x.key a w
    all_goals rw [hm] at cm hpa
    all_goals simp only [cond_true, cond_false, List.append_nil] at hpa
    · skip
      repeat' ((conv => whnf); first
        | with_reducible first | refine spB_no (by decide) ?_
        | (with_reducible refine spB_dec ?_ ?_ <;> intro _ <;> (try (exfalso; first | contradiction | omega | (rename_i hz; refine hz ?_; simp; done) | (rename_i hz; simp at hz; done) | (simp only [LN] at *; omega))))
        | with_reducible first | refine Z.rowN_known hx ?_
        | ((with_reducible apply ixN_litp); (focus (exact rfl)); (focus ((try simp only [LN] at *) <;> omega)))
        | with_reducible refine wr_i64 (by first | omega | (simp only [LN] at *; omega)) ?_
        | with_reducible first | refine Z.callZ_in tabOk 8 Try.f74 _ Try.func74 (by kernel_rfl) rfl rfl rfl ?_
        | ((first | (with_reducible refine Z.callZ_mk ?_ (cm) ?_)); (focus ((repeat' (first | exact trivial | exact rfl | apply And.intro)); done)))
        | ((with_reducible apply ex_and); exact rfl)
        | fail)
      all_goals (try (conv => whnf))
      all_goals try (show Nat.ble _ _ = true; rfl)
      all_goals try (exfalso; rename_i hz; cases hz; done)
      all_goals try (exfalso; (try simp only [LN] at *) <;> omega)
      all_goals first
        | ((refine Z.rndK ((i + 1, acc)) (fun s => [0, 1, 2, s.idIn 2 0]) rfl rfl rfl rfl ?_ ?_ ?_ ?_); (focus (repeat' (first | exact trivial | exact rfl | apply And.intro))); (focus (repeat' (first | exact trivial | (intro b hb; cases hb; rfl) | exact Z.gB_sub rfl rfl (ren_map fun _ => rfl) | apply And.intro))); (focus (exact ⟨by (try dsimp only); omega, hpa.symm⟩)); ((try dsimp only); omega))
        | fail
    · skip
      repeat' ((conv => whnf); first
        | with_reducible first | refine spB_t ?_
        | (with_reducible refine spB_dec ?_ ?_ <;> intro _ <;> (try (exfalso; first | contradiction | omega | (rename_i hz; refine hz ?_; simp; done) | (rename_i hz; simp at hz; done) | (simp only [LN] at *; omega))))
        | with_reducible first | refine Z.rowN_known hx ?_
        | ((with_reducible refine posE_pos ?_ ?_); (focus ((try simp only [LN] at *) <;> omega)))
        | ((with_reducible apply ixN_litp); (focus (exact rfl)); (focus ((try simp only [LN] at *) <;> omega)))
        | ((with_reducible refine apdN.mk ?_ ?_ ?_ ?_ ?_ ?_); (focus (first | rfl)); (focus (first | exact one_all (by rfl))); (focus ((try simp only [LN] at *) <;> omega)); (focus ((try simp only [LN] at *) <;> omega)); (focus ((try simp only [LN] at *) <;> omega)))
        | with_reducible refine wr_i64 (by first | omega | (simp only [LN] at *; omega)) ?_
        | with_reducible first | refine Z.callZ_in tabOk 8 Try.f74 _ Try.func74 (by kernel_rfl) rfl rfl rfl ?_
        | ((first | (with_reducible refine Z.callZ_mk ?_ (cm) ?_)); (focus ((repeat' (first | exact trivial | exact rfl | apply And.intro)); done)))
        | ((with_reducible refine eqN_mk2 ?_ ?_); (focus (exact Z.kb_some rfl)))
        | ((with_reducible apply ex_and); exact rfl)
        | fail)
      all_goals (try (conv => whnf))
      all_goals try (show Nat.ble _ _ = true; rfl)
      all_goals try (exfalso; rename_i hz; cases hz; done)
      all_goals try (exfalso; (try simp only [LN] at *) <;> omega)
      all_goals first
        | ((refine Z.rndK ((i + 1, acc ++ [x])) (fun s => [0, 1, 2, s.idIn 2 0]) rfl rfl rfl rfl ?_ ?_ ?_ ?_); (focus (repeat' (first | exact trivial | exact rfl | apply And.intro))); (focus (repeat' (first | exact trivial | (intro b hb; cases hb; rfl) | (intro b hb; cases hb; rw [List.map_append (f := cK)]; rfl) | exact Z.gB_sub' rfl (by first | rfl | (rw [List.map_append]; rfl) | simp only [List.map_append, List.map_cons, List.map_nil]) (ren_map fun _ => rfl) | apply And.intro))); (focus (exact ⟨by (try dsimp only); omega, hpa.symm⟩)); ((try dsimp only); omega))
        | fail
  have hil : i = l.length := by omega
  subst hil
  rw [List.take_length] at HA
  subst HA
  repeat' ((conv => whnf); first
    | (with_reducible refine spB_dec ?_ ?_ <;> intro _ <;> (try (exfalso; first | contradiction | omega | (rename_i hz; refine hz ?_; simp; done) | (rename_i hz; simp at hz; done) | (simp only [LN] at *; omega))))
    | fail)
  all_goals (try (conv => whnf))
  all_goals try (show Nat.ble _ _ = true; rfl)
  all_goals try (exfalso; rename_i hz; cases hz; done)
  all_goals try (exfalso; (try simp only [LN] at *) <;> omega)
  all_goals first
    | ((first | (with_reducible apply Z.retF2)); (focus (exact rfl)); (repeat' (first | exact trivial | (with_reducible apply Z.frz_one) | (with_reducible apply Z.frz_agg) | (with_reducible apply Z.fq_int) | ((with_reducible apply Z.fq_gsl); (focus (first | exact Z.isB_map _)); (focus (exact fun _ => rfl))) | exact rfl | apply And.intro)); (all_goals (try exact (fun _ => none))); all_goals (first | (simp; done)))
    | fail
end Tab
end Go.Proofs.Ytopieffkpdlpbaa
namespace Go.Proofs.Ytopieffkpdlpbaa
open Go Go.RowKit Wx
set_option linter.unusedVariables false
set_option linter.unusedSimpArgs false
set_option maxHeartbeats 4000000
theorem rpart_no (x : Sn) (i w : Int) (hr : x.rows.length ≤ 1000) (ht : x.txs.length ≤ 9223372036854775807) (hs : snapR x = false) : Con Try.prog 22 [.agg [.v (.int .i64 x.op), .v (.int .i64 x.ix), .v (.int .i64 x.w), .v (.bool x.en), .ro false 4 (x.rows.map Tab.eK), .v (.int .i64 x.o0), .v (.int .i64 x.o1), .v (.int .i64 x.o2), .v (.int .i64 x.o3), .v (.int .i64 x.o4), .v (.int .i64 x.o5), .v (.int .i64 x.o6), .v (.int .i64 x.o7), .ro false 3 (x.txs.map eN)], .one (.v (.int .i64 i)), .one (.v (.int .i64 w))] (fun rx rK rt => rx = .tup [.agg [.v (.int .i64 zeroS.op), .v (.int .i64 zeroS.ix), .v (.int .i64 zeroS.w), .v (.bool zeroS.en), .ro true 4 (zeroS.rows.map Tab.eK), .v (.int .i64 zeroS.o0), .v (.int .i64 zeroS.o1), .v (.int .i64 zeroS.o2), .v (.int .i64 zeroS.o3), .v (.int .i64 zeroS.o4), .v (.int .i64 zeroS.o5), .v (.int .i64 zeroS.o6), .v (.int .i64 zeroS.o7), .ro true 3 (zeroS.txs.map eN)], .one (.v (.int .i64 280))] ∧ rK = [] ∧ rt = 0) := by
  refine Z.con_ofF tabOk 59 Try.f22 _ Try.func22 (by kernel_rfl) rfl rfl rfl rfl ?_
  have cm := rright_con x hr ht
  rw [hs] at cm
  repeat' ((conv => whnf); first
    | with_reducible first | refine spB_t ?_
    | ((with_reducible apply spB_cong); (focus (simp only [beq_self_eq_true, bne_self_eq_false, Bool.true_bne, Bool.false_bne, Bool.bne_true, Bool.bne_false, Bool.true_beq, Bool.false_beq, Bool.not_true, Bool.not_false, Bool.not_not, Int.reduceBEq, Int.reduceBNe, Int.reduceLE, Int.reduceLT, Int.reduceEq, decide_true, decide_false]; rfl)))
    | ((first | (with_reducible refine Z.callZ_mk ?_ (cm) ?_)); (focus ((repeat' (first | exact trivial | exact rfl | apply And.intro)); done)))
    | fail)
  all_goals (try (conv => whnf))
  all_goals try (show Nat.ble _ _ = true; rfl)
  all_goals try (exfalso; rename_i hz; cases hz; done)
  all_goals try (exfalso; (try simp only [LN] at *) <;> omega)
  all_goals first
    | ((first | (with_reducible apply Z.retF2)); (focus (exact rfl)); (repeat' (first | exact trivial | (with_reducible apply Z.frz_one) | (with_reducible apply Z.frz_agg) | (with_reducible apply Z.fq_int) | (with_reducible apply Z.fq_bool) | (exact Z.frz_nil) | exact rfl | apply And.intro)); (all_goals (try exact (fun _ => none))); all_goals (first | (simp; done)))
    | fail
theorem rpart_w (x : Sn) (i w : Int) (hr : x.rows.length ≤ 1000) (ht : x.txs.length ≤ 9223372036854775807) (hs : snapR x = true) (hw : x.w ≠ 1) : Con Try.prog 22 [.agg [.v (.int .i64 x.op), .v (.int .i64 x.ix), .v (.int .i64 x.w), .v (.bool x.en), .ro false 4 (x.rows.map Tab.eK), .v (.int .i64 x.o0), .v (.int .i64 x.o1), .v (.int .i64 x.o2), .v (.int .i64 x.o3), .v (.int .i64 x.o4), .v (.int .i64 x.o5), .v (.int .i64 x.o6), .v (.int .i64 x.o7), .ro false 3 (x.txs.map eN)], .one (.v (.int .i64 i)), .one (.v (.int .i64 w))] (fun rx rK rt => rx = .tup [.agg [.v (.int .i64 zeroS.op), .v (.int .i64 zeroS.ix), .v (.int .i64 zeroS.w), .v (.bool zeroS.en), .ro true 4 (zeroS.rows.map Tab.eK), .v (.int .i64 zeroS.o0), .v (.int .i64 zeroS.o1), .v (.int .i64 zeroS.o2), .v (.int .i64 zeroS.o3), .v (.int .i64 zeroS.o4), .v (.int .i64 zeroS.o5), .v (.int .i64 zeroS.o6), .v (.int .i64 zeroS.o7), .ro true 3 (zeroS.txs.map eN)], .one (.v (.int .i64 281))] ∧ rK = [] ∧ rt = 0) := by
  refine Z.con_ofF tabOk 59 Try.f22 _ Try.func22 (by kernel_rfl) rfl rfl rfl rfl ?_
  have cm := rright_con x hr ht
  rw [hs] at cm
  repeat' ((conv => whnf); first
    | ((with_reducible apply spB_cong); (focus (simp only [beq_self_eq_true, bne_self_eq_false, Bool.true_bne, Bool.false_bne, Bool.bne_true, Bool.bne_false, Bool.true_beq, Bool.false_beq, Bool.not_true, Bool.not_false, Bool.not_not, Int.reduceBEq, Int.reduceBNe, Int.reduceLE, Int.reduceLT, Int.reduceEq, decide_true, decide_false]; rfl)))
    | with_reducible first | refine spB_no (by decide) ?_
    | (with_reducible refine spB_bne ?_ ?_ <;> intro _ <;> (try (exfalso; first | contradiction | omega | (rename_i hz; refine hz ?_; simp; done) | (rename_i hz; simp at hz; done) | (simp only [LN] at *; omega))))
    | ((first | (with_reducible refine Z.callZ_mk ?_ (cm) ?_)); (focus ((repeat' (first | exact trivial | exact rfl | apply And.intro)); done)))
    | fail)
  all_goals (try (conv => whnf))
  all_goals try (show Nat.ble _ _ = true; rfl)
  all_goals try (exfalso; rename_i hz; cases hz; done)
  all_goals try (exfalso; (try simp only [LN] at *) <;> omega)
  all_goals first
    | ((first | (with_reducible apply Z.retF2)); (focus (exact rfl)); (repeat' (first | exact trivial | (with_reducible apply Z.frz_one) | (with_reducible apply Z.frz_agg) | (with_reducible apply Z.fq_int) | (with_reducible apply Z.fq_bool) | (exact Z.frz_nil) | exact rfl | apply And.intro)); (all_goals (try exact (fun _ => none))); all_goals (first | (simp; done)))
    | fail
theorem rpart_sh (x : Sn) (i w : Int) (hr : x.rows.length ≤ 1000) (ht : x.txs.length ≤ 9223372036854775807) (hs : snapR x = true) (hw : x.w = 1) (ho : ¬ Tab.okS i w) : Con Try.prog 22 [.agg [.v (.int .i64 x.op), .v (.int .i64 x.ix), .v (.int .i64 x.w), .v (.bool x.en), .ro false 4 (x.rows.map Tab.eK), .v (.int .i64 x.o0), .v (.int .i64 x.o1), .v (.int .i64 x.o2), .v (.int .i64 x.o3), .v (.int .i64 x.o4), .v (.int .i64 x.o5), .v (.int .i64 x.o6), .v (.int .i64 x.o7), .ro false 3 (x.txs.map eN)], .one (.v (.int .i64 i)), .one (.v (.int .i64 w))] (fun rx rK rt => rx = .tup [.agg [.v (.int .i64 zeroS.op), .v (.int .i64 zeroS.ix), .v (.int .i64 zeroS.w), .v (.bool zeroS.en), .ro true 4 (zeroS.rows.map Tab.eK), .v (.int .i64 zeroS.o0), .v (.int .i64 zeroS.o1), .v (.int .i64 zeroS.o2), .v (.int .i64 zeroS.o3), .v (.int .i64 zeroS.o4), .v (.int .i64 zeroS.o5), .v (.int .i64 zeroS.o6), .v (.int .i64 zeroS.o7), .ro true 3 (zeroS.txs.map eN)], .one (.v (.int .i64 2))] ∧ rK = [] ∧ rt = 0) := by
  refine Z.con_ofF tabOk 59 Try.f22 _ Try.func22 (by kernel_rfl) rfl rfl rfl rfl ?_
  have cm := rright_con x hr ht
  rw [hs] at cm
  have csh := Tab.rshare_con i w
  rw [decide_eq_false ho] at csh
  repeat' ((conv => whnf); first
    | with_reducible first | refine spB_t ?_
    | ((with_reducible apply spB_cong); (focus (simp only [beq_self_eq_true, bne_self_eq_false, Bool.true_bne, Bool.false_bne, Bool.bne_true, Bool.bne_false, Bool.true_beq, Bool.false_beq, Bool.not_true, Bool.not_false, Bool.not_not, Int.reduceBEq, Int.reduceBNe, Int.reduceLE, Int.reduceLT, Int.reduceEq, decide_true, decide_false]; rfl)))
    | with_reducible first | refine spB_no (by decide) ?_
    | (with_reducible refine spB_bne ?_ ?_ <;> intro _ <;> (try (exfalso; first | contradiction | omega | (rename_i hz; refine hz ?_; simp; done) | (rename_i hz; simp at hz; done) | (simp only [LN] at *; omega))))
    | ((first | (with_reducible refine Z.callZ_mk ?_ (cm) ?_) | (with_reducible refine Z.callZ_mk ?_ (csh) ?_)); (focus ((repeat' (first | exact trivial | exact rfl | apply And.intro)); done)))
    | fail)
  all_goals (try (conv => whnf))
  all_goals try (show Nat.ble _ _ = true; rfl)
  all_goals try (exfalso; rename_i hz; cases hz; done)
  all_goals try (exfalso; (try simp only [LN] at *) <;> omega)
  all_goals first
    | ((first | (with_reducible apply Z.retF2)); (focus (exact rfl)); (repeat' (first | exact trivial | (with_reducible apply Z.frz_one) | (with_reducible apply Z.frz_agg) | (with_reducible apply Z.fq_int) | (with_reducible apply Z.fq_bool) | (exact Z.frz_nil) | exact rfl | apply And.intro)); (all_goals (try exact (fun _ => none))); all_goals (first | (simp; done)))
    | fail
theorem rpart_okS (x : Sn) (i w : Int) (hr : x.rows.length ≤ 1000) (ht : x.txs.length ≤ 9223372036854775807) (hs : snapR x = true) (hw : x.w = 1) (ho : Tab.okS i w) : Con Try.prog 22 [.agg [.v (.int .i64 x.op), .v (.int .i64 x.ix), .v (.int .i64 x.w), .v (.bool x.en), .ro false 4 (x.rows.map Tab.eK), .v (.int .i64 x.o0), .v (.int .i64 x.o1), .v (.int .i64 x.o2), .v (.int .i64 x.o3), .v (.int .i64 x.o4), .v (.int .i64 x.o5), .v (.int .i64 x.o6), .v (.int .i64 x.o7), .ro false 3 (x.txs.map eN)], .one (.v (.int .i64 i)), .one (.v (.int .i64 w))] (fun rx rK rt => rx = .tup [.agg [.v (.int .i64 (partS x i w).op), .v (.int .i64 (partS x i w).ix), .v (.int .i64 (partS x i w).w), .v (.bool (partS x i w).en), .ro true 4 ((partS x i w).rows.map Tab.eK), .v (.int .i64 (partS x i w).o0), .v (.int .i64 (partS x i w).o1), .v (.int .i64 (partS x i w).o2), .v (.int .i64 (partS x i w).o3), .v (.int .i64 (partS x i w).o4), .v (.int .i64 (partS x i w).o5), .v (.int .i64 (partS x i w).o6), .v (.int .i64 (partS x i w).o7), .ro true 3 ((partS x i w).txs.map eN)], .one (.v (.int .i64 0))] ∧ rK = [] ∧ rt = 0) := by
  refine Z.con_ofF tabOk 59 Try.f22 _ Try.func22 (by kernel_rfl) rfl rfl rfl rfl ?_
  have cm := rright_con x hr ht
  rw [hs] at cm
  have htb : Tab.tabR x.rows = true := snapR_tab hs
  have csh := Tab.rshare_con i w
  rw [decide_eq_true ho] at csh
  have cpa := Tab.rpart_con x.rows i w hr
  unfold Tab.partT at cpa
  rw [htb] at cpa
  rw [if_neg (by decide), if_pos ho] at cpa
  dsimp only at cpa
  generalize hQ : Tab.partL x.rows i w = Q at *
  have hz : (AV.tup [.agg [.v (.int .i64 (partS x i w).op), .v (.int .i64 (partS x i w).ix), .v (.int .i64 (partS x i w).w), .v (.bool (partS x i w).en), .ro true 4 ((partS x i w).rows.map Tab.eK), .v (.int .i64 (partS x i w).o0), .v (.int .i64 (partS x i w).o1), .v (.int .i64 (partS x i w).o2), .v (.int .i64 (partS x i w).o3), .v (.int .i64 (partS x i w).o4), .v (.int .i64 (partS x i w).o5), .v (.int .i64 (partS x i w).o6), .v (.int .i64 (partS x i w).o7), .ro true 3 ((partS x i w).txs.map eN)], .one (.v (.int .i64 0))]) = .tup [.agg [.v (.int .i64 x.op), .v (.int .i64 i), .v (.int .i64 w), .v (.bool x.en), .ro true 4 (Q.map Tab.eK), .v (.int .i64 (own1 0 i w x.o0)), .v (.int .i64 (own1 1 i w x.o1)), .v (.int .i64 (own1 2 i w x.o2)), .v (.int .i64 (own1 3 i w x.o3)), .v (.int .i64 (own1 4 i w x.o4)), .v (.int .i64 (own1 5 i w x.o5)), .v (.int .i64 (own1 6 i w x.o6)), .v (.int .i64 (own1 7 i w x.o7)), .ro true 3 (([] : List Nm).map eN)], .one (.v (.int .i64 0))] := by unfold partS; rw [hQ]
  rw [hz]
  clear hz hQ
  unfold own1
  rcases six ho with ⟨rfl, rfl⟩ | ⟨rfl, rfl⟩ | ⟨rfl, rfl⟩ | ⟨rfl, rfl⟩ | ⟨rfl, rfl⟩ | ⟨rfl, rfl⟩
  · simp only [show Tab.ownG 0 1 = 0 from rfl, show Tab.ownG 1 1 = 0 from rfl, show Tab.ownG 2 1 = 0 from rfl, show Tab.ownG 3 1 = 0 from rfl, show Tab.ownG 4 1 = 0 from rfl, show Tab.ownG 5 1 = 0 from rfl, show Tab.ownG 6 1 = 0 from rfl, show Tab.ownG 7 1 = 0 from rfl]
    repeat' ((conv => whnf); first
      | with_reducible first | refine spB_t ?_
      | ((with_reducible apply spB_cong); (focus (simp only [beq_self_eq_true, bne_self_eq_false, Bool.true_bne, Bool.false_bne, Bool.bne_true, Bool.bne_false, Bool.true_beq, Bool.false_beq, Bool.not_true, Bool.not_false, Bool.not_not, Int.reduceBEq, Int.reduceBNe, Int.reduceLE, Int.reduceLT, Int.reduceEq, decide_true, decide_false]; rfl)))
      | with_reducible first | refine spB_yes (by decide) ?_ | refine spB_no (by decide) ?_
      | (with_reducible refine spB_bne ?_ ?_ <;> intro _ <;> (try (exfalso; first | contradiction | omega | (rename_i hz; refine hz ?_; simp; done) | (rename_i hz; simp at hz; done) | (simp only [LN] at *; omega))))
      | with_reducible first | refine Z.loopZ_unroll tabOk 9 ?_
      | ((with_reducible apply ixN_lit); (focus (exact rfl)); (focus (exact rfl)))
      | with_reducible refine wr_i64 (by first | omega | (simp only [LN] at *; omega)) ?_
      | ((first | (with_reducible refine Z.callZ_mk ?_ (cm) ?_) | (with_reducible refine Z.callZ_mk ?_ (csh) ?_) | (with_reducible refine Z.callZ_mk ?_ (cpa) ?_)); (focus ((repeat' (first | exact trivial | exact rfl | apply And.intro)); done)))
      | ((first | (with_reducible refine Z.callZ_mk ?_ (rown_0_0_1) ?_)); (focus ((repeat' (first | exact trivial | exact rfl | apply And.intro)); done)))
      | ((first | (with_reducible refine Z.callZ_mk ?_ (rown_1_0_1) ?_)); (focus ((repeat' (first | exact trivial | exact rfl | apply And.intro)); done)))
      | ((first | (with_reducible refine Z.callZ_mk ?_ (rown_2_0_1) ?_)); (focus ((repeat' (first | exact trivial | exact rfl | apply And.intro)); done)))
      | ((first | (with_reducible refine Z.callZ_mk ?_ (rown_3_0_1) ?_)); (focus ((repeat' (first | exact trivial | exact rfl | apply And.intro)); done)))
      | ((first | (with_reducible refine Z.callZ_mk ?_ (rown_4_0_1) ?_)); (focus ((repeat' (first | exact trivial | exact rfl | apply And.intro)); done)))
      | ((first | (with_reducible refine Z.callZ_mk ?_ (rown_5_0_1) ?_)); (focus ((repeat' (first | exact trivial | exact rfl | apply And.intro)); done)))
      | ((first | (with_reducible refine Z.callZ_mk ?_ (rown_6_0_1) ?_)); (focus ((repeat' (first | exact trivial | exact rfl | apply And.intro)); done)))
      | ((first | (with_reducible refine Z.callZ_mk ?_ (rown_7_0_1) ?_)); (focus ((repeat' (first | exact trivial | exact rfl | apply And.intro)); done)))
      | fail)
    all_goals (try (conv => whnf))
    all_goals try (show Nat.ble _ _ = true; rfl)
    all_goals try (exfalso; rename_i hz; cases hz; done)
    all_goals try (exfalso; (try simp only [LN] at *) <;> omega)
    all_goals first
      | ((first | (with_reducible apply Z.retF2)); (focus (exact rfl)); (repeat' (first | exact trivial | (with_reducible apply Z.frz_one) | (with_reducible apply Z.frz_agg) | (with_reducible apply Z.fq_int) | (with_reducible apply Z.fq_bool) | (exact Z.frz_nil) | exact rfl | apply And.intro)); (all_goals (try exact (fun _ => none))); all_goals (first | (simp; done)))
      | fail
  · simp only [show Tab.ownG 0 2 = 0 from rfl, show Tab.ownG 1 2 = 0 from rfl, show Tab.ownG 2 2 = 0 from rfl, show Tab.ownG 3 2 = 0 from rfl, show Tab.ownG 4 2 = 1 from rfl, show Tab.ownG 5 2 = 1 from rfl, show Tab.ownG 6 2 = 1 from rfl, show Tab.ownG 7 2 = 1 from rfl]
    repeat' ((conv => whnf); first
      | with_reducible first | refine spB_t ?_
      | ((with_reducible apply spB_cong); (focus (simp only [beq_self_eq_true, bne_self_eq_false, Bool.true_bne, Bool.false_bne, Bool.bne_true, Bool.bne_false, Bool.true_beq, Bool.false_beq, Bool.not_true, Bool.not_false, Bool.not_not, Int.reduceBEq, Int.reduceBNe, Int.reduceLE, Int.reduceLT, Int.reduceEq, decide_true, decide_false]; rfl)))
      | with_reducible first | refine spB_yes (by decide) ?_ | refine spB_no (by decide) ?_
      | (with_reducible refine spB_bne ?_ ?_ <;> intro _ <;> (try (exfalso; first | contradiction | omega | (rename_i hz; refine hz ?_; simp; done) | (rename_i hz; simp at hz; done) | (simp only [LN] at *; omega))))
      | with_reducible first | refine Z.loopZ_unroll tabOk 9 ?_
      | ((with_reducible apply ixN_lit); (focus (exact rfl)); (focus (exact rfl)))
      | with_reducible refine wr_i64 (by first | omega | (simp only [LN] at *; omega)) ?_
      | ((first | (with_reducible refine Z.callZ_mk ?_ (cm) ?_) | (with_reducible refine Z.callZ_mk ?_ (csh) ?_) | (with_reducible refine Z.callZ_mk ?_ (cpa) ?_)); (focus ((repeat' (first | exact trivial | exact rfl | apply And.intro)); done)))
      | ((first | (with_reducible refine Z.callZ_mk ?_ (rown_0_0_2) ?_)); (focus ((repeat' (first | exact trivial | exact rfl | apply And.intro)); done)))
      | ((first | (with_reducible refine Z.callZ_mk ?_ (rown_1_0_2) ?_)); (focus ((repeat' (first | exact trivial | exact rfl | apply And.intro)); done)))
      | ((first | (with_reducible refine Z.callZ_mk ?_ (rown_2_0_2) ?_)); (focus ((repeat' (first | exact trivial | exact rfl | apply And.intro)); done)))
      | ((first | (with_reducible refine Z.callZ_mk ?_ (rown_3_0_2) ?_)); (focus ((repeat' (first | exact trivial | exact rfl | apply And.intro)); done)))
      | ((first | (with_reducible refine Z.callZ_mk ?_ (rown_4_0_2) ?_)); (focus ((repeat' (first | exact trivial | exact rfl | apply And.intro)); done)))
      | ((first | (with_reducible refine Z.callZ_mk ?_ (rown_5_0_2) ?_)); (focus ((repeat' (first | exact trivial | exact rfl | apply And.intro)); done)))
      | ((first | (with_reducible refine Z.callZ_mk ?_ (rown_6_0_2) ?_)); (focus ((repeat' (first | exact trivial | exact rfl | apply And.intro)); done)))
      | ((first | (with_reducible refine Z.callZ_mk ?_ (rown_7_0_2) ?_)); (focus ((repeat' (first | exact trivial | exact rfl | apply And.intro)); done)))
      | fail)
    all_goals (try (conv => whnf))
    all_goals try (show Nat.ble _ _ = true; rfl)
    all_goals try (exfalso; rename_i hz; cases hz; done)
    all_goals try (exfalso; (try simp only [LN] at *) <;> omega)
    all_goals first
      | ((first | (with_reducible apply Z.retF2)); (focus (exact rfl)); (repeat' (first | exact trivial | (with_reducible apply Z.frz_one) | (with_reducible apply Z.frz_agg) | (with_reducible apply Z.fq_int) | (with_reducible apply Z.fq_bool) | (exact Z.frz_nil) | exact rfl | apply And.intro)); (all_goals (try exact (fun _ => none))); all_goals (first | (simp; done)))
      | fail
  · simp only [show Tab.ownG 0 2 = 0 from rfl, show Tab.ownG 1 2 = 0 from rfl, show Tab.ownG 2 2 = 0 from rfl, show Tab.ownG 3 2 = 0 from rfl, show Tab.ownG 4 2 = 1 from rfl, show Tab.ownG 5 2 = 1 from rfl, show Tab.ownG 6 2 = 1 from rfl, show Tab.ownG 7 2 = 1 from rfl]
    repeat' ((conv => whnf); first
      | with_reducible first | refine spB_t ?_
      | ((with_reducible apply spB_cong); (focus (simp only [beq_self_eq_true, bne_self_eq_false, Bool.true_bne, Bool.false_bne, Bool.bne_true, Bool.bne_false, Bool.true_beq, Bool.false_beq, Bool.not_true, Bool.not_false, Bool.not_not, Int.reduceBEq, Int.reduceBNe, Int.reduceLE, Int.reduceLT, Int.reduceEq, decide_true, decide_false]; rfl)))
      | with_reducible first | refine spB_yes (by decide) ?_ | refine spB_no (by decide) ?_
      | (with_reducible refine spB_bne ?_ ?_ <;> intro _ <;> (try (exfalso; first | contradiction | omega | (rename_i hz; refine hz ?_; simp; done) | (rename_i hz; simp at hz; done) | (simp only [LN] at *; omega))))
      | with_reducible first | refine Z.loopZ_unroll tabOk 9 ?_
      | ((with_reducible apply ixN_lit); (focus (exact rfl)); (focus (exact rfl)))
      | with_reducible refine wr_i64 (by first | omega | (simp only [LN] at *; omega)) ?_
      | ((first | (with_reducible refine Z.callZ_mk ?_ (cm) ?_) | (with_reducible refine Z.callZ_mk ?_ (csh) ?_) | (with_reducible refine Z.callZ_mk ?_ (cpa) ?_)); (focus ((repeat' (first | exact trivial | exact rfl | apply And.intro)); done)))
      | ((first | (with_reducible refine Z.callZ_mk ?_ (rown_0_1_2) ?_)); (focus ((repeat' (first | exact trivial | exact rfl | apply And.intro)); done)))
      | ((first | (with_reducible refine Z.callZ_mk ?_ (rown_1_1_2) ?_)); (focus ((repeat' (first | exact trivial | exact rfl | apply And.intro)); done)))
      | ((first | (with_reducible refine Z.callZ_mk ?_ (rown_2_1_2) ?_)); (focus ((repeat' (first | exact trivial | exact rfl | apply And.intro)); done)))
      | ((first | (with_reducible refine Z.callZ_mk ?_ (rown_3_1_2) ?_)); (focus ((repeat' (first | exact trivial | exact rfl | apply And.intro)); done)))
      | ((first | (with_reducible refine Z.callZ_mk ?_ (rown_4_1_2) ?_)); (focus ((repeat' (first | exact trivial | exact rfl | apply And.intro)); done)))
      | ((first | (with_reducible refine Z.callZ_mk ?_ (rown_5_1_2) ?_)); (focus ((repeat' (first | exact trivial | exact rfl | apply And.intro)); done)))
      | ((first | (with_reducible refine Z.callZ_mk ?_ (rown_6_1_2) ?_)); (focus ((repeat' (first | exact trivial | exact rfl | apply And.intro)); done)))
      | ((first | (with_reducible refine Z.callZ_mk ?_ (rown_7_1_2) ?_)); (focus ((repeat' (first | exact trivial | exact rfl | apply And.intro)); done)))
      | fail)
    all_goals (try (conv => whnf))
    all_goals try (show Nat.ble _ _ = true; rfl)
    all_goals try (exfalso; rename_i hz; cases hz; done)
    all_goals try (exfalso; (try simp only [LN] at *) <;> omega)
    all_goals first
      | ((first | (with_reducible apply Z.retF2)); (focus (exact rfl)); (repeat' (first | exact trivial | (with_reducible apply Z.frz_one) | (with_reducible apply Z.frz_agg) | (with_reducible apply Z.fq_int) | (with_reducible apply Z.fq_bool) | (exact Z.frz_nil) | exact rfl | apply And.intro)); (all_goals (try exact (fun _ => none))); all_goals (first | (simp; done)))
      | fail
  · simp only [show Tab.ownG 0 3 = 0 from rfl, show Tab.ownG 1 3 = 0 from rfl, show Tab.ownG 2 3 = 0 from rfl, show Tab.ownG 3 3 = 1 from rfl, show Tab.ownG 4 3 = 1 from rfl, show Tab.ownG 5 3 = 1 from rfl, show Tab.ownG 6 3 = 2 from rfl, show Tab.ownG 7 3 = 2 from rfl]
    repeat' ((conv => whnf); first
      | with_reducible first | refine spB_t ?_
      | ((with_reducible apply spB_cong); (focus (simp only [beq_self_eq_true, bne_self_eq_false, Bool.true_bne, Bool.false_bne, Bool.bne_true, Bool.bne_false, Bool.true_beq, Bool.false_beq, Bool.not_true, Bool.not_false, Bool.not_not, Int.reduceBEq, Int.reduceBNe, Int.reduceLE, Int.reduceLT, Int.reduceEq, decide_true, decide_false]; rfl)))
      | with_reducible first | refine spB_yes (by decide) ?_ | refine spB_no (by decide) ?_
      | (with_reducible refine spB_bne ?_ ?_ <;> intro _ <;> (try (exfalso; first | contradiction | omega | (rename_i hz; refine hz ?_; simp; done) | (rename_i hz; simp at hz; done) | (simp only [LN] at *; omega))))
      | with_reducible first | refine Z.loopZ_unroll tabOk 9 ?_
      | ((with_reducible apply ixN_lit); (focus (exact rfl)); (focus (exact rfl)))
      | with_reducible refine wr_i64 (by first | omega | (simp only [LN] at *; omega)) ?_
      | ((first | (with_reducible refine Z.callZ_mk ?_ (cm) ?_) | (with_reducible refine Z.callZ_mk ?_ (csh) ?_) | (with_reducible refine Z.callZ_mk ?_ (cpa) ?_)); (focus ((repeat' (first | exact trivial | exact rfl | apply And.intro)); done)))
      | ((first | (with_reducible refine Z.callZ_mk ?_ (rown_0_0_3) ?_)); (focus ((repeat' (first | exact trivial | exact rfl | apply And.intro)); done)))
      | ((first | (with_reducible refine Z.callZ_mk ?_ (rown_1_0_3) ?_)); (focus ((repeat' (first | exact trivial | exact rfl | apply And.intro)); done)))
      | ((first | (with_reducible refine Z.callZ_mk ?_ (rown_2_0_3) ?_)); (focus ((repeat' (first | exact trivial | exact rfl | apply And.intro)); done)))
      | ((first | (with_reducible refine Z.callZ_mk ?_ (rown_3_0_3) ?_)); (focus ((repeat' (first | exact trivial | exact rfl | apply And.intro)); done)))
      | ((first | (with_reducible refine Z.callZ_mk ?_ (rown_4_0_3) ?_)); (focus ((repeat' (first | exact trivial | exact rfl | apply And.intro)); done)))
      | ((first | (with_reducible refine Z.callZ_mk ?_ (rown_5_0_3) ?_)); (focus ((repeat' (first | exact trivial | exact rfl | apply And.intro)); done)))
      | ((first | (with_reducible refine Z.callZ_mk ?_ (rown_6_0_3) ?_)); (focus ((repeat' (first | exact trivial | exact rfl | apply And.intro)); done)))
      | ((first | (with_reducible refine Z.callZ_mk ?_ (rown_7_0_3) ?_)); (focus ((repeat' (first | exact trivial | exact rfl | apply And.intro)); done)))
      | fail)
    all_goals (try (conv => whnf))
    all_goals try (show Nat.ble _ _ = true; rfl)
    all_goals try (exfalso; rename_i hz; cases hz; done)
    all_goals try (exfalso; (try simp only [LN] at *) <;> omega)
    all_goals first
      | ((first | (with_reducible apply Z.retF2)); (focus (exact rfl)); (repeat' (first | exact trivial | (with_reducible apply Z.frz_one) | (with_reducible apply Z.frz_agg) | (with_reducible apply Z.fq_int) | (with_reducible apply Z.fq_bool) | (exact Z.frz_nil) | exact rfl | apply And.intro)); (all_goals (try exact (fun _ => none))); all_goals (first | (simp; done)))
      | fail
  · simp only [show Tab.ownG 0 3 = 0 from rfl, show Tab.ownG 1 3 = 0 from rfl, show Tab.ownG 2 3 = 0 from rfl, show Tab.ownG 3 3 = 1 from rfl, show Tab.ownG 4 3 = 1 from rfl, show Tab.ownG 5 3 = 1 from rfl, show Tab.ownG 6 3 = 2 from rfl, show Tab.ownG 7 3 = 2 from rfl]
    repeat' ((conv => whnf); first
      | with_reducible first | refine spB_t ?_
      | ((with_reducible apply spB_cong); (focus (simp only [beq_self_eq_true, bne_self_eq_false, Bool.true_bne, Bool.false_bne, Bool.bne_true, Bool.bne_false, Bool.true_beq, Bool.false_beq, Bool.not_true, Bool.not_false, Bool.not_not, Int.reduceBEq, Int.reduceBNe, Int.reduceLE, Int.reduceLT, Int.reduceEq, decide_true, decide_false]; rfl)))
      | with_reducible first | refine spB_yes (by decide) ?_ | refine spB_no (by decide) ?_
      | (with_reducible refine spB_bne ?_ ?_ <;> intro _ <;> (try (exfalso; first | contradiction | omega | (rename_i hz; refine hz ?_; simp; done) | (rename_i hz; simp at hz; done) | (simp only [LN] at *; omega))))
      | with_reducible first | refine Z.loopZ_unroll tabOk 9 ?_
      | ((with_reducible apply ixN_lit); (focus (exact rfl)); (focus (exact rfl)))
      | with_reducible refine wr_i64 (by first | omega | (simp only [LN] at *; omega)) ?_
      | ((first | (with_reducible refine Z.callZ_mk ?_ (cm) ?_) | (with_reducible refine Z.callZ_mk ?_ (csh) ?_) | (with_reducible refine Z.callZ_mk ?_ (cpa) ?_)); (focus ((repeat' (first | exact trivial | exact rfl | apply And.intro)); done)))
      | ((first | (with_reducible refine Z.callZ_mk ?_ (rown_0_1_3) ?_)); (focus ((repeat' (first | exact trivial | exact rfl | apply And.intro)); done)))
      | ((first | (with_reducible refine Z.callZ_mk ?_ (rown_1_1_3) ?_)); (focus ((repeat' (first | exact trivial | exact rfl | apply And.intro)); done)))
      | ((first | (with_reducible refine Z.callZ_mk ?_ (rown_2_1_3) ?_)); (focus ((repeat' (first | exact trivial | exact rfl | apply And.intro)); done)))
      | ((first | (with_reducible refine Z.callZ_mk ?_ (rown_3_1_3) ?_)); (focus ((repeat' (first | exact trivial | exact rfl | apply And.intro)); done)))
      | ((first | (with_reducible refine Z.callZ_mk ?_ (rown_4_1_3) ?_)); (focus ((repeat' (first | exact trivial | exact rfl | apply And.intro)); done)))
      | ((first | (with_reducible refine Z.callZ_mk ?_ (rown_5_1_3) ?_)); (focus ((repeat' (first | exact trivial | exact rfl | apply And.intro)); done)))
      | ((first | (with_reducible refine Z.callZ_mk ?_ (rown_6_1_3) ?_)); (focus ((repeat' (first | exact trivial | exact rfl | apply And.intro)); done)))
      | ((first | (with_reducible refine Z.callZ_mk ?_ (rown_7_1_3) ?_)); (focus ((repeat' (first | exact trivial | exact rfl | apply And.intro)); done)))
      | fail)
    all_goals (try (conv => whnf))
    all_goals try (show Nat.ble _ _ = true; rfl)
    all_goals try (exfalso; rename_i hz; cases hz; done)
    all_goals try (exfalso; (try simp only [LN] at *) <;> omega)
    all_goals first
      | ((first | (with_reducible apply Z.retF2)); (focus (exact rfl)); (repeat' (first | exact trivial | (with_reducible apply Z.frz_one) | (with_reducible apply Z.frz_agg) | (with_reducible apply Z.fq_int) | (with_reducible apply Z.fq_bool) | (exact Z.frz_nil) | exact rfl | apply And.intro)); (all_goals (try exact (fun _ => none))); all_goals (first | (simp; done)))
      | fail
  · simp only [show Tab.ownG 0 3 = 0 from rfl, show Tab.ownG 1 3 = 0 from rfl, show Tab.ownG 2 3 = 0 from rfl, show Tab.ownG 3 3 = 1 from rfl, show Tab.ownG 4 3 = 1 from rfl, show Tab.ownG 5 3 = 1 from rfl, show Tab.ownG 6 3 = 2 from rfl, show Tab.ownG 7 3 = 2 from rfl]
    repeat' ((conv => whnf); first
      | with_reducible first | refine spB_t ?_
      | ((with_reducible apply spB_cong); (focus (simp only [beq_self_eq_true, bne_self_eq_false, Bool.true_bne, Bool.false_bne, Bool.bne_true, Bool.bne_false, Bool.true_beq, Bool.false_beq, Bool.not_true, Bool.not_false, Bool.not_not, Int.reduceBEq, Int.reduceBNe, Int.reduceLE, Int.reduceLT, Int.reduceEq, decide_true, decide_false]; rfl)))
      | with_reducible first | refine spB_yes (by decide) ?_ | refine spB_no (by decide) ?_
      | (with_reducible refine spB_bne ?_ ?_ <;> intro _ <;> (try (exfalso; first | contradiction | omega | (rename_i hz; refine hz ?_; simp; done) | (rename_i hz; simp at hz; done) | (simp only [LN] at *; omega))))
      | with_reducible first | refine Z.loopZ_unroll tabOk 9 ?_
      | ((with_reducible apply ixN_lit); (focus (exact rfl)); (focus (exact rfl)))
      | with_reducible refine wr_i64 (by first | omega | (simp only [LN] at *; omega)) ?_
      | ((first | (with_reducible refine Z.callZ_mk ?_ (cm) ?_) | (with_reducible refine Z.callZ_mk ?_ (csh) ?_) | (with_reducible refine Z.callZ_mk ?_ (cpa) ?_)); (focus ((repeat' (first | exact trivial | exact rfl | apply And.intro)); done)))
      | ((first | (with_reducible refine Z.callZ_mk ?_ (rown_0_2_3) ?_)); (focus ((repeat' (first | exact trivial | exact rfl | apply And.intro)); done)))
      | ((first | (with_reducible refine Z.callZ_mk ?_ (rown_1_2_3) ?_)); (focus ((repeat' (first | exact trivial | exact rfl | apply And.intro)); done)))
      | ((first | (with_reducible refine Z.callZ_mk ?_ (rown_2_2_3) ?_)); (focus ((repeat' (first | exact trivial | exact rfl | apply And.intro)); done)))
      | ((first | (with_reducible refine Z.callZ_mk ?_ (rown_3_2_3) ?_)); (focus ((repeat' (first | exact trivial | exact rfl | apply And.intro)); done)))
      | ((first | (with_reducible refine Z.callZ_mk ?_ (rown_4_2_3) ?_)); (focus ((repeat' (first | exact trivial | exact rfl | apply And.intro)); done)))
      | ((first | (with_reducible refine Z.callZ_mk ?_ (rown_5_2_3) ?_)); (focus ((repeat' (first | exact trivial | exact rfl | apply And.intro)); done)))
      | ((first | (with_reducible refine Z.callZ_mk ?_ (rown_6_2_3) ?_)); (focus ((repeat' (first | exact trivial | exact rfl | apply And.intro)); done)))
      | ((first | (with_reducible refine Z.callZ_mk ?_ (rown_7_2_3) ?_)); (focus ((repeat' (first | exact trivial | exact rfl | apply And.intro)); done)))
      | fail)
    all_goals (try (conv => whnf))
    all_goals try (show Nat.ble _ _ = true; rfl)
    all_goals try (exfalso; rename_i hz; cases hz; done)
    all_goals try (exfalso; (try simp only [LN] at *) <;> omega)
    all_goals first
      | ((first | (with_reducible apply Z.retF2)); (focus (exact rfl)); (repeat' (first | exact trivial | (with_reducible apply Z.frz_one) | (with_reducible apply Z.frz_agg) | (with_reducible apply Z.fq_int) | (with_reducible apply Z.fq_bool) | (exact Z.frz_nil) | exact rfl | apply And.intro)); (all_goals (try exact (fun _ => none))); all_goals (first | (simp; done)))
      | fail
theorem srpart_con (x : Sn) (i w : Int) (hr : x.rows.length ≤ 1000) (ht : x.txs.length ≤ 9223372036854775807) : Con Try.prog 22 [.agg [.v (.int .i64 x.op), .v (.int .i64 x.ix), .v (.int .i64 x.w), .v (.bool x.en), .ro false 4 (x.rows.map Tab.eK), .v (.int .i64 x.o0), .v (.int .i64 x.o1), .v (.int .i64 x.o2), .v (.int .i64 x.o3), .v (.int .i64 x.o4), .v (.int .i64 x.o5), .v (.int .i64 x.o6), .v (.int .i64 x.o7), .ro false 3 (x.txs.map eN)], .one (.v (.int .i64 i)), .one (.v (.int .i64 w))] (fun rx rK rt => rx = .tup [.agg [.v (.int .i64 (partE x i w).1.op), .v (.int .i64 (partE x i w).1.ix), .v (.int .i64 (partE x i w).1.w), .v (.bool (partE x i w).1.en), .ro true 4 ((partE x i w).1.rows.map Tab.eK), .v (.int .i64 (partE x i w).1.o0), .v (.int .i64 (partE x i w).1.o1), .v (.int .i64 (partE x i w).1.o2), .v (.int .i64 (partE x i w).1.o3), .v (.int .i64 (partE x i w).1.o4), .v (.int .i64 (partE x i w).1.o5), .v (.int .i64 (partE x i w).1.o6), .v (.int .i64 (partE x i w).1.o7), .ro true 3 ((partE x i w).1.txs.map eN)], .one (.v (.int .i64 (partE x i w).2))] ∧ rK = [] ∧ rt = 0) := by
  unfold partE
  by_cases hs : snapR x = false
  · rw [if_pos hs]; exact rpart_no x i w hr ht hs
  have hs2 : snapR x = true := by simpa using hs
  rw [if_neg hs]
  by_cases hw : x.w ≠ 1
  · rw [if_pos hw]; exact rpart_w x i w hr ht hs2 hw
  rw [if_neg hw]
  by_cases ho : Tab.okS i w
  · rw [if_pos ho]; exact rpart_okS x i w hr ht hs2 (by omega) ho
  · rw [if_neg ho]; exact rpart_sh x i w hr ht hs2 (by omega) ho
end Go.Proofs.Ytopieffkpdlpbaa
namespace Go.Proofs.Ytopieffkpdlpbaa
open Go Go.RowKit Wx
set_option linter.unusedVariables false
set_option linter.unusedSimpArgs false
set_option maxHeartbeats 4000000
theorem sn_iff2 (x y : Sn) : decide (x = y) = (x.op == y.op && (x.ix == y.ix && (x.w == y.w && (x.en == y.en && (decide (x.rows = y.rows) && (x.o0 == y.o0 && (x.o1 == y.o1 && (x.o2 == y.o2 && (x.o3 == y.o3 && (x.o4 == y.o4 && (x.o5 == y.o5 && (x.o6 == y.o6 && (x.o7 == y.o7 && decide (x.txs = y.txs)))))))))))))) := by
  cases x; cases y
  simp only [Sn.mk.injEq]
  rw [Bool.eq_iff_iff]
  simp only [Bool.and_eq_true, decide_eq_true_eq, beq_iff_eq]
theorem rsame_con (x y : Sn) (hr : x.rows.length ≤ 9223372036854775807) (ht : x.txs.length ≤ 9223372036854775807) : Con Try.prog 12 [.agg [.v (.int .i64 x.op), .v (.int .i64 x.ix), .v (.int .i64 x.w), .v (.bool x.en), .ro false 4 (x.rows.map Tab.eK), .v (.int .i64 x.o0), .v (.int .i64 x.o1), .v (.int .i64 x.o2), .v (.int .i64 x.o3), .v (.int .i64 x.o4), .v (.int .i64 x.o5), .v (.int .i64 x.o6), .v (.int .i64 x.o7), .ro false 3 (x.txs.map eN)], .agg [.v (.int .i64 y.op), .v (.int .i64 y.ix), .v (.int .i64 y.w), .v (.bool y.en), .ro false 4 (y.rows.map Tab.eK), .v (.int .i64 y.o0), .v (.int .i64 y.o1), .v (.int .i64 y.o2), .v (.int .i64 y.o3), .v (.int .i64 y.o4), .v (.int .i64 y.o5), .v (.int .i64 y.o6), .v (.int .i64 y.o7), .ro false 3 (y.txs.map eN)]] (fun rx rK rt => rx = .val (.bool (decide (x = y))) ∧ rK = [] ∧ rt = 0) := by
  refine Z.con_ofF tabOk 52 Try.f12 _ Try.func12 (by kernel_rfl) rfl rfl rfl rfl ?_
  have ct := Tab.rsame_con x.rows y.rows hr
  have cn := rnames_con x.txs y.txs ht
  have hz := sn_iff2 x y
  repeat' ((conv => whnf); first
    | with_reducible first | refine spB_t ?_
    | with_reducible first | refine spB_no (by decide) ?_
    | (with_reducible refine spB_dec ?_ ?_ <;> intro _ <;> (try (exfalso; first | contradiction | omega | (rename_i hz; refine hz ?_; simp; done) | (rename_i hz; simp at hz; done) | (simp only [LN] at *; omega))))
    | (with_reducible refine spB_beq ?_ ?_ <;> intro _ <;> (try (exfalso; first | contradiction | omega | (rename_i hz; refine hz ?_; simp; done) | (rename_i hz; simp at hz; done) | (simp only [LN] at *; omega))))
    | (with_reducible refine spB_mk ?_ ?_ <;> intro _ <;> (try (exfalso; first | contradiction | omega | (rename_i hz; refine hz ?_; simp; done) | (rename_i hz; simp at hz; done) | (simp only [LN] at *; omega))))
    | ((first | (with_reducible refine Z.callZ_mk ?_ (ct) ?_) | (with_reducible refine Z.callZ_mk ?_ (cn) ?_)); (focus ((repeat' (first | exact trivial | exact rfl | apply And.intro)); done)))
    | fail)
  all_goals (try (conv => whnf))
  all_goals try (show Nat.ble _ _ = true; rfl)
  all_goals try (exfalso; rename_i hz; cases hz; done)
  all_goals try (exfalso; (try simp only [LN] at *) <;> omega)
  all_goals first
    | ((first | (with_reducible apply Z.retF1)); (focus (exact rfl)); (repeat' (first | exact trivial | (with_reducible apply Z.frz_one) | (with_reducible apply Z.fq_bool) | (apply Z.fq_bool) | apply And.intro)); (all_goals (try exact (fun _ => none))); all_goals (first | (rw [hz]; simp_all; done)))
    | fail
end Go.Proofs.Ytopieffkpdlpbaa
namespace Go.Proofs.Ytopieffkpdlpbaa
open Go Go.RowKit Wx
set_option linter.unusedVariables false
set_option linter.unusedSimpArgs false
set_option maxHeartbeats 4000000
namespace Tab
theorem loopQ3 {P : Program} {n m : Nat} {rd : Option Nat} {s : Z.S} {c : Code} {Q : Exit → Z.S → Prop} {s9 : Z.S} (h : ∀ Q0 : Exit → Z.S → Prop, Q0 (.exit 0) s9 → Z.LoopZ P n m rd c s Q0) (k : Q (.exit 0) s9) : Z.LoopZ P n m rd c s Q := h Q k
end Tab
end Go.Proofs.Ytopieffkpdlpbaa
namespace Go.Proofs.Ytopieffkpdlpbaa
open Go Go.RowKit Wx
set_option linter.unusedVariables false
set_option linter.unusedSimpArgs false
set_option maxHeartbeats 4000000
theorem partE_ok {x : Sn} {i w : Int} (h : (partE x i w).1.rows ≠ []) : snapR x = true ∧ x.w = 1 ∧ Tab.okS i w ∧ partE x i w = (partS x i w, 0) := by
  unfold partE at h ⊢
  by_cases h1 : snapR x = false
  · rw [if_pos h1] at h; exact absurd rfl h
  rw [if_neg h1] at h ⊢
  by_cases h2 : x.w ≠ 1
  · rw [if_pos h2] at h; exact absurd rfl h
  rw [if_neg h2] at h ⊢
  by_cases h3 : Tab.okS i w
  · rw [if_pos h3] at h ⊢; exact ⟨by simpa using h1, by omega, h3, rfl⟩
  · rw [if_neg h3] at h; exact absurd rfl h
theorem snappart_con (x : Sn) (l : List Sha) (hr : x.rows.length ≤ 9223372036854775807) (ht : x.txs.length ≤ 9223372036854775807) (hl : l.length ≤ 9223372036854775807) : Con Try.prog 5 [.agg [.v (.int .i64 x.op), .v (.int .i64 x.ix), .v (.int .i64 x.w), .v (.bool x.en), .ro false 4 (x.rows.map Tab.eK), .v (.int .i64 x.o0), .v (.int .i64 x.o1), .v (.int .i64 x.o2), .v (.int .i64 x.o3), .v (.int .i64 x.o4), .v (.int .i64 x.o5), .v (.int .i64 x.o6), .v (.int .i64 x.o7), .ro false 3 (x.txs.map eN)], .one (.ro false 3 (l.map eSh))] (fun rx rK rt => rx = .val (.bool true) ∧ rK = [] ∧ rt = 0) := by
  refine Z.con_ofF tabOk 62 Try.f5 _ Try.func5 (by kernel_rfl) rfl rfl rfl rfl ?_
  have csx := shortS_con x hr ht
  have hX9 := shortS_len x
  generalize shortS x = X at *
  obtain ⟨hX9, hX8⟩ := hX9
  have m2 := rsame_con X X (by omega) (by omega)
  rw [decide_eq_true (rfl : X = X)] at m2
  repeat' ((conv => whnf); first
    | ((with_reducible apply spB_cong); (focus (simp only [beq_self_eq_true, bne_self_eq_false, Bool.true_bne, Bool.false_bne, Bool.bne_true, Bool.bne_false, Bool.true_beq, Bool.false_beq, Bool.not_true, Bool.not_false, Bool.not_not, Int.reduceBEq, Int.reduceBNe, Int.reduceLE, Int.reduceLT, Int.reduceEq, decide_true, decide_false]; rfl)))
    | with_reducible first | refine spB_no (by decide) ?_
    | ((first | (with_reducible refine Z.callZ_mk ?_ (wakes_con) ?_) | (with_reducible refine Z.conZ_mz ?_ (csx) ?_)); (focus ((repeat' (first | exact trivial | exact rfl | apply And.intro)); done)))
    | with_reducible first | refine Z.drawZ_rule tabOk mixOk ?_ | refine Z.apZ_mk (by kernel_rfl) ?_
    | fail)
  all_goals (try (conv => whnf))
  all_goals try (show Nat.ble _ _ = true; rfl)
  all_goals try (exfalso; rename_i hz; cases hz; done)
  all_goals try (exfalso; (try simp only [LN] at *) <;> omega)
  refine Z.loopK tabOk (fun zq : Nat => [(21, .val (.int .i64 (zq : Int)))]) (fun zq : Nat => ([(0, some (Z.Ob.b ⟨[[.v (.int .i64 x.op), .v (.int .i64 x.ix), .v (.int .i64 x.w), .v (.bool x.en), .ro false 4 (x.rows.map Tab.eK), .v (.int .i64 x.o0), .v (.int .i64 x.o1), .v (.int .i64 x.o2), .v (.int .i64 x.o3), .v (.int .i64 x.o4), .v (.int .i64 x.o5), .v (.int .i64 x.o6), .v (.int .i64 x.o7), .ro false 3 (x.txs.map eN)]], 14, 33, true⟩)), (1, some (Z.Ob.b ⟨[[.v (.int .i64 X.op), .v (.int .i64 X.ix), .v (.int .i64 X.w), .v (.bool X.en), .ro true 4 (X.rows.map Tab.eK), .v (.int .i64 X.o0), .v (.int .i64 X.o1), .v (.int .i64 X.o2), .v (.int .i64 X.o3), .v (.int .i64 X.o4), .v (.int .i64 X.o5), .v (.int .i64 X.o6), .v (.int .i64 X.o7), .ro true 3 (X.txs.map eN)]], 14, 33, true⟩)), (2, some (Z.Ob.b ⟨[[.v (.int .i64 X.op), .v (.int .i64 X.ix), .v (.int .i64 X.w), .v (.bool X.en), .ro true 4 (X.rows.map Tab.eK), .v (.int .i64 X.o0), .v (.int .i64 X.o1), .v (.int .i64 X.o2), .v (.int .i64 X.o3), .v (.int .i64 X.o4), .v (.int .i64 X.o5), .v (.int .i64 X.o6), .v (.int .i64 X.o7), .ro true 3 (X.txs.map eN)]], 14, 33, true⟩))] : Z.Kr)) (fun zq => zq ≤ l.length) (fun zq => l.length - zq) 0 3 [(5, _), (6, _), (19, _), (20, _)] ⟨rfl, rfl, rfl, rfl, trivial⟩ [] trivial ?_ ?_ rfl rfl (Nat.zero_le _) ?_
  · repeat' (first | exact trivial | apply And.intro | exact ⟨_, rfl, Z.Imp.refl _⟩)
  · repeat' (first | exact trivial | exact (fun b hb => ⟨b, hb, Z.ImpO.refl b⟩) | apply And.intro)
  rintro i HINV
  (try dsimp only at HINV); (try dsimp only)
  by_cases hi : i < l.length ∧ i ≠ 10
  rotate_left
  · by_cases hil : i < l.length
    · have hi10 : i = 10 := by omega
      subst hi10
      obtain ⟨s, hs⟩ := getElem?_some' (xs := l) (i := 10) hil
      repeat' ((conv => whnf); first
        | with_reducible first | refine spB_yes (by decide) ?_
        | (with_reducible refine spB_dec ?_ ?_ <;> intro _ <;> (try (exfalso; first | contradiction | omega | (rename_i hz; refine hz ?_; simp; done) | (rename_i hz; simp at hz; done) | (simp only [LN] at *; omega))))
        | with_reducible first | refine Z.rowN_known hs ?_
        | ((with_reducible apply ixN_litp); (focus (exact rfl)); (focus ((try simp only [LN] at *) <;> omega)))
        | fail)
      all_goals (try (conv => whnf))
      all_goals try (show Nat.ble _ _ = true; rfl)
      all_goals try (exfalso; rename_i hz; cases hz; done)
      all_goals try (exfalso; (try simp only [LN] at *) <;> omega)
      all_goals first
        | ((first | (with_reducible apply Z.retF1)); (focus (exact rfl)); (repeat' (first | exact trivial | (with_reducible apply Z.frz_one) | (with_reducible apply Z.fq_bool) | exact rfl | apply And.intro)); (all_goals (try exact (fun _ => none))); all_goals (first | (simp; done)))
        | fail
    have hil2 : i = l.length := by omega
    subst hil2
    repeat' ((conv => whnf); first
      | (with_reducible refine spB_dec ?_ ?_ <;> intro _ <;> (try (exfalso; first | contradiction | omega | (rename_i hz; refine hz ?_; simp; done) | (rename_i hz; simp at hz; done) | (simp only [LN] at *; omega))))
      | fail)
    all_goals (try (conv => whnf))
    all_goals try (show Nat.ble _ _ = true; rfl)
    all_goals try (exfalso; rename_i hz; cases hz; done)
    all_goals try (exfalso; (try simp only [LN] at *) <;> omega)
    all_goals first
      | ((first | (with_reducible apply Z.retF1)); (focus (exact rfl)); (repeat' (first | exact trivial | (with_reducible apply Z.frz_one) | (with_reducible apply Z.fq_bool) | exact rfl | apply And.intro)); (all_goals (try exact (fun _ => none))); all_goals (first | (simp; done)))
      | fail
  obtain ⟨hi, hi10⟩ := hi
  obtain ⟨s, hs⟩ := getElem?_some' (xs := l) (i := i) hi
  have cpa := spart_con X s.ix s.w (by omega) (by omega)
  have crp := srpart_con X s.ix s.w (by omega) (by omega)
  have hok := @partE_ok X s.ix s.w
  have hle := partE_len (i := s.ix) (w := s.w) (show X.rows.length ≤ 1000 by omega)
  by_cases hR : (partE X s.ix s.w).1.rows = []
  · clear hok
    generalize partE X s.ix s.w = Dd at *
    obtain ⟨Rr, e⟩ := Dd
    dsimp only at cpa crp hle hR
    obtain ⟨op, ix, w, en, rows, o0, o1, o2, o3, o4, o5, o6, o7, txs⟩ := Rr
    dsimp only at cpa crp hle hR
    obtain ⟨_, rfl⟩ := hle
    subst hR
    have m1 := rsame_con (⟨op, ix, w, en, [], o0, o1, o2, o3, o4, o5, o6, o7, []⟩ : Sn) ⟨op, ix, w, en, [], o0, o1, o2, o3, o4, o5, o6, o7, []⟩ (by simp) (by simp)
    rw [decide_eq_true rfl] at m1
    dsimp only at m1
    repeat' ((conv => whnf); first
      | ((with_reducible apply spB_cong); (focus (simp only [beq_self_eq_true, bne_self_eq_false, Bool.true_bne, Bool.false_bne, Bool.bne_true, Bool.bne_false, Bool.true_beq, Bool.false_beq, Bool.not_true, Bool.not_false, Bool.not_not, Int.reduceBEq, Int.reduceBNe, Int.reduceLE, Int.reduceLT, Int.reduceEq, decide_true, decide_false]; rfl)))
      | with_reducible first | refine spB_no (by decide) ?_
      | (with_reducible refine spB_dec ?_ ?_ <;> intro _ <;> (try (exfalso; first | contradiction | omega | (rename_i hz; refine hz ?_; simp; done) | (rename_i hz; simp at hz; done) | (simp only [LN] at *; omega))))
      | (with_reducible refine spB_beq ?_ ?_ <;> intro _ <;> (try (exfalso; first | contradiction | omega | (rename_i hz; refine hz ?_; simp; done) | (rename_i hz; simp at hz; done) | (simp only [LN] at *; omega))))
      | with_reducible first | refine Z.rowN_known hs ?_ | refine Z.loopZ_unroll tabOk 1 ?_
      | ((with_reducible apply ixN_litp); (focus (exact rfl)); (focus ((try simp only [LN] at *) <;> omega)))
      | with_reducible refine wr_i64 (by first | omega | (simp only [LN] at *; omega)) ?_
      | with_reducible first | refine Z.callZ_in tabOk 31 Try.f17 _ Try.func17 (by kernel_rfl) rfl rfl rfl ?_
      | ((first | (with_reducible refine Z.callZ_mk ?_ (cpa) ?_) | (with_reducible refine Z.callZ_mk ?_ (crp) ?_)); (focus ((repeat' (first | exact trivial | exact rfl | apply And.intro)); done)))
      | ((first | (with_reducible refine Z.callZ_mk ?_ (m1) ?_)); (focus ((repeat' (first | exact trivial | exact rfl | apply And.intro)); done)))
      | ((first | (with_reducible refine Z.callZ_mk ?_ (m2) ?_)); (focus ((repeat' (first | exact trivial | exact rfl | apply And.intro)); done)))
      | ((with_reducible apply ex_and); exact rfl)
      | fail)
    all_goals (try (conv => whnf))
    all_goals try (show Nat.ble _ _ = true; rfl)
    all_goals try (exfalso; rename_i hz; cases hz; done)
    all_goals try (exfalso; (try simp only [LN] at *) <;> omega)
    all_goals first
      | ((refine Z.rndK ((i + 1)) (fun s => [0, 1, 2]) rfl rfl rfl rfl ?_ ?_ ?_ ?_); (focus (repeat' (first | exact trivial | exact rfl | apply And.intro))); (focus (repeat' (first | exact trivial | (intro b hb; cases hb; rfl) | apply And.intro))); (focus (((try dsimp only); omega))); ((try dsimp only); omega))
      | fail
  obtain ⟨h1, h2, h3, h4⟩ := hok hR
  rw [h4] at crp hR hle
  clear hok cpa h4
  dsimp only [partS] at crp hR hle
  have cpo := part_ownS X s.ix s.w (by omega) (by omega) h1 h2 h3 hR
  unfold ownS at cpo
  generalize own1 0 s.ix s.w X.o0 = q0 at *
  generalize own1 1 s.ix s.w X.o1 = q1 at *
  generalize own1 2 s.ix s.w X.o2 = q2 at *
  generalize own1 3 s.ix s.w X.o3 = q3 at *
  generalize own1 4 s.ix s.w X.o4 = q4 at *
  generalize own1 5 s.ix s.w X.o5 = q5 at *
  generalize own1 6 s.ix s.w X.o6 = q6 at *
  generalize own1 7 s.ix s.w X.o7 = q7 at *
  generalize Tab.partL X.rows s.ix s.w = R at *
  have hR7 := hle.1
  have m1 := rsame_con (⟨X.op, s.ix, s.w, X.en, R, q0, q1, q2, q3, q4, q5, q6, q7, []⟩ : Sn) ⟨X.op, s.ix, s.w, X.en, R, q0, q1, q2, q3, q4, q5, q6, q7, []⟩ (by show R.length ≤ _; omega) (by simp)
  rw [decide_eq_true rfl] at m1
  dsimp only at m1
  repeat' ((conv => whnf); first
    | ((with_reducible apply spB_cong); (focus (simp only [beq_self_eq_true, bne_self_eq_false, Bool.true_bne, Bool.false_bne, Bool.bne_true, Bool.bne_false, Bool.true_beq, Bool.false_beq, Bool.not_true, Bool.not_false, Bool.not_not, Int.reduceBEq, Int.reduceBNe, Int.reduceLE, Int.reduceLT, Int.reduceEq, decide_true, decide_false]; rfl)))
    | with_reducible first | refine spB_no (by decide) ?_
    | (with_reducible refine spB_dec ?_ ?_ <;> intro _ <;> (try (exfalso; first | contradiction | omega | (rename_i hz; refine hz ?_; simp; done) | (rename_i hz; simp at hz; done) | (simp only [LN] at *; omega))))
    | (with_reducible refine spB_beq ?_ ?_ <;> intro _ <;> (try (exfalso; first | contradiction | omega | (rename_i hz; refine hz ?_; simp; done) | (rename_i hz; simp at hz; done) | (simp only [LN] at *; omega))))
    | with_reducible first | refine Z.rowN_known hs ?_
    | ((with_reducible refine Z.callZ_con ?_ (cpo) ?_); (focus ((repeat' (first | exact trivial | exact rfl | apply And.intro)); done)); (rintro _ _ _ ⟨cap, tl, rfl, rfl, rfl⟩))
    | ((with_reducible apply ixN_litp); (focus (exact rfl)); (focus ((try simp only [LN] at *) <;> omega)))
    | with_reducible first | refine Z.callZ_in tabOk 31 Try.f17 _ Try.func17 (by kernel_rfl) rfl rfl rfl ?_
    | ((first | (with_reducible refine Z.callZ_mk ?_ (m1) ?_) | (with_reducible refine Z.callZ_mk ?_ (crp) ?_)); (focus ((repeat' (first | exact trivial | exact Tab.low_tlK (tl := tl) rfl (by first | rfl | exact Tab.ren_cK | exact Tab.ren_cK.trans Tab.ren_cK) rfl | exact rfl | exact Z.low_nil | apply And.intro)); done)))
    | fail)
  all_goals (try (conv => whnf))
  all_goals try (show Nat.ble _ _ = true; rfl)
  all_goals try (exfalso; rename_i hz; cases hz; done)
  all_goals try (exfalso; (try simp only [LN] at *) <;> omega)
  apply Tab.loopQ3
  · intro Q1 hq8
    refine Z.loopK tabOk (fun zq : Nat => [(8, .val (.int .i64 (zq : Int)))]) (fun zq : Nat => ([(0, some (Z.Ob.b ⟨[[.v (.int .i64 x.op), .v (.int .i64 x.ix), .v (.int .i64 x.w), .v (.bool x.en), .ro false 4 (x.rows.map Tab.eK), .v (.int .i64 x.o0), .v (.int .i64 x.o1), .v (.int .i64 x.o2), .v (.int .i64 x.o3), .v (.int .i64 x.o4), .v (.int .i64 x.o5), .v (.int .i64 x.o6), .v (.int .i64 x.o7), .ro false 3 (x.txs.map eN)]], 14, 33, true⟩)), (1, some (Z.Ob.b ⟨[[.v (.int .i64 X.op), .v (.int .i64 X.ix), .v (.int .i64 X.w), .v (.bool X.en), .ro true 4 (X.rows.map Tab.eK), .v (.int .i64 X.o0), .v (.int .i64 X.o1), .v (.int .i64 X.o2), .v (.int .i64 X.o3), .v (.int .i64 X.o4), .v (.int .i64 X.o5), .v (.int .i64 X.o6), .v (.int .i64 X.o7), .ro true 3 (X.txs.map eN)]], 14, 33, true⟩)), (2, some (Z.Ob.b ⟨[[.v (.int .i64 X.op), .v (.int .i64 X.ix), .v (.int .i64 X.w), .v (.bool X.en), .ro true 4 (X.rows.map Tab.eK), .v (.int .i64 X.o0), .v (.int .i64 X.o1), .v (.int .i64 X.o2), .v (.int .i64 X.o3), .v (.int .i64 X.o4), .v (.int .i64 X.o5), .v (.int .i64 X.o6), .v (.int .i64 X.o7), .ro true 3 (X.txs.map eN)]], 14, 33, true⟩)), (4, some (Z.Ob.b ⟨(Tab.spR R zq ++ tl).map Tab.cK, 4, 70, false⟩)), (7, some (Z.Ob.b ⟨[[.v (.int .i64 X.op), .v (.int .i64 s.ix), .v (.int .i64 s.w), .v (.bool X.en), .osl 4 0 R.length cap, .v (.int .i64 q0), .v (.int .i64 q1), .v (.int .i64 q2), .v (.int .i64 q3), .v (.int .i64 q4), .v (.int .i64 q5), .v (.int .i64 q6), .v (.int .i64 q7), .v (.slice none 0 0)]], 14, 33, true⟩))] : Z.Kr)) (fun zq => zq ≤ R.length) (fun zq => R.length - zq) 0 8 [(1, _), (7, _)] ⟨rfl, rfl, trivial⟩ [] trivial ?_ ?_ rfl rfl (Nat.zero_le _) ?_
    · repeat' (first | exact trivial | apply And.intro | exact ⟨_, rfl, Z.Imp.refl _⟩)
    · repeat' (first | exact trivial | exact (fun b hb => ⟨b, hb, Z.ImpO.refl b⟩) | (intro b hb; cases hb; refine ⟨_, rfl, ⟨rfl, rfl, rfl⟩, Z.imp_eq ?_⟩; first | rfl | exact Tab.ren_cK | exact Tab.ren_cK.trans Tab.ren_cK | (rw [Tab.spR_zero]; first | rfl | exact Tab.ren_cK | exact Tab.ren_cK.trans Tab.ren_cK); done) | apply And.intro)
    rintro j HINV
    (try dsimp only at HINV); (try dsimp only)
    by_cases hj : j < R.length
    · obtain ⟨z, hz⟩ := getElem?_some' (xs := R) (i := j) hj
      repeat' ((conv => whnf); first
        | (with_reducible refine spB_dec ?_ ?_ <;> intro _ <;> (try (exfalso; first | contradiction | omega | (rename_i hz; refine hz ?_; simp; done) | (rename_i hz; simp at hz; done) | (simp only [LN] at *; omega))))
        | ((with_reducible refine rowN_mk (Tab.cK z) ?_ ?_); (focus (exact Tab.spR_get hz)))
        | ((with_reducible apply ixN_litp); (focus (exact rfl)); (focus ((try simp only [LN] at *) <;> omega)))
        | with_reducible refine wr_i64 (by first | omega | (simp only [LN] at *; omega)) ?_
        | fail)
      all_goals (try (conv => whnf))
      all_goals try (show Nat.ble _ _ = true; rfl)
      all_goals try (exfalso; rename_i hz; cases hz; done)
      all_goals try (exfalso; (try simp only [LN] at *) <;> omega)
      all_goals first
        | ((refine Z.rnd_rw 4 ((Tab.spR R (j + 1) ++ tl).map Tab.cK) rfl rfl ?_ ?_); (focus (exact Tab.spR_set hz)); ((refine Z.rndK ((j + 1)) (fun s => [0, 1, 2, 3, 4, 5, 6, 7]) rfl rfl rfl rfl ?_ ?_ ?_ ?_); (focus (repeat' (first | exact trivial | exact rfl | apply And.intro))); (focus (repeat' (first | exact trivial | (intro b hb; cases hb; rfl) | exact Z.blk_sub rfl rfl (ren_map fun _ => rfl) | apply And.intro))); (focus (((try dsimp only); omega))); ((try dsimp only); omega)))
        | fail
    have hjl : j = R.length := by omega
    subst hjl
    repeat' ((conv => whnf); first
      | (with_reducible refine spB_dec ?_ ?_ <;> intro _ <;> (try (exfalso; first | contradiction | omega | (rename_i hz; refine hz ?_; simp; done) | (rename_i hz; simp at hz; done) | (simp only [LN] at *; omega))))
      | fail)
    all_goals (try (conv => whnf))
    exact hq8
  repeat' ((conv => whnf); first
    | ((with_reducible apply spB_cong); (focus (simp only [beq_self_eq_true, bne_self_eq_false, Bool.true_bne, Bool.false_bne, Bool.bne_true, Bool.bne_false, Bool.true_beq, Bool.false_beq, Bool.not_true, Bool.not_false, Bool.not_not, Int.reduceBEq, Int.reduceBNe, Int.reduceLE, Int.reduceLT, Int.reduceEq, decide_true, decide_false]; rfl)))
    | with_reducible first | refine spB_no (by decide) ?_
    | with_reducible first | refine Z.loopZ_unroll tabOk 1 ?_
    | with_reducible refine wr_i64 (by first | omega | (simp only [LN] at *; omega)) ?_
    | ((first | (with_reducible refine Z.callZ_mk ?_ (m2) ?_)); (focus ((repeat' (first | exact trivial | exact rfl | apply And.intro)); done)))
    | ((with_reducible apply ex_and); exact rfl)
    | fail)
  all_goals (try (conv => whnf))
  all_goals try (show Nat.ble _ _ = true; rfl)
  all_goals try (exfalso; rename_i hz; cases hz; done)
  all_goals try (exfalso; (try simp only [LN] at *) <;> omega)
  all_goals first
    | ((refine Z.rndK ((i + 1)) (fun s => [0, 1, 2]) rfl rfl rfl rfl ?_ ?_ ?_ ?_); (focus (repeat' (first | exact trivial | exact rfl | apply And.intro))); (focus (repeat' (first | exact trivial | (intro b hb; cases hb; rfl) | apply And.intro))); (focus (((try dsimp only); omega))); ((try dsimp only); omega))
    | fail
end Go.Proofs.Ytopieffkpdlpbaa
namespace Go.Proofs.Ytopieffkpdlpbaa
open Go Go.RowKit Wx
set_option linter.unusedVariables false
set_option linter.unusedSimpArgs false
set_option maxHeartbeats 4000000
namespace snapPart
theorem main (avs : List A0) (h : All2 FitA [(.st (.cons 3 1 (.int .i64) (.cons 3 1 (.int .i64) (.cons 3 1 (.int .i64) (.cons 4 1 .bool (.cons 28 1 (.st (.cons 26 1 (.sl (.st (.cons 3 1 (.int .i64) (.cons 3 1 (.int .i64) (.cons 65 2 (.st (.cons 2 1 (.int .i64) (.cons 2 1 (.int .i64) .nil))) .nil)))) 70 4) .nil)) (.cons 30 8 (.arr 8 (.int .i64) 3 1) (.cons 31 1 (.sl (.st (.cons 3 1 (.int .i64) (.cons 3 1 (.int .i64) (.cons 3 1 (.int .i64) .nil)))) 90 3) .nil)))))))), (.sl (.st (.cons 3 1 (.int .i64) (.cons 3 1 (.int .i64) (.cons 3 1 (.int .i64) .nil)))) 25 3)] avs) : Con Try.prog 5 avs (fun x K t => x = .val (.bool true) ∧ K = [] ∧ t = 0) := by
  obtain ⟨x0, x1, rfl, h0, h1⟩ : ∃ x0 x1, avs = [x0, x1] ∧ FitA (.st (.cons 3 1 (.int .i64) (.cons 3 1 (.int .i64) (.cons 3 1 (.int .i64) (.cons 4 1 .bool (.cons 28 1 (.st (.cons 26 1 (.sl (.st (.cons 3 1 (.int .i64) (.cons 3 1 (.int .i64) (.cons 65 2 (.st (.cons 2 1 (.int .i64) (.cons 2 1 (.int .i64) .nil))) .nil)))) 70 4) .nil)) (.cons 30 8 (.arr 8 (.int .i64) 3 1) (.cons 31 1 (.sl (.st (.cons 3 1 (.int .i64) (.cons 3 1 (.int .i64) (.cons 3 1 (.int .i64) .nil)))) 90 3) .nil)))))))) x0 ∧ FitA (.sl (.st (.cons 3 1 (.int .i64) (.cons 3 1 (.int .i64) (.cons 3 1 (.int .i64) .nil)))) 25 3) x1 := by
    cases avs with
    | nil => exact h.elim
    | cons x0 r => cases r with
      | nil => exact h.2.elim
      | cons x1 r => cases r with
        | nil => exact ⟨x0, x1, rfl, h.1, h.2.1⟩
        | cons => exact h.2.2.elim
  clear h
  obtain ⟨row0, hrow0, rfl⟩ := h0
  obtain ⟨x, rfl, kx⟩ := rowSn row0 hrow0
  obtain ⟨r1, ⟨rows1, hr1, ll, hrows1⟩, rfl⟩ := h1
  simp only [List.cons.injEq, and_true] at hr1
  subst hr1
  obtain ⟨l, rfl, kl⟩ := rows_map eSh (okSha) rowSha rows1 hrows1
  rw [List.length_map] at ll
  exact snappart_con x l (by have := kx.2.1.1; simpa [maxLen] using this) (by have := kx.2.2.1; simpa [maxLen] using this) (by simpa [maxLen] using ll)
end snapPart
end Go.Proofs.Ytopieffkpdlpbaa
