import Derived.Test.YtehhmkdghgabaaaOwn6
import Derived.Test.YtehhmkdghgabaaaLib5
import Derived.Test.YtehhmkdghgabaaaRows
namespace Go.Proofs.Ytehhmkdghgabaaa
open Go Go.RowKit Wx
set_option linter.unusedVariables false
set_option linter.unusedSimpArgs false
set_option maxHeartbeats 4000000
theorem join_ok (a b : List Kc) (ha : tabR a = true) (hb : tabR b = true) (h0 : 0 < a.length + b.length) (hc : comm a b = false) : Con Try.prog 35 [.agg [.ro false 4 (a.map eK)], .agg [.ro false 4 (b.map eK)]] (fun rx rK rt => rx = .tup [.agg [.ro true 4 ((mrg a b : List Kc).map eK)], .one (.v (.int .i64 0))] ∧ rK = [] ∧ rt = 0) := by
  refine Z.con_ofF tabOk 32 Try.f35 _ Try.func35 (by kernel_rfl) rfl rfl rfl rfl ?_
  have hla := tab_len ha
  have hlb := tab_len hb
  have ca := check_con a (by omega)
  have cb := check_con b (by omega)
  rw [ha] at ca
  rw [hb] at cb
  simp only [cond_true] at ca cb
  have cat := concat_own a b (by omega) (by omega) h0
  repeat' ((conv => whnf); first
    | ((with_reducible apply spB_cong); (focus (simp only [beq_self_eq_true, bne_self_eq_false, Bool.true_bne, Bool.false_bne, Bool.bne_true, Bool.bne_false, Bool.true_beq, Bool.false_beq, Bool.not_true, Bool.not_false, Bool.not_not, Int.reduceBEq, Int.reduceBNe, Int.reduceLE, Int.reduceLT, Int.reduceEq, decide_true, decide_false]; rfl)))
    | with_reducible first | refine spB_no (by decide) ?_
    | ((refine sort_rule (a ++ b) rfl ?_ ?_ ?_ ?_); (focus (first | exact ren_map fun _ => rfl)); (focus (first | rfl)); (focus ((try simp only [LN] at *) <;> omega)); (intro zs hzp hzs; have hzl : zs.length = (a ++ b).length := hzp.length_eq; obtain ⟨hj, hj2⟩ := sort_join ha hb hzp hzs; rw [hc] at hj; obtain rfl := hj2 hc; have cz := check_con (mrg a b) (by rw [hzp.length_eq, List.length_append]; omega); rw [hj] at cz; simp only [Bool.not_true, Bool.not_false, cond_true, cond_false] at cz))
    | ((first | (with_reducible refine Z.callZ_mk ?_ (cat) ?_)); (focus ((repeat' (first | exact trivial | exact ⟨_, rfl, rfl, rfl⟩ | apply And.intro)); done)))
    | ((first | (with_reducible refine Z.callZ_mk ?_ (ca) ?_)); (focus ((repeat' (first | exact trivial | exact rfl | apply And.intro)); done)))
    | ((first | (with_reducible refine Z.callZ_mk ?_ (cb) ?_)); (focus ((repeat' (first | exact trivial | exact rfl | apply And.intro)); done)))
    | ((first | (with_reducible refine Z.callZ_mk ?_ (cz) ?_)); (focus ((repeat' (first | exact trivial | (refine Z.low_osln ?_ (fun _ => rfl); (first | exact hzl.symm)) | apply And.intro)); done)))
    | fail)
  all_goals (try (conv => whnf))
  all_goals try (show Nat.ble _ _ = true; rfl)
  all_goals try (exfalso; rename_i hz; cases hz; done)
  all_goals try (exfalso; (try simp only [LN] at *) <;> omega)
  all_goals first
    | ((first | (with_reducible apply Z.retF2)); (focus (exact rfl)); (repeat' (first | exact trivial | (refine Z.frz_oslw (l := mrg a b) (f := cK) (ty := 74) (bx := false) rfl ?_ ?_ (fun _ => rfl); (focus (first | exact hzl.symm)); (focus (first | exact List.take_of_length_le (by rw [List.length_map]; exact Nat.le_of_eq hzl)))) | (with_reducible apply Z.frz_one) | (with_reducible apply Z.frz_agg) | (with_reducible apply Z.fq_int) | exact rfl | apply And.intro)); (all_goals (try exact (fun _ => none))); all_goals (first | (simp; done)))
    | fail
end Go.Proofs.Ytehhmkdghgabaaa
namespace Go.Proofs.Ytehhmkdghgabaaa
open Go Go.RowKit Wx
set_option linter.unusedVariables false
set_option linter.unusedSimpArgs false
set_option maxHeartbeats 4000000
end Go.Proofs.Ytehhmkdghgabaaa
namespace Go.Proofs.Ytehhmkdghgabaaa
open Go Go.RowKit Wx
set_option linter.unusedVariables false
set_option linter.unusedSimpArgs false
set_option maxHeartbeats 4000000
theorem tpart_con (l : List Kc) (a w : Int) (hl : l.length ≤ 1000) : Con Try.prog 33 [.agg [.ro false 4 (l.map eK)], .one (.v (.int .i64 a)), .one (.v (.int .i64 w))] (fun rx rK rt => rx = .tup [.agg [.ro true 4 ((partT l a w).1.map eK)], .one (.v (.int .i64 (partT l a w).2))] ∧ rK = [] ∧ rt = 0) := by
  unfold partT
  cases ht : tabR l
  · rw [if_pos rfl]; exact part_tab l a w hl ht
  · rw [if_neg (by decide)]
    by_cases hs : okS a w
    · rw [if_pos hs]; exact part_ok l a w hl ht hs
    · rw [if_neg hs]; exact part_sh l a w hl ht hs
theorem tjoin_con (a b : List Kc) (hla : a.length ≤ 1000) (hlb : b.length ≤ 1000) : Con Try.prog 35 [.agg [.ro false 4 (a.map eK)], .agg [.ro false 4 (b.map eK)]] (fun rx rK rt => rx = .tup [.agg [.ro true 4 ((joinT a b).1.map eK)], .one (.v (.int .i64 (joinT a b).2))] ∧ rK = [] ∧ rt = 0) := by
  unfold joinT
  by_cases h : tabR a = false ∨ tabR b = false
  · rw [if_pos h]; exact join_bad a b h hla hlb
  · rw [if_neg h]
    have ha : tabR a = true := by cases hz : tabR a with
      | true => rfl
      | false => exact absurd (.inl hz) h
    have hb : tabR b = true := by cases hz : tabR b with
      | true => rfl
      | false => exact absurd (.inr hz) h
    by_cases h0 : 0 < a.length + b.length
    · cases hc : comm a b
      · rw [if_neg (by decide)]; exact join_ok a b ha hb h0 hc
      · rw [if_pos rfl]; exact join_both a b ha hb h0 hc
    · have e1 : a = [] := List.length_eq_zero_iff.1 (by omega)
      have e2 : b = [] := List.length_eq_zero_iff.1 (by omega)
      subst e1 e2
      exact join_nil
end Go.Proofs.Ytehhmkdghgabaaa
namespace Go.Proofs.Ytehhmkdghgabaaa
open Go Go.RowKit Wx
set_option linter.unusedVariables false
set_option linter.unusedSimpArgs false
set_option maxHeartbeats 4000000
theorem flt_tab {T : List Kc} {p : Kc → Bool} (h : tabR T = true) : tabR (T.filter p) = true := by
  rw [tab_iff] at *
  exact ⟨fun x hx => h.1 x (List.mem_filter.1 hx).1, h.2.sublist (List.filter_sublist)⟩
theorem key_one {T : List Kc} (h : tabR T = true) {x y : Kc} (hx : x ∈ T) (hy : y ∈ T) (he : x.src = y.src ∧ x.key = y.key) : x = y := by
  have hw := (tab_iff.1 h).2
  obtain ⟨i, hi, rfl⟩ := List.mem_iff_getElem.1 hx
  obtain ⟨j, hj, rfl⟩ := List.mem_iff_getElem.1 hy
  rcases Nat.lt_trichotomy i j with hij | hij | hij
  · exact absurd (List.pairwise_iff_getElem.1 hw i j hi hj hij) (by unfold kLtK kLt; omega)
  · subst hij; rfl
  · exact absurd (List.pairwise_iff_getElem.1 hw j i hj hi hij) (by unfold kLtK kLt; omega)
theorem join_is {a b z : List Kc} (ha : tabR a = true) (hb : tabR b = true) (hn : ∀ x ∈ a, ∀ y ∈ b, neK x y) (hz : z.Pairwise kLtK) (hm : ∀ x, x ∈ z ↔ x ∈ a ∨ x ∈ b) : joinT a b = (z, 0) := by
  have b1 := tab_iff.1 hb
  have hc := (comm_no (b := b) ha).2 hn
  unfold joinT
  rw [if_neg (by rw [ha, hb]; decide), if_neg (by rw [hc]; decide)]
  have hp := mrg_perm ha b1.1 hn (pw_ne b1.2)
  rw [same_pw (tab_iff.1 (mrg_tab ha b1.1)).2 hz fun x => (hp.mem_iff.trans List.mem_append).trans (hm x).symm]
theorem join_flt {T : List Kc} {p q : Kc → Bool} (h : tabR T = true) (hd : ∀ x ∈ T, p x = true → q x = true → False) : joinT (T.filter p) (T.filter q) = (T.filter fun x => p x || q x, 0) := by
  refine join_is (flt_tab h) (flt_tab h) ?_ (tab_iff.1 (flt_tab h)).2 ?_
  · intro x hx y hy he
    rw [List.mem_filter] at hx hy
    have := key_one h hx.1 hy.1 he
    subst this
    exact hd x hx.1 hx.2 hy.2
  · intro x
    simp only [List.mem_filter, Bool.or_eq_true]
    constructor
    · rintro ⟨h1, h2 | h2⟩
      · exact .inl ⟨h1, h2⟩
      · exact .inr ⟨h1, h2⟩
    · rintro (⟨h1, h2⟩ | ⟨h1, h2⟩)
      · exact ⟨h1, .inl h2⟩
      · exact ⟨h1, .inr h2⟩
def allW (T : List Kc) (i : Nat) (w : Int) : List Kc := T.filter fun x => decide (ownG (x.key % 8) w < i)
theorem allW_zero {T : List Kc} {w : Int} (h : tabR T = true) (hw : 1 ≤ w) : allW T 0 w = [] := by
  unfold allW
  refine filter_none fun x hx => ?_
  have := keyOk_iff.1 ((tab_iff.1 h).1 x hx).1
  refine decide_eq_false ?_
  unfold ownG
  have h1 : 0 ≤ x.key % 8 * w := Int.mul_nonneg (by omega) (by omega)
  omega
theorem allW_end {T : List Kc} {w : Nat} (h : tabR T = true) (hw : 1 ≤ w ∧ w ≤ 3) : allW T w w = T := by
  unfold allW
  refine filter_all fun x hx => ?_
  have := keyOk_iff.1 ((tab_iff.1 h).1 x hx).1
  refine decide_eq_true ?_
  unfold ownG
  have hc : w = 1 ∨ w = 2 ∨ w = 3 := by omega
  rcases hc with rfl | rfl | rfl <;> omega
theorem part_mine {T : List Kc} {i w : Int} (h : tabR T = true) (hs : okS i w) : partL T i w = T.filter fun x => decide (ownG (x.key % 8) w = i) := by
  unfold partL
  refine List.filter_congr fun x hx => ?_
  unfold mineB
  rw [((tab_iff.1 h).1 x hx).1, decide_eq_true hs]
  rfl
theorem whole_at {T : List Kc} {i : Nat} {w : Int} (h : tabR T = true) (hs : okS i w) : joinT (allW T i w) (partL T i w) = (allW T (i + 1) w, 0) ∧ joinT (partL T i w) (allW T i w) = (allW T (i + 1) w, 0) := by
  rw [part_mine h hs]
  unfold allW
  constructor
  · rw [join_flt h fun x hx h1 h2 => by simp only [decide_eq_true_eq] at h1 h2; omega]
    congr 1
    refine List.filter_congr fun x hx => ?_
    rw [Bool.eq_iff_iff]
    simp only [Bool.or_eq_true, decide_eq_true_eq]
    omega
  · rw [join_flt h fun x hx h1 h2 => by simp only [decide_eq_true_eq] at h1 h2; omega]
    congr 1
    refine List.filter_congr fun x hx => ?_
    rw [Bool.eq_iff_iff]
    simp only [Bool.or_eq_true, decide_eq_true_eq]
    omega
theorem allW_len {T : List Kc} {i : Nat} {w : Int} : (allW T i w).length ≤ T.length := List.length_filter_le _ _
theorem part_in {T : List Kc} {i w : Int} {x : Kc} (h : x ∈ partL T i w) : mineB x.src x.key i w = true := (List.mem_filter.1 h).2
end Go.Proofs.Ytehhmkdghgabaaa
namespace Go.Proofs.Ytehhmkdghgabaaa
open Go Go.RowKit Wx
set_option linter.unusedVariables false
set_option linter.unusedSimpArgs false
set_option maxHeartbeats 4000000
namespace Ops
theorem Run_con (t w a b c s : Int) (ins : List Int) (l : List Int) (hi : ins.length ≤ 9223372036854775807) (hc : c ≤ 9223372036854775807) (hl : l.length ≤ 9223372036854775807) : Con Try.prog 44 [.agg [.v (.int .i64 t), .v (.int .i64 w), .ro false 1 (ins.map eI), .v (.int .i64 a), .v (.int .i64 b)], .agg [.v (.int .i64 c), .v (.int .i64 s)], .one (.ro false 1 (l.map eI))] (fun rx rK rt => rx = .tup [.agg [.v (.int .i64 (runF t w ins a b c s l).1.1), .v (.int .i64 (runF t w ins a b c s l).1.2)], .one (.ro true 1 ((runF t w ins a b c s l).2.1.map eI)), .one (.v (.int .i64 (runF t w ins a b c s l).2.2))] ∧ rK = [] ∧ rt = 0) := by
  have c1 := check_con t w a b c s ins hi
  by_cases h40 : 40 < l.length
  · rw [show runF t w ins a b c s l = ((0, 0), [], 3) by unfold runF; rw [if_pos h40]]
    refine con_to (X := .tup [.agg [.v (.int .i64 0), .v (.int .i64 0)], .one (.v (.slice none 0 0)), .one (.v (.int .i64 3))]) ?_ (fun I R v h => nil_ro h)
    refine con_of tabOk 28 Try.f44 _ Try.func44 (by kernel_rfl) rfl rfl rfl rfl (fun W => ?_)
    repeat' ((conv => whnf); first
      | (with_reducible refine spB_dec ?_ ?_ <;> intro _ <;> (try (exfalso; first | contradiction | omega | (rename_i hz; with_reducible exact absurd rfl hz))))
      | (with_reducible refine spB_bne ?_ ?_ <;> intro _ <;> (try (exfalso; first | contradiction | omega | (rename_i hz; with_reducible exact absurd rfl hz))))
      | ((with_reducible apply call_con2 ?_ (c1) ?_);(first | (focus exact ⟨⟨rfl, rfl, rfl, rfl, rfl, trivial⟩, ⟨rfl, rfl, trivial⟩, trivial⟩)); rintro _ _ _ ⟨rfl, rfl, rfl⟩))
    all_goals (try (conv => whnf))
    all_goals first | (refine ret0 _ rfl _ rfl (fun _ => rfl) rfl ⟨?_, rfl, rfl⟩; rfl) | (exfalso; (try simp only [LN] at *) <;> omega) | (fail)
  by_cases hok : okO t w ins a b = false
  · rw [show runF t w ins a b c s l = ((0, 0), [], 180) by unfold runF; rw [if_neg h40, if_pos hok]]
    rw [if_pos hok] at c1
    refine con_to (X := .tup [.agg [.v (.int .i64 0), .v (.int .i64 0)], .one (.v (.slice none 0 0)), .one (.v (.int .i64 180))]) ?_ (fun I R v h => nil_ro h)
    refine con_of tabOk 28 Try.f44 _ Try.func44 (by kernel_rfl) rfl rfl rfl rfl (fun W => ?_)
    repeat' ((conv => whnf); first
      | with_reducible first | refine spB_t ?_
      | ((with_reducible apply spB_cong); (focus (simp only [beq_self_eq_true, bne_self_eq_false, Bool.true_bne, Bool.false_bne, Bool.bne_true, Bool.bne_false, Bool.true_beq, Bool.false_beq, Bool.not_true, Bool.not_false, Bool.not_not, Int.reduceBEq, Int.reduceBNe, Int.reduceLE, Int.reduceLT, Int.reduceEq, decide_true, decide_false]; rfl)))
      | (with_reducible refine spB_dec ?_ ?_ <;> intro _ <;> (try (exfalso; first | contradiction | omega | (rename_i hz; with_reducible exact absurd rfl hz))))
      | ((with_reducible apply call_con2 ?_ (c1) ?_);(first | (focus exact ⟨⟨rfl, rfl, rfl, rfl, rfl, trivial⟩, ⟨rfl, rfl, trivial⟩, trivial⟩)); rintro _ _ _ ⟨rfl, rfl, rfl⟩))
    all_goals (try (conv => whnf))
    all_goals first | (refine ret0 _ rfl _ rfl (fun _ => rfl) rfl ⟨?_, rfl, rfl⟩; rfl) | (exfalso; (try simp only [LN] at *) <;> omega) | (fail)
  by_cases hf : fitP t a (c, s)
  · have c2 := rung_con t w a b c s ins l (by simpa using hok) hf hc (by omega)
    rw [show runF t w ins a b c s l = runG t a b c s l by unfold runF; rw [if_neg h40, if_neg hok, if_neg (not_not_intro hf)]]
    rw [if_neg hok, if_neg (not_not_intro hf)] at c1
    refine con_of tabOk 28 Try.f44 _ Try.func44 (by kernel_rfl) rfl rfl rfl rfl (fun W => ?_)
    repeat' ((conv => whnf); first
      | ((with_reducible apply spB_cong); (focus (simp only [beq_self_eq_true, bne_self_eq_false, Bool.true_bne, Bool.false_bne, Bool.bne_true, Bool.bne_false, Bool.true_beq, Bool.false_beq, Bool.not_true, Bool.not_false, Bool.not_not, Int.reduceBEq, Int.reduceBNe, Int.reduceLE, Int.reduceLT, Int.reduceEq, decide_true, decide_false]; rfl)))
      | with_reducible first | refine spB_no (by decide) ?_
      | (with_reducible refine spB_dec ?_ ?_ <;> intro _ <;> (try (exfalso; first | contradiction | omega | (rename_i hz; with_reducible exact absurd rfl hz))))
      | ((with_reducible apply call_con2 ?_ (c1) ?_);(first | (focus exact ⟨⟨rfl, rfl, rfl, rfl, rfl, trivial⟩, ⟨rfl, rfl, trivial⟩, trivial⟩)); rintro _ _ _ ⟨rfl, rfl, rfl⟩)
      | ((with_reducible apply call_con2 ?_ (c2) ?_);(first | (focus exact ⟨⟨rfl, rfl, rfl, rfl, rfl, trivial⟩, ⟨rfl, rfl, trivial⟩, rfl, trivial⟩)); rintro _ _ _ ⟨rfl, rfl, rfl⟩))
    all_goals (try (conv => whnf))
    all_goals first | (refine ret0 _ rfl _ rfl (fun _ => rfl) rfl ⟨?_, rfl, rfl⟩; rfl) | (exfalso; (try simp only [LN] at *) <;> omega) | (fail)
  · rw [show runF t w ins a b c s l = ((0, 0), [], 181) by unfold runF; rw [if_neg h40, if_neg hok, if_pos hf]]
    rw [if_neg hok, if_pos hf] at c1
    refine con_to (X := .tup [.agg [.v (.int .i64 0), .v (.int .i64 0)], .one (.v (.slice none 0 0)), .one (.v (.int .i64 181))]) ?_ (fun I R v h => nil_ro h)
    refine con_of tabOk 28 Try.f44 _ Try.func44 (by kernel_rfl) rfl rfl rfl rfl (fun W => ?_)
    repeat' ((conv => whnf); first
      | with_reducible first | refine spB_t ?_
      | ((with_reducible apply spB_cong); (focus (simp only [beq_self_eq_true, bne_self_eq_false, Bool.true_bne, Bool.false_bne, Bool.bne_true, Bool.bne_false, Bool.true_beq, Bool.false_beq, Bool.not_true, Bool.not_false, Bool.not_not, Int.reduceBEq, Int.reduceBNe, Int.reduceLE, Int.reduceLT, Int.reduceEq, decide_true, decide_false]; rfl)))
      | (with_reducible refine spB_dec ?_ ?_ <;> intro _ <;> (try (exfalso; first | contradiction | omega | (rename_i hz; with_reducible exact absurd rfl hz))))
      | ((with_reducible apply call_con2 ?_ (c1) ?_);(first | (focus exact ⟨⟨rfl, rfl, rfl, rfl, rfl, trivial⟩, ⟨rfl, rfl, trivial⟩, trivial⟩)); rintro _ _ _ ⟨rfl, rfl, rfl⟩))
    all_goals (try (conv => whnf))
    all_goals first | (refine ret0 _ rfl _ rfl (fun _ => rfl) rfl ⟨?_, rfl, rfl⟩; rfl) | (exfalso; (try simp only [LN] at *) <;> omega) | (fail)
end Ops
end Go.Proofs.Ytehhmkdghgabaaa
namespace Go.Proofs.Ytehhmkdghgabaaa
open Go Go.RowKit Wx
set_option linter.unusedVariables false
set_option linter.unusedSimpArgs false
set_option maxHeartbeats 4000000
namespace Ops
def doF (t w : Int) (ins : List Int) (a b c s v : Int) : (Int × Int) × List Int × Int :=
  if okO t w ins a b = false then ((0, 0), [], 180) else if ¬ fitP t a (c, s) then ((0, 0), [], 181) else if c = 9223372036854775807 then ((0, 0), [], 6) else ((stp t a b (c, s) v).1, (stp t a b (c, s) v).2, 0)
end Ops
end Go.Proofs.Ytehhmkdghgabaaa
namespace Go.Proofs.Ytehhmkdghgabaaa
open Go Go.RowKit Wx
set_option linter.unusedVariables false
set_option linter.unusedSimpArgs false
set_option maxHeartbeats 4000000
namespace Ops
theorem run_one (t w a b c s v : Int) (ins : List Int) : runF t w ins a b c s [v] = doF t w ins a b c s v := by
  unfold runF doF runG fullB fullB
  rw [if_neg (by simp)]
  split
  · rfl
  · split
    · rfl
    · simp [fs]
theorem doF_len {t w a b c s v : Int} {ins : List Int} : (doF t w ins a b c s v).2.1.length ≤ 1 := by
  unfold doF
  repeat' split
  all_goals first | exact Nat.zero_le _ | exact out_len
theorem do_con (t w a b c s v : Int) (ins : List Int) (hi : ins.length ≤ 9223372036854775807) (hc : c ≤ 9223372036854775807) : Con Try.prog 102 [.agg [.v (.int .i64 t), .v (.int .i64 w), .ro false 1 (ins.map eI), .v (.int .i64 a), .v (.int .i64 b)], .agg [.v (.int .i64 c), .v (.int .i64 s)], .one (.v (.int .i64 v))] (fun rx rK rt => rx = .tup [.agg [.v (.int .i64 (doF t w ins a b c s v).1.1), .v (.int .i64 (doF t w ins a b c s v).1.2)], .one (.ro true 1 ((doF t w ins a b c s v).2.1.map eI)), .one (.v (.int .i64 (doF t w ins a b c s v).2.2))] ∧ rK = [] ∧ rt = 0) := by
  have c1 := Run_con t w a b c s ins [v] hi hc (by simp)
  rw [run_one] at c1
  refine con_of tabOk 17 Try.f102 _ Try.func102 (by kernel_rfl) rfl rfl rfl rfl (fun W => ?_)
  repeat' ((conv => whnf); first
    | ((with_reducible apply call_con2 ?_ (c1) ?_);(first | (focus exact ⟨⟨rfl, rfl, rfl, rfl, rfl, trivial⟩, ⟨rfl, rfl, trivial⟩, ⟨[eI v], rfl, rfl, rfl⟩, trivial⟩)); rintro _ _ _ ⟨rfl, rfl, rfl⟩))
  all_goals (try (conv => whnf))
  all_goals first | (refine ret0 _ rfl _ rfl (fun _ => rfl) rfl ⟨?_, rfl, rfl⟩; rfl) | (fail)
end Ops
end Go.Proofs.Ytehhmkdghgabaaa
namespace Go.Proofs.Ytehhmkdghgabaaa
open Go Go.RowKit Wx
set_option linter.unusedVariables false
set_option linter.unusedSimpArgs false
set_option maxHeartbeats 4000000
structure Rcd where
  src : Int
  key : Int
  val : Int
deriving DecidableEq
abbrev eR (x : Rcd) : List RT := [RT.v (.int .i64 x.src), RT.v (.int .i64 x.key), RT.v (.int .i64 x.val)]
abbrev cR (x : Rcd) : List Ce := [Ce.v (.int .i64 x.src), Ce.v (.int .i64 x.key), Ce.v (.int .i64 x.val)]
structure Opr where
  t : Int
  w : Int
  ins : List Int
  a : Int
  b : Int
def dT (o : Opr) (l : List Kc) (r : Rcd) : List Kc × List Rcd × Int :=
  if keyOk r.src r.key = false then ([], [], 150) else
  if (Ops.doF o.t o.w o.ins o.a o.b (getR l r.src r.key).1 (getR l r.src r.key).2 r.val).2.2 = 0 then
    (putR l r.src r.key (Ops.doF o.t o.w o.ins o.a o.b (getR l r.src r.key).1 (getR l r.src r.key).2 r.val).1, (Ops.doF o.t o.w o.ins o.a o.b (getR l r.src r.key).1 (getR l r.src r.key).2 r.val).2.1.map fun x => ⟨r.src, r.key, x⟩, 0)
  else ([], [], (Ops.doF o.t o.w o.ins o.a o.b (getR l r.src r.key).1 (getR l r.src r.key).2 r.val).2.2)
theorem doF_err {t w : Int} {ins : List Int} {a b c s v : Int} (h : (Ops.doF t w ins a b c s v).2.2 ≠ 0) : Ops.doF t w ins a b c s v = ((0, 0), [], (Ops.doF t w ins a b c s v).2.2) := by
  unfold Ops.doF at *
  split
  · rfl
  · split
    · rfl
    · split
      · rfl
      · rename_i h1 h2 h3; simp [h1, h2, h3] at h
theorem doF_cell {t w : Int} {ins : List Int} {a b c s v : Int} (h : (Ops.doF t w ins a b c s v).2.2 = 0) : (0 < (Ops.doF t w ins a b c s v).1.1 ∨ (Ops.doF t w ins a b c s v).1 = (0, 0)) := by
  unfold Ops.doF at *
  split at h
  · cases h
  · split at h
    · cases h
    · split at h
      · cases h
      · rename_i h1 h2 h3
        have ht := Ops.okO_tag (by simpa using h1)
        have hf := Ops.fit_stp (v := v) ht (Decidable.not_not.1 h2)
        rw [if_neg h1, if_neg h2, if_neg h3]
        simp only
        generalize (Ops.stp t a b (c, s) v).1 = q at *
        unfold Ops.fitP at hf
        split at hf
        · rcases hf with ⟨h5, h6⟩ | ⟨h5, _⟩
          · right; exact Prod.ext h5 h6
          · left; exact h5
        · right; exact Prod.ext hf.1 hf.2
end Go.Proofs.Ytehhmkdghgabaaa
namespace Go.Proofs.Ytehhmkdghgabaaa
open Go Go.RowKit Wx
set_option linter.unusedVariables false
set_option linter.unusedSimpArgs false
set_option maxHeartbeats 4000000
theorem do_z0 (t w a b : Int) (ins : List Int) (l : List Kc) (s k v : Int) (c : Int × Int) (O : List Int) (p : Nat) (hi : ins.length ≤ 9223372036854775807) (hO : O.length ≤ 1) (hl : l.length ≤ 1000) (ht : tabR l = true) (hk : keyOk s k = true) (hr : Ops.doF t w ins a b 0 0 v = (c, O, 0)) (hc : c = (0, 0)) (hth : thereR l s k = false) (hp : posR l s k = p) (hne : l ≠ []) : Con Try.prog 64 [.agg [.v (.int .i64 t), .v (.int .i64 w), .ro false 1 (ins.map Ops.eI), .v (.int .i64 a), .v (.int .i64 b)], .agg [.ro false 4 (l.map eK)], .agg [.v (.int .i64 s), .v (.int .i64 k), .v (.int .i64 v)]] (fun rx rK rt => rx = .tup [.agg [.ro true 4 (l.map eK)], .one (.ro true 3 ((O.map fun x => (⟨s, k, x⟩ : Rcd)).map eR)), .one (.v (.int .i64 0))] ∧ rK = [] ∧ rt = 0) := by
  refine Z.con_ofF tabOk 22 Try.f64 _ Try.func64 (by kernel_rfl) rfl rfl rfl rfl ?_
  have ck := rec_con s k v
  rw [hk] at ck
  simp only [cond_true, cond_false] at ck
  have cf := find_con l s k v hl ht
  rw [hth, hp] at cf
  have cd := Ops.do_con t w a b 0 0 v ins hi (by decide)
  rw [hr] at cd
  dsimp only at cd
  have cw := clonek_con l hl hne
  subst hc
  rcases O with _ | ⟨y, _ | ⟨z, O⟩⟩
  rotate_right 1
  · exact absurd hO (by simp)
  all_goals (
    repeat' ((conv => whnf); first
      | ((with_reducible apply spB_cong); (focus (simp only [beq_self_eq_true, bne_self_eq_false, Bool.true_bne, Bool.false_bne, Bool.bne_true, Bool.bne_false, Bool.true_beq, Bool.false_beq, Bool.not_true, Bool.not_false, Bool.not_not, Int.reduceBEq, Int.reduceBNe, Int.reduceLE, Int.reduceLT, Int.reduceEq, decide_true, decide_false]; rfl)))
      | with_reducible first | refine spB_no (by decide) ?_
      | (with_reducible refine spB_dec ?_ ?_ <;> intro _ <;> (try (exfalso; first | contradiction | omega | (rename_i hz; refine hz ?_; simp; done) | (rename_i hz; simp at hz; done) | (simp only [LN] at *; omega))))
      | with_reducible first | refine Z.loopZ_unroll tabOk 3 ?_
      | ((with_reducible refine posE_pos ?_ ?_); (focus ((try simp only [LN] at *) <;> omega)))
      | ((with_reducible apply rowN_mk); (focus rfl))
      | ((with_reducible apply ixN_lit); (focus (exact rfl)); (focus (exact rfl)))
      | ((with_reducible refine apdN.mk ?_ ?_ ?_ ?_ ?_ ?_); (focus (first | rfl)); (focus (first | exact one_all (by rfl))); (focus ((try simp only [LN] at *) <;> omega)); (focus ((try simp only [LN] at *) <;> omega)); (focus ((try simp only [LN] at *) <;> omega)))
      | with_reducible refine wr_i64 (by first | omega | (simp only [LN] at *; omega)) ?_
      | with_reducible first | refine Z.callZ_in tabOk 38 Try.f101 _ Try.func101 (by kernel_rfl) rfl rfl rfl ?_ | refine Z.callZ_in tabOk 67 Try.f60 _ Try.func60 (by kernel_rfl) rfl rfl rfl ?_
      | ((first | (with_reducible refine Z.callZ_mk ?_ (cd) ?_) | (with_reducible refine Z.callZ_mk ?_ (ck) ?_) | (with_reducible refine Z.callZ_mk ?_ (cf) ?_) | (with_reducible refine Z.callZ_mk ?_ (cw) ?_)); (focus ((repeat' (first | exact trivial | exact rfl | apply And.intro)); done)))
      | ((with_reducible apply ex_and); exact rfl)
      | with_reducible first | refine Z.drawZ_rule tabOk mixOk ?_ | refine Z.apZ_mk (by kernel_rfl) ?_)
    all_goals (try (conv => whnf)))
  all_goals try (show Nat.ble _ _ = true; rfl)
  all_goals try (exfalso; rename_i hz; cases hz; done)
  all_goals try (exfalso; (try simp only [LN] at *) <;> omega)
  all_goals first
    | ((first | (with_reducible apply Z.retF2)); (focus (exact rfl)); (repeat' (first | exact trivial | (refine Z.frz_osl (l := l) (f := cK) (ty := 74) (bx := false) (by first | rfl | exact congrArg (fun r => some (⟨r, 4, 74, false⟩ : Blk)) (ren_map fun _ => rfl)) rfl (fun _ => rfl)) | (refine Z.fq_gsl (l := [(⟨s, k, y⟩ : Rcd)]) (f := cR) (g := eR) (sz := 3) (ty := 39) rfl (fun _ => rfl) ?_) | (with_reducible apply Z.frz_one) | (with_reducible apply Z.frz_agg) | (with_reducible apply Z.fq_int) | (exact Z.frz_nil) | exact rfl | apply And.intro)); (all_goals (try exact (fun _ => none))); all_goals (first | (simp; done)))
end Go.Proofs.Ytehhmkdghgabaaa
namespace Go.Proofs.Ytehhmkdghgabaaa
open Go Go.RowKit Wx
set_option linter.unusedVariables false
set_option linter.unusedSimpArgs false
set_option maxHeartbeats 4000000
theorem do_na (t w a b : Int) (ins : List Int) (l : List Kc) (s k v : Int) (c : Int × Int) (O : List Int) (p : Nat) (hi : ins.length ≤ 9223372036854775807) (hO : O.length ≤ 1) (hl : l.length ≤ 1000) (ht : tabR l = true) (hk : keyOk s k = true) (hr : Ops.doF t w ins a b 0 0 v = (c, O, 0)) (hc : 0 < c.1) (hth : thereR l s k = false) (hp : posR l s k = p) (hne : l ≠ []) (hpl : p = l.length) : Con Try.prog 64 [.agg [.v (.int .i64 t), .v (.int .i64 w), .ro false 1 (ins.map Ops.eI), .v (.int .i64 a), .v (.int .i64 b)], .agg [.ro false 4 (l.map eK)], .agg [.v (.int .i64 s), .v (.int .i64 k), .v (.int .i64 v)]] (fun rx rK rt => rx = .tup [.agg [.ro true 4 ((l ++ [(⟨s, k, c.1, c.2⟩ : Kc)]).map eK)], .one (.ro true 3 ((O.map fun x => (⟨s, k, x⟩ : Rcd)).map eR)), .one (.v (.int .i64 0))] ∧ rK = [] ∧ rt = 0) := by
  refine Z.con_ofF tabOk 22 Try.f64 _ Try.func64 (by kernel_rfl) rfl rfl rfl rfl ?_
  have ck := rec_con s k v
  rw [hk] at ck
  simp only [cond_true, cond_false] at ck
  have cf := find_con l s k v hl ht
  rw [hth, hp] at cf
  have cd := Ops.do_con t w a b 0 0 v ins hi (by decide)
  rw [hr] at cd
  dsimp only at cd
  have hcz : (c.1 == 0 && (c.2 == 0 && true)) = false := by rw [show (c.1 == 0) = false by simp; omega]; rfl
  have cw := clonek_con l hl hne
  subst hpl
  rcases O with _ | ⟨y, _ | ⟨z, O⟩⟩
  rotate_right 1
  · exact absurd hO (by simp)
  all_goals (
    repeat' ((conv => whnf); first
      | with_reducible first | refine spB_t ?_
      | ((with_reducible apply spB_cong); (focus (simp only [beq_self_eq_true, bne_self_eq_false, Bool.true_bne, Bool.false_bne, Bool.bne_true, Bool.bne_false, Bool.true_beq, Bool.false_beq, Bool.not_true, Bool.not_false, Bool.not_not, Int.reduceBEq, Int.reduceBNe, Int.reduceLE, Int.reduceLT, Int.reduceEq, decide_true, decide_false]; rfl)))
      | with_reducible first | refine spB_no (by decide) ?_ | refine spB_not ?_ | refine spB_no (by assumption) ?_
      | (with_reducible refine spB_dec ?_ ?_ <;> intro _ <;> (try (exfalso; first | contradiction | omega | (rename_i hz; refine hz ?_; simp; done) | (rename_i hz; simp at hz; done) | (simp only [LN] at *; omega) | (rename_i hz; exact absurd (hcz.symm.trans hz) Bool.false_ne_true))))
      | with_reducible first | refine Z.loopZ_unroll tabOk 3 ?_
      | ((apply Z.callZ_rwcap (l.map cK)); (focus (exact rfl)); (focus (first | exact ren_map fun _ => rfl)); (focus (simp; done)); (intro capv hcapv; refine ⟨fun hcap => ?_, fun hcap gv hgv => ?_⟩))
      | ((with_reducible refine Z.slN_lo (l.length) ?_ ?_ ?_); (focus rfl); (focus ((try simp only [LN] at *) <;> omega)))
      | ((with_reducible refine apdE_r ?_); (with_reducible refine aprN.mk ⟨_, rfl, ?_⟩ ?_ ?_ ?_ ?_); (focus omega); (focus rfl); (focus (exact one_all (by rfl))); (focus (simp; done)))
      | ((with_reducible refine apdE_k ?_); (with_reducible refine apkN.mk ⟨_, rfl, ?_⟩ ?_); (focus omega); (with_reducible refine apdN.mk ?_ ?_ ?_ ?_ ?_ ?_); (focus rfl); (focus (exact one_all (by rfl))); (focus (simp; done)); (focus ((try simp only [LN] at *) <;> omega)); (focus ((try simp only [LN] at *) <;> omega)))
      | ((with_reducible refine posE_pos ?_ ?_); (focus ((try simp only [LN] at *) <;> omega)))
      | ((with_reducible apply rowN_mk); (focus rfl))
      | ((with_reducible apply ixN_lit); (focus (exact rfl)); (focus (exact rfl)))
      | ((with_reducible refine slE_b ?_ ?_); (focus ((try simp only [LN] at *) <;> omega)))
      | ((with_reducible refine apdN.mk ?_ ?_ ?_ ?_ ?_ ?_); (focus (first | rfl)); (focus (first | exact one_all (by rfl))); (focus ((try simp only [LN] at *) <;> omega)); (focus ((try simp only [LN] at *) <;> omega)); (focus ((try simp only [LN] at *) <;> omega)))
      | with_reducible refine wr_i64 (by first | omega | (simp only [LN] at *; omega)) ?_
      | with_reducible first | refine Z.callZ_in tabOk 38 Try.f101 _ Try.func101 (by kernel_rfl) rfl rfl rfl ?_ | refine Z.callZ_in tabOk 67 Try.f60 _ Try.func60 (by kernel_rfl) rfl rfl rfl ?_ | refine Z.callZ_in tabOk 95 Try.f100 _ Try.func100 (by kernel_rfl) rfl rfl rfl ?_
      | ((first | (with_reducible refine Z.callZ_mk ?_ (cd) ?_) | (with_reducible refine Z.callZ_mk ?_ (ck) ?_) | (with_reducible refine Z.callZ_mk ?_ (cf) ?_) | (with_reducible refine Z.callZ_mk ?_ (cw) ?_)); (focus ((repeat' (first | exact trivial | exact rfl | apply And.intro)); done)))
      | ((with_reducible apply ex_and); exact rfl)
      | with_reducible first | refine Z.drawZ_rule tabOk mixOk ?_ | refine Z.apZ_mk (by kernel_rfl) ?_)
    all_goals (try (conv => whnf)))
  all_goals try (show Nat.ble _ _ = true; rfl)
  all_goals try (exfalso; rename_i hz; cases hz; done)
  all_goals try (exfalso; (try simp only [LN] at *) <;> omega)
  all_goals first
    | ((first | (with_reducible apply Z.retF2)); (focus (exact rfl)); (repeat' (first | exact trivial | (refine Z.frz_oslw (l := (l ++ [(⟨s, k, c.1, c.2⟩ : Kc)])) (f := cK) (ty := 74) (bx := false) rfl ?_ ?_ (fun _ => rfl); (focus (first | (simp; done))); (focus (first | exact (congrArg (List.take _) (Z.g_app (f := cK) (v := (⟨s, k, c.1, c.2⟩ : Kc)) rfl rfl)).trans (List.take_of_length_le (by simp)) | exact (congrArg (List.take _) (Z.g_appr (f := cK) (v := (⟨s, k, c.1, c.2⟩ : Kc)) rfl rfl)).trans (List.take_of_length_le (by simp))))) | (refine Z.fq_gsl (l := [(⟨s, k, y⟩ : Rcd)]) (f := cR) (g := eR) (sz := 3) (ty := 39) rfl (fun _ => rfl) ?_) | (with_reducible apply Z.frz_one) | (with_reducible apply Z.frz_agg) | (with_reducible apply Z.fq_int) | (exact Z.frz_nil) | exact rfl | apply And.intro)); (all_goals (try exact (fun _ => none))); all_goals (first | (simp; done)))
end Go.Proofs.Ytehhmkdghgabaaa
namespace Go.Proofs.Ytehhmkdghgabaaa
open Go Go.RowKit Wx
set_option linter.unusedVariables false
set_option linter.unusedSimpArgs false
set_option maxHeartbeats 4000000
theorem do_ni (t w a b : Int) (ins : List Int) (l : List Kc) (s k v : Int) (c : Int × Int) (O : List Int) (p : Nat) (hi : ins.length ≤ 9223372036854775807) (hO : O.length ≤ 1) (hl : l.length ≤ 1000) (ht : tabR l = true) (hk : keyOk s k = true) (hr : Ops.doF t w ins a b 0 0 v = (c, O, 0)) (hc : 0 < c.1) (hth : thereR l s k = false) (hp : posR l s k = p) (hne : l ≠ []) (hpl : p < l.length) : Con Try.prog 64 [.agg [.v (.int .i64 t), .v (.int .i64 w), .ro false 1 (ins.map Ops.eI), .v (.int .i64 a), .v (.int .i64 b)], .agg [.ro false 4 (l.map eK)], .agg [.v (.int .i64 s), .v (.int .i64 k), .v (.int .i64 v)]] (fun rx rK rt => rx = .tup [.agg [.ro true 4 ((l.take p ++ (⟨s, k, c.1, c.2⟩ : Kc) :: l.drop p).map eK)], .one (.ro true 3 ((O.map fun x => (⟨s, k, x⟩ : Rcd)).map eR)), .one (.v (.int .i64 0))] ∧ rK = [] ∧ rt = 0) := by
  refine Z.con_ofF tabOk 22 Try.f64 _ Try.func64 (by kernel_rfl) rfl rfl rfl rfl ?_
  have ck := rec_con s k v
  rw [hk] at ck
  simp only [cond_true, cond_false] at ck
  have cf := find_con l s k v hl ht
  rw [hth, hp] at cf
  have cd := Ops.do_con t w a b 0 0 v ins hi (by decide)
  rw [hr] at cd
  dsimp only at cd
  have hcz : (c.1 == 0 && (c.2 == 0 && true)) = false := by rw [show (c.1 == 0) = false by simp; omega]; rfl
  have cw := clonek_con l hl hne
  obtain ⟨x0, hx0⟩ := getElem?_some' (xs := l) (i := p) hpl
  rcases O with _ | ⟨y, _ | ⟨z, O⟩⟩
  rotate_right 1
  · exact absurd hO (by simp)
  all_goals (
    repeat' ((conv => whnf); first
      | with_reducible first | refine spB_t ?_
      | ((with_reducible apply spB_cong); (focus (simp only [beq_self_eq_true, bne_self_eq_false, Bool.true_bne, Bool.false_bne, Bool.bne_true, Bool.bne_false, Bool.true_beq, Bool.false_beq, Bool.not_true, Bool.not_false, Bool.not_not, Int.reduceBEq, Int.reduceBNe, Int.reduceLE, Int.reduceLT, Int.reduceEq, decide_true, decide_false]; rfl)))
      | with_reducible first | refine spB_no (by decide) ?_ | refine spB_not ?_ | refine spB_no (by assumption) ?_
      | (with_reducible refine spB_dec ?_ ?_ <;> intro _ <;> (try (exfalso; first | contradiction | omega | (rename_i hz; refine hz ?_; simp; done) | (rename_i hz; simp at hz; done) | (simp only [LN] at *; omega) | (rename_i hz; exact absurd (hcz.symm.trans hz) Bool.false_ne_true))))
      | (with_reducible refine spB_beq ?_ ?_ <;> intro _ <;> (try (exfalso; first | contradiction | omega | (rename_i hz; refine hz ?_; simp; done) | (rename_i hz; simp at hz; done) | (simp only [LN] at *; omega) | (rename_i hz; exact absurd (hcz.symm.trans hz) Bool.false_ne_true))))
      | with_reducible first | refine Z.loopZ_unroll tabOk 3 ?_
      | ((apply Z.callZ_rwcap (l.map cK)); (focus (exact rfl)); (focus (first | exact ren_map fun _ => rfl)); (focus (simp; done)); (intro capv hcapv; refine ⟨fun hcap => ?_, fun hcap gv hgv => ?_⟩))
      | ((with_reducible refine Z.slN_lo (p) ?_ ?_ ?_); (focus rfl); (focus ((try simp only [LN] at *) <;> omega)))
      | ((with_reducible refine Z.slN_lo (p + 1) ?_ ?_ ?_); (focus rfl); (focus ((try simp only [LN] at *) <;> omega)))
      | ((with_reducible refine slN_hi (p) ?_ ?_ ?_); (focus rfl); (focus ((try simp only [LN] at *) <;> omega)))
      | ((with_reducible refine Z.slN_hc (l.length + 1) ?_ ?_ ?_); (focus rfl); (focus (exact ⟨_, rfl, by first | omega | (dsimp only; omega) | (simp; omega)⟩)))
      | ((with_reducible refine apzE_k ?_); (with_reducible refine apzK_mk (l.length + 1 - p) ⟨_, rfl, ?_⟩ ?_ ?_ ?_ ?_ ?_ ?_); (focus ((try simp only [LN] at *) <;> omega)); (focus ((try simp only [LN] at *) <;> omega)); (focus (exact Z.g_le (f := cK) rfl (by omega))); (iterate 2 (focus ((try simp only [LN] at *) <;> omega))); (focus rfl))
      | ((with_reducible refine cpyN.mk ?_ ?_ ?_ ?_); (focus rfl); (focus (exact one_all (by rfl))); (focus (exact Z.g_fit (f := cK) rfl (by omega) (by (try simp only [LN] at *) <;> omega))))
      | ((with_reducible refine cpyN.mk ?_ ?_ ?_ ?_); (focus (exact Z.g_len (f := cK) rfl (by (try simp only [LN] at *) <;> omega))); (focus (exact Z.g_one cK_one rfl)); (focus (exact Z.g_fit2 (f := cK) rfl (by omega) (by (try simp only [LN] at *) <;> omega) Z.gS_len)))
      | ((with_reducible refine cpyN.mk2 ?_ ?_ ?_ ?_); (focus (exact Z.g_lenp (f := cK) (by (try simp only [LN] at *) <;> omega))); (focus (exact Z.g_onep cK_one (Z.g_min (by (try simp only [LN] at *) <;> omega)))); (focus (exact Z.g_fitp (f := cK) (by (try simp only [LN] at *) <;> omega))))
      | ((with_reducible refine cpyN.mk ?_ ?_ ?_ ?_); (focus rfl); (focus (exact one_all (by rfl))); (focus (exact Z.g_fitp2 (f := cK) (by (try simp only [LN] at *) <;> omega) (Z.g_fitk (by (try simp only [LN] at *) <;> omega)))))
      | ((with_reducible apply Z.callZ_ovl (tS := 28) (tR := 4) tabOk Try.f117 Try.func117 (by kernel_rfl) (by kernel_rfl) (by kernel_rfl) (by kernel_rfl)); (iterate 4 (focus (exact rfl))); (focus (exact Nat.ne_of_beq_eq_false rfl)); (focus (simp; done)); (focus (exact Nat.zero_lt_succ _)))
      | ((with_reducible refine posE_pos ?_ ?_); (focus ((try simp only [LN] at *) <;> omega)))
      | ((with_reducible apply rowN_mk); (focus rfl))
      | ((with_reducible apply ixN_lit); (focus (exact rfl)); (focus (exact rfl)))
      | ((with_reducible refine slE_a ?_ ?_); (focus ((try simp only [LN] at *) <;> omega)))
      | ((with_reducible refine apdN.mk ?_ ?_ ?_ ?_ ?_ ?_); (focus (first | rfl)); (focus (first | exact one_all (by rfl))); (focus ((try simp only [LN] at *) <;> omega)); (focus ((try simp only [LN] at *) <;> omega)); (focus ((try simp only [LN] at *) <;> omega)))
      | with_reducible refine wr_i64 (by first | omega | (simp only [LN] at *; omega)) ?_
      | with_reducible first | refine Z.callZ_in tabOk 38 Try.f101 _ Try.func101 (by kernel_rfl) rfl rfl rfl ?_ | refine Z.callZ_in tabOk 67 Try.f60 _ Try.func60 (by kernel_rfl) rfl rfl rfl ?_ | refine Z.callZ_in tabOk 95 Try.f100 _ Try.func100 (by kernel_rfl) rfl rfl rfl ?_
      | ((first | (with_reducible refine Z.callZ_mk ?_ (cd) ?_) | (with_reducible refine Z.callZ_mk ?_ (ck) ?_) | (with_reducible refine Z.callZ_mk ?_ (cf) ?_) | (with_reducible refine Z.callZ_mk ?_ (cw) ?_)); (focus ((repeat' (first | exact trivial | exact rfl | apply And.intro)); done)))
      | ((with_reducible apply ex_and); exact rfl)
      | with_reducible first | refine Z.drawZ_rule tabOk mixOk ?_ | refine Z.apZ_mk (by kernel_rfl) ?_)
    all_goals (try (conv => whnf)))
  all_goals try (show Nat.ble _ _ = true; rfl)
  all_goals try (exfalso; rename_i hz; cases hz; done)
  all_goals try (exfalso; (try simp only [LN] at *) <;> omega)
  all_goals first
    | ((first | (with_reducible apply Z.retF2)); (focus (exact rfl)); (repeat' (first | exact trivial | (refine Z.frz_oslw (l := (l.take p ++ (⟨s, k, c.1, c.2⟩ : Kc) :: l.drop p)) (f := cK) (ty := 74) (bx := false) rfl ?_ ?_ (fun _ => rfl); (focus (first | (simp; omega))); (focus (first | exact (congrArg (List.take _) (Z.g_ins (f := cK) (v := (⟨s, k, c.1, c.2⟩ : Kc)) rfl (by omega) rfl (Z.gS_eq (by omega) rfl) (Z.gT_eq (f := cK) rfl (Nat.le_min.2 ⟨by omega, by omega⟩) (by omega)))).trans (List.take_of_length_le (by simp; omega)) | exact (congrArg (List.take _) (Z.g_insp (f := cK) (v := (⟨s, k, c.1, c.2⟩ : Kc)) (by omega) (Z.gS_eq (by omega) rfl) (Z.gT_eqp (f := cK) (by omega) (.inl ⟨(Nat.min_eq_right (by omega)).trans (by omega), by omega⟩)))).trans (List.take_of_length_le (by simp; omega))))) | (refine Z.fq_gsl (l := [(⟨s, k, y⟩ : Rcd)]) (f := cR) (g := eR) (sz := 3) (ty := 39) rfl (fun _ => rfl) ?_) | (with_reducible apply Z.frz_one) | (with_reducible apply Z.frz_agg) | (with_reducible apply Z.fq_int) | (exact Z.frz_nil) | exact rfl | apply And.intro)); (all_goals (try exact (fun _ => none))); all_goals (first | (simp; done)))
end Go.Proofs.Ytehhmkdghgabaaa
namespace Go.Proofs.Ytehhmkdghgabaaa
open Go Go.RowKit Wx
set_option linter.unusedVariables false
set_option linter.unusedSimpArgs false
set_option maxHeartbeats 4000000
theorem do_za (t w a b : Int) (ins : List Int) (l : List Kc) (s k v : Int) (c : Int × Int) (O : List Int) (p : Nat) (hi : ins.length ≤ 9223372036854775807) (hO : O.length ≤ 1) (hl : l.length ≤ 1000) (ht : tabR l = true) (hk : keyOk s k = true) (hth : thereR l s k = true) (hp : posR l s k = p) (hne : l ≠ []) (x : Kc) (hx : l[p]? = some x) (hc0 : x.cnt ≤ 9223372036854775807) (hr : Ops.doF t w ins a b x.cnt x.sum v = (c, O, 0)) (hc : c = (0, 0)) (hpl : p < l.length) (hpe : p + 1 = l.length) : Con Try.prog 64 [.agg [.v (.int .i64 t), .v (.int .i64 w), .ro false 1 (ins.map Ops.eI), .v (.int .i64 a), .v (.int .i64 b)], .agg [.ro false 4 (l.map eK)], .agg [.v (.int .i64 s), .v (.int .i64 k), .v (.int .i64 v)]] (fun rx rK rt => rx = .tup [.agg [.ro true 4 ((l.eraseIdx p).map eK)], .one (.ro true 3 ((O.map fun x => (⟨s, k, x⟩ : Rcd)).map eR)), .one (.v (.int .i64 0))] ∧ rK = [] ∧ rt = 0) := by
  refine Z.con_ofF tabOk 22 Try.f64 _ Try.func64 (by kernel_rfl) rfl rfl rfl rfl ?_
  have ck := rec_con s k v
  rw [hk] at ck
  simp only [cond_true, cond_false] at ck
  have cf := find_con l s k v hl ht
  rw [hth, hp] at cf
  have cd := Ops.do_con t w a b x.cnt x.sum v ins hi hc0
  rw [hr] at cd
  dsimp only at cd
  subst hc
  have cw := clonek_con l hl hne
  rcases O with _ | ⟨y, _ | ⟨z, O⟩⟩
  rotate_right 1
  · exact absurd hO (by simp)
  all_goals (
    repeat' ((conv => whnf); first
      | with_reducible first | refine spB_t ?_
      | ((with_reducible apply spB_cong); (focus (simp only [beq_self_eq_true, bne_self_eq_false, Bool.true_bne, Bool.false_bne, Bool.bne_true, Bool.bne_false, Bool.true_beq, Bool.false_beq, Bool.not_true, Bool.not_false, Bool.not_not, Int.reduceBEq, Int.reduceBNe, Int.reduceLE, Int.reduceLT, Int.reduceEq, decide_true, decide_false]; rfl)))
      | with_reducible first | refine spB_no (by decide) ?_
      | (with_reducible refine spB_dec ?_ ?_ <;> intro _ <;> (try (exfalso; first | contradiction | omega | (rename_i hz; refine hz ?_; simp; done) | (rename_i hz; simp at hz; done) | (simp only [LN] at *; omega))))
      | (with_reducible refine spB_beq ?_ ?_ <;> intro _ <;> (try (exfalso; first | contradiction | omega | (rename_i hz; refine hz ?_; simp; done) | (rename_i hz; simp at hz; done) | (simp only [LN] at *; omega))))
      | with_reducible first | refine Z.loopZ_unroll tabOk 3 ?_
      | ((apply Z.callZ_rwcapn (l.map cK)); (focus (exact rfl)); (focus (first | exact ren_map fun _ => rfl)); (intro capv hcapv))
      | ((with_reducible refine slN_hi (p) ?_ ?_ ?_); (focus rfl); (focus ((try simp only [LN] at *) <;> omega)))
      | ((with_reducible refine Z.slN_lo (p + 1) ?_ ?_ ?_); (focus rfl); (focus ((try simp only [LN] at *) <;> omega)))
      | ((with_reducible refine Z.slN_lhc (l.length - 1) l.length ?_ ?_ ?_ ?_ ?_); (iterate 3 (focus ((try simp only [LN] at *) <;> omega))); (focus (exact ⟨_, rfl, (by (try simp only [LN] at *) <;> omega)⟩)))
      | ((with_reducible refine apdE_r ?_); (with_reducible refine aprN.mk ⟨_, rfl, ?_⟩ ?_ ?_ ?_ ?_); (focus ((try simp only [LN] at *) <;> omega)); (focus rfl); (focus (exact one_all (by rfl))); (focus (exact Z.g_le (f := cK) rfl (by (try simp only [LN] at *) <;> omega))))
      | ((with_reducible refine clrN_mk ?_ ?_ ?_); (focus (exact Z.g_clr (f := cK) rfl (by first | (rw [Z.g_len (f := cK) (l := l) rfl (by (try simp only [LN] at *) <;> omega)]; omega) | (simp; omega)) (by (try simp only [LN] at *) <;> omega))); (focus rfl))
      | with_reducible first | refine Z.rowN_known hx ?_
      | ((with_reducible refine ixN_mk (p) ?_ ?_ ?_); (focus (first | rfl)); (focus ((try simp only [LN] at *) <;> omega)))
      | ((with_reducible refine posE_pos ?_ ?_); (focus ((try simp only [LN] at *) <;> omega)))
      | ((with_reducible apply rowN_mk); (focus rfl))
      | ((with_reducible apply ixN_lit); (focus (exact rfl)); (focus (exact rfl)))
      | ((with_reducible refine slE_a ?_ ?_); (focus ((try simp only [LN] at *) <;> omega)))
      | ((with_reducible refine slE_b ?_ ?_); (focus ((try simp only [LN] at *) <;> omega)))
      | ((with_reducible apply sl3N_mk); (focus (exact rfl)); (focus (exact rfl)); (focus (exact rfl)); (focus ((try simp only [LN] at *) <;> omega)); (focus ((try simp only [LN] at *) <;> omega)); (focus ((try simp only [LN] at *) <;> omega)); (focus ((try simp only [LN] at *) <;> omega)))
      | ((with_reducible refine apdN.mk ?_ ?_ ?_ ?_ ?_ ?_); (focus (first | rfl)); (focus (first | exact one_all (by rfl))); (focus ((try simp only [LN] at *) <;> omega)); (focus ((try simp only [LN] at *) <;> omega)); (focus ((try simp only [LN] at *) <;> omega)))
      | with_reducible refine wr_i64 (by first | omega | (simp only [LN] at *; omega)) ?_
      | with_reducible first | refine Z.callZ_in tabOk 38 Try.f101 _ Try.func101 (by kernel_rfl) rfl rfl rfl ?_ | refine Z.callZ_in tabOk 67 Try.f60 _ Try.func60 (by kernel_rfl) rfl rfl rfl ?_ | refine Z.callZ_in tabOk 33 Try.f99 _ Try.func99 (by kernel_rfl) rfl rfl rfl ?_
      | ((first | (with_reducible refine Z.callZ_mk ?_ (cd) ?_) | (with_reducible refine Z.callZ_mk ?_ (ck) ?_) | (with_reducible refine Z.callZ_mk ?_ (cf) ?_) | (with_reducible refine Z.callZ_mk ?_ (cw) ?_)); (focus ((repeat' (first | exact trivial | exact rfl | apply And.intro)); done)))
      | ((with_reducible apply ex_and); exact rfl)
      | with_reducible first | refine Z.drawZ_rule tabOk mixOk ?_ | refine Z.apZ_mk (by kernel_rfl) ?_)
    all_goals (try (conv => whnf)))
  all_goals try (show Nat.ble _ _ = true; rfl)
  all_goals try (exfalso; rename_i hz; cases hz; done)
  all_goals try (exfalso; (try simp only [LN] at *) <;> omega)
  all_goals first
    | ((first | (with_reducible apply Z.retF2)); (focus (exact rfl)); (repeat' (first | exact trivial | (refine Z.frz_oslw (l := l.eraseIdx p) (f := cK) (ty := 74) (bx := false) rfl ?_ ?_ (fun _ => rfl); (focus (rw [List.length_eraseIdx, if_pos hpl]; (try simp only [LN] at *) <;> omega)); (focus (first | exact Z.del_end (by omega)))) | (refine Z.fq_gsl (l := [(⟨s, k, y⟩ : Rcd)]) (f := cR) (g := eR) (sz := 3) (ty := 39) rfl (fun _ => rfl) ?_) | (with_reducible apply Z.frz_one) | (with_reducible apply Z.frz_agg) | (with_reducible apply Z.fq_int) | (exact Z.frz_nil) | exact rfl | apply And.intro)); (all_goals (try exact (fun _ => none))); all_goals (first | (simp; done)))
end Go.Proofs.Ytehhmkdghgabaaa
namespace Go.Proofs.Ytehhmkdghgabaaa
open Go Go.RowKit Wx
set_option linter.unusedVariables false
set_option linter.unusedSimpArgs false
set_option maxHeartbeats 4000000
theorem do_zi (t w a b : Int) (ins : List Int) (l : List Kc) (s k v : Int) (c : Int × Int) (O : List Int) (p : Nat) (hi : ins.length ≤ 9223372036854775807) (hO : O.length ≤ 1) (hl : l.length ≤ 1000) (ht : tabR l = true) (hk : keyOk s k = true) (hth : thereR l s k = true) (hp : posR l s k = p) (hne : l ≠ []) (x : Kc) (hx : l[p]? = some x) (hc0 : x.cnt ≤ 9223372036854775807) (hr : Ops.doF t w ins a b x.cnt x.sum v = (c, O, 0)) (hc : c = (0, 0)) (hpl : p < l.length) (hpe : p + 1 < l.length) : Con Try.prog 64 [.agg [.v (.int .i64 t), .v (.int .i64 w), .ro false 1 (ins.map Ops.eI), .v (.int .i64 a), .v (.int .i64 b)], .agg [.ro false 4 (l.map eK)], .agg [.v (.int .i64 s), .v (.int .i64 k), .v (.int .i64 v)]] (fun rx rK rt => rx = .tup [.agg [.ro true 4 ((l.eraseIdx p).map eK)], .one (.ro true 3 ((O.map fun x => (⟨s, k, x⟩ : Rcd)).map eR)), .one (.v (.int .i64 0))] ∧ rK = [] ∧ rt = 0) := by
  refine Z.con_ofF tabOk 22 Try.f64 _ Try.func64 (by kernel_rfl) rfl rfl rfl rfl ?_
  have ck := rec_con s k v
  rw [hk] at ck
  simp only [cond_true, cond_false] at ck
  have cf := find_con l s k v hl ht
  rw [hth, hp] at cf
  have cd := Ops.do_con t w a b x.cnt x.sum v ins hi hc0
  rw [hr] at cd
  dsimp only at cd
  subst hc
  have cw := clonek_con l hl hne
  rcases O with _ | ⟨y, _ | ⟨z, O⟩⟩
  rotate_right 1
  · exact absurd hO (by simp)
  all_goals (
    repeat' ((conv => whnf); first
      | with_reducible first | refine spB_t ?_
      | ((with_reducible apply spB_cong); (focus (simp only [beq_self_eq_true, bne_self_eq_false, Bool.true_bne, Bool.false_bne, Bool.bne_true, Bool.bne_false, Bool.true_beq, Bool.false_beq, Bool.not_true, Bool.not_false, Bool.not_not, Int.reduceBEq, Int.reduceBNe, Int.reduceLE, Int.reduceLT, Int.reduceEq, decide_true, decide_false]; rfl)))
      | with_reducible first | refine spB_no (by decide) ?_
      | (with_reducible refine spB_dec ?_ ?_ <;> intro _ <;> (try (exfalso; first | contradiction | omega | (rename_i hz; refine hz ?_; simp; done) | (rename_i hz; simp at hz; done) | (simp only [LN] at *; omega))))
      | (with_reducible refine spB_beq ?_ ?_ <;> intro _ <;> (try (exfalso; first | contradiction | omega | (rename_i hz; refine hz ?_; simp; done) | (rename_i hz; simp at hz; done) | (simp only [LN] at *; omega))))
      | with_reducible first | refine Z.loopZ_unroll tabOk 3 ?_
      | ((apply Z.callZ_rwcapn (l.map cK)); (focus (exact rfl)); (focus (first | exact ren_map fun _ => rfl)); (intro capv hcapv))
      | ((with_reducible refine slN_hi (p) ?_ ?_ ?_); (focus rfl); (focus ((try simp only [LN] at *) <;> omega)))
      | ((with_reducible refine Z.slN_lo (p + 1) ?_ ?_ ?_); (focus rfl); (focus ((try simp only [LN] at *) <;> omega)))
      | ((with_reducible refine Z.slN_lhc (l.length - 1) l.length ?_ ?_ ?_ ?_ ?_); (iterate 3 (focus ((try simp only [LN] at *) <;> omega))); (focus (exact ⟨_, rfl, (by (try simp only [LN] at *) <;> omega)⟩)))
      | ((with_reducible refine apdE_r ?_); (with_reducible refine aprN.mk ⟨_, rfl, ?_⟩ ?_ ?_ ?_ ?_); (focus ((try simp only [LN] at *) <;> omega)); (focus (exact Z.g_len (f := cK) rfl (by (try simp only [LN] at *) <;> omega))); (focus (exact Z.g_one cK_one rfl)); (focus (exact Z.g_le (f := cK) rfl (by (try simp only [LN] at *) <;> omega))))
      | ((with_reducible refine clrN_mk ?_ ?_ ?_); (focus (exact Z.g_clr (f := cK) rfl (by first | (rw [Z.g_len (f := cK) (l := l) rfl (by (try simp only [LN] at *) <;> omega)]; omega) | (simp; omega)) (by (try simp only [LN] at *) <;> omega))); (focus rfl))
      | with_reducible first | refine Z.rowN_known hx ?_
      | ((with_reducible refine ixN_mk (p) ?_ ?_ ?_); (focus (first | rfl)); (focus ((try simp only [LN] at *) <;> omega)))
      | ((with_reducible refine posE_pos ?_ ?_); (focus ((try simp only [LN] at *) <;> omega)))
      | ((with_reducible apply rowN_mk); (focus rfl))
      | ((with_reducible apply ixN_lit); (focus (exact rfl)); (focus (exact rfl)))
      | ((with_reducible refine slE_a ?_ ?_); (focus ((try simp only [LN] at *) <;> omega)))
      | ((with_reducible apply sl3N_mk); (focus (exact rfl)); (focus (exact rfl)); (focus (exact rfl)); (focus ((try simp only [LN] at *) <;> omega)); (focus ((try simp only [LN] at *) <;> omega)); (focus ((try simp only [LN] at *) <;> omega)); (focus ((try simp only [LN] at *) <;> omega)))
      | ((with_reducible refine apdN.mk ?_ ?_ ?_ ?_ ?_ ?_); (focus (first | rfl)); (focus (first | exact one_all (by rfl))); (focus ((try simp only [LN] at *) <;> omega)); (focus ((try simp only [LN] at *) <;> omega)); (focus ((try simp only [LN] at *) <;> omega)))
      | with_reducible refine wr_i64 (by first | omega | (simp only [LN] at *; omega)) ?_
      | with_reducible first | refine Z.callZ_in tabOk 38 Try.f101 _ Try.func101 (by kernel_rfl) rfl rfl rfl ?_ | refine Z.callZ_in tabOk 67 Try.f60 _ Try.func60 (by kernel_rfl) rfl rfl rfl ?_ | refine Z.callZ_in tabOk 33 Try.f99 _ Try.func99 (by kernel_rfl) rfl rfl rfl ?_
      | ((first | (with_reducible refine Z.callZ_mk ?_ (cd) ?_) | (with_reducible refine Z.callZ_mk ?_ (ck) ?_) | (with_reducible refine Z.callZ_mk ?_ (cf) ?_) | (with_reducible refine Z.callZ_mk ?_ (cw) ?_)); (focus ((repeat' (first | exact trivial | exact rfl | apply And.intro)); done)))
      | ((with_reducible apply ex_and); exact rfl)
      | with_reducible first | refine Z.drawZ_rule tabOk mixOk ?_ | refine Z.apZ_mk (by kernel_rfl) ?_)
    all_goals (try (conv => whnf)))
  all_goals try (show Nat.ble _ _ = true; rfl)
  all_goals try (exfalso; rename_i hz; cases hz; done)
  all_goals try (exfalso; (try simp only [LN] at *) <;> omega)
  all_goals first
    | ((first | (with_reducible apply Z.retF2)); (focus (exact rfl)); (repeat' (first | exact trivial | (refine Z.frz_oslw (l := l.eraseIdx p) (f := cK) (ty := 74) (bx := false) rfl ?_ ?_ (fun _ => rfl); (focus (rw [List.length_eraseIdx, if_pos hpl]; (try simp only [LN] at *) <;> omega)); (focus (first | exact Z.del_rows hpl (by simp)))) | (refine Z.fq_gsl (l := [(⟨s, k, y⟩ : Rcd)]) (f := cR) (g := eR) (sz := 3) (ty := 39) rfl (fun _ => rfl) ?_) | (with_reducible apply Z.frz_one) | (with_reducible apply Z.frz_agg) | (with_reducible apply Z.fq_int) | (exact Z.frz_nil) | exact rfl | apply And.intro)); (all_goals (try exact (fun _ => none))); all_goals (first | (simp; done)))
end Go.Proofs.Ytehhmkdghgabaaa
namespace Go.Proofs.Ytehhmkdghgabaaa
open Go Go.RowKit Wx
set_option linter.unusedVariables false
set_option linter.unusedSimpArgs false
set_option maxHeartbeats 4000000
theorem do_sa (t w a b : Int) (ins : List Int) (l : List Kc) (s k v : Int) (c : Int × Int) (O : List Int) (p : Nat) (hi : ins.length ≤ 9223372036854775807) (hO : O.length ≤ 1) (hl : l.length ≤ 1000) (ht : tabR l = true) (hk : keyOk s k = true) (hth : thereR l s k = true) (hp : posR l s k = p) (hne : l ≠ []) (x : Kc) (hx : l[p]? = some x) (hc0 : x.cnt ≤ 9223372036854775807) (hr : Ops.doF t w ins a b x.cnt x.sum v = (c, O, 0)) (hc : 0 < c.1) (hpl : p < l.length) (hpe : p + 1 = l.length) : Con Try.prog 64 [.agg [.v (.int .i64 t), .v (.int .i64 w), .ro false 1 (ins.map Ops.eI), .v (.int .i64 a), .v (.int .i64 b)], .agg [.ro false 4 (l.map eK)], .agg [.v (.int .i64 s), .v (.int .i64 k), .v (.int .i64 v)]] (fun rx rK rt => rx = .tup [.agg [.ro true 4 (((l.eraseIdx p).take p ++ (⟨s, k, c.1, c.2⟩ : Kc) :: (l.eraseIdx p).drop p).map eK)], .one (.ro true 3 ((O.map fun x => (⟨s, k, x⟩ : Rcd)).map eR)), .one (.v (.int .i64 0))] ∧ rK = [] ∧ rt = 0) := by
  refine Z.con_ofF tabOk 22 Try.f64 _ Try.func64 (by kernel_rfl) rfl rfl rfl rfl ?_
  have ck := rec_con s k v
  rw [hk] at ck
  simp only [cond_true, cond_false] at ck
  have cf := find_con l s k v hl ht
  rw [hth, hp] at cf
  have cd := Ops.do_con t w a b x.cnt x.sum v ins hi hc0
  rw [hr] at cd
  dsimp only at cd
  have hcz : (c.1 == 0 && (c.2 == 0 && true)) = false := by rw [show (c.1 == 0) = false by simp; omega]; rfl
  have cw := clonek_con l hl hne
  obtain ⟨L, hL⟩ : ∃ L, l.eraseIdx p = L := ⟨_, rfl⟩
  have hLl : L.length + 1 = l.length := by rw [← hL, List.length_eraseIdx, if_pos hpl]; omega
  rw [hL]
  rcases O with _ | ⟨y, _ | ⟨z, O⟩⟩
  rotate_right 1
  · exact absurd hO (by simp)
  all_goals (
    repeat' ((conv => whnf); first
      | with_reducible first | refine spB_t ?_
      | ((with_reducible apply spB_cong); (focus (simp only [beq_self_eq_true, bne_self_eq_false, Bool.true_bne, Bool.false_bne, Bool.bne_true, Bool.bne_false, Bool.true_beq, Bool.false_beq, Bool.not_true, Bool.not_false, Bool.not_not, Int.reduceBEq, Int.reduceBNe, Int.reduceLE, Int.reduceLT, Int.reduceEq, decide_true, decide_false]; rfl)))
      | with_reducible first | refine spB_no (by decide) ?_ | refine spB_not ?_ | refine spB_no (by assumption) ?_
      | (with_reducible refine spB_dec ?_ ?_ <;> intro _ <;> (try (exfalso; first | contradiction | omega | (rename_i hz; refine hz ?_; simp; done) | (rename_i hz; simp at hz; done) | (simp only [LN] at *; omega) | (rename_i hz; exact absurd (hcz.symm.trans hz) Bool.false_ne_true))))
      | (with_reducible refine spB_beq ?_ ?_ <;> intro _ <;> (try (exfalso; first | contradiction | omega | (rename_i hz; refine hz ?_; simp; done) | (rename_i hz; simp at hz; done) | (simp only [LN] at *; omega) | (rename_i hz; exact absurd (hcz.symm.trans hz) Bool.false_ne_true))))
      | with_reducible first | refine Z.loopZ_unroll tabOk 3 ?_
      | ((apply Z.callZ_tell (L.map cK ++ [cK ⟨0, 0, 0, 0⟩]) L.length); (focus (exact rfl)); (focus (exact (Z.del_full0 (f := cK) (z := (⟨0, 0, 0, 0⟩ : Kc)) rfl hpe rfl (by first | rfl | (rw [show l.length - (l.length - 1) = 1 by omega]; rfl))).trans (by rw [hL, List.map_append]; rfl))); (focus ((try simp only [LN] at *) <;> omega)))
      | ((apply Z.callZ_rwcapn (l.map cK)); (focus (exact rfl)); (focus (first | exact ren_map fun _ => rfl)); (intro capv hcapv))
      | ((with_reducible refine slN_hi (p) ?_ ?_ ?_); (focus rfl); (focus ((try simp only [LN] at *) <;> omega)))
      | ((with_reducible refine Z.slN_lo (p + 1) ?_ ?_ ?_); (focus rfl); (focus ((try simp only [LN] at *) <;> omega)))
      | ((with_reducible refine Z.slN_lhc (l.length - 1) l.length ?_ ?_ ?_ ?_ ?_); (iterate 3 (focus ((try simp only [LN] at *) <;> omega))); (focus (exact ⟨_, rfl, (by (try simp only [LN] at *) <;> omega)⟩)))
      | ((with_reducible refine apdE_r ?_); (with_reducible refine aprN.mk ⟨_, rfl, ?_⟩ ?_ ?_ ?_ ?_); (focus ((try simp only [LN] at *) <;> omega)); (focus rfl); (focus (exact one_all (by rfl))); (focus (exact Z.g_le (f := cK) rfl (by (try simp only [LN] at *) <;> omega))))
      | ((with_reducible refine clrN_mk ?_ ?_ ?_); (focus (exact Z.g_clr (f := cK) rfl (by first | (rw [Z.g_len (f := cK) (l := l) rfl (by (try simp only [LN] at *) <;> omega)]; omega) | (simp; omega)) (by (try simp only [LN] at *) <;> omega))); (focus rfl))
      | ((with_reducible refine Z.slN_lo (p) ?_ ?_ ?_); (focus rfl); (focus ((try simp only [LN] at *) <;> omega)))
      | with_reducible first | refine Z.rowN_known hx ?_
      | ((with_reducible refine ixN_mk (p) ?_ ?_ ?_); (focus (first | rfl)); (focus ((try simp only [LN] at *) <;> omega)))
      | ((with_reducible refine posE_pos ?_ ?_); (focus ((try simp only [LN] at *) <;> omega)))
      | ((with_reducible apply rowN_mk); (focus rfl))
      | ((with_reducible apply ixN_lit); (focus (exact rfl)); (focus (exact rfl)))
      | ((with_reducible refine apdE_r ?_); (with_reducible refine aprN.mk ⟨_, rfl, ?_⟩ ?_ ?_ ?_ ?_); (focus ((try simp only [LN] at *) <;> omega)); (focus (first | rfl)); (focus (first | exact one_all (by rfl))); (focus ((try simp only [LN] at *) <;> omega)))
      | ((with_reducible refine slE_a ?_ ?_); (focus ((try simp only [LN] at *) <;> omega)))
      | ((with_reducible refine slE_b ?_ ?_); (focus ((try simp only [LN] at *) <;> omega)))
      | ((with_reducible apply sl3N_mk); (focus (exact rfl)); (focus (exact rfl)); (focus (exact rfl)); (focus ((try simp only [LN] at *) <;> omega)); (focus ((try simp only [LN] at *) <;> omega)); (focus ((try simp only [LN] at *) <;> omega)); (focus ((try simp only [LN] at *) <;> omega)))
      | ((with_reducible refine apdN.mk ?_ ?_ ?_ ?_ ?_ ?_); (focus (first | rfl)); (focus (first | exact one_all (by rfl))); (focus ((try simp only [LN] at *) <;> omega)); (focus ((try simp only [LN] at *) <;> omega)); (focus ((try simp only [LN] at *) <;> omega)))
      | with_reducible refine wr_i64 (by first | omega | (simp only [LN] at *; omega)) ?_
      | with_reducible first | refine Z.callZ_in tabOk 38 Try.f101 _ Try.func101 (by kernel_rfl) rfl rfl rfl ?_ | refine Z.callZ_in tabOk 67 Try.f60 _ Try.func60 (by kernel_rfl) rfl rfl rfl ?_ | refine Z.callZ_in tabOk 33 Try.f99 _ Try.func99 (by kernel_rfl) rfl rfl rfl ?_ | refine Z.callZ_in tabOk 95 Try.f100 _ Try.func100 (by kernel_rfl) rfl rfl rfl ?_
      | ((first | (with_reducible refine Z.callZ_mk ?_ (cd) ?_) | (with_reducible refine Z.callZ_mk ?_ (ck) ?_) | (with_reducible refine Z.callZ_mk ?_ (cf) ?_) | (with_reducible refine Z.callZ_mk ?_ (cw) ?_)); (focus ((repeat' (first | exact trivial | exact rfl | apply And.intro)); done)))
      | ((with_reducible apply ex_and); exact rfl)
      | with_reducible first | refine Z.drawZ_rule tabOk mixOk ?_ | refine Z.apZ_mk (by kernel_rfl) ?_)
    all_goals (try (conv => whnf)))
  all_goals try (show Nat.ble _ _ = true; rfl)
  all_goals try (exfalso; rename_i hz; cases hz; done)
  all_goals try (exfalso; (try simp only [LN] at *) <;> omega)
  all_goals (have hpL : p = L.length := by omega)
  all_goals (rw [show L.take p ++ (⟨s, k, c.1, c.2⟩ : Kc) :: L.drop p = L ++ [⟨s, k, c.1, c.2⟩] by rw [hpL, List.take_length, List.drop_length]])
  all_goals first
    | ((first | (with_reducible apply Z.retF2)); (focus (exact rfl)); (repeat' (first | exact trivial | (refine Z.frz_oslw (l := (L ++ [(⟨s, k, c.1, c.2⟩ : Kc)])) (f := cK) (ty := 74) (bx := false) rfl ?_ ?_ (fun _ => rfl); (focus (first | (simp; done))); (focus (first | exact (congrArg (List.take _) (Z.g_appr (f := cK) (l := L) (g := cK ⟨0, 0, 0, 0⟩) (v := (⟨s, k, c.1, c.2⟩ : Kc)) rfl rfl)).trans (List.take_of_length_le (by simp))))) | (refine Z.fq_gsl (l := [(⟨s, k, y⟩ : Rcd)]) (f := cR) (g := eR) (sz := 3) (ty := 39) rfl (fun _ => rfl) ?_) | (with_reducible apply Z.frz_one) | (with_reducible apply Z.frz_agg) | (with_reducible apply Z.fq_int) | (exact Z.frz_nil) | exact rfl | apply And.intro)); (all_goals (try exact (fun _ => none))); all_goals (first | (simp; done)))
end Go.Proofs.Ytehhmkdghgabaaa
namespace Go.Proofs.Ytehhmkdghgabaaa
open Go Go.RowKit Wx
set_option linter.unusedVariables false
set_option linter.unusedSimpArgs false
set_option maxHeartbeats 4000000
theorem do_si (t w a b : Int) (ins : List Int) (l : List Kc) (s k v : Int) (c : Int × Int) (O : List Int) (p : Nat) (hi : ins.length ≤ 9223372036854775807) (hO : O.length ≤ 1) (hl : l.length ≤ 1000) (ht : tabR l = true) (hk : keyOk s k = true) (hth : thereR l s k = true) (hp : posR l s k = p) (hne : l ≠ []) (x : Kc) (hx : l[p]? = some x) (hc0 : x.cnt ≤ 9223372036854775807) (hr : Ops.doF t w ins a b x.cnt x.sum v = (c, O, 0)) (hc : 0 < c.1) (hpl : p < l.length) (hpe : p + 1 < l.length) : Con Try.prog 64 [.agg [.v (.int .i64 t), .v (.int .i64 w), .ro false 1 (ins.map Ops.eI), .v (.int .i64 a), .v (.int .i64 b)], .agg [.ro false 4 (l.map eK)], .agg [.v (.int .i64 s), .v (.int .i64 k), .v (.int .i64 v)]] (fun rx rK rt => rx = .tup [.agg [.ro true 4 (((l.eraseIdx p).take p ++ (⟨s, k, c.1, c.2⟩ : Kc) :: (l.eraseIdx p).drop p).map eK)], .one (.ro true 3 ((O.map fun x => (⟨s, k, x⟩ : Rcd)).map eR)), .one (.v (.int .i64 0))] ∧ rK = [] ∧ rt = 0) := by
  refine Z.con_ofF tabOk 22 Try.f64 _ Try.func64 (by kernel_rfl) rfl rfl rfl rfl ?_
  have ck := rec_con s k v
  rw [hk] at ck
  simp only [cond_true, cond_false] at ck
  have cf := find_con l s k v hl ht
  rw [hth, hp] at cf
  have cd := Ops.do_con t w a b x.cnt x.sum v ins hi hc0
  rw [hr] at cd
  dsimp only at cd
  have hcz : (c.1 == 0 && (c.2 == 0 && true)) = false := by rw [show (c.1 == 0) = false by simp; omega]; rfl
  have cw := clonek_con l hl hne
  obtain ⟨L, hL⟩ : ∃ L, l.eraseIdx p = L := ⟨_, rfl⟩
  have hLl : L.length + 1 = l.length := by rw [← hL, List.length_eraseIdx, if_pos hpl]; omega
  rw [hL]
  rcases O with _ | ⟨y, _ | ⟨z, O⟩⟩
  rotate_right 1
  · exact absurd hO (by simp)
  all_goals (
    repeat' ((conv => whnf); first
      | with_reducible first | refine spB_t ?_
      | ((with_reducible apply spB_cong); (focus (simp only [beq_self_eq_true, bne_self_eq_false, Bool.true_bne, Bool.false_bne, Bool.bne_true, Bool.bne_false, Bool.true_beq, Bool.false_beq, Bool.not_true, Bool.not_false, Bool.not_not, Int.reduceBEq, Int.reduceBNe, Int.reduceLE, Int.reduceLT, Int.reduceEq, decide_true, decide_false]; rfl)))
      | with_reducible first | refine spB_no (by decide) ?_ | refine spB_not ?_ | refine spB_no (by assumption) ?_
      | (with_reducible refine spB_dec ?_ ?_ <;> intro _ <;> (try (exfalso; first | contradiction | omega | (rename_i hz; refine hz ?_; simp; done) | (rename_i hz; simp at hz; done) | (simp only [LN] at *; omega) | (rename_i hz; exact absurd (hcz.symm.trans hz) Bool.false_ne_true))))
      | (with_reducible refine spB_beq ?_ ?_ <;> intro _ <;> (try (exfalso; first | contradiction | omega | (rename_i hz; refine hz ?_; simp; done) | (rename_i hz; simp at hz; done) | (simp only [LN] at *; omega) | (rename_i hz; exact absurd (hcz.symm.trans hz) Bool.false_ne_true))))
      | with_reducible first | refine Z.loopZ_unroll tabOk 3 ?_
      | ((apply Z.callZ_tell (L.map cK ++ [cK ⟨0, 0, 0, 0⟩]) L.length); (focus (exact rfl)); (focus (exact (Z.del_full (f := cK) (z := (⟨0, 0, 0, 0⟩ : Kc)) rfl hpl rfl (by first | rfl | (rw [show l.length - (l.length - 1) = 1 by omega]; rfl))).trans (by rw [hL, List.map_append]; rfl))); (focus ((try simp only [LN] at *) <;> omega)))
      | ((apply Z.callZ_rwcapn (l.map cK)); (focus (exact rfl)); (focus (first | exact ren_map fun _ => rfl)); (intro capv hcapv))
      | ((with_reducible refine slN_hi (p) ?_ ?_ ?_); (focus rfl); (focus ((try simp only [LN] at *) <;> omega)))
      | ((with_reducible refine Z.slN_lo (p + 1) ?_ ?_ ?_); (focus rfl); (focus ((try simp only [LN] at *) <;> omega)))
      | ((with_reducible refine Z.slN_lhc (l.length - 1) l.length ?_ ?_ ?_ ?_ ?_); (iterate 3 (focus ((try simp only [LN] at *) <;> omega))); (focus (exact ⟨_, rfl, (by (try simp only [LN] at *) <;> omega)⟩)))
      | ((with_reducible refine apdE_r ?_); (with_reducible refine aprN.mk ⟨_, rfl, ?_⟩ ?_ ?_ ?_ ?_); (focus ((try simp only [LN] at *) <;> omega)); (focus (exact Z.g_len (f := cK) rfl (by (try simp only [LN] at *) <;> omega))); (focus (exact Z.g_one cK_one rfl)); (focus (exact Z.g_le (f := cK) rfl (by (try simp only [LN] at *) <;> omega))))
      | ((with_reducible refine clrN_mk ?_ ?_ ?_); (focus (exact Z.g_clr (f := cK) rfl (by first | (rw [Z.g_len (f := cK) (l := l) rfl (by (try simp only [LN] at *) <;> omega)]; omega) | (simp; omega)) (by (try simp only [LN] at *) <;> omega))); (focus rfl))
      | ((with_reducible refine Z.slN_lo (p) ?_ ?_ ?_); (focus rfl); (focus ((try simp only [LN] at *) <;> omega)))
      | ((with_reducible refine Z.slN_hc (L.length + 1) ?_ ?_ ?_); (focus rfl); (focus (exact ⟨_, rfl, by first | omega | (dsimp only; omega) | (simp; omega)⟩)))
      | ((with_reducible refine cpyN.mk2 ?_ ?_ ?_ ?_); (focus (exact Z.g_lenp (f := cK) (by (try simp only [LN] at *) <;> omega))); (focus (exact Z.g_onep cK_one (Z.g_min (by (try simp only [LN] at *) <;> omega)))); (focus (exact Z.g_fitp (f := cK) (by (try simp only [LN] at *) <;> omega))))
      | ((with_reducible refine cpyN.mk ?_ ?_ ?_ ?_); (focus rfl); (focus (exact one_all (by rfl))); (focus (exact Z.g_fitp2 (f := cK) (by (try simp only [LN] at *) <;> omega) (Z.g_fitk (by (try simp only [LN] at *) <;> omega)))))
      | ((with_reducible apply Z.callZ_ovl (tS := 28) (tR := 4) tabOk Try.f117 Try.func117 (by kernel_rfl) (by kernel_rfl) (by kernel_rfl) (by kernel_rfl)); (iterate 4 (focus (exact rfl))); (focus (exact Nat.ne_of_beq_eq_false rfl)); (focus (simp; done)); (focus (exact Nat.zero_lt_succ _)))
      | with_reducible first | refine Z.rowN_known hx ?_
      | ((with_reducible refine ixN_mk (p) ?_ ?_ ?_); (focus (first | rfl)); (focus ((try simp only [LN] at *) <;> omega)))
      | ((with_reducible refine posE_pos ?_ ?_); (focus ((try simp only [LN] at *) <;> omega)))
      | ((with_reducible apply rowN_mk); (focus rfl))
      | ((with_reducible apply ixN_lit); (focus (exact rfl)); (focus (exact rfl)))
      | ((with_reducible refine slE_a ?_ ?_); (focus ((try simp only [LN] at *) <;> omega)))
      | ((with_reducible apply sl3N_mk); (focus (exact rfl)); (focus (exact rfl)); (focus (exact rfl)); (focus ((try simp only [LN] at *) <;> omega)); (focus ((try simp only [LN] at *) <;> omega)); (focus ((try simp only [LN] at *) <;> omega)); (focus ((try simp only [LN] at *) <;> omega)))
      | ((with_reducible refine apdN.mk ?_ ?_ ?_ ?_ ?_ ?_); (focus (first | rfl)); (focus (first | exact one_all (by rfl))); (focus ((try simp only [LN] at *) <;> omega)); (focus ((try simp only [LN] at *) <;> omega)); (focus ((try simp only [LN] at *) <;> omega)))
      | with_reducible refine wr_i64 (by first | omega | (simp only [LN] at *; omega)) ?_
      | with_reducible first | refine Z.callZ_in tabOk 38 Try.f101 _ Try.func101 (by kernel_rfl) rfl rfl rfl ?_ | refine Z.callZ_in tabOk 67 Try.f60 _ Try.func60 (by kernel_rfl) rfl rfl rfl ?_ | refine Z.callZ_in tabOk 33 Try.f99 _ Try.func99 (by kernel_rfl) rfl rfl rfl ?_ | refine Z.callZ_in tabOk 95 Try.f100 _ Try.func100 (by kernel_rfl) rfl rfl rfl ?_
      | ((first | (with_reducible refine Z.callZ_mk ?_ (cd) ?_) | (with_reducible refine Z.callZ_mk ?_ (ck) ?_) | (with_reducible refine Z.callZ_mk ?_ (cf) ?_) | (with_reducible refine Z.callZ_mk ?_ (cw) ?_)); (focus ((repeat' (first | exact trivial | exact rfl | apply And.intro)); done)))
      | ((with_reducible apply ex_and); exact rfl)
      | with_reducible first | refine Z.drawZ_rule tabOk mixOk ?_ | refine Z.apZ_mk (by kernel_rfl) ?_)
    all_goals (try (conv => whnf)))
  all_goals try (show Nat.ble _ _ = true; rfl)
  all_goals try (exfalso; rename_i hz; cases hz; done)
  all_goals try (exfalso; (try simp only [LN] at *) <;> omega)
  all_goals first
    | ((first | (with_reducible apply Z.retF2)); (focus (exact rfl)); (repeat' (first | exact trivial | (refine Z.frz_oslw (l := (L.take p ++ (⟨s, k, c.1, c.2⟩ : Kc) :: L.drop p)) (f := cK) (ty := 74) (bx := false) rfl ?_ ?_ (fun _ => rfl); (focus (first | (simp; omega))); (focus (first | exact (congrArg (List.take _) (Z.g_insp (f := cK) (l := L) (g := cK ⟨0, 0, 0, 0⟩) (v := (⟨s, k, c.1, c.2⟩ : Kc)) (by omega) (Z.gS_eq (by omega) rfl) (Z.gT_eqp (f := cK) (by omega) (.inl ⟨(Nat.min_eq_right (by omega)).trans (by omega), by omega⟩)))).trans (List.take_of_length_le (by simp; omega))))) | (refine Z.fq_gsl (l := [(⟨s, k, y⟩ : Rcd)]) (f := cR) (g := eR) (sz := 3) (ty := 39) rfl (fun _ => rfl) ?_) | (with_reducible apply Z.frz_one) | (with_reducible apply Z.frz_agg) | (with_reducible apply Z.fq_int) | (exact Z.frz_nil) | exact rfl | apply And.intro)); (all_goals (try exact (fun _ => none))); all_goals (first | (simp; done)))
end Go.Proofs.Ytehhmkdghgabaaa
namespace Go.Proofs.Ytehhmkdghgabaaa
open Go Go.RowKit Wx
set_option linter.unusedVariables false
set_option linter.unusedSimpArgs false
set_option maxHeartbeats 4000000
theorem do_0zn (t w a b : Int) (ins : List Int) (s k v : Int) (c : Int × Int) (O : List Int) (hi : ins.length ≤ 9223372036854775807) (hO : O.length ≤ 1) (hk : keyOk s k = true) (hr : Ops.doF t w ins a b 0 0 v = (c, O, 0)) (hc : c = (0, 0)) : Con Try.prog 64 [.agg [.v (.int .i64 t), .v (.int .i64 w), .ro false 1 (ins.map Ops.eI), .v (.int .i64 a), .v (.int .i64 b)], .agg [.v (.slice none 0 0)], .agg [.v (.int .i64 s), .v (.int .i64 k), .v (.int .i64 v)]] (fun rx rK rt => rx = .tup [.agg [.ro true 4 (([] : List Kc).map eK)], .one (.ro true 3 ((O.map fun x => (⟨s, k, x⟩ : Rcd)).map eR)), .one (.v (.int .i64 0))] ∧ rK = [] ∧ rt = 0) := by
  refine Z.con_ofF tabOk 22 Try.f64 _ Try.func64 (by kernel_rfl) rfl rfl rfl rfl ?_
  have ck := rec_con s k v
  rw [hk] at ck
  simp only [cond_true] at ck
  have cf := find_con [] s k v (by simp) rfl
  rw [show thereR [] s k = false from rfl, show posR [] s k = 0 from rfl] at cf
  have cd := Ops.do_con t w a b 0 0 v ins hi (by decide)
  rw [hr] at cd
  dsimp only at cd
  subst hc
  have cw := clonek_0
  rcases O with _ | ⟨y, _ | ⟨z, O⟩⟩
  rotate_right 1
  · exact absurd hO (by simp)
  all_goals (
    repeat' ((conv => whnf); first
      | ((with_reducible apply spB_cong); (focus (simp only [beq_self_eq_true, bne_self_eq_false, Bool.true_bne, Bool.false_bne, Bool.bne_true, Bool.bne_false, Bool.true_beq, Bool.false_beq, Bool.not_true, Bool.not_false, Bool.not_not, Int.reduceBEq, Int.reduceBNe, Int.reduceLE, Int.reduceLT, Int.reduceEq, decide_true, decide_false]; rfl)))
      | with_reducible first | refine spB_no (by decide) ?_
      | (with_reducible refine spB_dec ?_ ?_ <;> intro _ <;> (try (exfalso; first | contradiction | omega | (rename_i hz; refine hz ?_; simp; done) | (rename_i hz; simp at hz; done) | (simp only [LN] at *; omega))))
      | with_reducible first | refine Z.loopZ_unroll tabOk 3 ?_
      | ((with_reducible refine posE_pos ?_ ?_); (focus ((try simp only [LN] at *) <;> omega)))
      | ((with_reducible apply rowN_mk); (focus rfl))
      | ((with_reducible apply ixN_lit); (focus (exact rfl)); (focus (exact rfl)))
      | ((with_reducible refine apdN.mk ?_ ?_ ?_ ?_ ?_ ?_); (focus (first | rfl)); (focus (first | exact one_all (by rfl))); (focus ((try simp only [LN] at *) <;> omega)); (focus ((try simp only [LN] at *) <;> omega)); (focus ((try simp only [LN] at *) <;> omega)))
      | with_reducible refine wr_i64 (by first | omega | (simp only [LN] at *; omega)) ?_
      | with_reducible first | refine Z.callZ_in tabOk 38 Try.f101 _ Try.func101 (by kernel_rfl) rfl rfl rfl ?_ | refine Z.callZ_in tabOk 67 Try.f60 _ Try.func60 (by kernel_rfl) rfl rfl rfl ?_
      | ((first | (with_reducible refine Z.callZ_mk ?_ (cd) ?_) | (with_reducible refine Z.callZ_mk ?_ (ck) ?_) | (with_reducible refine Z.callZ_mk ?_ (cf) ?_) | (with_reducible refine Z.callZ_mk ?_ (cw) ?_)); (focus ((repeat' (first | exact trivial | exact rfl | exact Z.low_nil | exact .inl rfl | apply And.intro)); done)))
      | ((with_reducible apply ex_and); exact rfl)
      | with_reducible first | refine Z.drawZ_rule tabOk mixOk ?_ | refine Z.apZ_mk (by kernel_rfl) ?_)
    all_goals (try (conv => whnf)))
  all_goals try (show Nat.ble _ _ = true; rfl)
  all_goals try (exfalso; rename_i hz; cases hz; done)
  all_goals try (exfalso; (try simp only [LN] at *) <;> omega)
  all_goals first
    | ((first | (with_reducible apply Z.retF2)); (focus (exact rfl)); (repeat' (first | exact trivial | (refine Z.fq_gsl (l := [(⟨s, k, y⟩ : Rcd)]) (f := cR) (g := eR) (sz := 3) (ty := 39) rfl (fun _ => rfl) ?_) | (with_reducible apply Z.frz_one) | (with_reducible apply Z.frz_agg) | (with_reducible apply Z.fq_int) | (exact Z.frz_nil) | exact rfl | apply And.intro)); (all_goals (try exact (fun _ => none))); all_goals (first | (simp; done)))
theorem do_0ze (t w a b : Int) (ins : List Int) (ad : Addr) (cap : Nat) (s k v : Int) (c : Int × Int) (O : List Int) (hi : ins.length ≤ 9223372036854775807) (hO : O.length ≤ 1) (hk : keyOk s k = true) (hr : Ops.doF t w ins a b 0 0 v = (c, O, 0)) (hc : c = (0, 0)) : Con Try.prog 64 [.agg [.v (.int .i64 t), .v (.int .i64 w), .ro false 1 (ins.map Ops.eI), .v (.int .i64 a), .v (.int .i64 b)], .agg [.v (.slice (some ad) 0 cap)], .agg [.v (.int .i64 s), .v (.int .i64 k), .v (.int .i64 v)]] (fun rx rK rt => rx = .tup [.agg [.ro true 4 (([] : List Kc).map eK)], .one (.ro true 3 ((O.map fun x => (⟨s, k, x⟩ : Rcd)).map eR)), .one (.v (.int .i64 0))] ∧ rK = [] ∧ rt = 0) := by
  refine Z.con_ofF tabOk 22 Try.f64 _ Try.func64 (by kernel_rfl) rfl rfl rfl rfl ?_
  have ck := rec_con s k v
  rw [hk] at ck
  simp only [cond_true] at ck
  have cf := find_con [] s k v (by simp) rfl
  rw [show thereR [] s k = false from rfl, show posR [] s k = 0 from rfl] at cf
  have cd := Ops.do_con t w a b 0 0 v ins hi (by decide)
  rw [hr] at cd
  dsimp only at cd
  subst hc
  have cf := con_empagg ad cap cf
  have cw := clonek_1 ad cap
  rcases O with _ | ⟨y, _ | ⟨z, O⟩⟩
  rotate_right 1
  · exact absurd hO (by simp)
  all_goals (
    repeat' ((conv => whnf); first
      | ((with_reducible apply spB_cong); (focus (simp only [beq_self_eq_true, bne_self_eq_false, Bool.true_bne, Bool.false_bne, Bool.bne_true, Bool.bne_false, Bool.true_beq, Bool.false_beq, Bool.not_true, Bool.not_false, Bool.not_not, Int.reduceBEq, Int.reduceBNe, Int.reduceLE, Int.reduceLT, Int.reduceEq, decide_true, decide_false]; rfl)))
      | with_reducible first | refine spB_no (by decide) ?_
      | (with_reducible refine spB_dec ?_ ?_ <;> intro _ <;> (try (exfalso; first | contradiction | omega | (rename_i hz; refine hz ?_; simp; done) | (rename_i hz; simp at hz; done) | (simp only [LN] at *; omega))))
      | with_reducible first | refine Z.loopZ_unroll tabOk 3 ?_
      | ((with_reducible refine posE_pos ?_ ?_); (focus ((try simp only [LN] at *) <;> omega)))
      | ((with_reducible apply rowN_mk); (focus rfl))
      | ((with_reducible apply ixN_lit); (focus (exact rfl)); (focus (exact rfl)))
      | ((with_reducible refine apdN.mk ?_ ?_ ?_ ?_ ?_ ?_); (focus (first | rfl)); (focus (first | exact one_all (by rfl))); (focus ((try simp only [LN] at *) <;> omega)); (focus ((try simp only [LN] at *) <;> omega)); (focus ((try simp only [LN] at *) <;> omega)))
      | with_reducible refine wr_i64 (by first | omega | (simp only [LN] at *; omega)) ?_
      | with_reducible first | refine Z.callZ_in tabOk 38 Try.f101 _ Try.func101 (by kernel_rfl) rfl rfl rfl ?_ | refine Z.callZ_in tabOk 67 Try.f60 _ Try.func60 (by kernel_rfl) rfl rfl rfl ?_
      | ((first | (with_reducible refine Z.callZ_mk ?_ (cd) ?_) | (with_reducible refine Z.callZ_mk ?_ (ck) ?_) | (with_reducible refine Z.callZ_mk ?_ (cf) ?_) | (with_reducible refine Z.callZ_mk ?_ (cw) ?_)); (focus ((repeat' (first | exact trivial | exact rfl | apply And.intro)); done)))
      | ((with_reducible apply ex_and); exact rfl)
      | with_reducible first | refine Z.drawZ_rule tabOk mixOk ?_ | refine Z.apZ_mk (by kernel_rfl) ?_)
    all_goals (try (conv => whnf)))
  all_goals try (show Nat.ble _ _ = true; rfl)
  all_goals try (exfalso; rename_i hz; cases hz; done)
  all_goals try (exfalso; (try simp only [LN] at *) <;> omega)
  all_goals first
    | ((first | (with_reducible apply Z.retF2)); (focus (exact rfl)); (repeat' (first | exact trivial | (refine Z.fq_gsl (l := [(⟨s, k, y⟩ : Rcd)]) (f := cR) (g := eR) (sz := 3) (ty := 39) rfl (fun _ => rfl) ?_) | (with_reducible apply Z.frz_one) | (with_reducible apply Z.frz_agg) | (with_reducible apply Z.fq_int) | (exact Z.frz_nil) | (exact Z.frz_osl0 rfl rfl rfl) | exact rfl | apply And.intro)); (all_goals (try exact (fun _ => none))); all_goals (first | (simp; done)))
end Go.Proofs.Ytehhmkdghgabaaa
namespace Go.Proofs.Ytehhmkdghgabaaa
open Go Go.RowKit Wx
set_option linter.unusedVariables false
set_option linter.unusedSimpArgs false
set_option maxHeartbeats 4000000
theorem do_0cn (t w a b : Int) (ins : List Int) (s k v : Int) (c : Int × Int) (O : List Int) (hi : ins.length ≤ 9223372036854775807) (hO : O.length ≤ 1) (hk : keyOk s k = true) (hr : Ops.doF t w ins a b 0 0 v = (c, O, 0)) (hc : 0 < c.1) : Con Try.prog 64 [.agg [.v (.int .i64 t), .v (.int .i64 w), .ro false 1 (ins.map Ops.eI), .v (.int .i64 a), .v (.int .i64 b)], .agg [.v (.slice none 0 0)], .agg [.v (.int .i64 s), .v (.int .i64 k), .v (.int .i64 v)]] (fun rx rK rt => rx = .tup [.agg [.ro true 4 ([(⟨s, k, c.1, c.2⟩ : Kc)].map eK)], .one (.ro true 3 ((O.map fun x => (⟨s, k, x⟩ : Rcd)).map eR)), .one (.v (.int .i64 0))] ∧ rK = [] ∧ rt = 0) := by
  refine Z.con_ofF tabOk 22 Try.f64 _ Try.func64 (by kernel_rfl) rfl rfl rfl rfl ?_
  have ck := rec_con s k v
  rw [hk] at ck
  simp only [cond_true] at ck
  have cf := find_con [] s k v (by simp) rfl
  rw [show thereR [] s k = false from rfl, show posR [] s k = 0 from rfl] at cf
  have cd := Ops.do_con t w a b 0 0 v ins hi (by decide)
  rw [hr] at cd
  dsimp only at cd
  have hcz : (c.1 == 0 && (c.2 == 0 && true)) = false := by rw [show (c.1 == 0) = false by simp; omega]; rfl
  have cw := clonek_0
  rcases O with _ | ⟨y, _ | ⟨z, O⟩⟩
  rotate_right 1
  · exact absurd hO (by simp)
  all_goals (
    repeat' ((conv => whnf); first
      | with_reducible first | refine spB_t ?_
      | ((with_reducible apply spB_cong); (focus (simp only [beq_self_eq_true, bne_self_eq_false, Bool.true_bne, Bool.false_bne, Bool.bne_true, Bool.bne_false, Bool.true_beq, Bool.false_beq, Bool.not_true, Bool.not_false, Bool.not_not, Int.reduceBEq, Int.reduceBNe, Int.reduceLE, Int.reduceLT, Int.reduceEq, decide_true, decide_false]; rfl)))
      | with_reducible first | refine spB_no (by decide) ?_ | refine spB_not ?_ | refine spB_no (by assumption) ?_
      | (with_reducible refine spB_dec ?_ ?_ <;> intro _ <;> (try (exfalso; first | contradiction | omega | (rename_i hz; refine hz ?_; simp; done) | (rename_i hz; simp at hz; done) | (simp only [LN] at *; omega) | (rename_i hz; exact absurd (hcz.symm.trans hz) Bool.false_ne_true))))
      | with_reducible first | refine Z.loopZ_unroll tabOk 3 ?_
      | ((with_reducible refine Z.slN_lo 0 ?_ ?_ ?_); (focus rfl); (focus ((try simp only [LN] at *) <;> omega)))
      | ((with_reducible refine posE_pos ?_ ?_); (focus ((try simp only [LN] at *) <;> omega)))
      | ((with_reducible apply rowN_mk); (focus rfl))
      | ((with_reducible apply ixN_lit); (focus (exact rfl)); (focus (exact rfl)))
      | ((with_reducible refine apdN.mk ?_ ?_ ?_ ?_ ?_ ?_); (focus (first | rfl)); (focus (first | exact one_all (by rfl))); (focus ((try simp only [LN] at *) <;> omega)); (focus ((try simp only [LN] at *) <;> omega)); (focus ((try simp only [LN] at *) <;> omega)))
      | with_reducible refine wr_i64 (by first | omega | (simp only [LN] at *; omega)) ?_
      | with_reducible first | refine Z.callZ_in tabOk 38 Try.f101 _ Try.func101 (by kernel_rfl) rfl rfl rfl ?_ | refine Z.callZ_in tabOk 67 Try.f60 _ Try.func60 (by kernel_rfl) rfl rfl rfl ?_ | refine Z.callZ_in tabOk 95 Try.f100 _ Try.func100 (by kernel_rfl) rfl rfl rfl ?_
      | ((first | (with_reducible refine Z.callZ_mk ?_ (cd) ?_) | (with_reducible refine Z.callZ_mk ?_ (ck) ?_) | (with_reducible refine Z.callZ_mk ?_ (cf) ?_) | (with_reducible refine Z.callZ_mk ?_ (cw) ?_)); (focus ((repeat' (first | exact trivial | exact rfl | exact Z.low_nil | exact .inl rfl | apply And.intro)); done)))
      | ((with_reducible apply ex_and); exact rfl)
      | with_reducible first | refine Z.drawZ_rule tabOk mixOk ?_ | refine Z.apZ_mk (by kernel_rfl) ?_)
    all_goals (try (conv => whnf)))
  all_goals try (show Nat.ble _ _ = true; rfl)
  all_goals try (exfalso; rename_i hz; cases hz; done)
  all_goals try (exfalso; (try simp only [LN] at *) <;> omega)
  all_goals first
    | ((first | (with_reducible apply Z.retF2)); (focus (exact rfl)); (repeat' (first | exact trivial | (refine Z.fq_gsl (l := [(⟨s, k, y⟩ : Rcd)]) (f := cR) (g := eR) (sz := 3) (ty := 39) rfl (fun _ => rfl) ?_) | (refine Z.fq_gsl (l := [(⟨s, k, c.1, c.2⟩ : Kc)]) (f := cK) (g := eK) (sz := 4) (ty := 74) rfl (fun _ => rfl) ?_) | (with_reducible apply Z.frz_one) | (with_reducible apply Z.frz_agg) | (with_reducible apply Z.fq_int) | (exact Z.frz_nil) | exact rfl | apply And.intro)); (all_goals (try exact (fun _ => none))); all_goals (first | (simp; done)))
theorem do_0ce (t w a b : Int) (ins : List Int) (ad : Addr) (cap : Nat) (s k v : Int) (c : Int × Int) (O : List Int) (hi : ins.length ≤ 9223372036854775807) (hO : O.length ≤ 1) (hk : keyOk s k = true) (hr : Ops.doF t w ins a b 0 0 v = (c, O, 0)) (hc : 0 < c.1) : Con Try.prog 64 [.agg [.v (.int .i64 t), .v (.int .i64 w), .ro false 1 (ins.map Ops.eI), .v (.int .i64 a), .v (.int .i64 b)], .agg [.v (.slice (some ad) 0 cap)], .agg [.v (.int .i64 s), .v (.int .i64 k), .v (.int .i64 v)]] (fun rx rK rt => rx = .tup [.agg [.ro true 4 ([(⟨s, k, c.1, c.2⟩ : Kc)].map eK)], .one (.ro true 3 ((O.map fun x => (⟨s, k, x⟩ : Rcd)).map eR)), .one (.v (.int .i64 0))] ∧ rK = [] ∧ rt = 0) := by
  refine Z.con_ofF tabOk 22 Try.f64 _ Try.func64 (by kernel_rfl) rfl rfl rfl rfl ?_
  have ck := rec_con s k v
  rw [hk] at ck
  simp only [cond_true] at ck
  have cf := find_con [] s k v (by simp) rfl
  rw [show thereR [] s k = false from rfl, show posR [] s k = 0 from rfl] at cf
  have cd := Ops.do_con t w a b 0 0 v ins hi (by decide)
  rw [hr] at cd
  dsimp only at cd
  have hcz : (c.1 == 0 && (c.2 == 0 && true)) = false := by rw [show (c.1 == 0) = false by simp; omega]; rfl
  have cf := con_empagg ad cap cf
  have cw := clonek_1 ad cap
  rcases O with _ | ⟨y, _ | ⟨z, O⟩⟩
  rotate_right 1
  · exact absurd hO (by simp)
  all_goals (
    repeat' ((conv => whnf); first
      | with_reducible first | refine spB_t ?_
      | ((with_reducible apply spB_cong); (focus (simp only [beq_self_eq_true, bne_self_eq_false, Bool.true_bne, Bool.false_bne, Bool.bne_true, Bool.bne_false, Bool.true_beq, Bool.false_beq, Bool.not_true, Bool.not_false, Bool.not_not, Int.reduceBEq, Int.reduceBNe, Int.reduceLE, Int.reduceLT, Int.reduceEq, decide_true, decide_false]; rfl)))
      | with_reducible first | refine spB_no (by decide) ?_ | refine spB_not ?_ | refine spB_no (by assumption) ?_
      | (with_reducible refine spB_dec ?_ ?_ <;> intro _ <;> (try (exfalso; first | contradiction | omega | (rename_i hz; refine hz ?_; simp; done) | (rename_i hz; simp at hz; done) | (simp only [LN] at *; omega) | (rename_i hz; exact absurd (hcz.symm.trans hz) Bool.false_ne_true))))
      | with_reducible first | refine Z.loopZ_unroll tabOk 3 ?_
      | ((with_reducible refine Z.slN_lo 0 ?_ ?_ ?_); (focus rfl); (focus ((try simp only [LN] at *) <;> omega)))
      | ((with_reducible refine apdE_n ?_); (with_reducible refine apdN.mk ?_ ?_ ?_ ?_ ?_ ?_); (focus rfl); (focus (exact one_all (by rfl))); (focus (simp; done)); (focus ((try simp only [LN] at *) <;> omega)); (focus ((try simp only [LN] at *) <;> omega)))
      | ((with_reducible refine posE_pos ?_ ?_); (focus ((try simp only [LN] at *) <;> omega)))
      | ((with_reducible apply rowN_mk); (focus rfl))
      | ((with_reducible apply ixN_lit); (focus (exact rfl)); (focus (exact rfl)))
      | ((with_reducible refine slE_b ?_ ?_); (focus ((try simp only [LN] at *) <;> omega)))
      | ((with_reducible refine apdN.mk ?_ ?_ ?_ ?_ ?_ ?_); (focus (first | rfl)); (focus (first | exact one_all (by rfl))); (focus ((try simp only [LN] at *) <;> omega)); (focus ((try simp only [LN] at *) <;> omega)); (focus ((try simp only [LN] at *) <;> omega)))
      | with_reducible refine wr_i64 (by first | omega | (simp only [LN] at *; omega)) ?_
      | with_reducible first | refine Z.callZ_in tabOk 38 Try.f101 _ Try.func101 (by kernel_rfl) rfl rfl rfl ?_ | refine Z.callZ_in tabOk 67 Try.f60 _ Try.func60 (by kernel_rfl) rfl rfl rfl ?_ | refine Z.callZ_in tabOk 95 Try.f100 _ Try.func100 (by kernel_rfl) rfl rfl rfl ?_
      | ((first | (with_reducible refine Z.callZ_mk ?_ (cd) ?_) | (with_reducible refine Z.callZ_mk ?_ (ck) ?_) | (with_reducible refine Z.callZ_mk ?_ (cf) ?_) | (with_reducible refine Z.callZ_mk ?_ (cw) ?_)); (focus ((repeat' (first | exact trivial | exact rfl | apply And.intro)); done)))
      | ((with_reducible apply ex_and); exact rfl)
      | with_reducible first | refine Z.drawZ_rule tabOk mixOk ?_ | refine Z.apZ_mk (by kernel_rfl) ?_)
    all_goals (try (conv => whnf)))
  all_goals try (show Nat.ble _ _ = true; rfl)
  all_goals try (exfalso; rename_i hz; cases hz; done)
  all_goals try (exfalso; (try simp only [LN] at *) <;> omega)
  all_goals first
    | ((first | (with_reducible apply Z.retF2)); (focus (exact rfl)); (repeat' (first | exact trivial | (refine Z.fq_gsl (l := [(⟨s, k, y⟩ : Rcd)]) (f := cR) (g := eR) (sz := 3) (ty := 39) rfl (fun _ => rfl) ?_) | (refine Z.frz_osl (l := [(⟨s, k, c.1, c.2⟩ : Kc)]) (f := cK) (ty := 74) (bx := false) (by rfl) (by simp) (fun _ => rfl)) | (with_reducible apply Z.frz_one) | (with_reducible apply Z.frz_agg) | (with_reducible apply Z.fq_int) | (exact Z.frz_nil) | exact rfl | apply And.intro)); (all_goals (try exact (fun _ => none))); all_goals (first | (simp; done)))
end Go.Proofs.Ytehhmkdghgabaaa
namespace Go.Proofs.Ytehhmkdghgabaaa
open Go Go.RowKit Wx
set_option linter.unusedVariables false
set_option linter.unusedSimpArgs false
set_option maxHeartbeats 4000000
theorem do_bad1 (t w a b : Int) (ins : List Int) (l : List Kc) (s k v : Int) (hl : l.length ≤ 1000) (hk : keyOk s k = false) : Con Try.prog 64 [.agg [.v (.int .i64 t), .v (.int .i64 w), .ro false 1 (ins.map Ops.eI), .v (.int .i64 a), .v (.int .i64 b)], .agg [.ro false 4 (l.map eK)], .agg [.v (.int .i64 s), .v (.int .i64 k), .v (.int .i64 v)]] (fun rx rK rt => rx = .tup [.agg [.ro true 4 (([] : List Kc).map eK)], .one (.ro true 3 (([] : List Rcd).map eR)), .one (.v (.int .i64 150))] ∧ rK = [] ∧ rt = 0) := by
  refine Z.con_ofF tabOk 22 Try.f64 _ Try.func64 (by kernel_rfl) rfl rfl rfl rfl ?_
  have ck := rec_con s k v
  rw [hk] at ck
  simp only [cond_false] at ck
  repeat' ((conv => whnf); first
    | with_reducible first | refine spB_t ?_
    | ((with_reducible apply spB_cong); (focus (simp only [beq_self_eq_true, bne_self_eq_false, Bool.true_bne, Bool.false_bne, Bool.bne_true, Bool.bne_false, Bool.true_beq, Bool.false_beq, Bool.not_true, Bool.not_false, Bool.not_not, Int.reduceBEq, Int.reduceBNe, Int.reduceLE, Int.reduceLT, Int.reduceEq, decide_true, decide_false]; rfl)))
    | with_reducible first | refine Z.callZ_in tabOk 67 Try.f60 _ Try.func60 (by kernel_rfl) rfl rfl rfl ?_
    | ((first | (with_reducible refine Z.callZ_mk ?_ (ck) ?_)); (focus ((repeat' (first | exact trivial | exact rfl | apply And.intro)); done)))
    | ((with_reducible apply ex_and); exact rfl)
    | with_reducible first | refine Z.drawZ_rule tabOk mixOk ?_ | refine Z.apZ_mk (by kernel_rfl) ?_)
  all_goals (try (conv => whnf))
  all_goals try (show Nat.ble _ _ = true; rfl)
  all_goals try (exfalso; rename_i hz; cases hz; done)
  all_goals try (exfalso; (try simp only [LN] at *) <;> omega)
  all_goals first
    | ((first | (with_reducible apply Z.retF2)); (focus (exact rfl)); (repeat' (first | exact trivial | (with_reducible apply Z.frz_one) | (with_reducible apply Z.frz_agg) | (exact Z.frz_nil) | exact rfl | apply And.intro)); (all_goals (try exact (fun _ => none))); all_goals (first | (simp; done)))
theorem do_bad2 (t w a b : Int) (ins : List Int) (l : List Kc) (s k v : Int) (e : Int) (p : Nat) (hi : ins.length ≤ 9223372036854775807) (hl : l.length ≤ 1000) (ht : tabR l = true) (hk : keyOk s k = true) (hth : thereR l s k = false) (hp : posR l s k = p) (hr : Ops.doF t w ins a b 0 0 v = ((0, 0), [], e)) (he : e ≠ 0) : Con Try.prog 64 [.agg [.v (.int .i64 t), .v (.int .i64 w), .ro false 1 (ins.map Ops.eI), .v (.int .i64 a), .v (.int .i64 b)], .agg [.ro false 4 (l.map eK)], .agg [.v (.int .i64 s), .v (.int .i64 k), .v (.int .i64 v)]] (fun rx rK rt => rx = .tup [.agg [.ro true 4 (([] : List Kc).map eK)], .one (.ro true 3 (([] : List Rcd).map eR)), .one (.v (.int .i64 e))] ∧ rK = [] ∧ rt = 0) := by
  refine Z.con_ofF tabOk 22 Try.f64 _ Try.func64 (by kernel_rfl) rfl rfl rfl rfl ?_
  have ck := rec_con s k v
  rw [hk] at ck
  simp only [cond_true, cond_false] at ck
  have cf := find_con l s k v hl ht
  rw [hth, hp] at cf
  have cd := Ops.do_con t w a b 0 0 v ins hi (by decide)
  rw [hr] at cd
  dsimp only at cd
  have hez : (e == 0) = false := by simpa using he
  repeat' ((conv => whnf); first
    | ((with_reducible apply spB_cong); (focus (simp only [beq_self_eq_true, bne_self_eq_false, Bool.true_bne, Bool.false_bne, Bool.bne_true, Bool.bne_false, Bool.true_beq, Bool.false_beq, Bool.not_true, Bool.not_false, Bool.not_not, Int.reduceBEq, Int.reduceBNe, Int.reduceLE, Int.reduceLT, Int.reduceEq, decide_true, decide_false]; rfl)))
    | with_reducible first | refine spB_no (by decide) ?_
    | (with_reducible refine spB_bne ?_ ?_ <;> intro _ <;> (try (exfalso; first | contradiction | omega | (rename_i hz; refine hz ?_; simp; done) | (rename_i hz; simp at hz; done) | (simp only [LN] at *; omega) | (simp_all; done))))
    | with_reducible first | refine Z.loopZ_unroll tabOk 3 ?_
    | with_reducible first | refine Z.callZ_in tabOk 38 Try.f101 _ Try.func101 (by kernel_rfl) rfl rfl rfl ?_ | refine Z.callZ_in tabOk 67 Try.f60 _ Try.func60 (by kernel_rfl) rfl rfl rfl ?_
    | ((first | (with_reducible refine Z.callZ_mk ?_ (cd) ?_) | (with_reducible refine Z.callZ_mk ?_ (ck) ?_) | (with_reducible refine Z.callZ_mk ?_ (cf) ?_)); (focus ((repeat' (first | exact trivial | exact rfl | apply And.intro)); done)))
    | ((with_reducible apply ex_and); exact rfl)
    | with_reducible first | refine Z.drawZ_rule tabOk mixOk ?_ | refine Z.apZ_mk (by kernel_rfl) ?_)
  all_goals (try (conv => whnf))
  all_goals try (show Nat.ble _ _ = true; rfl)
  all_goals try (exfalso; rename_i hz; cases hz; done)
  all_goals try (exfalso; (try simp only [LN] at *) <;> omega)
  all_goals first
    | ((first | (with_reducible apply Z.retF2)); (focus (exact rfl)); (repeat' (first | exact trivial | (with_reducible apply Z.frz_one) | (with_reducible apply Z.frz_agg) | (exact Z.frz_nil) | exact rfl | apply And.intro)); (all_goals (try exact (fun _ => none))); all_goals (first | (simp; done)))
theorem do_bad3 (t w a b : Int) (ins : List Int) (l : List Kc) (s k v : Int) (e : Int) (p : Nat) (hi : ins.length ≤ 9223372036854775807) (hl : l.length ≤ 1000) (ht : tabR l = true) (hk : keyOk s k = true) (hth : thereR l s k = true) (hp : posR l s k = p) (x : Kc) (hx : l[p]? = some x) (hpl : p < l.length) (hc0 : x.cnt ≤ 9223372036854775807) (hr : Ops.doF t w ins a b x.cnt x.sum v = ((0, 0), [], e)) (he : e ≠ 0) : Con Try.prog 64 [.agg [.v (.int .i64 t), .v (.int .i64 w), .ro false 1 (ins.map Ops.eI), .v (.int .i64 a), .v (.int .i64 b)], .agg [.ro false 4 (l.map eK)], .agg [.v (.int .i64 s), .v (.int .i64 k), .v (.int .i64 v)]] (fun rx rK rt => rx = .tup [.agg [.ro true 4 (([] : List Kc).map eK)], .one (.ro true 3 (([] : List Rcd).map eR)), .one (.v (.int .i64 e))] ∧ rK = [] ∧ rt = 0) := by
  refine Z.con_ofF tabOk 22 Try.f64 _ Try.func64 (by kernel_rfl) rfl rfl rfl rfl ?_
  have ck := rec_con s k v
  rw [hk] at ck
  simp only [cond_true, cond_false] at ck
  have cf := find_con l s k v hl ht
  rw [hth, hp] at cf
  have cd := Ops.do_con t w a b x.cnt x.sum v ins hi hc0
  rw [hr] at cd
  dsimp only at cd
  have hez : (e == 0) = false := by simpa using he
  repeat' ((conv => whnf); first
    | with_reducible first | refine spB_t ?_
    | ((with_reducible apply spB_cong); (focus (simp only [beq_self_eq_true, bne_self_eq_false, Bool.true_bne, Bool.false_bne, Bool.bne_true, Bool.bne_false, Bool.true_beq, Bool.false_beq, Bool.not_true, Bool.not_false, Bool.not_not, Int.reduceBEq, Int.reduceBNe, Int.reduceLE, Int.reduceLT, Int.reduceEq, decide_true, decide_false]; rfl)))
    | with_reducible first | refine spB_no (by decide) ?_
    | (with_reducible refine spB_bne ?_ ?_ <;> intro _ <;> (try (exfalso; first | contradiction | omega | (rename_i hz; refine hz ?_; simp; done) | (rename_i hz; simp at hz; done) | (simp only [LN] at *; omega) | (simp_all; done))))
    | with_reducible first | refine Z.rowN_known hx ?_
    | ((with_reducible refine ixN_mk (p) ?_ ?_ ?_); (focus (first | rfl)); (focus ((try simp only [LN] at *) <;> omega)))
    | with_reducible first | refine Z.loopZ_unroll tabOk 3 ?_
    | with_reducible first | refine Z.callZ_in tabOk 38 Try.f101 _ Try.func101 (by kernel_rfl) rfl rfl rfl ?_ | refine Z.callZ_in tabOk 67 Try.f60 _ Try.func60 (by kernel_rfl) rfl rfl rfl ?_
    | ((first | (with_reducible refine Z.callZ_mk ?_ (cd) ?_) | (with_reducible refine Z.callZ_mk ?_ (ck) ?_) | (with_reducible refine Z.callZ_mk ?_ (cf) ?_)); (focus ((repeat' (first | exact trivial | exact rfl | apply And.intro)); done)))
    | ((with_reducible apply ex_and); exact rfl)
    | with_reducible first | refine Z.drawZ_rule tabOk mixOk ?_ | refine Z.apZ_mk (by kernel_rfl) ?_)
  all_goals (try (conv => whnf))
  all_goals try (show Nat.ble _ _ = true; rfl)
  all_goals try (exfalso; rename_i hz; cases hz; done)
  all_goals try (exfalso; (try simp only [LN] at *) <;> omega)
  all_goals first
    | ((first | (with_reducible apply Z.retF2)); (focus (exact rfl)); (repeat' (first | exact trivial | (with_reducible apply Z.frz_one) | (with_reducible apply Z.frz_agg) | (exact Z.frz_nil) | exact rfl | apply And.intro)); (all_goals (try exact (fun _ => none))); all_goals (first | (simp; done)))
end Go.Proofs.Ytehhmkdghgabaaa
namespace Go.Proofs.Ytehhmkdghgabaaa
open Go Go.RowKit Wx
set_option linter.unusedVariables false
set_option linter.unusedSimpArgs false
set_option maxHeartbeats 4000000
theorem con_nil2 {P : Program} {g : FuncId} {sz : Nat} {cs : List Ce} {x : A0} {av : List A0} {post : AV → Wx.Kr → Nat → Prop} (h0 : Con P g (x :: .agg (.v (.slice none 0 0) :: cs) :: av) post) (h1 : ∀ ad cap, Con P g (x :: .agg (.v (.slice (some ad) 0 cap) :: cs) :: av) post) : Con P g (x :: .agg (.ro false sz [] :: cs) :: av) post := by
  refine ⟨h0.fn, fun w vs hvs => ?_⟩
  cases vs with
  | nil => exact hvs.elim
  | cons v0 vs =>
    obtain ⟨hv0, hvs⟩ := hvs
    cases vs with
    | nil => exact hvs.elim
    | cons v vs =>
      obtain ⟨⟨us, rfl, hus⟩, hvs⟩ := hvs
      cases us with
      | nil => exact hus.elim
      | cons u us =>
        obtain ⟨hu, hus⟩ := hus
        have hu : Rd _ (.ro sz []) u := hu
        cases hu with
        | nil => exact h0.run w _ ⟨hv0, ⟨_, rfl, rfl, hus⟩, hvs⟩
        | emp _ ad cap => exact (h1 ad cap).run w _ ⟨hv0, ⟨_, rfl, rfl, hus⟩, hvs⟩
        | ro => exact (h1 _ _).run w _ ⟨hv0, ⟨_, rfl, rfl, hus⟩, hvs⟩
abbrev opA (o : Opr) : A0 := .agg [.v (.int .i64 o.t), .v (.int .i64 o.w), .ro false 1 (o.ins.map Ops.eI), .v (.int .i64 o.a), .v (.int .i64 o.b)]
abbrev tabA (l : List Kc) : A0 := .agg [.ro false 4 (l.map eK)]
abbrev recA (r : Rcd) : A0 := .agg [.v (.int .i64 r.src), .v (.int .i64 r.key), .v (.int .i64 r.val)]
abbrev dOut (q : List Kc × List Rcd × Int) : AV := .tup [.agg [.ro true 4 (q.1.map eK)], .one (.ro true 3 (q.2.1.map eR)), .one (.v (.int .i64 q.2.2))]
theorem get_no {l : List Kc} {s k : Int} (ht : tabR l = true) (h : thereR l s k = false) : getR l s k = (0, 0) := by
  rw [get_pos ht, h]; rfl
theorem get_yes {l : List Kc} {s k : Int} {x : Kc} (ht : tabR l = true) (h : thereR l s k = true) (hx : l[posR l s k]? = some x) : getR l s k = (x.cnt, x.sum) := by
  rw [get_pos ht, h, if_pos rfl, hx]
theorem doF_len0 {t w a b c s v : Int} {ins : List Int} : (Ops.doF t w ins a b c s v).2.1.length ≤ 1 := Ops.doF_len
theorem do_con (o : Opr) (l : List Kc) (r : Rcd) (hi : o.ins.length ≤ 9223372036854775807) (hl : l.length ≤ 1000) (ht : tabR l = true) (hcnt : ∀ x ∈ l, x.cnt ≤ 9223372036854775807) : Con Try.prog 64 [opA o, tabA l, recA r] (fun rx rK rt => rx = dOut (dT o l r) ∧ rK = [] ∧ rt = 0) := by
  obtain ⟨t, w, ins, a, b⟩ := o
  obtain ⟨s, k, v⟩ := r
  unfold dT
  dsimp only at *
  by_cases hk : keyOk s k = false
  · rw [if_pos hk]; exact do_bad1 t w a b ins l s k v hl hk
  have hk' : keyOk s k = true := by simpa using hk
  rw [if_neg hk]
  obtain ⟨D, hD⟩ : ∃ D, Ops.doF t w ins a b (getR l s k).1 (getR l s k).2 v = D := ⟨_, rfl⟩
  have hlen := doF_len0 (t := t) (w := w) (a := a) (b := b) (c := (getR l s k).1) (s := (getR l s k).2) (v := v) (ins := ins)
  have herr := doF_err (t := t) (w := w) (a := a) (b := b) (c := (getR l s k).1) (s := (getR l s k).2) (v := v) (ins := ins)
  have hcell := doF_cell (t := t) (w := w) (a := a) (b := b) (c := (getR l s k).1) (s := (getR l s k).2) (v := v) (ins := ins)
  rw [hD] at hlen herr hcell ⊢
  obtain ⟨c, O, e⟩ := D
  dsimp only at *
  by_cases he : e = 0
  rotate_left
  · rw [if_neg he]
    have h2 := herr he
    cases hth : thereR l s k with
    | false =>
      rw [get_no ht hth] at hD
      exact do_bad2 t w a b ins l s k v e _ hi hl ht hk' hth rfl (hD.trans h2) he
    | true =>
      obtain ⟨x, hx, _⟩ := there_at hth
      rw [get_yes ht hth hx] at hD
      exact do_bad3 t w a b ins l s k v e _ hi hl ht hk' hth rfl x hx (List.getElem?_eq_some_iff.1 hx).1 (hcnt x (List.mem_of_getElem? hx)) (hD.trans h2) he
  rw [if_pos he]
  subst he
  have hc := hcell rfl
  cases l with
  | nil =>
    rw [show getR [] s k = (0, 0) from rfl] at hD
    rcases hc with h | h
    · rw [show putR [] s k c = [⟨s, k, c.1, c.2⟩] from (put_new (l := []) rfl rfl h).trans rfl]
      exact con_nil2 (do_0cn t w a b ins s k v c O hi hlen hk' hD h) (fun ad cap => do_0ce t w a b ins ad cap s k v c O hi hlen hk' hD h)
    · rw [show putR [] s k c = [] by rw [h]; rfl]
      exact con_nil2 (do_0zn t w a b ins s k v c O hi hlen hk' hD h) (fun ad cap => do_0ze t w a b ins ad cap s k v c O hi hlen hk' hD h)
  | cons y l =>
    have hne : y :: l ≠ [] := by simp
    generalize y :: l = l at *
    cases hth : thereR l s k with
    | false =>
      rw [get_no ht hth] at hD
      rcases hc with h | h
      · rw [put_new ht hth h]
        by_cases hp : posR l s k < l.length
        · exact do_ni t w a b ins l s k v c O _ hi hlen hl ht hk' hD h hth rfl hne hp
        · have hp2 : posR l s k = l.length := Nat.le_antisymm (pos_le l s k) (Nat.le_of_not_lt hp)
          rw [hp2, List.take_length, List.drop_length]
          exact do_na t w a b ins l s k v c O _ hi hlen hl ht hk' hD h hth hp2 hne rfl
      · rw [h, put_same ht hth]
        rw [h] at hD
        exact do_z0 t w a b ins l s k v (0, 0) O _ hi hlen hl ht hk' hD rfl hth rfl hne
    | true =>
      obtain ⟨x, hx, _⟩ := there_at hth
      have hpl := (List.getElem?_eq_some_iff.1 hx).1
      have hxc := hcnt x (List.mem_of_getElem? hx)
      rw [get_yes ht hth hx] at hD
      rcases hc with h | h
      · rw [put_upd ht hth h]
        by_cases hp : posR l s k + 1 = l.length
        · exact do_sa t w a b ins l s k v c O _ hi hlen hl ht hk' hth rfl hne x hx hxc hD h hpl hp
        · exact do_si t w a b ins l s k v c O _ hi hlen hl ht hk' hth rfl hne x hx hxc hD h hpl (by omega)
      · rw [h, put_del ht hth]
        rw [h] at hD
        by_cases hp : posR l s k + 1 = l.length
        · exact do_za t w a b ins l s k v (0, 0) O _ hi hlen hl ht hk' hth rfl hne x hx hxc hD rfl hpl hp
        · exact do_zi t w a b ins l s k v (0, 0) O _ hi hlen hl ht hk' hth rfl hne x hx hxc hD rfl hpl (by omega)
end Go.Proofs.Ytehhmkdghgabaaa
namespace Go.Proofs.Ytehhmkdghgabaaa
open Go Go.RowKit Wx
set_option linter.unusedVariables false
set_option linter.unusedSimpArgs false
set_option maxHeartbeats 4000000
def okC (l : List Kc) : Prop := ∀ x ∈ l, x.cnt ≤ 9223372036854775807
theorem doF_le {t w : Int} {ins : List Int} {a b c s v : Int} (hc : c ≤ 9223372036854775807) : (Ops.doF t w ins a b c s v).1.1 ≤ 9223372036854775807 := by
  unfold Ops.doF
  split
  · simp
  · split
    · simp
    · split
      · simp
      · unfold Ops.stp
        repeat' split
        all_goals (simp only; omega)
theorem getR_le {l : List Kc} {s k : Int} (h : okC l) : (getR l s k).1 ≤ 9223372036854775807 := by
  unfold getR
  cases hf : l.find? (eqK s k) with
  | none => simp
  | some x => exact h x (List.mem_of_find?_eq_some hf)
theorem dT_ok {o : Opr} {l : List Kc} {r : Rcd} (ht : tabR l = true) (hc : okC l) (he : (dT o l r).2.2 = 0) : tabR (dT o l r).1 = true ∧ okC (dT o l r).1 := by
  unfold dT at *
  split at he
  · cases he
  · rename_i hk
    rw [if_neg hk]
    split at he
    · rename_i h0
      rw [if_pos h0]
      have h1 := doF_cell h0
      have h2 := doF_le (t := o.t) (w := o.w) (ins := o.ins) (a := o.a) (b := o.b) (s := (getR l r.src r.key).2) (v := r.val) (getR_le (s := r.src) (k := r.key) hc)
      refine ⟨put_tab ht (by simpa using hk) h1.symm, fun x hx => ?_⟩
      unfold putR ownK at hx
      dsimp only at hx
      rw [List.mem_append, List.mem_append] at hx
      rcases hx with (hx | hx) | hx
      · exact hc x (List.mem_filter.1 hx).1
      · split at hx
        · cases hx
        · rw [List.mem_singleton.1 hx]; exact h2
      · exact hc x (List.mem_filter.1 hx).1
    · rename_i h0
      exact absurd he h0
theorem dT_len {o : Opr} {l : List Kc} {r : Rcd} : (dT o l r).2.1.length ≤ 1 := by
  unfold dT
  split
  · simp
  · split
    · dsimp only; rw [List.length_map]; exact doF_len0
    · simp
theorem dT_err {o : Opr} {l : List Kc} {r : Rcd} (he : (dT o l r).2.2 ≠ 0) : dT o l r = ([], [], (dT o l r).2.2) := by
  unfold dT at *
  split
  · rfl
  · rename_i hk
    rw [if_neg hk] at he
    split
    · rename_i h0; rw [if_pos h0] at he; exact absurd rfl he
    · rfl
def rT (o : Opr) : List Kc → List Rcd → List Rcd → List Kc × List Rcd × Int
  | l, acc, [] => (l, acc, 0)
  | l, acc, r :: rs => if (dT o l r).2.2 = 0 then rT o (dT o l r).1 (acc ++ (dT o l r).2.1) rs else ([], [], (dT o l r).2.2)
def runT (o : Opr) (l : List Kc) (rs : List Rcd) : List Kc × List Rcd × Int :=
  if tabR l = false then ([], [], 220) else if 40 < rs.length then ([], [], 3) else rT o l [] rs
theorem rT_at {o : Opr} {l : List Kc} {acc rs : List Rcd} {i : Nat} {r : Rcd} (h : rs[i]? = some r) : rT o l acc (rs.drop i) = if (dT o l r).2.2 = 0 then rT o (dT o l r).1 (acc ++ (dT o l r).2.1) (rs.drop (i + 1)) else ([], [], (dT o l r).2.2) := by
  rw [drop_cons h]; rfl
end Go.Proofs.Ytehhmkdghgabaaa
namespace Go.Proofs.Ytehhmkdghgabaaa
open Go Go.RowKit Wx
set_option linter.unusedVariables false
set_option linter.unusedSimpArgs false
set_option maxHeartbeats 4000000
theorem clonef_con_nil   : Con Try.prog 67 [.one (.v (.slice none 0 0))] (fun rx rK rt => rx = .c (.ro true 4 (([] : List Kc).map eK)) ∧ rK = [] ∧ rt = 0) := by
  refine Z.con_ofF tabOk 8 Try.f67 _ Try.func67 (by kernel_rfl) rfl rfl rfl rfl ?_
  repeat' ((conv => whnf); first
    | with_reducible first | refine spB_t ?_)
  all_goals (try (conv => whnf))
  all_goals first
    | ((first | (with_reducible apply Z.retF1)); (focus (exact rfl)); (repeat' (first | exact trivial | (with_reducible apply Z.frz_one) | (exact Z.frz_nil) | apply And.intro)); (all_goals (try exact (fun _ => none))); all_goals (rfl))
theorem clonef_con_emp (ad : Addr) (cap : Nat)  : Con Try.prog 67 [.one (.v (.slice (some ad) 0 cap))] (fun rx rK rt => rx = .c (.ro true 4 (([] : List Kc).map eK)) ∧ rK = [] ∧ rt = 0) := by
  refine Z.con_ofF tabOk 8 Try.f67 _ Try.func67 (by kernel_rfl) rfl rfl rfl rfl ?_
  repeat' ((conv => whnf); first
    | with_reducible first | refine spB_no (by decide) ?_
    | ((with_reducible refine apdE_r ?_); (with_reducible refine aprN.mk ⟨_, rfl, ?_⟩ ?_ ?_ ?_ ?_); (focus ((try simp only [LN] at *) <;> omega)); (focus (first | rfl)); (focus (first | exact one_all (by rfl))); (focus ((try simp only [LN] at *) <;> omega))))
  all_goals (try (conv => whnf))
  all_goals first
    | ((first | (with_reducible apply Z.retF1)); (focus (exact rfl)); (repeat' (first | exact trivial | (with_reducible apply Z.frz_one) | (exact Z.frz_osl0 rfl rfl rfl) | apply And.intro)); (all_goals (try exact (fun _ => none))); all_goals (rfl))
theorem clonef_con_ne (x : Kc) (l : List Kc) (hl : l.length ≤ 1000) : Con Try.prog 67 [.one (.ro false 4 ((x :: l).map eK))] (fun rx rK rt => rx = .c (.ro true 4 ((x :: l).map eK)) ∧ rK = [] ∧ rt = 0) := by
  refine Z.con_ofF tabOk 8 Try.f67 _ Try.func67 (by kernel_rfl) rfl rfl rfl rfl ?_
  repeat' ((conv => whnf); first
    | with_reducible first | refine spB_no (by decide) ?_
    | ((with_reducible refine apdE_k ?_); (with_reducible refine apkN.mk ⟨_, rfl, ?_⟩ ?_); (focus ((try simp only [LN] at *) <;> omega)))
    | ((with_reducible refine apdN.mk ?_ ?_ ?_ ?_ ?_ ?_); (focus (first | (simp; done))); (focus (first | exact one_map2 (fun _ => rfl))); (focus ((try simp only [LN] at *) <;> omega)); (focus ((try simp only [LN] at *) <;> omega)); (focus ((try simp only [LN] at *) <;> omega))))
  all_goals (try (conv => whnf))
  all_goals first
    | ((first | (with_reducible apply Z.retF1)); (focus (exact rfl)); (repeat' (first | exact trivial | (with_reducible apply Z.frz_one) | ((with_reducible apply Z.fq_src); (focus (exact rfl)); (focus (first | (simp only [List.length_map, Nat.zero_add]; done))); (focus (exact fun _ => rfl))) | exact rfl | apply And.intro)); (all_goals (try exact (fun _ => none))); all_goals (rfl))
theorem clonef_con (l : List Kc) (hl : l.length ≤ 1000) : Con Try.prog 67 [.one (.ro false 4 (l.map eK))] (fun rx rK rt => rx = .c (.ro true 4 (l.map eK)) ∧ rK = [] ∧ rt = 0) := by
  cases l with
  | nil => exact Z.con_nilcases (fun _ => clonef_con_nil) (fun _ ad cap => clonef_con_emp ad cap) (fun r rs h => by cases h)
  | cons x l => exact clonef_con_ne x l (by simp only [List.length_cons] at hl; omega)
theorem trun_con (o : Opr) (l : List Kc) (rs : List Rcd) (hi : o.ins.length ≤ 9223372036854775807) (hl : l.length ≤ 1000) (hcnt : okC l) (hrs : rs.length ≤ 9223372036854775807) : Con Try.prog 31 [.agg [.v (.int .i64 o.t), .v (.int .i64 o.w), .ro false 1 (o.ins.map Ops.eI), .v (.int .i64 o.a), .v (.int .i64 o.b)], .agg [.ro false 4 (l.map eK)], .one (.ro false 3 (rs.map eR))] (fun rx rK rt => rx = .tup [.agg [.ro true 4 ((runT o l rs).1.map eK)], .one (.ro true 3 ((runT o l rs).2.1.map eR)), .one (.v (.int .i64 (runT o l rs).2.2))] ∧ rK = [] ∧ rt = 0) := by
  refine Z.con_ofF tabOk 54 Try.f31 _ Try.func31 (by kernel_rfl) rfl rfl rfl rfl ?_
  have cc := check_con l (by omega)
  unfold runT
  cases hok : tabR l
  all_goals rw [hok] at cc
  all_goals simp only [cond_true, cond_false] at cc
  · simp only [if_true]
    repeat' ((conv => whnf); first
      | with_reducible first | refine spB_t ?_
      | ((with_reducible apply spB_cong); (focus (simp only [beq_self_eq_true, bne_self_eq_false, Bool.true_bne, Bool.false_bne, Bool.bne_true, Bool.bne_false, Bool.true_beq, Bool.false_beq, Bool.not_true, Bool.not_false, Bool.not_not, Int.reduceBEq, Int.reduceBNe, Int.reduceLE, Int.reduceLT, Int.reduceEq, decide_true, decide_false]; rfl)))
      | ((first | (with_reducible refine Z.callZ_mk ?_ (cc) ?_)); (focus ((repeat' (first | exact trivial | exact rfl | apply And.intro)); done))))
    all_goals (try (conv => whnf))
    all_goals try (show Nat.ble _ _ = true; rfl)
    all_goals try (exfalso; rename_i hz; cases hz; done)
    all_goals try (exfalso; (try simp only [LN] at *) <;> omega)
    all_goals first
      | ((first | (with_reducible apply Z.retF2)); (focus (exact rfl)); (repeat' (first | exact trivial | (with_reducible apply Z.frz_one) | (with_reducible apply Z.frz_agg) | (exact Z.frz_nil) | exact rfl | apply And.intro)); (all_goals (try exact (fun _ => none))); all_goals (first | (simp; done)))
  simp only [Bool.true_eq_false, if_false]
  have hl2 := tab_len hok
  by_cases h40 : 40 < rs.length
  · rw [if_pos h40]
    repeat' ((conv => whnf); first
      | ((with_reducible apply spB_cong); (focus (simp only [beq_self_eq_true, bne_self_eq_false, Bool.true_bne, Bool.false_bne, Bool.bne_true, Bool.bne_false, Bool.true_beq, Bool.false_beq, Bool.not_true, Bool.not_false, Bool.not_not, Int.reduceBEq, Int.reduceBNe, Int.reduceLE, Int.reduceLT, Int.reduceEq, decide_true, decide_false]; rfl)))
      | with_reducible first | refine spB_no (by decide) ?_
      | (with_reducible refine spB_dec ?_ ?_ <;> intro _ <;> (try (exfalso; first | contradiction | omega | (rename_i hz; refine hz ?_; simp; done) | (rename_i hz; simp at hz; done) | (simp only [LN] at *; omega))))
      | ((first | (with_reducible refine Z.callZ_mk ?_ (cc) ?_)); (focus ((repeat' (first | exact trivial | exact rfl | apply And.intro)); done))))
    all_goals (try (conv => whnf))
    all_goals try (show Nat.ble _ _ = true; rfl)
    all_goals try (exfalso; rename_i hz; cases hz; done)
    all_goals try (exfalso; (try simp only [LN] at *) <;> omega)
    all_goals first
      | ((first | (with_reducible apply Z.retF2)); (focus (exact rfl)); (repeat' (first | exact trivial | (with_reducible apply Z.frz_one) | (with_reducible apply Z.frz_agg) | (with_reducible apply Z.fq_int) | (exact Z.frz_nil) | exact rfl | apply And.intro)); (all_goals (try exact (fun _ => none))); all_goals (first | (simp; done)))
  rw [if_neg h40]
  repeat' ((conv => whnf); first
    | ((with_reducible apply spB_cong); (focus (simp only [beq_self_eq_true, bne_self_eq_false, Bool.true_bne, Bool.false_bne, Bool.bne_true, Bool.bne_false, Bool.true_beq, Bool.false_beq, Bool.not_true, Bool.not_false, Bool.not_not, Int.reduceBEq, Int.reduceBNe, Int.reduceLE, Int.reduceLT, Int.reduceEq, decide_true, decide_false]; rfl)))
    | with_reducible first | refine spB_no (by decide) ?_
    | (with_reducible refine spB_dec ?_ ?_ <;> intro _ <;> (try (exfalso; first | contradiction | omega | (rename_i hz; refine hz ?_; simp; done) | (rename_i hz; simp at hz; done) | (simp only [LN] at *; omega))))
    | ((first | (with_reducible refine Z.callZ_mk ?_ (cc) ?_)); (focus ((repeat' (first | exact trivial | exact rfl | apply And.intro)); done)))
    | ((first | (with_reducible apply Z.callZ_mk ?_ (clonef_con _ ?_) ?_)); (rotate_left 1); (focus ((repeat' (first | exact trivial | exact rfl | apply And.intro)); done)); (iterate 1 (focus (first | assumption)))))
  all_goals (try (conv => whnf))
  all_goals try (show Nat.ble _ _ = true; rfl)
  all_goals try (exfalso; rename_i hz; cases hz; done)
  all_goals try (exfalso; (try simp only [LN] at *) <;> omega)
  refine Z.loopK tabOk (fun zq : Nat × List Kc × List Rcd => [(32, .val (.int .i64 (zq.1 : Int))), (11, .c (.gsl 4 (zq.2.2.map cR)))]) (fun zq : Nat × List Kc × List Rcd => ([(3, some (Z.Ob.b ⟨[[.ro true 4 (zq.2.1.map eK)]], 1, 30, true⟩)), (4, (gB 3 39 (zq.2.2.map cR)).map Z.Ob.b)] : Z.Kr)) (fun zq => zq.1 ≤ rs.length ∧ zq.2.2.length ≤ zq.1 ∧ (tabR zq.2.1 = true ∧ okC zq.2.1) ∧ rT o l [] rs = rT o zq.2.1 zq.2.2 (rs.drop zq.1)) (fun zq => rs.length - zq.1) (0, l, []) 5 [(3, _), (6, _), (10, _), (30, _), (31, _)] ⟨rfl, rfl, rfl, rfl, rfl, trivial⟩ [(0, some _), (1, some _), (2, some _)] ⟨rfl, rfl, rfl, trivial⟩ ?_ ?_ rfl rfl ⟨Nat.zero_le _, Nat.zero_le _, ⟨hok, hcnt⟩, rfl⟩ ?_
  · repeat' (first | exact trivial | apply And.intro | exact ⟨_, rfl, Z.Imp.refl _⟩ | exact ⟨_, rfl, Z.Imp.nilg _⟩)
  · repeat' (first | exact trivial | (intro b hb; cases hb; done) | exact (fun b hb => ⟨b, hb, Z.ImpO.refl b⟩) | apply And.intro)
  rintro ⟨i, nx, acc⟩ HINV
  (try dsimp only at HINV); (try dsimp only)
  obtain ⟨HI, HA, ⟨HT, HC⟩, HR⟩ := HINV
  have hnl := tab_len HT
  by_cases hi2 : i < rs.length
  · obtain ⟨x, hx⟩ := getElem?_some' (xs := rs) (i := i) hi2
    have cd := do_con o nx x hi (by omega) HT HC
    have hat := rT_at (o := o) (l := nx) (acc := acc) hx
    have hdl := dT_len (o := o) (l := nx) (r := x)
    have hde := dT_err (o := o) (l := nx) (r := x)
    have hdo := dT_ok (o := o) (r := x) HT HC
    generalize dT o nx x = D at *
    obtain ⟨n2, O, e⟩ := D
    dsimp only [dOut] at cd hat hdl hde hdo
    by_cases he : e = 0
    rotate_left
    · rw [if_neg he] at hat
      have h9 := hde he
      simp only [Prod.mk.injEq, and_true] at h9
      obtain ⟨rfl, rfl⟩ := h9
      rw [HR, hat]
      repeat' ((conv => whnf); first
        | (with_reducible refine spB_dec ?_ ?_ <;> intro _ <;> (try (exfalso; first | contradiction | omega | (rename_i hz; refine hz ?_; simp; done) | (rename_i hz; simp at hz; done) | (simp only [LN] at *; omega))))
        | (with_reducible refine spB_bne ?_ ?_ <;> intro _ <;> (try (exfalso; first | contradiction | omega | (rename_i hz; refine hz ?_; simp; done) | (rename_i hz; simp at hz; done) | (simp only [LN] at *; omega))))
        | with_reducible first | refine Z.rowN_known hx ?_
        | ((with_reducible apply ixN_litp); (focus (exact rfl)); (focus ((try simp only [LN] at *) <;> omega)))
        | ((first | (with_reducible refine Z.callZ_mk ?_ (cd) ?_)); (focus ((repeat' (first | exact trivial | exact rfl | apply And.intro)); done))))
      all_goals (try (conv => whnf))
      all_goals try (show Nat.ble _ _ = true; rfl)
      all_goals try (exfalso; rename_i hz; cases hz; done)
      all_goals try (exfalso; (try simp only [LN] at *) <;> omega)
      all_goals first
        | ((first | (with_reducible apply Z.retF2)); (focus (exact rfl)); (repeat' (first | exact trivial | (with_reducible apply Z.frz_one) | (with_reducible apply Z.frz_agg) | (exact Z.frz_nil) | exact rfl | apply And.intro)); (all_goals (try exact (fun _ => none))); all_goals (first | (simp; done)))
    subst he
    rw [if_pos rfl] at hat
    rcases O with _ | ⟨y, _ | ⟨z, O⟩⟩
    rotate_right 1
    · exact absurd hdl (by simp)
    all_goals (
      repeat' ((conv => whnf); first
        | ((with_reducible apply spB_cong); (focus (simp only [beq_self_eq_true, bne_self_eq_false, Bool.true_bne, Bool.false_bne, Bool.bne_true, Bool.bne_false, Bool.true_beq, Bool.false_beq, Bool.not_true, Bool.not_false, Bool.not_not, Int.reduceBEq, Int.reduceBNe, Int.reduceLE, Int.reduceLT, Int.reduceEq, decide_true, decide_false]; rfl)))
        | with_reducible first | refine spB_no (by decide) ?_
        | (with_reducible refine spB_dec ?_ ?_ <;> intro _ <;> (try (exfalso; first | contradiction | omega | (rename_i hz; refine hz ?_; simp; done) | (rename_i hz; simp at hz; done) | (simp only [LN] at *; omega))))
        | with_reducible first | refine Z.rowN_known hx ?_
        | ((with_reducible refine posE_pos ?_ ?_); (focus ((try simp only [LN] at *) <;> omega)))
        | ((with_reducible refine posE_nil ?_ ?_); (focus rfl))
        | ((with_reducible apply ixN_litp); (focus (exact rfl)); (focus ((try simp only [LN] at *) <;> omega)))
        | ((with_reducible refine apdN.mk ?_ ?_ ?_ ?_ ?_ ?_); (focus (first | rfl)); (focus (first | exact one_all (by rfl))); (focus ((try simp only [LN] at *) <;> omega)); (focus ((try simp only [LN] at *) <;> omega)); (focus ((try simp only [LN] at *) <;> omega)))
        | with_reducible refine wr_i64 (by first | omega | (simp only [LN] at *; omega)) ?_
        | ((first | (with_reducible refine Z.callZ_mk ?_ (cd) ?_)); (focus ((repeat' (first | exact trivial | exact rfl | apply And.intro)); done)))
        | ((with_reducible refine eqN_mk2 ?_ ?_); (focus (exact Z.kb_some rfl))))
      all_goals (try (conv => whnf)))
    all_goals try (show Nat.ble _ _ = true; rfl)
    all_goals try (exfalso; rename_i hz; cases hz; done)
    all_goals try (exfalso; (try simp only [LN] at *) <;> omega)
    all_goals first
      | ((refine Z.rndK ((i + 1, n2, acc)) (fun s => [0, 1, 2, 3, s.idAt 11]) rfl rfl rfl rfl ?_ ?_ ?_ ?_); (focus (repeat' (first | exact trivial | exact rfl | apply And.intro))); (focus (repeat' (first | exact trivial | (intro b hb; cases hb; rfl) | exact Z.gB_sub rfl rfl (ren_map fun _ => rfl) | apply And.intro))); (focus (refine ⟨by (try dsimp only); omega, by (try dsimp only); (try simp only [List.length_append, List.length_singleton]); omega, hdo rfl, by (try dsimp only); rw [HR, hat]; simp⟩)); ((try dsimp only); omega))
      | ((refine Z.rndK ((i + 1, n2, acc ++ [y])) (fun s => [0, 1, 2, 3, s.idAt 11]) rfl rfl rfl rfl ?_ ?_ ?_ ?_); (focus (repeat' (first | exact trivial | exact rfl | (rw [List.map_append (f := cR)]; exact rfl) | apply And.intro))); (focus (repeat' (first | exact trivial | (intro b hb; cases hb; rfl) | exact Z.gB_sub' rfl (by first | rfl | (rw [List.map_append]; rfl) | simp only [List.map_append, List.map_cons, List.map_nil]) (ren_map fun _ => rfl) | apply And.intro))); (focus (refine ⟨by (try dsimp only); omega, by (try dsimp only); (try simp only [List.length_append, List.length_singleton]); omega, hdo rfl, by (try dsimp only); rw [HR, hat]⟩)); ((try dsimp only); omega))
  have hil : i = rs.length := by omega
  subst hil
  rw [HR, List.drop_length]
  simp only [rT]
  repeat' ((conv => whnf); first
    | (with_reducible refine spB_dec ?_ ?_ <;> intro _ <;> (try (exfalso; first | contradiction | omega | (rename_i hz; refine hz ?_; simp; done) | (rename_i hz; simp at hz; done) | (simp only [LN] at *; omega)))))
  all_goals (try (conv => whnf))
  all_goals try (show Nat.ble _ _ = true; rfl)
  all_goals try (exfalso; rename_i hz; cases hz; done)
  all_goals try (exfalso; (try simp only [LN] at *) <;> omega)
  all_goals first
    | ((first | (with_reducible apply Z.retF2)); (focus (exact rfl)); (repeat' (first | exact trivial | (with_reducible apply Z.frz_one) | (with_reducible apply Z.frz_agg) | (with_reducible apply Z.fq_int) | (with_reducible apply Z.fq_ro) | ((with_reducible apply Z.fq_gsl); (focus (first | exact Z.isB_map _)); (focus (exact fun _ => rfl))) | exact rfl | apply And.intro)); (all_goals (try exact (fun _ => none))); all_goals (first | (simp; done)))
end Go.Proofs.Ytehhmkdghgabaaa
namespace Go.Proofs.Ytehhmkdghgabaaa
open Go Go.RowKit Wx
set_option linter.unusedVariables false
set_option linter.unusedSimpArgs false
set_option maxHeartbeats 4000000
def decR : List Ce → Option Rcd
  | [.v (.int .i64 a), .v (.int .i64 b), .v (.int .i64 c)] => some ⟨a, b, c⟩
  | _ => none
theorem decR_ok (r : List Ce) (x : Rcd) (h : decR r = some x) : r.map RT.of = (eR x).map some := by
  unfold decR at h
  split at h
  · simp only [Option.some.injEq] at h; subst h; rfl
  · cases h
def orc : Y.CallFn := fun c avs K top => match c, avs with
  | .fn g [], [.pl (.agg [.v (.int .i64 t), .v (.int .i64 w), ci, .v (.int .i64 a), .v (.int .i64 b)]), .pl (.agg [.v (.slice none 0 0)]), .pl (.one cr)] => match Nat.beq g 31, Y.rowsD 1 1000 Y.decI64 K.get ci, Y.rowsD 3 1000 decR K.get cr with
    | true, some ins, some rs => some ⟨dOut (runT ⟨t, w, ins, a, b⟩ [] rs), K, top, []⟩
    | _, _, _ => none
  | _, _ => none
theorem orc_sound : Y.CallsOk Try.prog orc := by
  intro c avs K top r h
  unfold orc at h
  split at h
  · rename_i g t w ci a b cr
    split at h
    · have hg : Nat.beq g 31 = true := by assumption
      rename_i ins rs _ h1 h2
      simp only [Option.some.injEq] at h
      subst h
      obtain ⟨g1, g2⟩ := Y.rowsD_low (en := Ops.eI) Y.decI64_ok h1
      obtain ⟨g3, g4⟩ := Y.rowsD_low (en := eR) decR_ok h2
      have := Nat.eq_of_beq_eq_true hg
      subst this
      exact ⟨Y.con_callE (args := [.agg [.v (.int .i64 t), .v (.int .i64 w), .ro false 1 (ins.map Ops.eI), .v (.int .i64 a), .v (.int .i64 b)], .agg [.ro false 4 (([] : List Kc).map eK)], .one (.ro false 3 (rs.map eR))]) ⟨⟨rfl, rfl, g1, rfl, rfl, trivial⟩, ⟨.inr ⟨4, rfl⟩, trivial⟩, g3, trivial⟩ (trun_con ⟨t, w, ins, a, b⟩ [] rs (by dsimp only; omega) (by simp) (fun _ h => nomatch h) (by omega)) rfl, fun _ _ => rfl⟩
    · cases h
  · cases h
theorem wakes_con : Con Try.prog 12 [] (fun x K t => x = .val (.bool true) ∧ K = [] ∧ t = 0) := Y.con_runO ftabOk tabOk mixOk orc_sound 40 12 (by kernel_rfl) (by kernel_rfl)
end Go.Proofs.Ytehhmkdghgabaaa
namespace Go.Proofs.Ytehhmkdghgabaaa
open Go Go.RowKit Wx
set_option linter.unusedVariables false
set_option linter.unusedSimpArgs false
set_option maxHeartbeats 4000000
end Go.Proofs.Ytehhmkdghgabaaa
namespace Go.Proofs.Ytehhmkdghgabaaa
open Go Go.RowKit Wx
set_option linter.unusedVariables false
set_option linter.unusedSimpArgs false
set_option maxHeartbeats 4000000
theorem vN_tmq {p q : Int} {A : Int → Prop} (hp : 0 ≤ p) (hq : 0 < q) (h : ∀ r, 0 ≤ r → r < q → A r) : vN (p.tmod q) A := vN_mk (h _ (Int.tmod_nonneg _ hp) (Int.tmod_lt_of_pos _ hq))
theorem wu64_nn (z : Int) : 0 ≤ IntKind.u64.wrap z := by simp [IntKind.wrap, IntKind.bits, IntKind.signed]; omega
theorem tablewhole_con (x : List Kc) (wd : Int) (hx : x.length ≤ 9223372036854775807) : Con Try.prog 9 [.agg [.ro false 4 (x.map eK)], .one (.v (.int .i64 wd))] (fun rx rK rt => rx = .val (.bool true) ∧ rK = [] ∧ rt = 0) := by
  refine Z.con_ofF tabOk 86 Try.f9 _ Try.func9 (by kernel_rfl) rfl rfl rfl rfl ?_
  have csx := short_con x hx
  have hX9 : (x.take 257).length ≤ 257 := by rw [List.length_take]; exact Nat.min_le_left _ _
  generalize x.take 257 = X at *
  have cc := check_con X (by omega)
  cases ht : tabR X
  all_goals rw [ht] at cc
  all_goals simp only [cond_true, cond_false] at cc
  · skip
    repeat' ((conv => whnf); first
      | with_reducible first | refine spB_t ?_
      | ((with_reducible apply spB_cong); (focus (simp only [beq_self_eq_true, bne_self_eq_false, Bool.true_bne, Bool.false_bne, Bool.bne_true, Bool.bne_false, Bool.true_beq, Bool.false_beq, Bool.not_true, Bool.not_false, Bool.not_not, Int.reduceBEq, Int.reduceBNe, Int.reduceLE, Int.reduceLT, Int.reduceEq, decide_true, decide_false]; rfl)))
      | with_reducible first | refine spB_no (by decide) ?_
      | ((first | (with_reducible refine Z.callZ_mk ?_ (wakes_con) ?_) | (with_reducible refine Z.callZ_mk ?_ (csx) ?_) | (with_reducible refine Z.callZ_mk ?_ (cc) ?_)); (focus ((repeat' (first | exact trivial | exact rfl | apply And.intro)); done)))
      | fail)
    all_goals (try (conv => whnf))
    all_goals try (show Nat.ble _ _ = true; rfl)
    all_goals try (exfalso; rename_i hz; cases hz; done)
    all_goals try (exfalso; (try simp only [LN] at *) <;> omega)
    all_goals first
      | ((first | (with_reducible apply Z.retF1)); (focus (exact rfl)); (repeat' (first | exact trivial | (with_reducible apply Z.frz_one) | (with_reducible apply Z.fq_bool) | exact rfl | apply And.intro)); (all_goals (try exact (fun _ => none))); all_goals (first | (simp; done)))
      | fail
  repeat' ((conv => whnf); first
    | ((with_reducible apply spB_cong); (focus (simp only [beq_self_eq_true, bne_self_eq_false, Bool.true_bne, Bool.false_bne, Bool.bne_true, Bool.bne_false, Bool.true_beq, Bool.false_beq, Bool.not_true, Bool.not_false, Bool.not_not, Int.reduceBEq, Int.reduceBNe, Int.reduceLE, Int.reduceLT, Int.reduceEq, decide_true, decide_false]; rfl)))
    | with_reducible first | refine spB_no (by decide) ?_
    | ((with_reducible refine vN_tmq (q := 3) ?_ ?_ ?_); (focus (exact wu64_nn _)); (focus omega); intro r0 hr1 hr2)
    | with_reducible refine wr_i64 (by first | omega | (simp only [LN] at *; omega)) ?_
    | with_reducible first | refine wr_mk _ rfl ?_
    | with_reducible refine nzN_mk (by omega) ?_
    | ((first | (with_reducible refine Z.callZ_mk ?_ (wakes_con) ?_) | (with_reducible refine Z.callZ_mk ?_ (csx) ?_) | (with_reducible refine Z.callZ_mk ?_ (cc) ?_)); (focus ((repeat' (first | exact trivial | exact rfl | apply And.intro)); done)))
    | fail)
  all_goals (try (conv => whnf))
  all_goals try (show Nat.ble _ _ = true; rfl)
  all_goals try (exfalso; rename_i hz; cases hz; done)
  all_goals try (exfalso; (try simp only [LN] at *) <;> omega)
  obtain ⟨w, rfl⟩ := Int.eq_ofNat_of_zero_le hr1
  refine Z.loopK tabOk (fun zq : Nat × List Kc => [(28, .val (.int .i64 (zq.1 : Int)))]) (fun zq : Nat × List Kc => ([(2, some (Z.Ob.b ⟨[[.ro true 4 (zq.2.map eK)]], 1, 30, true⟩))] : Z.Kr)) (fun zq => zq.1 ≤ w + 1 ∧ zq.2 = allW X zq.1 (1 + (w : Int))) (fun zq => w + 1 - zq.1) (0, []) 3 [(1, _), (5, _), (6, _), (27, _)] ⟨rfl, rfl, rfl, rfl, trivial⟩ [(0, some _), (1, some _)] ⟨rfl, rfl, trivial⟩ ?_ ?_ rfl rfl ⟨Nat.zero_le _, (allW_zero ht (by omega)).symm⟩ ?_
  · repeat' (first | exact trivial | apply And.intro | exact ⟨_, rfl, Z.Imp.refl _⟩)
  · repeat' (first | exact trivial | (intro b hb; cases hb; refine ⟨_, rfl, ⟨rfl, rfl, rfl⟩, ?_⟩; (repeat' (first | exact trivial | apply And.intro | exact Z.Imp.nilr _ _)); done) | apply And.intro)
  rintro ⟨i, al⟩ HINV
  (try dsimp only at HINV); (try dsimp only)
  obtain ⟨HI, HA⟩ := HINV
  by_cases hi : i < w + 1
  · have hsh : okS (i : Int) (1 + (w : Int)) := by unfold okS; omega
    have cpa := tpart_con X i (1 + (w : Int)) (by omega)
    have hpt : partT X i (1 + (w : Int)) = (partL X i (1 + (w : Int)), 0) := by unfold partT; rw [if_neg (by rw [ht]; decide), if_pos hsh]
    rw [hpt] at cpa
    dsimp only at cpa
    have hwa := whole_at ht hsh
    rw [← HA] at hwa
    have hal : al.length ≤ 257 := by rw [HA]; exact Nat.le_trans allW_len (by omega)
    have hpl := @part_len X i (1 + (w : Int))
    have hin := fun x => @part_in X i (1 + (w : Int)) x
    have hnl := @allW_len X (i + 1) (1 + (w : Int))
    have hnx : allW X (i + 1) (1 + (w : Int)) = allW X (i + 1) (1 + (w : Int)) := rfl
    generalize partL X i (1 + (w : Int)) = R at *
    generalize hN : allW X (i + 1) (1 + (w : Int)) = N at *
    have cj1 := tjoin_con al R (by omega) (by omega)
    have cj2 := tjoin_con R al (by omega) (by omega)
    rw [hwa.1] at cj1
    rw [hwa.2] at cj2
    dsimp only at cj1 cj2
    have m1 := same_con N N (by omega)
    rw [decide_eq_true (rfl : N = N)] at m1
    repeat' ((conv => whnf); first
      | ((with_reducible apply spB_cong); (focus (simp only [beq_self_eq_true, bne_self_eq_false, Bool.true_bne, Bool.false_bne, Bool.bne_true, Bool.bne_false, Bool.true_beq, Bool.false_beq, Bool.not_true, Bool.not_false, Bool.not_not, Int.reduceBEq, Int.reduceBNe, Int.reduceLE, Int.reduceLT, Int.reduceEq, decide_true, decide_false]; rfl)))
      | with_reducible first | refine spB_no (by decide) ?_
      | (with_reducible refine spB_dec ?_ ?_ <;> intro _ <;> (try (exfalso; first | contradiction | omega | (rename_i hz; refine hz ?_; simp; done) | (rename_i hz; simp at hz; done) | (simp only [LN] at *; omega))))
      | ((first | (with_reducible refine Z.callZ_mk ?_ (cpa) ?_)); (focus ((repeat' (first | exact trivial | exact rfl | apply And.intro)); done)))
      | fail)
    all_goals (try (conv => whnf))
    all_goals try (show Nat.ble _ _ = true; rfl)
    all_goals try (exfalso; rename_i hz; cases hz; done)
    all_goals try (exfalso; (try simp only [LN] at *) <;> omega)
    refine Z.loopK tabOk (fun zq : Nat => [(43, .val (.int .i64 (zq : Int)))]) (fun zq : Nat => ([] : Z.Kr)) (fun zq => zq ≤ R.length) (fun zq => R.length - zq) 0 4 [(1, _), (5, _), (6, _), (7, _), (8, _), (27, _), (28, _), (41, _), (42, _)] ⟨rfl, rfl, rfl, rfl, rfl, rfl, rfl, rfl, rfl, trivial⟩ [(0, some _), (1, some _), (2, some _), (3, some _)] ⟨rfl, rfl, rfl, rfl, trivial⟩ ?_ ?_ rfl rfl (Nat.zero_le _) ?_
    · repeat' (first | exact trivial | apply And.intro | exact ⟨_, rfl, Z.Imp.refl _⟩)
    · repeat' (first | exact trivial)
    rintro j HINV
    (try dsimp only at HINV); (try dsimp only)
    by_cases hj : j < R.length
    · obtain ⟨y, hy⟩ := getElem?_some' (xs := R) (i := j) hj
      have cm := mine_con y.src y.key 0 i (1 + (w : Int))
      rw [hin y (List.mem_of_getElem? hy)] at cm
      repeat' ((conv => whnf); first
        | ((with_reducible apply spB_cong); (focus (simp only [beq_self_eq_true, bne_self_eq_false, Bool.true_bne, Bool.false_bne, Bool.bne_true, Bool.bne_false, Bool.true_beq, Bool.false_beq, Bool.not_true, Bool.not_false, Bool.not_not, Int.reduceBEq, Int.reduceBNe, Int.reduceLE, Int.reduceLT, Int.reduceEq, decide_true, decide_false]; rfl)))
        | with_reducible first | refine spB_no (by decide) ?_
        | (with_reducible refine spB_dec ?_ ?_ <;> intro _ <;> (try (exfalso; first | contradiction | omega | (rename_i hz; refine hz ?_; simp; done) | (rename_i hz; simp at hz; done) | (simp only [LN] at *; omega))))
        | with_reducible first | refine Z.rowN_known hy ?_
        | ((with_reducible apply ixN_litp); (focus (exact rfl)); (focus ((try simp only [LN] at *) <;> omega)))
        | with_reducible refine wr_i64 (by first | omega | (simp only [LN] at *; omega)) ?_
        | ((first | (with_reducible refine Z.callZ_mk ?_ (cm) ?_)); (focus ((repeat' (first | exact trivial | exact rfl | apply And.intro)); done)))
        | fail)
      all_goals (try (conv => whnf))
      all_goals try (show Nat.ble _ _ = true; rfl)
      all_goals try (exfalso; rename_i hz; cases hz; done)
      all_goals try (exfalso; (try simp only [LN] at *) <;> omega)
      all_goals first
        | ((refine Z.rndK ((j + 1)) (fun s => [0, 1, 2, 3]) rfl rfl rfl rfl ?_ ?_ ?_ ?_); (focus (repeat' (first | exact trivial | exact rfl | apply And.intro))); (focus (repeat' (first | exact trivial | (intro b hb; cases hb; rfl) | apply And.intro))); (focus (((try dsimp only); omega))); ((try dsimp only); omega))
        | fail
    have hjl : j = R.length := by omega
    subst hjl
    repeat' ((conv => whnf); first
      | ((with_reducible apply spB_cong); (focus (simp only [beq_self_eq_true, bne_self_eq_false, Bool.true_bne, Bool.false_bne, Bool.bne_true, Bool.bne_false, Bool.true_beq, Bool.false_beq, Bool.not_true, Bool.not_false, Bool.not_not, Int.reduceBEq, Int.reduceBNe, Int.reduceLE, Int.reduceLT, Int.reduceEq, decide_true, decide_false]; rfl)))
      | with_reducible first | refine spB_no (by decide) ?_
      | (with_reducible refine spB_dec ?_ ?_ <;> intro _ <;> (try (exfalso; first | contradiction | omega | (rename_i hz; refine hz ?_; simp; done) | (rename_i hz; simp at hz; done) | (simp only [LN] at *; omega))))
      | with_reducible refine wr_i64 (by first | omega | (simp only [LN] at *; omega)) ?_
      | ((first | (with_reducible refine Z.callZ_mk ?_ (m1) ?_)); (focus ((repeat' (first | exact trivial | exact rfl | apply And.intro)); done)))
      | ((first | (with_reducible refine Z.callZ_mk ?_ (cj1) ?_)); (focus ((repeat' (first | exact trivial | exact rfl | apply And.intro)); done)))
      | ((first | (with_reducible refine Z.callZ_mk ?_ (cj2) ?_)); (focus ((repeat' (first | exact trivial | exact rfl | apply And.intro)); done)))
      | fail)
    all_goals (try (conv => whnf))
    all_goals try (show Nat.ble _ _ = true; rfl)
    all_goals try (exfalso; rename_i hz; cases hz; done)
    all_goals try (exfalso; (try simp only [LN] at *) <;> omega)
    all_goals first
      | ((refine Z.rndK ((i + 1, N)) (fun s => [0, 1, 2]) rfl rfl rfl rfl ?_ ?_ ?_ ?_); (focus (repeat' (first | exact trivial | exact rfl | apply And.intro))); (focus (repeat' (first | exact trivial | (intro b hb; cases hb; rfl) | apply And.intro))); (focus (exact ⟨by (try dsimp only); omega, hN.symm⟩)); ((try dsimp only); omega))
      | fail
  have hil : i = w + 1 := by omega
  subst hil
  have hae : allW X (w + 1) (1 + (w : Int)) = X := by rw [show (1 + (w : Int)) = ((w + 1 : Nat) : Int) by omega]; exact allW_end ht ⟨by omega, by omega⟩
  rw [hae] at HA
  subst HA
  have m1 := same_con al al (by omega)
  rw [decide_eq_true (rfl : al = al)] at m1
  repeat' ((conv => whnf); first
    | (with_reducible refine spB_dec ?_ ?_ <;> intro _ <;> (try (exfalso; first | contradiction | omega | (rename_i hz; refine hz ?_; simp; done) | (rename_i hz; simp at hz; done) | (simp only [LN] at *; omega))))
    | ((first | (with_reducible refine Z.callZ_mk ?_ (m1) ?_)); (focus ((repeat' (first | exact trivial | exact rfl | apply And.intro)); done)))
    | fail)
  all_goals (try (conv => whnf))
  all_goals try (show Nat.ble _ _ = true; rfl)
  all_goals try (exfalso; rename_i hz; cases hz; done)
  all_goals try (exfalso; (try simp only [LN] at *) <;> omega)
  all_goals first
    | ((first | (with_reducible apply Z.retF1)); (focus (exact rfl)); (repeat' (first | exact trivial | exact rfl | apply And.intro)); (all_goals (try exact (fun _ => none))); all_goals (first | (simp; done)))
    | fail
end Go.Proofs.Ytehhmkdghgabaaa
namespace Go.Proofs.Ytehhmkdghgabaaa
open Go Go.RowKit Wx
set_option linter.unusedVariables false
set_option linter.unusedSimpArgs false
set_option maxHeartbeats 4000000
end Go.Proofs.Ytehhmkdghgabaaa
namespace Go.Proofs.Ytehhmkdghgabaaa
open Go Go.RowKit Wx
set_option linter.unusedVariables false
set_option linter.unusedSimpArgs false
set_option maxHeartbeats 4000000
end Go.Proofs.Ytehhmkdghgabaaa
namespace Go.Proofs.Ytehhmkdghgabaaa
open Go Go.RowKit Wx
set_option linter.unusedVariables false
set_option linter.unusedSimpArgs false
set_option maxHeartbeats 40000000
end Go.Proofs.Ytehhmkdghgabaaa
namespace Go.Proofs.Ytehhmkdghgabaaa
open Go Go.RowKit Wx
set_option linter.unusedVariables false
set_option linter.unusedSimpArgs false
set_option maxHeartbeats 40000000
end Go.Proofs.Ytehhmkdghgabaaa
namespace Go.Proofs.Ytehhmkdghgabaaa
open Go Go.RowKit Wx
set_option linter.unusedVariables false
set_option linter.unusedSimpArgs false
set_option maxHeartbeats 40000000
end Go.Proofs.Ytehhmkdghgabaaa
namespace Go.Proofs.Ytehhmkdghgabaaa
open Go Go.RowKit Wx
set_option linter.unusedVariables false
set_option linter.unusedSimpArgs false
set_option maxHeartbeats 40000000
end Go.Proofs.Ytehhmkdghgabaaa
namespace Go.Proofs.Ytehhmkdghgabaaa
open Go Go.RowKit Wx
set_option linter.unusedVariables false
set_option linter.unusedSimpArgs false
set_option maxHeartbeats 40000000
end Go.Proofs.Ytehhmkdghgabaaa
namespace Go.Proofs.Ytehhmkdghgabaaa
open Go Go.RowKit Wx
set_option linter.unusedVariables false
set_option linter.unusedSimpArgs false
set_option maxHeartbeats 4000000
end Go.Proofs.Ytehhmkdghgabaaa
namespace Go.Proofs.Ytehhmkdghgabaaa
open Go Go.RowKit Wx
set_option linter.unusedVariables false
set_option linter.unusedSimpArgs false
set_option maxHeartbeats 4000000
end Go.Proofs.Ytehhmkdghgabaaa
namespace Go.Proofs.Ytehhmkdghgabaaa
open Go Go.RowKit Wx
set_option linter.unusedVariables false
set_option linter.unusedSimpArgs false
set_option maxHeartbeats 4000000
end Go.Proofs.Ytehhmkdghgabaaa
namespace Go.Proofs.Ytehhmkdghgabaaa
open Go Go.RowKit Wx
set_option linter.unusedVariables false
set_option linter.unusedSimpArgs false
set_option maxHeartbeats 4000000
end Go.Proofs.Ytehhmkdghgabaaa
namespace Go.Proofs.Ytehhmkdghgabaaa
open Go Go.RowKit Wx
set_option linter.unusedVariables false
set_option linter.unusedSimpArgs false
set_option maxHeartbeats 4000000
end Go.Proofs.Ytehhmkdghgabaaa
namespace Go.Proofs.Ytehhmkdghgabaaa
open Go Go.RowKit Wx
set_option linter.unusedVariables false
set_option linter.unusedSimpArgs false
set_option maxHeartbeats 4000000
end Go.Proofs.Ytehhmkdghgabaaa
namespace Go.Proofs.Ytehhmkdghgabaaa
open Go Go.RowKit Wx
set_option linter.unusedVariables false
set_option linter.unusedSimpArgs false
set_option maxHeartbeats 4000000
def okKw (x : Kc) : Prop := (Lit.int .i64 x.src).wf = true ∧ (Lit.int .i64 x.key).wf = true ∧ (Lit.int .i64 x.cnt).wf = true ∧ (Lit.int .i64 x.sum).wf = true
theorem rowKc (row : List RT) (h : RowF (.st (.cons 3 1 (.int .i64) (.cons 3 1 (.int .i64) (.cons 41 2 (.st (.cons 2 1 (.int .i64) (.cons 2 1 (.int .i64) .nil))) .nil)))) row) : ∃ x, row = eK x ∧ okKw x := by
  obtain ⟨a0, r0, rfl, _, ⟨z0, rfl, w0⟩, a1, r1, rfl, _, ⟨z1, rfl, w1⟩, a2, r2, rfl, _, ⟨a3, r3, rfl, _, ⟨z2, rfl, w2⟩, a4, r4, rfl, _, ⟨z3, rfl, w3⟩, rfl⟩, rfl⟩ := h
  exact ⟨⟨z0, z1, z2, z3⟩, rfl, w0, w1, w2, w3⟩
structure Tb where
  rows : List Kc
abbrev eTb (x : Tb) : List RT := [RT.ro 4 (x.rows.map eK)]
def okTb (x : Tb) : Prop := (x.rows.length ≤ maxLen ∧ ∀ z ∈ x.rows, okKw z) ∧ True
theorem rowTb (row : List RT) (h : RowF (.st (.cons 28 1 (.sl (.st (.cons 3 1 (.int .i64) (.cons 3 1 (.int .i64) (.cons 41 2 (.st (.cons 2 1 (.int .i64) (.cons 2 1 (.int .i64) .nil))) .nil)))) 74 4) .nil)) row) : ∃ x, row = eTb x ∧ okTb x := by
  obtain ⟨a0, r0, rfl, _, ⟨rows0, rfl, l0, h0⟩, rfl⟩ := h
  obtain ⟨z0, rfl, k0⟩ := rows_map eK (fun z => okKw z) rowKc rows0 h0
  exact ⟨⟨z0⟩, rfl, ⟨by simpa using l0, k0⟩, trivial⟩
namespace tableBack
end tableBack
end Go.Proofs.Ytehhmkdghgabaaa
namespace Go.Proofs.Ytehhmkdghgabaaa
open Go Go.RowKit Wx
set_option linter.unusedVariables false
set_option linter.unusedSimpArgs false
set_option maxHeartbeats 4000000
namespace tableWhole
theorem main (avs : List A0) (h : All2 FitA [(.st (.cons 28 1 (.sl (.st (.cons 3 1 (.int .i64) (.cons 3 1 (.int .i64) (.cons 41 2 (.st (.cons 2 1 (.int .i64) (.cons 2 1 (.int .i64) .nil))) .nil)))) 74 4) .nil)), (.int .i64)] avs) : Con Try.prog 9 avs (fun x K t => x = .val (.bool true) ∧ K = [] ∧ t = 0) := by
  obtain ⟨x0, x1, rfl, h0, h1⟩ : ∃ x0 x1, avs = [x0, x1] ∧ FitA (.st (.cons 28 1 (.sl (.st (.cons 3 1 (.int .i64) (.cons 3 1 (.int .i64) (.cons 41 2 (.st (.cons 2 1 (.int .i64) (.cons 2 1 (.int .i64) .nil))) .nil)))) 74 4) .nil)) x0 ∧ FitA (.int .i64) x1 := by
    cases avs with
    | nil => exact h.elim
    | cons x0 r => cases r with
      | nil => exact h.2.elim
      | cons x1 r => cases r with
        | nil => exact ⟨x0, x1, rfl, h.1, h.2.1⟩
        | cons => exact h.2.2.elim
  clear h
  obtain ⟨row0, hrow0, rfl⟩ := h0
  obtain ⟨x, rfl, kx⟩ := rowTb row0 hrow0
  obtain ⟨wd, rfl, wwd⟩ := fit_int h1
  exact tablewhole_con x.rows wd (by have := kx.1.1; simpa [maxLen] using this)
end tableWhole
end Go.Proofs.Ytehhmkdghgabaaa
