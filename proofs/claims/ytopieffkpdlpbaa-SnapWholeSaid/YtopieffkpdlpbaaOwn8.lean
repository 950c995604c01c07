import Derived.Test.YtopieffkpdlpbaaOwn7
import Derived.Test.YtopieffkpdlpbaaOwn6
import Derived.Test.YtopieffkpdlpbaaLib5
set_option linter.unusedVariables false
set_option linter.unusedSimpArgs false
namespace Go.Proofs.Ytopieffkpdlpbaa
open Go Go.RowKit Wx
set_option maxHeartbeats 4000000
namespace Tab
theorem rpart_con (l : List Kc) (a w : Int) (hl : l.length ≤ 1000) : Con Try.prog 51 [.agg [.ro false 4 (l.map eK)], .one (.v (.int .i64 a)), .one (.v (.int .i64 w))] (fun rx rK rt => rx = .tup [.agg [.ro true 4 ((partT l a w).1.map eK)], .one (.v (.int .i64 (partT l a w).2))] ∧ rK = [] ∧ rt = 0) := by
 refine Z.con_ofF tabOk 42 Try.f51 _ Try.func51 (by kernel_rfl) rfl rfl rfl rfl ?_
 have cc := rcheck_con l (by omega)
 have csh := rshare_con a w
 unfold partT
 cases ht : tabR l
 all_goals rw [ht] at cc
 ·simp only [if_true]
  repeat' ((conv => whnf); first
   | with_reducible first | refine spB_t ?_
   | ((with_reducible apply spB_cong); (focus (simp only [splQ, Int.reduceBEq, Int.reduceBNe, Int.reduceLE, Int.reduceLT, Int.reduceEq]; rfl)))
   | ((first | (with_reducible refine Z.callZ_mk ?_ (cc) ?_)); (focus ((repeat' (first | exact trivial | exact rfl | apply And.intro)); done)))
   | fail)
  all_goals (try (conv => whnf))
  all_goals try first | (show Nat.ble _ _ = true; rfl) | (exfalso; rename_i hz; cases hz; done) | (exfalso; (try simp only [LN] at *) <;> omega)
  all_goals first
   | ((first | (with_reducible apply Z.retF2)); (focus rfl); (repeat' (first | exact trivial | (with_reducible apply Z.frz_one) | (with_reducible apply Z.frz_agg) | (with_reducible apply Z.fq_int) | (exact Z.frz_nil) | exact rfl | apply And.intro)); (all_goals (try exact (fun _ => none))); all_goals (first | (simp; done)))
   | fail
 simp only [Bool.true_eq_false, if_false]
 by_cases hs : okS a w
 rotate_left
 ·rw [decide_eq_false hs] at csh
  rw [if_neg hs]
  repeat' ((conv => whnf); first
   | with_reducible first | refine spB_t ?_
   | ((with_reducible apply spB_cong); (focus (simp only [splQ, Int.reduceBEq, Int.reduceBNe, Int.reduceLE, Int.reduceLT, Int.reduceEq]; rfl)))
   | with_reducible first | refine spB_no (by decide) ?_
   | ((first | (with_reducible refine Z.callZ_mk ?_ (cc) ?_) | (with_reducible refine Z.callZ_mk ?_ (csh) ?_)); (focus ((repeat' (first | exact trivial | exact rfl | apply And.intro)); done)))
   | fail)
  all_goals (try (conv => whnf))
  all_goals try first | (show Nat.ble _ _ = true; rfl) | (exfalso; rename_i hz; cases hz; done) | (exfalso; (try simp only [LN] at *) <;> omega)
  all_goals first
   | ((first | (with_reducible apply Z.retF2)); (focus rfl); (repeat' (first | exact trivial | (with_reducible apply Z.frz_one) | (with_reducible apply Z.frz_agg) | (with_reducible apply Z.fq_int) | (exact Z.frz_nil) | exact rfl | apply And.intro)); (all_goals (try exact (fun _ => none))); all_goals (first | (simp; done)))
   | fail
 rw [decide_eq_true hs] at csh
 rw [if_pos hs]
 repeat' ((conv => whnf); first
  | ((with_reducible apply spB_cong); (focus (simp only [splQ, Int.reduceBEq, Int.reduceBNe, Int.reduceLE, Int.reduceLT, Int.reduceEq]; rfl)))
  | with_reducible first | refine spB_no (by decide) ?_
  | ((first | (with_reducible refine Z.callZ_mk ?_ (cc) ?_) | (with_reducible refine Z.callZ_mk ?_ (csh) ?_)); (focus ((repeat' (first | exact trivial | exact rfl | apply And.intro)); done)))
  | fail)
 all_goals (try (conv => whnf))
 all_goals try first | (show Nat.ble _ _ = true; rfl) | (exfalso; rename_i hz; cases hz; done) | (exfalso; (try simp only [LN] at *) <;> omega)
 refine Z.loopK tabOk (fun zq : Nat × List Kc => [(25, .val (.int .i64 (zq.1 : Int)))]) (fun zq : Nat × List Kc => ([(2, some (Z.Ob.b ⟨[[.gsl 3 (zq.2.map cK)]], 1, 28, true⟩)), (3, (gB 4 70 (zq.2.map cK)).map Z.Ob.b)] : Z.Kr)) (fun zq => zq.1 ≤ l.length ∧ zq.2 = partL (l.take zq.1) a w) (fun zq => l.length - zq.1) (0, []) 4 [(1, _), (2, _), (6, _), (8, _), (23, _), (24, _)] ⟨rfl, rfl, rfl, rfl, rfl, rfl, trivial⟩ [(0, some _), (1, some _)] ⟨rfl, rfl, trivial⟩ ?_ ?_ rfl rfl ⟨Nat.zero_le _, by simp [partL]⟩ ?_
 ·repeat' (first | exact trivial | apply And.intro | exact ⟨_, rfl, Z.Imp.refl _⟩)
 ·repeat' (first | exact trivial | (intro b hb; cases hb; done) | (intro b hb; cases hb; refine ⟨_, rfl, ⟨rfl, rfl, rfl⟩, ?_⟩; (repeat' (first | exact trivial | apply And.intro | exact Z.Imp.nilg _)); done) | apply And.intro)
 rintro ⟨i, acc⟩ HINV
 (try dsimp only at HINV); (try dsimp only)
 obtain ⟨HI, HA⟩ := HINV
 have hpl := @part_len (l.take i) a w
 rw [List.length_take, ← HA] at hpl
 by_cases hi2 : i < l.length
 ·obtain ⟨x, hx⟩ := getElem?_some' (xs := l) (i := i) hi2
  have hpa := part_at (i := a) (w := w) hx
  rw [← HA] at hpa
  have cm := rmine_con x.src x.key 0 a w
  cases hm : mineB x.src x.key a w
  all_goals rw [hm] at cm hpa
  all_goals simp only [cond_true, cond_false, List.append_nil] at hpa
  ·skip
   repeat' ((conv => whnf); first
    | with_reducible first | refine spB_no (by decide) ?_
    | (with_reducible refine spB_dec ?_ ?_ <;> intro _ <;> (try (exfalso; (first | (simp only [LN] at *; omega)))))
    | with_reducible first | refine Z.rowN_known hx ?_
    | ((with_reducible apply ixN_litp); (focus rfl); (focus ((try simp only [LN] at *) <;> omega)))
    | with_reducible refine wr_i64 (by first | omega | (simp only [LN] at *; omega)) ?_
    | with_reducible first | refine Z.callZ_in tabOk 8 Try.f74 _ Try.func74 (by kernel_rfl) rfl rfl rfl ?_
    | ((first | (with_reducible refine Z.callZ_mk ?_ (cm) ?_)); (focus ((repeat' (first | exact trivial | exact rfl | apply And.intro)); done)))
    | ((with_reducible apply ex_and); exact rfl)
    | fail)
   all_goals (try (conv => whnf))
   all_goals try first | (show Nat.ble _ _ = true; rfl) | (exfalso; rename_i hz; cases hz; done) | (exfalso; (try simp only [LN] at *) <;> omega)
   all_goals first
    | ((refine Z.rndK ((i + 1, acc)) (fun s => [0, 1, 2, s.idIn 2 0]) rfl rfl rfl rfl ?_ ?_ ?_ ?_); (focus (repeat' (first | exact trivial | exact rfl | apply And.intro))); (focus (repeat' (first | exact trivial | (intro b hb; cases hb; rfl) | exact Z.gB_sub rfl rfl (ren_map fun _ => rfl) | apply And.intro))); (focus (exact ⟨by (try dsimp only); omega, hpa.symm⟩)); ((try dsimp only); omega))
    | fail
  ·skip
   repeat' ((conv => whnf); first
    | with_reducible first | refine spB_t ?_
    | (with_reducible refine spB_dec ?_ ?_ <;> intro _ <;> (try (exfalso; (first | (simp only [LN] at *; omega)))))
    | with_reducible first | refine Z.rowN_known hx ?_
    | ((with_reducible refine posE_pos ?_ ?_); (focus ((try simp only [LN] at *) <;> omega)))
    | ((with_reducible apply ixN_litp); (focus rfl); (focus ((try simp only [LN] at *) <;> omega)))
    | ((with_reducible refine apdN.mk ?_ ?_ ?_ ?_ ?_ ?_); (focus (first | rfl)); (focus (first | exact one_all (by rfl))); (focus ((try simp only [LN] at *) <;> omega)); (focus ((try simp only [LN] at *) <;> omega)); (focus ((try simp only [LN] at *) <;> omega)))
    | with_reducible refine wr_i64 (by first | omega | (simp only [LN] at *; omega)) ?_
    | with_reducible first | refine Z.callZ_in tabOk 8 Try.f74 _ Try.func74 (by kernel_rfl) rfl rfl rfl ?_
    | ((first | (with_reducible refine Z.callZ_mk ?_ (cm) ?_)); (focus ((repeat' (first | exact trivial | exact rfl | apply And.intro)); done)))
    | ((with_reducible refine eqN_mk2 ?_ ?_); (focus (exact Z.kb_some rfl)))
    | ((with_reducible apply ex_and); exact rfl)
    | fail)
   all_goals (try (conv => whnf))
   all_goals try first | (show Nat.ble _ _ = true; rfl) | (exfalso; rename_i hz; cases hz; done) | (exfalso; (try simp only [LN] at *) <;> omega)
   all_goals first
    | ((refine Z.rndK ((i + 1, acc ++ [x])) (fun s => [0, 1, 2, s.idIn 2 0]) rfl rfl rfl rfl ?_ ?_ ?_ ?_); (focus (repeat' (first | exact trivial | exact rfl | apply And.intro))); (focus (repeat' (first | exact trivial | (intro b hb; cases hb; rfl) | (intro b hb; cases hb; rw [List.map_append (f := cK)]; rfl) | exact Z.gB_sub' rfl (by first | rfl | (rw [List.map_append]; rfl) | simp only [List.map_append, List.map_cons, List.map_nil]) (ren_map fun _ => rfl) | apply And.intro))); (focus (exact ⟨by (try dsimp only); omega, hpa.symm⟩)); ((try dsimp only); omega))
    | fail
 have hil : i = l.length := by omega
 subst hil
 rw [List.take_length] at HA
 subst HA
 repeat' ((conv => whnf); first
  | (with_reducible refine spB_dec ?_ ?_ <;> intro _ <;> (try (exfalso; (first | (rename_i hz; simp at hz; done)))))
  | fail)
 all_goals (try (conv => whnf))
 all_goals try first | (show Nat.ble _ _ = true; rfl) | (exfalso; rename_i hz; cases hz; done) | (exfalso; (try simp only [LN] at *) <;> omega)
 all_goals first
  | ((first | (with_reducible apply Z.retF2)); (focus rfl); (repeat' (first | exact trivial | (with_reducible apply Z.frz_one) | (with_reducible apply Z.frz_agg) | (with_reducible apply Z.fq_int) | ((with_reducible apply Z.fq_gsl); (focus (first | exact Z.isB_map _)); (focus (exact fun _ => rfl))) | exact rfl | apply And.intro)); (all_goals (try exact (fun _ => none))); all_goals (first | (simp; done)))
  | fail
end Tab
end Go.Proofs.Ytopieffkpdlpbaa
namespace Go.Proofs.Ytopieffkpdlpbaa
open Go Go.RowKit Wx
set_option maxHeartbeats 4000000
namespace Tab
theorem inL_snocK {r : List Nat} {o : List Kc} {y : Kc} {S : List (List Ce)} {sz : Nat} {ty : TypeId} {bx : Bool} (hS : S = [cK y]) : (Z.Ob.b ⟨o.map cK ++ S, sz, ty, bx⟩).inL r = true := by
 subst hS
 rw [show o.map cK ++ [cK y] = (o ++ [y]).map cK by simp]
 exact Z.inL_map (f := cK) fun _ => rfl
theorem rput_con (l : List Kc) (s k v : Int) (c : Int × Int) (hl : l.length ≤ 1000000) : Con Try.prog 84 [.agg [.ro false 4 (l.map eK)], .agg [.v (.int .i64 s), .v (.int .i64 k), .v (.int .i64 v)], .agg [.v (.int .i64 c.1), .v (.int .i64 c.2)]] (fun rx rK rt => rx = .pl (.agg [.ro true 4 ((putD l s k c).map eK)]) ∧ rK = [] ∧ rt = 0) := by
 refine Z.con_ofF tabOk 64 Try.f84 _ Try.func84 (by kernel_rfl) rfl rfl rfl rfl ?_
 have hc0 : (decide (c.1 = 0) && decide (c.2 = 0)) = decide (c = (0, 0)) := by
  by_cases h1 : c.1 = 0 <;> by_cases h2 : c.2 = 0 <;> simp [h1, h2, Prod.ext_iff]
 have hc1 : (c.1 == 0 && (c.2 == 0 && true)) = decide (c = (0, 0)) := by rw [← hc0, Bool.and_true]; rfl
 repeat' ((conv => whnf); first
  | with_reducible first | refine spB_t ?_
  | fail)
 all_goals (try (conv => whnf))
 all_goals try first | (show Nat.ble _ _ = true; rfl) | (exfalso; rename_i hz; cases hz; done) | (exfalso; (try simp only [LN] at *) <;> omega)
 have hcI : Z.ImpV (AV.val (Value.bool (c.1 == 0 && (c.2 == 0 && true)))) (AV.val (Value.bool (decide (c = (0, 0))))) := by rw [hc1]; exact Z.ImpV.refl _
 refine Z.loopK tabOk (fun zq : Nat × List Kc × Bool => [(24, .val (.int .i64 (zq.1 : Int))), (8, .val (.bool zq.2.2))]) (fun zq : Nat × List Kc × Bool => ([(1, some (Z.Ob.b ⟨[[.v (.int .i64 s), .v (.int .i64 k), .v (.int .i64 v)]], 3, 61, true⟩)), (3, some (Z.Ob.b ⟨[[.v (.slice none 0 0)]], 1, 28, true⟩)), (4, some (Z.Ob.b ⟨[[.gsl 6 (zq.2.1.map cK)]], 1, 28, true⟩)), (5, some (Z.Ob.b ⟨[[.v (.int .i64 s), .v (.int .i64 k), .v (.int .i64 c.1), .v (.int .i64 c.2)]], 4, 70, true⟩)), (6, (gB 4 70 (zq.2.1.map cK)).map Z.Ob.b)] : Z.Kr)) (fun zq => zq.1 ≤ l.length ∧ (l.take zq.1).foldl (putS s k c) ([], decide (c = (0, 0))) = (zq.2.1, zq.2.2) ∧ zq.2.1.length ≤ 2 * zq.1) (fun zq => l.length - zq.1) (0, [], decide (c = (0, 0))) 7 [(4, _), (6, _), (7, _), (9, _), (22, _), (23, _)] ⟨rfl, rfl, rfl, rfl, rfl, rfl, trivial⟩ [] trivial ?_ ?_ rfl rfl ⟨Nat.zero_le _, rfl, Nat.zero_le _⟩ ?_
 ·repeat' (first | exact trivial | apply And.intro | exact ⟨_, rfl, Z.Imp.refl _⟩ | exact ⟨_, rfl, hcI⟩)
 ·repeat' (first | exact trivial | (intro b hb; cases hb; done) | exact (fun b hb => ⟨b, hb, Z.ImpO.refl b⟩) | (intro b hb; cases hb; refine ⟨_, rfl, ⟨rfl, rfl, rfl⟩, ?_⟩; (repeat' (first | exact trivial | apply And.intro | exact Z.Imp.nilg _)); done) | apply And.intro)
 rintro ⟨i, o, d⟩ HINV
 (try dsimp only at HINV); (try dsimp only)
 obtain ⟨HI, HF, HO⟩ := HINV
 by_cases hi : i < l.length
 ·obtain ⟨x, hx⟩ := getElem?_some' (xs := l) (i := i) hi
  have hs := putS_at hx HF
  have cc := rcompare_con x.src x.key 0 s k v
  have hcl := @cmp_lt x.src x.key s k
  have hce := cmp_eq x.src x.key s k
  generalize cmpR x.src x.key s k = C at *
  rcases @kLt_tri x.src x.key s k with h1 | ⟨h1, h2⟩ | h1
  ·skip
   have e2 : gtK s k x = false := decide_eq_false (by first | exact h1 | exact kLt_asym h1 | (rw [h1, h2]; exact kLt_irr))
   have e3 : eqK s k x = false := decide_eq_false fun e => by rw [e.1, e.2] at h1; exact kLt_irr h1
   have hne : ¬ (x.src = s ∧ x.key = k) := fun e => by rw [e.1, e.2] at h1; exact kLt_irr h1
   rw [decide_eq_true h1] at hcl
   have hC : ¬ 0 ≤ C := of_decide_eq_false (by simpa using hcl)
   cases d
   ·have hp : putS s k c (o, false) x = (o ++ [x], false) := by unfold putS; simp [e2, e3]
    have hs2 := hs.trans hp
    repeat' ((conv => whnf); first
     | with_reducible first | refine spB_t ?_
     | ((with_reducible apply spB_cong); (focus (simp only [splQ, Int.reduceBEq, Int.reduceBNe, Int.reduceLE, Int.reduceLT, Int.reduceEq]; rfl)))
     | (with_reducible refine spB_dec ?_ ?_ <;> intro _ <;> (try (exfalso; (first | omega | (simp only [LN] at *; omega)))))
     | (with_reducible refine spB_bne ?_ ?_ <;> intro _ <;> (try (exfalso; (first | omega))))
     | with_reducible first | refine Z.rowN_known hx ?_
     | ((with_reducible refine posE_pos ?_ ?_); (focus ((try simp only [LN] at *) <;> omega)))
     | ((with_reducible apply ixN_litp); (focus rfl); (focus ((try simp only [LN] at *) <;> omega)))
     | ((with_reducible refine apdN.mk ?_ ?_ ?_ ?_ ?_ ?_); (focus (first | rfl)); (focus (first | exact one_all (by rfl))); (focus ((try simp only [LN] at *) <;> omega)); (focus ((try simp only [LN] at *) <;> omega)); (focus ((try simp only [LN] at *) <;> omega)))
     | with_reducible refine wr_i64 (by first | omega | (simp only [LN] at *; omega)) ?_
     | with_reducible first | refine Z.callZ_in tabOk 8 Try.f74 _ Try.func74 (by kernel_rfl) rfl rfl rfl ?_
     | ((first | (with_reducible refine Z.conZ_mz ?_ (cc) ?_)); (focus ((repeat' (first | exact trivial | exact rfl | apply And.intro)); done)))
     | ((with_reducible refine eqN_mk2 ?_ ?_); (focus (exact Z.kb_some rfl)))
     | ((with_reducible apply ex_and); exact rfl)
     | with_reducible first | refine Z.drawZ_rule tabOk mixOk ?_ | refine Z.apZ_mk (by kernel_rfl) ?_
     | ((with_reducible refine Z.ConZ.red ?_); (try subst hlb); (apply Z.conZ_all); (focus (repeat (first | exact Z.FK.nil | (apply Z.FK.keep; exact rfl)))); (focus rfl); (focus rfl); (focus (repeat (first | exact trivial | (refine ⟨(fun o ho => (by first | (cases ho; rfl) | (cases ho; exact Z.inL_map fun _ => rfl) | (cases ho; exact Z.inL_mapr fun _ => rfl) | exact Z.inL_gB ho fun _ => rfl)), ?_⟩)))))
     | ((refine ⟨rfl, ?_, rfl⟩); (focus (repeat (first | exact Z.DK.nil | apply Z.DK.cons))))
     | fail)
    all_goals (try (conv => whnf))
    all_goals try first | (show Nat.ble _ _ = true; rfl) | (exfalso; rename_i hz; cases hz; done) | (exfalso; (try simp only [LN] at *) <;> omega)
    all_goals first
     | ((refine Z.rndK ((i + 1, o ++ [x], false)) (fun s => [0, 1, 2, 3, 4, 5, s.idIn 4 0]) rfl rfl rfl rfl ?_ ?_ ?_ ?_); (focus (repeat' (first | exact trivial | exact rfl | apply And.intro))); (focus (repeat' (first | exact trivial | (intro b hb; cases hb; rfl) | (intro b hb; cases hb; rw [List.map_append]; rfl) | exact Z.gB_sub' rfl (by first | rfl | (rw [List.map_append]; rfl) | simp only [List.map_append, List.map_cons, List.map_nil]) (ren_map fun _ => rfl) | apply And.intro))); (focus (exact ⟨by (try dsimp only); omega, hs2, by (try dsimp only); (try simp only [List.length_append, List.length_cons, List.length_nil]); omega⟩)); ((try dsimp only); omega))
     | fail
   ·have hp : putS s k c (o, true) x = (o ++ [x], true) := by unfold putS; simp [e2, e3]
    have hs2 := hs.trans hp
    repeat' ((conv => whnf); first
     | ((with_reducible apply spB_cong); (focus (simp only [splQ, Int.reduceBEq, Int.reduceBNe, Int.reduceLE, Int.reduceLT, Int.reduceEq]; rfl)))
     | with_reducible first | refine spB_no (by decide) ?_
     | (with_reducible refine spB_dec ?_ ?_ <;> intro _ <;> (try (exfalso; (first | (simp only [LN] at *; omega)))))
     | (with_reducible refine spB_bne ?_ ?_ <;> intro _ <;> (try (exfalso; (first | omega))))
     | with_reducible first | refine Z.rowN_known hx ?_
     | ((with_reducible refine posE_pos ?_ ?_); (focus ((try simp only [LN] at *) <;> omega)))
     | ((with_reducible apply ixN_litp); (focus rfl); (focus ((try simp only [LN] at *) <;> omega)))
     | ((with_reducible refine apdN.mk ?_ ?_ ?_ ?_ ?_ ?_); (focus (first | rfl)); (focus (first | exact one_all (by rfl))); (focus ((try simp only [LN] at *) <;> omega)); (focus ((try simp only [LN] at *) <;> omega)); (focus ((try simp only [LN] at *) <;> omega)))
     | with_reducible refine wr_i64 (by first | omega | (simp only [LN] at *; omega)) ?_
     | with_reducible first | refine Z.callZ_in tabOk 8 Try.f74 _ Try.func74 (by kernel_rfl) rfl rfl rfl ?_
     | ((first | (with_reducible refine Z.conZ_mz ?_ (cc) ?_)); (focus ((repeat' (first | exact trivial | exact rfl | apply And.intro)); done)))
     | ((with_reducible refine eqN_mk2 ?_ ?_); (focus (exact Z.kb_some rfl)))
     | ((with_reducible apply ex_and); exact rfl)
     | with_reducible first | refine Z.drawZ_rule tabOk mixOk ?_ | refine Z.apZ_mk (by kernel_rfl) ?_
     | ((with_reducible refine Z.ConZ.red ?_); (try subst hlb); (apply Z.conZ_all); (focus (repeat (first | exact Z.FK.nil | (apply Z.FK.keep; exact rfl)))); (focus rfl); (focus rfl); (focus (repeat (first | exact trivial | (refine ⟨(fun o ho => (by first | (cases ho; rfl) | (cases ho; exact Z.inL_map fun _ => rfl) | (cases ho; exact Z.inL_mapr fun _ => rfl) | exact Z.inL_gB ho fun _ => rfl)), ?_⟩)))))
     | ((refine ⟨rfl, ?_, rfl⟩); (focus (repeat (first | exact Z.DK.nil | apply Z.DK.cons))))
     | fail)
    all_goals (try (conv => whnf))
    all_goals try first | (show Nat.ble _ _ = true; rfl) | (exfalso; rename_i hz; cases hz; done) | (exfalso; (try simp only [LN] at *) <;> omega)
    all_goals first
     | ((refine Z.rndK ((i + 1, o ++ [x], true)) (fun s => [0, 1, 2, 3, 4, 5, s.idIn 4 0]) rfl rfl rfl rfl ?_ ?_ ?_ ?_); (focus (repeat' (first | exact trivial | exact rfl | apply And.intro))); (focus (repeat' (first | exact trivial | (intro b hb; cases hb; rfl) | (intro b hb; cases hb; rw [List.map_append]; rfl) | exact Z.gB_sub' rfl (by first | rfl | (rw [List.map_append]; rfl) | simp only [List.map_append, List.map_cons, List.map_nil]) (ren_map fun _ => rfl) | apply And.intro))); (focus (exact ⟨by (try dsimp only); omega, hs2, by (try dsimp only); (try simp only [List.length_append, List.length_cons, List.length_nil]); omega⟩)); ((try dsimp only); omega))
     | fail
  ·skip
   have e2 : gtK s k x = false := decide_eq_false (by first | exact h1 | exact kLt_asym h1 | (rw [h1, h2]; exact kLt_irr))
   have e3 : eqK s k x = true := decide_eq_true ⟨h1, h2⟩
   have hC : C = 0 := by rw [h1, h2] at hce; simpa using hce
   subst hC
   cases d
   ·have hp : putS s k c (o, false) x = (o, false) := by unfold putS; simp [e2, e3]
    have hs2 := hs.trans hp
    repeat' ((conv => whnf); first
     | with_reducible first | refine spB_t ?_
     | ((with_reducible apply spB_cong); (focus (simp only [splQ, Int.reduceBEq, Int.reduceBNe, Int.reduceLE, Int.reduceLT, Int.reduceEq]; rfl)))
     | with_reducible first | refine spB_no (by decide) ?_
     | (with_reducible refine spB_dec ?_ ?_ <;> intro _ <;> (try (exfalso; (first | (simp only [LN] at *; omega)))))
     | with_reducible first | refine Z.rowN_known hx ?_
     | ((with_reducible apply ixN_litp); (focus rfl); (focus ((try simp only [LN] at *) <;> omega)))
     | with_reducible refine wr_i64 (by first | omega | (simp only [LN] at *; omega)) ?_
     | with_reducible first | refine Z.callZ_in tabOk 8 Try.f74 _ Try.func74 (by kernel_rfl) rfl rfl rfl ?_
     | ((first | (with_reducible refine Z.conZ_mz ?_ (cc) ?_)); (focus ((repeat' (first | exact trivial | exact rfl | apply And.intro)); done)))
     | ((with_reducible apply ex_and); exact rfl)
     | with_reducible first | refine Z.drawZ_rule tabOk mixOk ?_ | refine Z.apZ_mk (by kernel_rfl) ?_
     | ((with_reducible refine Z.ConZ.red ?_); (try subst hlb); (apply Z.conZ_all); (focus (repeat (first | exact Z.FK.nil | (apply Z.FK.keep; exact rfl)))); (focus rfl); (focus rfl); (focus (repeat (first | exact trivial | (refine ⟨(fun o ho => (by first | (cases ho; rfl) | (cases ho; exact Z.inL_map fun _ => rfl) | (cases ho; exact Z.inL_mapr fun _ => rfl) | exact Z.inL_gB ho fun _ => rfl)), ?_⟩)))))
     | ((refine ⟨rfl, ?_, rfl⟩); (focus (repeat (first | exact Z.DK.nil | apply Z.DK.cons))))
     | fail)
    all_goals (try (conv => whnf))
    all_goals try first | (show Nat.ble _ _ = true; rfl) | (exfalso; rename_i hz; cases hz; done) | (exfalso; (try simp only [LN] at *) <;> omega)
    all_goals first
     | ((refine Z.rndK ((i + 1, o, false)) (fun s => [0, 1, 2, 3, 4, 5, s.idIn 4 0]) rfl rfl rfl rfl ?_ ?_ ?_ ?_); (focus (repeat' (first | exact trivial | exact rfl | apply And.intro))); (focus (repeat' (first | exact trivial | (intro b hb; cases hb; rfl) | exact Z.gB_sub rfl rfl (ren_map fun _ => rfl) | apply And.intro))); (focus (exact ⟨by (try dsimp only); omega, hs2, by (try dsimp only); (try simp only [List.length_append, List.length_cons, List.length_nil]); omega⟩)); ((try dsimp only); omega))
     | fail
   ·have hp : putS s k c (o, true) x = (o, true) := by unfold putS; simp [e2, e3]
    have hs2 := hs.trans hp
    repeat' ((conv => whnf); first
     | ((with_reducible apply spB_cong); (focus (simp only [splQ, Int.reduceBEq, Int.reduceBNe, Int.reduceLE, Int.reduceLT, Int.reduceEq]; rfl)))
     | with_reducible first | refine spB_no (by decide) ?_
     | (with_reducible refine spB_dec ?_ ?_ <;> intro _ <;> (try (exfalso; (first | (simp only [LN] at *; omega)))))
     | with_reducible first | refine Z.rowN_known hx ?_
     | ((with_reducible apply ixN_litp); (focus rfl); (focus ((try simp only [LN] at *) <;> omega)))
     | with_reducible refine wr_i64 (by first | omega | (simp only [LN] at *; omega)) ?_
     | with_reducible first | refine Z.callZ_in tabOk 8 Try.f74 _ Try.func74 (by kernel_rfl) rfl rfl rfl ?_
     | ((first | (with_reducible refine Z.conZ_mz ?_ (cc) ?_)); (focus ((repeat' (first | exact trivial | exact rfl | apply And.intro)); done)))
     | ((with_reducible apply ex_and); exact rfl)
     | with_reducible first | refine Z.drawZ_rule tabOk mixOk ?_ | refine Z.apZ_mk (by kernel_rfl) ?_
     | ((with_reducible refine Z.ConZ.red ?_); (try subst hlb); (apply Z.conZ_all); (focus (repeat (first | exact Z.FK.nil | (apply Z.FK.keep; exact rfl)))); (focus rfl); (focus rfl); (focus (repeat (first | exact trivial | (refine ⟨(fun o ho => (by first | (cases ho; rfl) | (cases ho; exact Z.inL_map fun _ => rfl) | (cases ho; exact Z.inL_mapr fun _ => rfl) | exact Z.inL_gB ho fun _ => rfl)), ?_⟩)))))
     | ((refine ⟨rfl, ?_, rfl⟩); (focus (repeat (first | exact Z.DK.nil | apply Z.DK.cons))))
     | fail)
    all_goals (try (conv => whnf))
    all_goals try first | (show Nat.ble _ _ = true; rfl) | (exfalso; rename_i hz; cases hz; done) | (exfalso; (try simp only [LN] at *) <;> omega)
    all_goals first
     | ((refine Z.rndK ((i + 1, o, true)) (fun s => [0, 1, 2, 3, 4, 5, s.idIn 4 0]) rfl rfl rfl rfl ?_ ?_ ?_ ?_); (focus (repeat' (first | exact trivial | exact rfl | apply And.intro))); (focus (repeat' (first | exact trivial | (intro b hb; cases hb; rfl) | exact Z.gB_sub rfl rfl (ren_map fun _ => rfl) | apply And.intro))); (focus (exact ⟨by (try dsimp only); omega, hs2, by (try dsimp only); (try simp only [List.length_append, List.length_cons, List.length_nil]); omega⟩)); ((try dsimp only); omega))
     | fail
  ·skip
   have e2 : gtK s k x = true := decide_eq_true (by first | exact h1 | exact kLt_asym h1 | (rw [h1, h2]; exact kLt_irr))
   have e3 : eqK s k x = false := decide_eq_false fun e => by rw [e.1, e.2] at h1; exact kLt_irr h1
   have hne : ¬ (x.src = s ∧ x.key = k) := fun e => by rw [e.1, e.2] at h1; exact kLt_irr h1
   rw [decide_eq_false (kLt_asym h1)] at hcl
   have hC0 : 0 ≤ C := of_decide_eq_true (by simpa using hcl)
   have hC1 : C ≠ 0 := fun e => by rw [e] at hce; simp at hce; exact hne hce
   have hC : 0 < C := by omega
   cases d
   ·have hp : putS s k c (o, false) x = (o ++ [(⟨s, k, c.1, c.2⟩ : Kc)] ++ [x], true) := by unfold putS; simp [e2, e3]
    have hs2 := hs.trans hp
    repeat' ((conv => whnf); first
     | with_reducible first | refine spB_t ?_
     | ((with_reducible apply spB_cong); (focus (simp only [splQ, Int.reduceBEq, Int.reduceBNe, Int.reduceLE, Int.reduceLT, Int.reduceEq]; rfl)))
     | (with_reducible refine spB_dec ?_ ?_ <;> intro _ <;> (try (exfalso; (first | contradiction | (simp only [LN] at *; omega)))))
     | (with_reducible refine spB_bne ?_ ?_ <;> intro _ <;> (try (exfalso; (first | contradiction))))
     | ((refine ⟨(fun o ho => (by cases ho)), ?_⟩); (refine ⟨(fun o9 ho => (by cases ho; exact inL_snocK (y := ⟨s, k, c.1, c.2⟩) rfl)), ?_⟩); (repeat (first | exact trivial | (refine ⟨(fun o ho => (by first | (cases ho; rfl) | (cases ho; exact Z.inL_map fun _ => rfl) | (cases ho; exact Z.inL_mapr fun _ => rfl) | exact Z.inL_gB ho fun _ => rfl)), ?_⟩))))
     | ((with_reducible refine eqN_mk2 ?_ ?_); (focus (first | exact Z.gB_snoc.symm)))
     | with_reducible first | refine Z.rowN_known hx ?_
     | ((with_reducible refine posE_pos ?_ ?_); (focus ((try simp only [LN] at *) <;> omega)))
     | ((with_reducible apply ixN_litp); (focus rfl); (focus ((try simp only [LN] at *) <;> omega)))
     | ((with_reducible refine apdN.mk ?_ ?_ ?_ ?_ ?_ ?_); (focus (first | rfl)); (focus (first | exact one_all (by rfl))); (focus ((try simp only [LN] at *) <;> omega)); (focus ((try simp only [LN] at *) <;> omega)); (focus ((try simp only [LN] at *) <;> omega)))
     | with_reducible refine wr_i64 (by first | omega | (simp only [LN] at *; omega)) ?_
     | with_reducible first | refine Z.callZ_in tabOk 8 Try.f74 _ Try.func74 (by kernel_rfl) rfl rfl rfl ?_
     | ((first | (with_reducible refine Z.conZ_mz ?_ (cc) ?_)); (focus ((repeat' (first | exact trivial | exact rfl | apply And.intro)); done)))
     | ((with_reducible refine eqN_mk2 ?_ ?_); (focus (exact Z.kb_some rfl)))
     | ((with_reducible apply ex_and); exact rfl)
     | with_reducible first | refine Z.drawZ_rule tabOk mixOk ?_ | refine Z.apZ_mk (by kernel_rfl) ?_
     | ((with_reducible refine Z.ConZ.red ?_); (try subst hlb); (apply Z.conZ_all); (focus (repeat (first | exact Z.FK.nil | (apply Z.FK.keep; exact rfl)))); (focus rfl); (focus rfl); (focus (repeat (first | exact trivial | (refine ⟨(fun o ho => (by first | (cases ho; rfl) | (cases ho; exact Z.inL_map fun _ => rfl) | (cases ho; exact Z.inL_mapr fun _ => rfl) | exact Z.inL_gB ho fun _ => rfl)), ?_⟩)))))
     | ((refine ⟨rfl, ?_, rfl⟩); (focus (repeat (first | exact Z.DK.nil | apply Z.DK.cons))))
     | fail)
    all_goals (try (conv => whnf))
    all_goals try first | (show Nat.ble _ _ = true; rfl) | (exfalso; rename_i hz; cases hz; done) | (exfalso; (try simp only [LN] at *) <;> omega)
    all_goals first
     | ((refine Z.rndK ((i + 1, o ++ [(⟨s, k, c.1, c.2⟩ : Kc)] ++ [x], true)) (fun s => [0, 1, 2, 3, 4, 5, s.idIn 4 0]) rfl rfl rfl rfl ?_ ?_ ?_ ?_); (focus (repeat' (first | exact trivial | exact rfl | apply And.intro))); (focus (repeat' (first | exact trivial | (intro b hb; cases hb; rw [List.map_append, List.map_append]; rfl) | exact Z.gB_sub' rfl (by rw [List.map_append, List.map_append]; rfl) (ren_map fun _ => rfl) | (intro b hb; cases hb; rfl) | apply And.intro))); (focus (exact ⟨by (try dsimp only); omega, hs2, by (try dsimp only); (try simp only [List.length_append, List.length_cons, List.length_nil]); omega⟩)); ((try dsimp only); omega))
     | fail
   ·have hp : putS s k c (o, true) x = (o ++ [x], true) := by unfold putS; simp [e2, e3]
    have hs2 := hs.trans hp
    repeat' ((conv => whnf); first
     | ((with_reducible apply spB_cong); (focus (simp only [splQ, Int.reduceBEq, Int.reduceBNe, Int.reduceLE, Int.reduceLT, Int.reduceEq]; rfl)))
     | with_reducible first | refine spB_no (by decide) ?_
     | (with_reducible refine spB_dec ?_ ?_ <;> intro _ <;> (try (exfalso; (first | (simp only [LN] at *; omega)))))
     | (with_reducible refine spB_bne ?_ ?_ <;> intro _ <;> (try (exfalso; (first | contradiction))))
     | with_reducible first | refine Z.rowN_known hx ?_
     | ((with_reducible refine posE_pos ?_ ?_); (focus ((try simp only [LN] at *) <;> omega)))
     | ((with_reducible apply ixN_litp); (focus rfl); (focus ((try simp only [LN] at *) <;> omega)))
     | ((with_reducible refine apdN.mk ?_ ?_ ?_ ?_ ?_ ?_); (focus (first | rfl)); (focus (first | exact one_all (by rfl))); (focus ((try simp only [LN] at *) <;> omega)); (focus ((try simp only [LN] at *) <;> omega)); (focus ((try simp only [LN] at *) <;> omega)))
     | with_reducible refine wr_i64 (by first | omega | (simp only [LN] at *; omega)) ?_
     | with_reducible first | refine Z.callZ_in tabOk 8 Try.f74 _ Try.func74 (by kernel_rfl) rfl rfl rfl ?_
     | ((first | (with_reducible refine Z.conZ_mz ?_ (cc) ?_)); (focus ((repeat' (first | exact trivial | exact rfl | apply And.intro)); done)))
     | ((with_reducible refine eqN_mk2 ?_ ?_); (focus (exact Z.kb_some rfl)))
     | ((with_reducible apply ex_and); exact rfl)
     | with_reducible first | refine Z.drawZ_rule tabOk mixOk ?_ | refine Z.apZ_mk (by kernel_rfl) ?_
     | ((with_reducible refine Z.ConZ.red ?_); (try subst hlb); (apply Z.conZ_all); (focus (repeat (first | exact Z.FK.nil | (apply Z.FK.keep; exact rfl)))); (focus rfl); (focus rfl); (focus (repeat (first | exact trivial | (refine ⟨(fun o ho => (by first | (cases ho; rfl) | (cases ho; exact Z.inL_map fun _ => rfl) | (cases ho; exact Z.inL_mapr fun _ => rfl) | exact Z.inL_gB ho fun _ => rfl)), ?_⟩)))))
     | ((refine ⟨rfl, ?_, rfl⟩); (focus (repeat (first | exact Z.DK.nil | apply Z.DK.cons))))
     | fail)
    all_goals (try (conv => whnf))
    all_goals try first | (show Nat.ble _ _ = true; rfl) | (exfalso; rename_i hz; cases hz; done) | (exfalso; (try simp only [LN] at *) <;> omega)
    all_goals first
     | ((refine Z.rndK ((i + 1, o ++ [x], true)) (fun s => [0, 1, 2, 3, 4, 5, s.idIn 4 0]) rfl rfl rfl rfl ?_ ?_ ?_ ?_); (focus (repeat' (first | exact trivial | exact rfl | apply And.intro))); (focus (repeat' (first | exact trivial | (intro b hb; cases hb; rfl) | (intro b hb; cases hb; rw [List.map_append]; rfl) | exact Z.gB_sub' rfl (by first | rfl | (rw [List.map_append]; rfl) | simp only [List.map_append, List.map_cons, List.map_nil]) (ren_map fun _ => rfl) | apply And.intro))); (focus (exact ⟨by (try dsimp only); omega, hs2, by (try dsimp only); (try simp only [List.length_append, List.length_cons, List.length_nil]); omega⟩)); ((try dsimp only); omega))
     | fail
 have hil : i = l.length := by omega
 subst hil
 rw [List.take_length] at HF
 have hpd : putD l s k c = o ++ (if d = false then [⟨s, k, c.1, c.2⟩] else []) := by unfold putD; rw [HF]
 rw [hpd]
 cases d
 all_goals simp only [if_true, if_false, Bool.true_eq_false, List.append_nil, reduceCtorEq]
 all_goals (
  repeat' ((conv => whnf); first
   | with_reducible first | refine spB_t ?_
   | ((with_reducible apply spB_cong); (focus (simp only [splQ, Int.reduceBEq, Int.reduceBNe, Int.reduceLE, Int.reduceLT, Int.reduceEq]; rfl)))
   | with_reducible first | refine spB_no (by decide) ?_
   | (with_reducible refine spB_dec ?_ ?_ <;> intro _ <;> (try (exfalso; (first | (rename_i hz; simp at hz; done)))))
   | ((with_reducible refine posE_pos ?_ ?_); (focus ((try simp only [LN] at *) <;> omega)))
   | ((with_reducible refine apdN.mk ?_ ?_ ?_ ?_ ?_ ?_); (focus (first | rfl)); (focus (first | exact one_all (by rfl))); (focus ((try simp only [LN] at *) <;> omega)); (focus ((try simp only [LN] at *) <;> omega)); (focus ((try simp only [LN] at *) <;> omega)))
   | ((with_reducible refine eqN_mk2 ?_ ?_); (focus (exact Z.kb_some rfl)))
   | fail)
  all_goals (try (conv => whnf)))
 all_goals try first | (show Nat.ble _ _ = true; rfl) | (exfalso; rename_i hz; cases hz; done) | (exfalso; (try simp only [LN] at *) <;> omega)
 all_goals first
  | ((first | (with_reducible apply Z.retF1)); (focus rfl); (repeat' (first | exact trivial | (with_reducible apply Z.frz_agg) | ((with_reducible apply Z.fq_gsl); (focus (first | exact Z.isB_map _)); (focus (exact fun _ => rfl))) | exact rfl | apply And.intro)); (all_goals (try exact (fun _ => none))); all_goals (first | (simp; done)))
  | (refine Z.retF1 [.agg [.gsl 8 (o.map cK ++ [cK ⟨s, k, c.1, c.2⟩])]] rfl ⟨⟨⟨4, 70, (o ++ [(⟨s, k, c.1, c.2⟩ : Kc)]).map eK, rfl, Z.gB_snoc.symm, ?_⟩, trivial⟩, trivial⟩; rw [show o.map cK ++ [cK ⟨s, k, c.1, c.2⟩] = (o ++ [(⟨s, k, c.1, c.2⟩ : Kc)]).map cK by simp, List.map_map, List.map_map]; rfl)
  | fail
end Tab
end Go.Proofs.Ytopieffkpdlpbaa
namespace Go.Proofs.Ytopieffkpdlpbaa
open Go Go.RowKit Wx
set_option maxHeartbeats 4000000
namespace Tab
theorem rjoin_con (a b : List Kc) (hla : a.length ≤ 1000) (hlb : b.length ≤ 1000) : Con Try.prog 45 [.agg [.ro false 4 (a.map eK)], .agg [.ro false 4 (b.map eK)]] (fun rx rK rt => rx = .tup [.agg [.ro true 4 ((joinT a b).1.map eK)], .one (.v (.int .i64 (joinT a b).2))] ∧ rK = [] ∧ rt = 0) := by
 refine Z.con_ofF tabOk 42 Try.f45 _ Try.func45 (by kernel_rfl) rfl rfl rfl rfl ?_
 have ca := rcheck_con a (by omega)
 have cb := rcheck_con b (by omega)
 have ccp := copyk_con a (by omega)
 unfold joinT
 cases ha : tabR a
 all_goals rw [ha] at ca
 ·rw [if_pos (.inl rfl)]
  repeat' ((conv => whnf); first
   | with_reducible first | refine spB_t ?_
   | ((with_reducible apply spB_cong); (focus (simp only [splQ, Int.reduceBEq, Int.reduceBNe, Int.reduceLE, Int.reduceLT, Int.reduceEq]; rfl)))
   | ((first | (with_reducible refine Z.callZ_mk ?_ (ca) ?_)); (focus ((repeat' (first | exact trivial | exact rfl | apply And.intro)); done)))
   | fail)
  all_goals (try (conv => whnf))
  all_goals try first | (show Nat.ble _ _ = true; rfl) | (exfalso; rename_i hz; cases hz; done) | (exfalso; (try simp only [LN] at *) <;> omega)
  all_goals first
   | ((first | (with_reducible apply Z.retF2)); (focus rfl); (repeat' (first | exact trivial | (with_reducible apply Z.frz_one) | (with_reducible apply Z.frz_agg) | (with_reducible apply Z.fq_int) | (exact Z.frz_nil) | exact rfl | apply And.intro)); (all_goals (try exact (fun _ => none))); all_goals (first | (simp; done)))
   | fail
 cases hb : tabR b
 all_goals rw [hb] at cb
 ·rw [if_pos (.inr rfl)]
  repeat' ((conv => whnf); first
   | with_reducible first | refine spB_t ?_
   | ((with_reducible apply spB_cong); (focus (simp only [splQ, Int.reduceBEq, Int.reduceBNe, Int.reduceLE, Int.reduceLT, Int.reduceEq]; rfl)))
   | with_reducible first | refine spB_no (by decide) ?_
   | ((first | (with_reducible refine Z.callZ_mk ?_ (ca) ?_)); (focus ((repeat' (first | exact trivial | exact rfl | apply And.intro)); done)))
   | ((first | (with_reducible refine Z.callZ_mk ?_ (cb) ?_)); (focus ((repeat' (first | exact trivial | exact rfl | apply And.intro)); done)))
   | fail)
  all_goals (try (conv => whnf))
  all_goals try first | (show Nat.ble _ _ = true; rfl) | (exfalso; rename_i hz; cases hz; done) | (exfalso; (try simp only [LN] at *) <;> omega)
  all_goals first
   | ((first | (with_reducible apply Z.retF2)); (focus rfl); (repeat' (first | exact trivial | (with_reducible apply Z.frz_one) | (with_reducible apply Z.frz_agg) | (with_reducible apply Z.fq_int) | (exact Z.frz_nil) | exact rfl | apply And.intro)); (all_goals (try exact (fun _ => none))); all_goals (first | (simp; done)))
   | fail
 rw [if_neg (by simp)]
 repeat' ((conv => whnf); first
  | ((with_reducible apply spB_cong); (focus (simp only [splQ, Int.reduceBEq, Int.reduceBNe, Int.reduceLE, Int.reduceLT, Int.reduceEq]; rfl)))
  | with_reducible first | refine spB_no (by decide) ?_
  | ((first | (with_reducible refine Z.callZ_mk ?_ (ccp) ?_)); (focus ((repeat' (first | exact trivial | exact rfl | apply And.intro)); done)))
  | ((first | (with_reducible refine Z.callZ_mk ?_ (ca) ?_)); (focus ((repeat' (first | exact trivial | exact rfl | apply And.intro)); done)))
  | ((first | (with_reducible refine Z.callZ_mk ?_ (cb) ?_)); (focus ((repeat' (first | exact trivial | exact rfl | apply And.intro)); done)))
  | fail)
 all_goals (try (conv => whnf))
 all_goals try first | (show Nat.ble _ _ = true; rfl) | (exfalso; rename_i hz; cases hz; done) | (exfalso; (try simp only [LN] at *) <;> omega)
 refine Z.loopK tabOk (fun zq : Nat × List Kc => [(23, .val (.int .i64 (zq.1 : Int)))]) (fun zq : Nat × List Kc => ([(3, some (Z.Ob.b ⟨[[.ro true 4 (zq.2.map eK)]], 1, 28, true⟩))] : Z.Kr)) (fun zq => zq.1 ≤ b.length ∧ zq.2 = mrg a (b.take zq.1) ∧ (∀ x ∈ b.take zq.1, getR a x.src x.key = (0, 0))) (fun zq => b.length - zq.1) (0, a) 4 [(2, _), (4, _), (6, _), (21, _), (22, _)] ⟨rfl, rfl, rfl, rfl, rfl, trivial⟩ [(0, some _), (1, some _), (2, some _)] ⟨rfl, rfl, rfl, trivial⟩ ?_ ?_ rfl rfl ⟨Nat.zero_le _, rfl, (fun x h => nomatch h)⟩ ?_
 ·repeat' (first | exact trivial | apply And.intro | exact ⟨_, rfl, Z.Imp.refl _⟩)
 ·repeat' (first | exact trivial | exact (fun b hb => ⟨b, hb, Z.ImpO.refl b⟩) | apply And.intro)
 rintro ⟨i, nx⟩ HINV
 (try dsimp only at HINV); (try dsimp only)
 obtain ⟨HI, HA, HG⟩ := HINV
 have hml := mrg_len ha hb i
 rw [← HA] at hml
 by_cases hi2 : i < b.length
 ·obtain ⟨x, hx⟩ := getElem?_some' (xs := b) (i := i) hi2
  have hma := mrg_at (a := a) hx
  rw [← HA] at hma
  have crg := rget_con a x.src x.key 0 (by omega)
  have crp := rput_con nx x.src x.key 0 (x.cnt, x.sum) (by omega)
  rw [putD_eq hml.2, ← hma] at crp
  dsimp only at crp
  by_cases hg : getR a x.src x.key = (0, 0)
  ·rw [hg] at crg
   dsimp only at crg
   repeat' ((conv => whnf); first
    | ((with_reducible apply spB_cong); (focus (simp only [splQ, Int.reduceBEq, Int.reduceBNe, Int.reduceLE, Int.reduceLT, Int.reduceEq]; rfl)))
    | with_reducible first | refine spB_no (by decide) ?_
    | (with_reducible refine spB_dec ?_ ?_ <;> intro _ <;> (try (exfalso; (first | (simp only [LN] at *; omega)))))
    | with_reducible first | refine Z.rowN_known hx ?_
    | ((with_reducible apply ixN_litp); (focus rfl); (focus ((try simp only [LN] at *) <;> omega)))
    | with_reducible refine wr_i64 (by first | omega | (simp only [LN] at *; omega)) ?_
    | with_reducible first | refine Z.callZ_in tabOk 8 Try.f74 _ Try.func74 (by kernel_rfl) rfl rfl rfl ?_
    | ((first | (with_reducible refine Z.conZ_mz ?_ (crg) ?_) | (with_reducible refine Z.conZ_mz ?_ (crp) ?_)); (focus ((repeat' (first | exact trivial | exact rfl | apply And.intro)); done)))
    | ((with_reducible apply ex_and); exact rfl)
    | with_reducible first | refine Z.drawZ_rule tabOk mixOk ?_ | refine Z.apZ_mk (by kernel_rfl) ?_
    | ((with_reducible refine Z.ConZ.red ?_); (try subst hlb); (apply Z.conZ_all); (focus (repeat (first | exact Z.FK.nil | (apply Z.FK.keep; exact rfl)))); (focus rfl); (focus rfl); (focus (repeat (first | exact trivial | (refine ⟨(fun o ho => (by first | (cases ho; rfl) | (cases ho; exact Z.inL_map fun _ => rfl) | (cases ho; exact Z.inL_mapr fun _ => rfl) | exact Z.inL_gB ho fun _ => rfl)), ?_⟩)))))
    | ((refine ⟨rfl, ?_, rfl⟩); (focus (repeat (first | exact Z.DK.nil | apply Z.DK.cons))))
    | fail)
   all_goals (try (conv => whnf))
   all_goals try first | (show Nat.ble _ _ = true; rfl) | (exfalso; rename_i hz; cases hz; done) | (exfalso; (try simp only [LN] at *) <;> omega)
   all_goals first
    | ((refine Z.rndK ((i + 1, mrg a (b.take (i + 1)))) (fun s => [0, 1, 2, 3]) rfl rfl rfl rfl ?_ ?_ ?_ ?_); (focus (repeat' (first | exact trivial | exact rfl | apply And.intro))); (focus (repeat' (first | exact trivial | (intro b hb; cases hb; rfl) | apply And.intro))); (focus ((refine ⟨by (try dsimp only); omega, rfl, ?_⟩; (try dsimp only); rw [take_snoc hx]; intro y hy; rcases List.mem_append.1 hy with h | h; exact HG y h; rw [List.mem_singleton.1 h]; exact hg))); ((try dsimp only); omega))
    | fail
  ·have hct := comm_yes (a := a) (List.mem_of_getElem? hx) hg
   rw [if_pos hct]
   obtain ⟨y, hy, hyk⟩ := (get_in fun z hz => ((tab_iff.1 ha).1 z hz).2).1 hg
   generalize getR a x.src x.key = Gt at *
   obtain ⟨c1, c2⟩ := Gt
   dsimp only at crg
   have hcz : (c1 == 0 && (c2 == 0 && true)) = false := by
    cases hz : (c1 == 0 && (c2 == 0 && true)) with
    | false => rfl
    | true => exact absurd (by simp at hz; rw [hz.1, hz.2]) hg
   repeat' ((conv => whnf); first
    | with_reducible first | refine spB_not ?_ | refine spB_no (by assumption) ?_
    | (with_reducible refine spB_dec ?_ ?_ <;> intro _ <;> (try (exfalso; (first | (simp only [LN] at *; omega)))))
    | with_reducible first | refine Z.rowN_known hx ?_
    | ((with_reducible apply ixN_litp); (focus rfl); (focus ((try simp only [LN] at *) <;> omega)))
    | with_reducible first | refine Z.callZ_in tabOk 8 Try.f74 _ Try.func74 (by kernel_rfl) rfl rfl rfl ?_
    | ((first | (with_reducible refine Z.conZ_mz ?_ (crg) ?_)); (focus ((repeat' (first | exact trivial | exact rfl | apply And.intro)); done)))
    | ((with_reducible apply ex_and); exact rfl)
    | with_reducible first | refine Z.drawZ_rule tabOk mixOk ?_ | refine Z.apZ_mk (by kernel_rfl) ?_
    | ((with_reducible refine Z.ConZ.red ?_); (try subst hlb); (apply Z.conZ_all); (focus (repeat (first | exact Z.FK.nil | (apply Z.FK.keep; exact rfl)))); (focus rfl); (focus rfl); (focus (repeat (first | exact trivial | (refine ⟨(fun o ho => (by first | (cases ho; rfl) | (cases ho; exact Z.inL_map fun _ => rfl) | (cases ho; exact Z.inL_mapr fun _ => rfl) | exact Z.inL_gB ho fun _ => rfl)), ?_⟩)))))
    | ((refine ⟨rfl, ?_, rfl⟩); (focus (repeat (first | exact Z.DK.nil | apply Z.DK.cons))))
    | fail)
   all_goals (try (conv => whnf))
   all_goals try first | (show Nat.ble _ _ = true; rfl) | (exfalso; rename_i hz; cases hz; done) | (exfalso; (try simp only [LN] at *) <;> omega)
   all_goals first
    | ((first | (with_reducible apply Z.retF2)); (focus rfl); (repeat' (first | exact trivial | (with_reducible apply Z.frz_one) | (with_reducible apply Z.frz_agg) | (with_reducible apply Z.fq_int) | (exact Z.frz_nil) | exact rfl | apply And.intro)); (all_goals (try exact (fun _ => none))); all_goals (first | (simp; done)))
    | fail
 have hil : i = b.length := by omega
 subst hil
 rw [List.take_length] at HA HG
 subst HA
 rw [if_neg (by rw [comm_nil HG]; decide)]
 repeat' ((conv => whnf); first
  | (with_reducible refine spB_dec ?_ ?_ <;> intro _ <;> (try (exfalso; (first | (rename_i hz; simp at hz; done)))))
  | fail)
 all_goals (try (conv => whnf))
 all_goals try first | (show Nat.ble _ _ = true; rfl) | (exfalso; rename_i hz; cases hz; done) | (exfalso; (try simp only [LN] at *) <;> omega)
 all_goals first
  | ((first | (with_reducible apply Z.retF2)); (focus rfl); (repeat' (first | exact trivial | (with_reducible apply Z.frz_one) | (with_reducible apply Z.frz_agg) | (with_reducible apply Z.fq_int) | (with_reducible apply Z.fq_ro) | exact rfl | apply And.intro)); (all_goals (try exact (fun _ => none))); all_goals (first | (simp; done)))
  | fail
end Tab
end Go.Proofs.Ytopieffkpdlpbaa
namespace Go.Proofs.Ytopieffkpdlpbaa
open Go Go.RowKit Wx
set_option maxHeartbeats 4000000
namespace Tab
end Tab
end Go.Proofs.Ytopieffkpdlpbaa
namespace Go.Proofs.Ytopieffkpdlpbaa
open Go Go.RowKit Wx
set_option maxHeartbeats 4000000
theorem loopQn (e : Nat) {P : Program} {n m : Nat} {rd : Option Nat} {s : Z.S} {c : Code} {Q : Exit → Z.S → Prop} {s9 : Z.S} (h : ∀ Q0 : Exit → Z.S → Prop, Q0 (.exit e) s9 → Z.LoopZ P n m rd c s Q0) (k : Q (.exit e) s9) : Z.LoopZ P n m rd c s Q := h Q k
def addJ (j g : Nat) (a b : Int) : Int := if g < j then a + b else a
theorem fit_not {l : List Sn} {k : Nat} {x : Sn} (hx : l[k]? = some x) (hf : ¬ fitK l k x) : fitW l = false := by
 cases h : fitW l with
 | false => rfl
 | true =>
  unfold fitW at h
  simp only [Bool.and_eq_true, List.all_eq_true] at h
  exact absurd (of_decide_eq_true (h.2 (x, k) (List.mem_iff_getElem?.2 ⟨k, by rw [List.getElem?_zipIdx, hx]; simp⟩))) hf
theorem fit_yes {l : List Sn} (h0 : 0 < l.length) (h : ∀ j y, l[j]? = some y → fitK l j y) : fitW l = true := by
 unfold fitW
 simp only [Bool.and_eq_true, List.all_eq_true]
 refine ⟨by cases l with | nil => simp at h0 | cons a t => rfl, fun p hp => ?_⟩
 obtain ⟨j, hj⟩ := List.mem_iff_getElem?.1 hp
 rw [List.getElem?_zipIdx] at hj
 simp only [Option.map_eq_some_iff] at hj
 obtain ⟨y, hy, rfl⟩ := hj
 refine decide_eq_true ?_
 simpa using h j y hy
theorem rwh_all (l : List Sn) (hA : ∀ x ∈ l, x.rows.length ≤ 1000 ∧ x.txs.length ≤ 1000) (hl : l.length ≤ 1000) (h1 : ∀ x ∈ l, snapR x = true) (a : Sn) (ha : l[0]? = some a) (hw : a.w = (l.length : Int)) : Con Try.prog 15 [.one (.ro false 14 ((l : List Sn).map eSn))] (fun rx rK rt => rx = .tup [.agg [.v (.int .i64 (wholeE l).1.op), .v (.int .i64 (wholeE l).1.ix), .v (.int .i64 (wholeE l).1.w), .v (.bool (wholeE l).1.en), .ro true 4 ((wholeE l).1.rows.map Tab.eK), .v (.int .i64 (wholeE l).1.o0), .v (.int .i64 (wholeE l).1.o1), .v (.int .i64 (wholeE l).1.o2), .v (.int .i64 (wholeE l).1.o3), .v (.int .i64 (wholeE l).1.o4), .v (.int .i64 (wholeE l).1.o5), .v (.int .i64 (wholeE l).1.o6), .v (.int .i64 (wholeE l).1.o7), .ro true 3 ((wholeE l).1.txs.map eN)], .one (.v (.int .i64 (wholeE l).2))] ∧ rK = [] ∧ rt = 0) := by
 refine Z.con_ofF tabOk 112 Try.f15 _ Try.func15 (by kernel_rfl) rfl rfl rfl rfl ?_
 repeat' ((conv => whnf); first
  | with_reducible first | refine spB_t ?_
  | fail)
 all_goals (try (conv => whnf))
 all_goals try first | (show Nat.ble _ _ = true; rfl) | (exfalso; rename_i hz; cases hz; done) | (exfalso; (try simp only [LN] at *) <;> omega)
 refine Z.loopK tabOk (fun zq : Nat => [(13, .val (.int .i64 (zq : Int)))]) (fun zq : Nat => ([] : Z.Kr)) (fun zq => zq ≤ l.length ∧ (∀ x ∈ l.take zq, snapR x = true)) (fun zq => l.length - zq) 0 1 [(0, _), (2, _), (11, _), (12, _)] ⟨rfl, rfl, rfl, rfl, trivial⟩ [(0, some _)] ⟨rfl, trivial⟩ ?_ ?_ rfl rfl ⟨Nat.zero_le _, (fun x h => nomatch h)⟩ ?_
 ·repeat' (first | exact trivial | apply And.intro | exact ⟨_, rfl, Z.Imp.refl _⟩)
 ·repeat' (first | exact trivial)
 rintro i HINV
 (try dsimp only at HINV); (try dsimp only)
 obtain ⟨HI, HG⟩ := HINV
 by_cases hi : i < l.length
 ·obtain ⟨x, hx⟩ := getElem?_some' (xs := l) (i := i) hi
  have hxm := List.mem_of_getElem? hx
  have ck := rright_con x (hA x hxm).1 (by have := (hA x hxm).2; omega)
  cases hs : snapR x
  all_goals rw [hs] at ck
  ·exact absurd (h1 x hxm) (by rw [hs]; decide)
  ·skip
   repeat' ((conv => whnf); first
    | ((with_reducible apply spB_cong); (focus (simp only [splQ, Int.reduceBEq, Int.reduceBNe, Int.reduceLE, Int.reduceLT, Int.reduceEq]; rfl)))
    | with_reducible first | refine spB_no (by decide) ?_
    | (with_reducible refine spB_dec ?_ ?_ <;> intro _ <;> (try (exfalso; (first | (simp only [LN] at *; omega)))))
    | with_reducible first | refine Z.rowN_known hx ?_
    | ((with_reducible apply ixN_litp); (focus rfl); (focus ((try simp only [LN] at *) <;> omega)))
    | with_reducible refine wr_i64 (by first | omega | (simp only [LN] at *; omega)) ?_
    | ((first | (with_reducible refine Z.callZ_mk ?_ (ck) ?_)); (focus ((repeat' (first | exact trivial | exact rfl | apply And.intro)); done)))
    | fail)
   all_goals (try (conv => whnf))
   all_goals try first | (show Nat.ble _ _ = true; rfl) | (exfalso; rename_i hz; cases hz; done) | (exfalso; (try simp only [LN] at *) <;> omega)
   all_goals first
    | ((refine Z.rndK ((i + 1)) (fun s => [0]) rfl rfl rfl rfl ?_ ?_ ?_ ?_); (focus (repeat' (first | exact trivial | exact rfl | apply And.intro))); (focus (repeat' (first | exact trivial | (intro b hb; cases hb; rfl) | apply And.intro))); (focus ((refine ⟨by (try dsimp only); omega, ?_⟩; (try dsimp only); rw [take_snoc hx]; intro z hz; rcases List.mem_append.1 hz with h | h; exact HG z h; rw [List.mem_singleton.1 h]; exact hs))); ((try dsimp only); omega))
    | fail
 have hil : i = l.length := by omega
 subst hil
 rw [List.take_length] at HG
 clear HG
 have hE : wholeE l = if fitW l = false ∨ namesR (l.map (·.txs)).flatten = false then (zeroS, 281) else (wholeS l, 0) := by unfold wholeE; rw [if_neg (by rw [List.all_eq_true.2 h1]; decide)]
 rw [hE]
 clear hE
 have h0 := (List.getElem?_eq_some_iff.1 ha).1
 have hhd : l.headD zeroS = a := by cases l with | nil => cases ha | cons b t => simpa using ha
 have hw1 := snapR_w (h1 a (List.mem_of_getElem? ha))
 repeat' ((conv => whnf); first
  | with_reducible first | refine spB_no (by decide) ?_
  | (with_reducible refine spB_dec ?_ ?_ <;> intro _ <;> (try (exfalso; (first | (rename_i hz; simp at hz; done)))))
  | (with_reducible refine spB_beq ?_ ?_ <;> intro _ <;> (try (exfalso; (first | (simp only [LN] at *; omega)))))
  | (with_reducible refine spB_bne ?_ ?_ <;> intro _ <;> (try (exfalso; (first | (simp only [LN] at *; omega)))))
  | with_reducible first | refine Z.rowN_known ha ?_
  | ((with_reducible apply ixN_litp); (focus rfl); (focus ((try simp only [LN] at *) <;> omega)))
  | fail)
 all_goals (try (conv => whnf))
 all_goals try first | (show Nat.ble _ _ = true; rfl) | (exfalso; rename_i hz; cases hz; done) | (exfalso; (try simp only [LN] at *) <;> omega)
 have hp0 : pw l 0 = ⟨a.op, 0, 1, true, [], 0, 0, 0, 0, 0, 0, 0, 0, []⟩ := by unfold pw; rw [hhd]; rfl
 refine Z.loopK tabOk (fun zq : Nat × Sn => [(42, .val (.int .i64 (zq.1 : Int)))]) (fun zq : Nat × Sn => ([(1, some (Z.Ob.b ⟨[[.v (.int .i64 a.op), .v (.int .i64 0), .v (.int .i64 1), .v (.bool zq.2.en), .ro true 4 (zq.2.rows.map Tab.eK), .v (.int .i64 zq.2.o0), .v (.int .i64 zq.2.o1), .v (.int .i64 zq.2.o2), .v (.int .i64 zq.2.o3), .v (.int .i64 zq.2.o4), .v (.int .i64 zq.2.o5), .v (.int .i64 zq.2.o6), .v (.int .i64 zq.2.o7), .gsl 2 (zq.2.txs.map cN)]], 14, 33, true⟩)), (2, (gB 3 90 (zq.2.txs.map cN)).map Z.Ob.b)] : Z.Kr)) (fun zq => zq.1 ≤ l.length ∧ zq.2 = pw l zq.1 ∧ (∀ y, ∀ j, j < zq.1 → l[j]? = some y → fitK l j y)) (fun zq => l.length - zq.1) (0, ⟨a.op, 0, 1, true, [], 0, 0, 0, 0, 0, 0, 0, 0, []⟩) 3 [(0, _), (2, _), (6, _), (40, _), (41, _)] ⟨rfl, rfl, rfl, rfl, rfl, trivial⟩ [(0, some _)] ⟨rfl, trivial⟩ ?_ ?_ rfl rfl ⟨Nat.zero_le _, hp0.symm, (fun y j h => absurd h (Nat.not_lt_zero _))⟩ ?_
 ·repeat' (first | exact trivial | apply And.intro | exact ⟨_, rfl, Z.Imp.refl _⟩)
 ·repeat' (first | exact trivial | (intro b hb; cases hb; done) | (intro b hb; cases hb; refine ⟨_, rfl, ⟨rfl, rfl, rfl⟩, ?_⟩; (repeat' (first | exact trivial | apply And.intro | exact Z.Imp.refl _ | exact Z.Imp.nilg _ | exact Z.Imp.nilr _ _)); done) | apply And.intro)
 rintro ⟨k, W⟩ HINV
 (try dsimp only at HINV); (try dsimp only)
 obtain ⟨HK, HW, HF⟩ := HINV
 have hrg := pw_rng HK hl hA h1
 rw [← HW] at hrg
 obtain ⟨⟨⟨hl0, hu0⟩, ⟨hl1, hu1⟩, ⟨hl2, hu2⟩, ⟨hl3, hu3⟩, ⟨hl4, hu4⟩, ⟨hl5, hu5⟩, ⟨hl6, hu6⟩, ⟨hl7, hu7⟩⟩, hrl, hnl⟩ := hrg
 by_cases hk : k < l.length
 ·obtain ⟨x, hx⟩ := getElem?_some' (xs := l) (i := k) hk
  have hxm := List.mem_of_getElem? hx
  have hpa := pw_at hx
  rw [← HW, hhd] at hpa
  have hxr := (snapR_rng (h1 x hxm)).1
  obtain ⟨⟨xl0, xu0⟩, ⟨xl1, xu1⟩, ⟨xl2, xu2⟩, ⟨xl3, xu3⟩, ⟨xl4, xu4⟩, ⟨xl5, xu5⟩, ⟨xl6, xu6⟩, ⟨xl7, xu7⟩⟩ := hxr
  have hxa := hA x hxm
  by_cases hf : x.op = a.op ∧ x.w = (l.length : Int) ∧ x.ix = (k : Int)
  rotate_left
  ·rw [if_pos (.inl (fit_not hx (fun h => hf ⟨by rw [h.1, hhd], h.2.1, h.2.2⟩)))]
   repeat' ((conv => whnf); first
    | with_reducible first | refine spB_t ?_
    | with_reducible first | refine spB_no (by decide) ?_
    | (with_reducible refine spB_dec ?_ ?_ <;> intro _ <;> (try (exfalso; (first | omega))))
    | (with_reducible refine spB_bne ?_ ?_ <;> intro _ <;> (try (exfalso; (first | omega))))
    | with_reducible first | refine Z.rowN_known hx ?_ | refine Z.rowN_known ha ?_
    | ((with_reducible apply ixN_litp); (focus rfl); (focus ((try simp only [LN] at *) <;> omega)))
    | with_reducible first | refine Z.drawZ_rule tabOk mixOk ?_ | refine Z.apZ_mk (by kernel_rfl) ?_
    | fail)
   all_goals (try (conv => whnf))
   all_goals try first | (show Nat.ble _ _ = true; rfl) | (exfalso; rename_i hz; cases hz; done) | (exfalso; (try simp only [LN] at *) <;> omega)
   all_goals first
    | ((first | (with_reducible apply Z.retF2)); (focus rfl); (repeat' (first | exact trivial | (with_reducible apply Z.frz_one) | (with_reducible apply Z.frz_agg) | (with_reducible apply Z.fq_int) | (with_reducible apply Z.fq_bool) | (exact Z.frz_nil) | exact rfl | apply And.intro)); (all_goals (try exact (fun _ => none))); all_goals (first | (simp; done)))
    | fail
  have cj := Tab.rjoin_con W.rows x.rows (by omega) hxa.1
  have hjl := @Tab.join_len W.rows x.rows
  generalize hJ : Tab.joinT W.rows x.rows = J at *
  obtain ⟨J1, J2⟩ := J
  dsimp only at cj hjl hpa
  obtain ⟨wop, wix, ww, wen, wrows, wo0, wo1, wo2, wo3, wo4, wo5, wo6, wo7, wtxs⟩ := W
  dsimp only at *
  rcases Nat.eq_zero_or_pos x.txs.length with ht0 | ht0
  ·have hx0 : x.txs = [] := List.length_eq_zero_iff.1 ht0
   rw [hx0, List.append_nil] at hpa
   cases wen
   ·simp only [Bool.false_and, Bool.true_and] at hpa
    repeat' ((conv => whnf); first
     | with_reducible first | refine spB_no (by decide) ?_
     | (with_reducible refine spB_dec ?_ ?_ <;> intro _ <;> (try (exfalso; (first | omega))))
     | (with_reducible refine spB_bne ?_ ?_ <;> intro _ <;> (try (exfalso; (first | omega))))
     | with_reducible first | refine Z.rowN_known hx ?_ | refine Z.rowN_known ha ?_
     | ((with_reducible apply ixN_litp); (focus rfl); (focus ((try simp only [LN] at *) <;> omega)))
     | ((first | (with_reducible refine Z.callZ_mk ?_ (cj) ?_)); (focus ((repeat' (first | exact trivial | exact rfl | apply And.intro)); done)))
     | with_reducible first | refine Z.drawZ_rule tabOk mixOk ?_ | refine Z.apZ_mk (by kernel_rfl) ?_
     | fail)
    all_goals (try (conv => whnf))
    all_goals try first | (show Nat.ble _ _ = true; rfl) | (exfalso; rename_i hz; cases hz; done) | (exfalso; (try simp only [LN] at *) <;> omega)
    apply loopQn 4
    ·intro Q1 hq8
     refine Z.loopK tabOk (fun zq : Nat => [(86, .val (.int .i64 (zq : Int)))]) (fun zq : Nat => ([(0, some (Z.Ob.b ⟨[[.v (.int .i64 0), .v (.int .i64 0), .v (.int .i64 0), .v (.bool false), .v (.slice none 0 0), .v (.int .i64 0), .v (.int .i64 0), .v (.int .i64 0), .v (.int .i64 0), .v (.int .i64 0), .v (.int .i64 0), .v (.int .i64 0), .v (.int .i64 0), .v (.slice none 0 0)]], 14, 33, true⟩)), (1, some (Z.Ob.b ⟨[[.v (.int .i64 a.op), .v (.int .i64 0), .v (.int .i64 1), .v (.bool false), .ro true 4 (J1.map Tab.eK), .v (.int .i64 (addJ zq 0 wo0 x.o0)), .v (.int .i64 (addJ zq 1 wo1 x.o1)), .v (.int .i64 (addJ zq 2 wo2 x.o2)), .v (.int .i64 (addJ zq 3 wo3 x.o3)), .v (.int .i64 (addJ zq 4 wo4 x.o4)), .v (.int .i64 (addJ zq 5 wo5 x.o5)), .v (.int .i64 (addJ zq 6 wo6 x.o6)), .v (.int .i64 (addJ zq 7 wo7 x.o7)), .gsl 2 (wtxs.map cN)]], 14, 33, true⟩)), (2, (gB 3 90 (wtxs.map cN)).map Z.Ob.b), (3, some (Z.Ob.b ⟨[[.v (.int .i64 x.op), .v (.int .i64 x.ix), .v (.int .i64 x.w), .v (.bool x.en), .ro false 4 (x.rows.map Tab.eK), .v (.int .i64 x.o0), .v (.int .i64 x.o1), .v (.int .i64 x.o2), .v (.int .i64 x.o3), .v (.int .i64 x.o4), .v (.int .i64 x.o5), .v (.int .i64 x.o6), .v (.int .i64 x.o7), .ro false 3 (x.txs.map eN)]], 14, 33, true⟩))] : Z.Kr)) (fun zq => zq ≤ 8) (fun zq => 8 - zq) 0 4 [(0, _), (2, _), (6, _), (8, _), (40, _), (41, _), (42, _), (85, _)] ⟨rfl, rfl, rfl, rfl, rfl, rfl, rfl, rfl, trivial⟩ [] trivial ?_ ?_ rfl rfl (Nat.zero_le _) ?_
     ·repeat' (first | exact trivial | apply And.intro | exact ⟨_, rfl, Z.Imp.refl _⟩)
     ·repeat' (first | exact trivial | exact (fun b hb => ⟨b, hb, Z.ImpO.refl b⟩) | apply And.intro)
     rintro j HINV
     (try dsimp only at HINV); (try dsimp only)
     have hc9 : j = 0 ∨ j = 1 ∨ j = 2 ∨ j = 3 ∨ j = 4 ∨ j = 5 ∨ j = 6 ∨ j = 7 ∨ j = 8 := by omega
     rcases hc9 with rfl | rfl | rfl | rfl | rfl | rfl | rfl | rfl | rfl
     ·skip
      repeat' ((conv => whnf); first
       | with_reducible first | refine spB_yes (by decide) ?_
       | ((with_reducible refine wr_mk (wo0 + x.o0) ?_ ?_); (focus (exact IntWalk.i64_in (wo0 + x.o0) ⟨by omega, by omega⟩)))
       | ((with_reducible apply ixN_lit); (focus rfl); (focus rfl))
       | with_reducible refine wr_i64 (by first | omega | (simp only [LN] at *; omega)) ?_
       | fail)
      all_goals (try (conv => whnf))
      all_goals try first | (show Nat.ble _ _ = true; rfl) | (exfalso; rename_i hz; cases hz; done) | (exfalso; (try simp only [LN] at *) <;> omega)
      all_goals first
       | ((refine Z.rndK (1) (fun s => [0, 1, 2, 3]) rfl rfl rfl rfl ?_ ?_ ?_ ?_); (focus (repeat' (first | exact trivial | exact rfl | apply And.intro))); (focus (repeat' (first | exact trivial | (intro b hb; cases hb; rfl) | exact Z.gB_sub rfl rfl (ren_map fun _ => rfl) | apply And.intro))); (focus (((try dsimp only); omega))); ((try dsimp only); omega))
       | fail
     ·skip
      repeat' ((conv => whnf); first
       | with_reducible first | refine spB_yes (by decide) ?_
       | ((with_reducible refine wr_mk (wo1 + x.o1) ?_ ?_); (focus (exact IntWalk.i64_in (wo1 + x.o1) ⟨by omega, by omega⟩)))
       | ((with_reducible apply ixN_lit); (focus rfl); (focus rfl))
       | with_reducible refine wr_i64 (by first | omega | (simp only [LN] at *; omega)) ?_
       | fail)
      all_goals (try (conv => whnf))
      all_goals try first | (show Nat.ble _ _ = true; rfl) | (exfalso; rename_i hz; cases hz; done) | (exfalso; (try simp only [LN] at *) <;> omega)
      all_goals first
       | ((refine Z.rndK (2) (fun s => [0, 1, 2, 3]) rfl rfl rfl rfl ?_ ?_ ?_ ?_); (focus (repeat' (first | exact trivial | exact rfl | apply And.intro))); (focus (repeat' (first | exact trivial | (intro b hb; cases hb; rfl) | exact Z.gB_sub rfl rfl (ren_map fun _ => rfl) | apply And.intro))); (focus (((try dsimp only); omega))); ((try dsimp only); omega))
       | fail
     ·skip
      repeat' ((conv => whnf); first
       | with_reducible first | refine spB_yes (by decide) ?_
       | ((with_reducible refine wr_mk (wo2 + x.o2) ?_ ?_); (focus (exact IntWalk.i64_in (wo2 + x.o2) ⟨by omega, by omega⟩)))
       | ((with_reducible apply ixN_lit); (focus rfl); (focus rfl))
       | with_reducible refine wr_i64 (by first | omega | (simp only [LN] at *; omega)) ?_
       | fail)
      all_goals (try (conv => whnf))
      all_goals try first | (show Nat.ble _ _ = true; rfl) | (exfalso; rename_i hz; cases hz; done) | (exfalso; (try simp only [LN] at *) <;> omega)
      all_goals first
       | ((refine Z.rndK (3) (fun s => [0, 1, 2, 3]) rfl rfl rfl rfl ?_ ?_ ?_ ?_); (focus (repeat' (first | exact trivial | exact rfl | apply And.intro))); (focus (repeat' (first | exact trivial | (intro b hb; cases hb; rfl) | exact Z.gB_sub rfl rfl (ren_map fun _ => rfl) | apply And.intro))); (focus (((try dsimp only); omega))); ((try dsimp only); omega))
       | fail
     ·skip
      repeat' ((conv => whnf); first
       | with_reducible first | refine spB_yes (by decide) ?_
       | ((with_reducible refine wr_mk (wo3 + x.o3) ?_ ?_); (focus (exact IntWalk.i64_in (wo3 + x.o3) ⟨by omega, by omega⟩)))
       | ((with_reducible apply ixN_lit); (focus rfl); (focus rfl))
       | with_reducible refine wr_i64 (by first | omega | (simp only [LN] at *; omega)) ?_
       | fail)
      all_goals (try (conv => whnf))
      all_goals try first | (show Nat.ble _ _ = true; rfl) | (exfalso; rename_i hz; cases hz; done) | (exfalso; (try simp only [LN] at *) <;> omega)
      all_goals first
       | ((refine Z.rndK (4) (fun s => [0, 1, 2, 3]) rfl rfl rfl rfl ?_ ?_ ?_ ?_); (focus (repeat' (first | exact trivial | exact rfl | apply And.intro))); (focus (repeat' (first | exact trivial | (intro b hb; cases hb; rfl) | exact Z.gB_sub rfl rfl (ren_map fun _ => rfl) | apply And.intro))); (focus (((try dsimp only); omega))); ((try dsimp only); omega))
       | fail
     ·skip
      repeat' ((conv => whnf); first
       | with_reducible first | refine spB_yes (by decide) ?_
       | ((with_reducible refine wr_mk (wo4 + x.o4) ?_ ?_); (focus (exact IntWalk.i64_in (wo4 + x.o4) ⟨by omega, by omega⟩)))
       | ((with_reducible apply ixN_lit); (focus rfl); (focus rfl))
       | with_reducible refine wr_i64 (by first | omega | (simp only [LN] at *; omega)) ?_
       | fail)
      all_goals (try (conv => whnf))
      all_goals try first | (show Nat.ble _ _ = true; rfl) | (exfalso; rename_i hz; cases hz; done) | (exfalso; (try simp only [LN] at *) <;> omega)
      all_goals first
       | ((refine Z.rndK (5) (fun s => [0, 1, 2, 3]) rfl rfl rfl rfl ?_ ?_ ?_ ?_); (focus (repeat' (first | exact trivial | exact rfl | apply And.intro))); (focus (repeat' (first | exact trivial | (intro b hb; cases hb; rfl) | exact Z.gB_sub rfl rfl (ren_map fun _ => rfl) | apply And.intro))); (focus (((try dsimp only); omega))); ((try dsimp only); omega))
       | fail
     ·skip
      repeat' ((conv => whnf); first
       | with_reducible first | refine spB_yes (by decide) ?_
       | ((with_reducible refine wr_mk (wo5 + x.o5) ?_ ?_); (focus (exact IntWalk.i64_in (wo5 + x.o5) ⟨by omega, by omega⟩)))
       | ((with_reducible apply ixN_lit); (focus rfl); (focus rfl))
       | with_reducible refine wr_i64 (by first | omega | (simp only [LN] at *; omega)) ?_
       | fail)
      all_goals (try (conv => whnf))
      all_goals try first | (show Nat.ble _ _ = true; rfl) | (exfalso; rename_i hz; cases hz; done) | (exfalso; (try simp only [LN] at *) <;> omega)
      all_goals first
       | ((refine Z.rndK (6) (fun s => [0, 1, 2, 3]) rfl rfl rfl rfl ?_ ?_ ?_ ?_); (focus (repeat' (first | exact trivial | exact rfl | apply And.intro))); (focus (repeat' (first | exact trivial | (intro b hb; cases hb; rfl) | exact Z.gB_sub rfl rfl (ren_map fun _ => rfl) | apply And.intro))); (focus (((try dsimp only); omega))); ((try dsimp only); omega))
       | fail
     ·skip
      repeat' ((conv => whnf); first
       | with_reducible first | refine spB_yes (by decide) ?_
       | ((with_reducible refine wr_mk (wo6 + x.o6) ?_ ?_); (focus (exact IntWalk.i64_in (wo6 + x.o6) ⟨by omega, by omega⟩)))
       | ((with_reducible apply ixN_lit); (focus rfl); (focus rfl))
       | with_reducible refine wr_i64 (by first | omega | (simp only [LN] at *; omega)) ?_
       | fail)
      all_goals (try (conv => whnf))
      all_goals try first | (show Nat.ble _ _ = true; rfl) | (exfalso; rename_i hz; cases hz; done) | (exfalso; (try simp only [LN] at *) <;> omega)
      all_goals first
       | ((refine Z.rndK (7) (fun s => [0, 1, 2, 3]) rfl rfl rfl rfl ?_ ?_ ?_ ?_); (focus (repeat' (first | exact trivial | exact rfl | apply And.intro))); (focus (repeat' (first | exact trivial | (intro b hb; cases hb; rfl) | exact Z.gB_sub rfl rfl (ren_map fun _ => rfl) | apply And.intro))); (focus (((try dsimp only); omega))); ((try dsimp only); omega))
       | fail
     ·skip
      repeat' ((conv => whnf); first
       | with_reducible first | refine spB_yes (by decide) ?_
       | ((with_reducible refine wr_mk (wo7 + x.o7) ?_ ?_); (focus (exact IntWalk.i64_in (wo7 + x.o7) ⟨by omega, by omega⟩)))
       | ((with_reducible apply ixN_lit); (focus rfl); (focus rfl))
       | with_reducible refine wr_i64 (by first | omega | (simp only [LN] at *; omega)) ?_
       | fail)
      all_goals (try (conv => whnf))
      all_goals try first | (show Nat.ble _ _ = true; rfl) | (exfalso; rename_i hz; cases hz; done) | (exfalso; (try simp only [LN] at *) <;> omega)
      all_goals first
       | ((refine Z.rndK (8) (fun s => [0, 1, 2, 3]) rfl rfl rfl rfl ?_ ?_ ?_ ?_); (focus (repeat' (first | exact trivial | exact rfl | apply And.intro))); (focus (repeat' (first | exact trivial | (intro b hb; cases hb; rfl) | exact Z.gB_sub rfl rfl (ren_map fun _ => rfl) | apply And.intro))); (focus (((try dsimp only); omega))); ((try dsimp only); omega))
       | fail
     ·skip
      repeat' ((conv => whnf); first
       | with_reducible first | refine spB_no (by decide) ?_
       | fail)
      all_goals (try (conv => whnf))
      all_goals try first | (show Nat.ble _ _ = true; rfl) | (exfalso; rename_i hz; cases hz; done) | (exfalso; (try simp only [LN] at *) <;> omega)
      exact hq8
    repeat' ((conv => whnf); first
     | ((with_reducible refine posE_nil ?_ ?_); (focus (rw [List.length_map]; exact ht0)))
     | with_reducible refine wr_i64 (by first | omega | (simp only [LN] at *; omega)) ?_
     | ((with_reducible refine eqN_mk2 ?_ ?_); (focus (exact Z.kb_some rfl)))
     | fail)
    all_goals (try (conv => whnf))
    all_goals try first | (show Nat.ble _ _ = true; rfl) | (exfalso; rename_i hz; cases hz; done) | (exfalso; (try simp only [LN] at *) <;> omega)
    all_goals first
     | ((refine Z.rndK ((k + 1, (⟨a.op, 0, 1, false, J1, wo0 + x.o0, wo1 + x.o1, wo2 + x.o2, wo3 + x.o3, wo4 + x.o4, wo5 + x.o5, wo6 + x.o6, wo7 + x.o7, wtxs⟩ : Sn))) (fun s => [0, 1, s.idIn 1 13]) rfl rfl rfl rfl ?_ ?_ ?_ ?_); (focus (repeat' (first | exact trivial | exact rfl | apply And.intro))); (focus (repeat' (first | exact trivial | (intro b hb; cases hb; rfl) | exact Z.gB_sub rfl rfl (ren_map fun _ => rfl) | apply And.intro))); (focus ((refine ⟨by (try dsimp only); omega, hpa.symm, ?_⟩; (try dsimp only); intro y j hj hy; rcases Nat.lt_succ_iff_lt_or_eq.1 hj with h | h; exact HF y j h hy; subst h; rw [hx] at hy; cases hy; exact ⟨by rw [hhd]; exact hf.1, hf.2⟩))); ((try dsimp only); omega))
     | fail
   ·simp only [Bool.false_and, Bool.true_and] at hpa
    repeat' ((conv => whnf); first
     | with_reducible first | refine spB_t ?_
     | with_reducible first | refine spB_no (by decide) ?_
     | (with_reducible refine spB_dec ?_ ?_ <;> intro _ <;> (try (exfalso; (first | omega))))
     | (with_reducible refine spB_bne ?_ ?_ <;> intro _ <;> (try (exfalso; (first | omega))))
     | with_reducible first | refine Z.rowN_known hx ?_ | refine Z.rowN_known ha ?_
     | ((with_reducible apply ixN_litp); (focus rfl); (focus ((try simp only [LN] at *) <;> omega)))
     | ((first | (with_reducible refine Z.callZ_mk ?_ (cj) ?_)); (focus ((repeat' (first | exact trivial | exact rfl | apply And.intro)); done)))
     | with_reducible first | refine Z.drawZ_rule tabOk mixOk ?_ | refine Z.apZ_mk (by kernel_rfl) ?_
     | fail)
    all_goals (try (conv => whnf))
    all_goals try first | (show Nat.ble _ _ = true; rfl) | (exfalso; rename_i hz; cases hz; done) | (exfalso; (try simp only [LN] at *) <;> omega)
    apply loopQn 4
    ·intro Q1 hq8
     refine Z.loopK tabOk (fun zq : Nat => [(86, .val (.int .i64 (zq : Int)))]) (fun zq : Nat => ([(0, some (Z.Ob.b ⟨[[.v (.int .i64 0), .v (.int .i64 0), .v (.int .i64 0), .v (.bool false), .v (.slice none 0 0), .v (.int .i64 0), .v (.int .i64 0), .v (.int .i64 0), .v (.int .i64 0), .v (.int .i64 0), .v (.int .i64 0), .v (.int .i64 0), .v (.int .i64 0), .v (.slice none 0 0)]], 14, 33, true⟩)), (1, some (Z.Ob.b ⟨[[.v (.int .i64 a.op), .v (.int .i64 0), .v (.int .i64 1), .v (.bool x.en), .ro true 4 (J1.map Tab.eK), .v (.int .i64 (addJ zq 0 wo0 x.o0)), .v (.int .i64 (addJ zq 1 wo1 x.o1)), .v (.int .i64 (addJ zq 2 wo2 x.o2)), .v (.int .i64 (addJ zq 3 wo3 x.o3)), .v (.int .i64 (addJ zq 4 wo4 x.o4)), .v (.int .i64 (addJ zq 5 wo5 x.o5)), .v (.int .i64 (addJ zq 6 wo6 x.o6)), .v (.int .i64 (addJ zq 7 wo7 x.o7)), .gsl 2 (wtxs.map cN)]], 14, 33, true⟩)), (2, (gB 3 90 (wtxs.map cN)).map Z.Ob.b), (3, some (Z.Ob.b ⟨[[.v (.int .i64 x.op), .v (.int .i64 x.ix), .v (.int .i64 x.w), .v (.bool x.en), .ro false 4 (x.rows.map Tab.eK), .v (.int .i64 x.o0), .v (.int .i64 x.o1), .v (.int .i64 x.o2), .v (.int .i64 x.o3), .v (.int .i64 x.o4), .v (.int .i64 x.o5), .v (.int .i64 x.o6), .v (.int .i64 x.o7), .ro false 3 (x.txs.map eN)]], 14, 33, true⟩))] : Z.Kr)) (fun zq => zq ≤ 8) (fun zq => 8 - zq) 0 4 [(0, _), (2, _), (6, _), (8, _), (40, _), (41, _), (42, _), (85, _)] ⟨rfl, rfl, rfl, rfl, rfl, rfl, rfl, rfl, trivial⟩ [] trivial ?_ ?_ rfl rfl (Nat.zero_le _) ?_
     ·repeat' (first | exact trivial | apply And.intro | exact ⟨_, rfl, Z.Imp.refl _⟩)
     ·repeat' (first | exact trivial | exact (fun b hb => ⟨b, hb, Z.ImpO.refl b⟩) | apply And.intro)
     rintro j HINV
     (try dsimp only at HINV); (try dsimp only)
     have hc9 : j = 0 ∨ j = 1 ∨ j = 2 ∨ j = 3 ∨ j = 4 ∨ j = 5 ∨ j = 6 ∨ j = 7 ∨ j = 8 := by omega
     rcases hc9 with rfl | rfl | rfl | rfl | rfl | rfl | rfl | rfl | rfl
     ·skip
      repeat' ((conv => whnf); first
       | with_reducible first | refine spB_yes (by decide) ?_
       | ((with_reducible refine wr_mk (wo0 + x.o0) ?_ ?_); (focus (exact IntWalk.i64_in (wo0 + x.o0) ⟨by omega, by omega⟩)))
       | ((with_reducible apply ixN_lit); (focus rfl); (focus rfl))
       | with_reducible refine wr_i64 (by first | omega | (simp only [LN] at *; omega)) ?_
       | fail)
      all_goals (try (conv => whnf))
      all_goals try first | (show Nat.ble _ _ = true; rfl) | (exfalso; rename_i hz; cases hz; done) | (exfalso; (try simp only [LN] at *) <;> omega)
      all_goals first
       | ((refine Z.rndK (1) (fun s => [0, 1, 2, 3]) rfl rfl rfl rfl ?_ ?_ ?_ ?_); (focus (repeat' (first | exact trivial | exact rfl | apply And.intro))); (focus (repeat' (first | exact trivial | (intro b hb; cases hb; rfl) | exact Z.gB_sub rfl rfl (ren_map fun _ => rfl) | apply And.intro))); (focus (((try dsimp only); omega))); ((try dsimp only); omega))
       | fail
     ·skip
      repeat' ((conv => whnf); first
       | with_reducible first | refine spB_yes (by decide) ?_
       | ((with_reducible refine wr_mk (wo1 + x.o1) ?_ ?_); (focus (exact IntWalk.i64_in (wo1 + x.o1) ⟨by omega, by omega⟩)))
       | ((with_reducible apply ixN_lit); (focus rfl); (focus rfl))
       | with_reducible refine wr_i64 (by first | omega | (simp only [LN] at *; omega)) ?_
       | fail)
      all_goals (try (conv => whnf))
      all_goals try first | (show Nat.ble _ _ = true; rfl) | (exfalso; rename_i hz; cases hz; done) | (exfalso; (try simp only [LN] at *) <;> omega)
      all_goals first
       | ((refine Z.rndK (2) (fun s => [0, 1, 2, 3]) rfl rfl rfl rfl ?_ ?_ ?_ ?_); (focus (repeat' (first | exact trivial | exact rfl | apply And.intro))); (focus (repeat' (first | exact trivial | (intro b hb; cases hb; rfl) | exact Z.gB_sub rfl rfl (ren_map fun _ => rfl) | apply And.intro))); (focus (((try dsimp only); omega))); ((try dsimp only); omega))
       | fail
     ·skip
      repeat' ((conv => whnf); first
       | with_reducible first | refine spB_yes (by decide) ?_
       | ((with_reducible refine wr_mk (wo2 + x.o2) ?_ ?_); (focus (exact IntWalk.i64_in (wo2 + x.o2) ⟨by omega, by omega⟩)))
       | ((with_reducible apply ixN_lit); (focus rfl); (focus rfl))
       | with_reducible refine wr_i64 (by first | omega | (simp only [LN] at *; omega)) ?_
       | fail)
      all_goals (try (conv => whnf))
      all_goals try first | (show Nat.ble _ _ = true; rfl) | (exfalso; rename_i hz; cases hz; done) | (exfalso; (try simp only [LN] at *) <;> omega)
      all_goals first
       | ((refine Z.rndK (3) (fun s => [0, 1, 2, 3]) rfl rfl rfl rfl ?_ ?_ ?_ ?_); (focus (repeat' (first | exact trivial | exact rfl | apply And.intro))); (focus (repeat' (first | exact trivial | (intro b hb; cases hb; rfl) | exact Z.gB_sub rfl rfl (ren_map fun _ => rfl) | apply And.intro))); (focus (((try dsimp only); omega))); ((try dsimp only); omega))
       | fail
     ·skip
      repeat' ((conv => whnf); first
       | with_reducible first | refine spB_yes (by decide) ?_
       | ((with_reducible refine wr_mk (wo3 + x.o3) ?_ ?_); (focus (exact IntWalk.i64_in (wo3 + x.o3) ⟨by omega, by omega⟩)))
       | ((with_reducible apply ixN_lit); (focus rfl); (focus rfl))
       | with_reducible refine wr_i64 (by first | omega | (simp only [LN] at *; omega)) ?_
       | fail)
      all_goals (try (conv => whnf))
      all_goals try first | (show Nat.ble _ _ = true; rfl) | (exfalso; rename_i hz; cases hz; done) | (exfalso; (try simp only [LN] at *) <;> omega)
      all_goals first
       | ((refine Z.rndK (4) (fun s => [0, 1, 2, 3]) rfl rfl rfl rfl ?_ ?_ ?_ ?_); (focus (repeat' (first | exact trivial | exact rfl | apply And.intro))); (focus (repeat' (first | exact trivial | (intro b hb; cases hb; rfl) | exact Z.gB_sub rfl rfl (ren_map fun _ => rfl) | apply And.intro))); (focus (((try dsimp only); omega))); ((try dsimp only); omega))
       | fail
     ·skip
      repeat' ((conv => whnf); first
       | with_reducible first | refine spB_yes (by decide) ?_
       | ((with_reducible refine wr_mk (wo4 + x.o4) ?_ ?_); (focus (exact IntWalk.i64_in (wo4 + x.o4) ⟨by omega, by omega⟩)))
       | ((with_reducible apply ixN_lit); (focus rfl); (focus rfl))
       | with_reducible refine wr_i64 (by first | omega | (simp only [LN] at *; omega)) ?_
       | fail)
      all_goals (try (conv => whnf))
      all_goals try first | (show Nat.ble _ _ = true; rfl) | (exfalso; rename_i hz; cases hz; done) | (exfalso; (try simp only [LN] at *) <;> omega)
      all_goals first
       | ((refine Z.rndK (5) (fun s => [0, 1, 2, 3]) rfl rfl rfl rfl ?_ ?_ ?_ ?_); (focus (repeat' (first | exact trivial | exact rfl | apply And.intro))); (focus (repeat' (first | exact trivial | (intro b hb; cases hb; rfl) | exact Z.gB_sub rfl rfl (ren_map fun _ => rfl) | apply And.intro))); (focus (((try dsimp only); omega))); ((try dsimp only); omega))
       | fail
     ·skip
      repeat' ((conv => whnf); first
       | with_reducible first | refine spB_yes (by decide) ?_
       | ((with_reducible refine wr_mk (wo5 + x.o5) ?_ ?_); (focus (exact IntWalk.i64_in (wo5 + x.o5) ⟨by omega, by omega⟩)))
       | ((with_reducible apply ixN_lit); (focus rfl); (focus rfl))
       | with_reducible refine wr_i64 (by first | omega | (simp only [LN] at *; omega)) ?_
       | fail)
      all_goals (try (conv => whnf))
      all_goals try first | (show Nat.ble _ _ = true; rfl) | (exfalso; rename_i hz; cases hz; done) | (exfalso; (try simp only [LN] at *) <;> omega)
      all_goals first
       | ((refine Z.rndK (6) (fun s => [0, 1, 2, 3]) rfl rfl rfl rfl ?_ ?_ ?_ ?_); (focus (repeat' (first | exact trivial | exact rfl | apply And.intro))); (focus (repeat' (first | exact trivial | (intro b hb; cases hb; rfl) | exact Z.gB_sub rfl rfl (ren_map fun _ => rfl) | apply And.intro))); (focus (((try dsimp only); omega))); ((try dsimp only); omega))
       | fail
     ·skip
      repeat' ((conv => whnf); first
       | with_reducible first | refine spB_yes (by decide) ?_
       | ((with_reducible refine wr_mk (wo6 + x.o6) ?_ ?_); (focus (exact IntWalk.i64_in (wo6 + x.o6) ⟨by omega, by omega⟩)))
       | ((with_reducible apply ixN_lit); (focus rfl); (focus rfl))
       | with_reducible refine wr_i64 (by first | omega | (simp only [LN] at *; omega)) ?_
       | fail)
      all_goals (try (conv => whnf))
      all_goals try first | (show Nat.ble _ _ = true; rfl) | (exfalso; rename_i hz; cases hz; done) | (exfalso; (try simp only [LN] at *) <;> omega)
      all_goals first
       | ((refine Z.rndK (7) (fun s => [0, 1, 2, 3]) rfl rfl rfl rfl ?_ ?_ ?_ ?_); (focus (repeat' (first | exact trivial | exact rfl | apply And.intro))); (focus (repeat' (first | exact trivial | (intro b hb; cases hb; rfl) | exact Z.gB_sub rfl rfl (ren_map fun _ => rfl) | apply And.intro))); (focus (((try dsimp only); omega))); ((try dsimp only); omega))
       | fail
     ·skip
      repeat' ((conv => whnf); first
       | with_reducible first | refine spB_yes (by decide) ?_
       | ((with_reducible refine wr_mk (wo7 + x.o7) ?_ ?_); (focus (exact IntWalk.i64_in (wo7 + x.o7) ⟨by omega, by omega⟩)))
       | ((with_reducible apply ixN_lit); (focus rfl); (focus rfl))
       | with_reducible refine wr_i64 (by first | omega | (simp only [LN] at *; omega)) ?_
       | fail)
      all_goals (try (conv => whnf))
      all_goals try first | (show Nat.ble _ _ = true; rfl) | (exfalso; rename_i hz; cases hz; done) | (exfalso; (try simp only [LN] at *) <;> omega)
      all_goals first
       | ((refine Z.rndK (8) (fun s => [0, 1, 2, 3]) rfl rfl rfl rfl ?_ ?_ ?_ ?_); (focus (repeat' (first | exact trivial | exact rfl | apply And.intro))); (focus (repeat' (first | exact trivial | (intro b hb; cases hb; rfl) | exact Z.gB_sub rfl rfl (ren_map fun _ => rfl) | apply And.intro))); (focus (((try dsimp only); omega))); ((try dsimp only); omega))
       | fail
     ·skip
      repeat' ((conv => whnf); first
       | with_reducible first | refine spB_no (by decide) ?_
       | fail)
      all_goals (try (conv => whnf))
      all_goals try first | (show Nat.ble _ _ = true; rfl) | (exfalso; rename_i hz; cases hz; done) | (exfalso; (try simp only [LN] at *) <;> omega)
      exact hq8
    repeat' ((conv => whnf); first
     | ((with_reducible refine posE_nil ?_ ?_); (focus (rw [List.length_map]; exact ht0)))
     | with_reducible refine wr_i64 (by first | omega | (simp only [LN] at *; omega)) ?_
     | ((with_reducible refine eqN_mk2 ?_ ?_); (focus (exact Z.kb_some rfl)))
     | fail)
    all_goals (try (conv => whnf))
    all_goals try first | (show Nat.ble _ _ = true; rfl) | (exfalso; rename_i hz; cases hz; done) | (exfalso; (try simp only [LN] at *) <;> omega)
    all_goals first
     | ((refine Z.rndK ((k + 1, (⟨a.op, 0, 1, x.en, J1, wo0 + x.o0, wo1 + x.o1, wo2 + x.o2, wo3 + x.o3, wo4 + x.o4, wo5 + x.o5, wo6 + x.o6, wo7 + x.o7, wtxs⟩ : Sn))) (fun s => [0, 1, s.idIn 1 13]) rfl rfl rfl rfl ?_ ?_ ?_ ?_); (focus (repeat' (first | exact trivial | exact rfl | apply And.intro))); (focus (repeat' (first | exact trivial | (intro b hb; cases hb; rfl) | exact Z.gB_sub rfl rfl (ren_map fun _ => rfl) | apply And.intro))); (focus ((refine ⟨by (try dsimp only); omega, hpa.symm, ?_⟩; (try dsimp only); intro y j hj hy; rcases Nat.lt_succ_iff_lt_or_eq.1 hj with h | h; exact HF y j h hy; subst h; rw [hx] at hy; cases hy; exact ⟨by rw [hhd]; exact hf.1, hf.2⟩))); ((try dsimp only); omega))
     | fail
  ·have hap : List.map cN wtxs ++ List.map (List.map (RT.ce false)) (List.map eN x.txs) = List.map cN (wtxs ++ x.txs) := by rw [List.map_append, List.map_map]; rfl
   cases wen
   ·simp only [Bool.false_and, Bool.true_and] at hpa
    repeat' ((conv => whnf); first
     | with_reducible first | refine spB_no (by decide) ?_
     | (with_reducible refine spB_dec ?_ ?_ <;> intro _ <;> (try (exfalso; (first | omega))))
     | (with_reducible refine spB_bne ?_ ?_ <;> intro _ <;> (try (exfalso; (first | omega))))
     | with_reducible first | refine Z.rowN_known hx ?_ | refine Z.rowN_known ha ?_
     | ((with_reducible apply ixN_litp); (focus rfl); (focus ((try simp only [LN] at *) <;> omega)))
     | ((first | (with_reducible refine Z.callZ_mk ?_ (cj) ?_)); (focus ((repeat' (first | exact trivial | exact rfl | apply And.intro)); done)))
     | with_reducible first | refine Z.drawZ_rule tabOk mixOk ?_ | refine Z.apZ_mk (by kernel_rfl) ?_
     | fail)
    all_goals (try (conv => whnf))
    all_goals try first | (show Nat.ble _ _ = true; rfl) | (exfalso; rename_i hz; cases hz; done) | (exfalso; (try simp only [LN] at *) <;> omega)
    apply loopQn 4
    ·intro Q1 hq8
     refine Z.loopK tabOk (fun zq : Nat => [(86, .val (.int .i64 (zq : Int)))]) (fun zq : Nat => ([(0, some (Z.Ob.b ⟨[[.v (.int .i64 0), .v (.int .i64 0), .v (.int .i64 0), .v (.bool false), .v (.slice none 0 0), .v (.int .i64 0), .v (.int .i64 0), .v (.int .i64 0), .v (.int .i64 0), .v (.int .i64 0), .v (.int .i64 0), .v (.int .i64 0), .v (.int .i64 0), .v (.slice none 0 0)]], 14, 33, true⟩)), (1, some (Z.Ob.b ⟨[[.v (.int .i64 a.op), .v (.int .i64 0), .v (.int .i64 1), .v (.bool false), .ro true 4 (J1.map Tab.eK), .v (.int .i64 (addJ zq 0 wo0 x.o0)), .v (.int .i64 (addJ zq 1 wo1 x.o1)), .v (.int .i64 (addJ zq 2 wo2 x.o2)), .v (.int .i64 (addJ zq 3 wo3 x.o3)), .v (.int .i64 (addJ zq 4 wo4 x.o4)), .v (.int .i64 (addJ zq 5 wo5 x.o5)), .v (.int .i64 (addJ zq 6 wo6 x.o6)), .v (.int .i64 (addJ zq 7 wo7 x.o7)), .gsl 2 (wtxs.map cN)]], 14, 33, true⟩)), (2, (gB 3 90 (wtxs.map cN)).map Z.Ob.b), (3, some (Z.Ob.b ⟨[[.v (.int .i64 x.op), .v (.int .i64 x.ix), .v (.int .i64 x.w), .v (.bool x.en), .ro false 4 (x.rows.map Tab.eK), .v (.int .i64 x.o0), .v (.int .i64 x.o1), .v (.int .i64 x.o2), .v (.int .i64 x.o3), .v (.int .i64 x.o4), .v (.int .i64 x.o5), .v (.int .i64 x.o6), .v (.int .i64 x.o7), .ro false 3 (x.txs.map eN)]], 14, 33, true⟩))] : Z.Kr)) (fun zq => zq ≤ 8) (fun zq => 8 - zq) 0 4 [(0, _), (2, _), (6, _), (8, _), (40, _), (41, _), (42, _), (85, _)] ⟨rfl, rfl, rfl, rfl, rfl, rfl, rfl, rfl, trivial⟩ [] trivial ?_ ?_ rfl rfl (Nat.zero_le _) ?_
     ·repeat' (first | exact trivial | apply And.intro | exact ⟨_, rfl, Z.Imp.refl _⟩)
     ·repeat' (first | exact trivial | exact (fun b hb => ⟨b, hb, Z.ImpO.refl b⟩) | apply And.intro)
     rintro j HINV
     (try dsimp only at HINV); (try dsimp only)
     have hc9 : j = 0 ∨ j = 1 ∨ j = 2 ∨ j = 3 ∨ j = 4 ∨ j = 5 ∨ j = 6 ∨ j = 7 ∨ j = 8 := by omega
     rcases hc9 with rfl | rfl | rfl | rfl | rfl | rfl | rfl | rfl | rfl
     ·skip
      repeat' ((conv => whnf); first
       | with_reducible first | refine spB_yes (by decide) ?_
       | ((with_reducible refine wr_mk (wo0 + x.o0) ?_ ?_); (focus (exact IntWalk.i64_in (wo0 + x.o0) ⟨by omega, by omega⟩)))
       | ((with_reducible apply ixN_lit); (focus rfl); (focus rfl))
       | with_reducible refine wr_i64 (by first | omega | (simp only [LN] at *; omega)) ?_
       | fail)
      all_goals (try (conv => whnf))
      all_goals try first | (show Nat.ble _ _ = true; rfl) | (exfalso; rename_i hz; cases hz; done) | (exfalso; (try simp only [LN] at *) <;> omega)
      all_goals first
       | ((refine Z.rndK (1) (fun s => [0, 1, 2, 3]) rfl rfl rfl rfl ?_ ?_ ?_ ?_); (focus (repeat' (first | exact trivial | exact rfl | apply And.intro))); (focus (repeat' (first | exact trivial | (intro b hb; cases hb; rfl) | exact Z.gB_sub rfl rfl (ren_map fun _ => rfl) | apply And.intro))); (focus (((try dsimp only); omega))); ((try dsimp only); omega))
       | fail
     ·skip
      repeat' ((conv => whnf); first
       | with_reducible first | refine spB_yes (by decide) ?_
       | ((with_reducible refine wr_mk (wo1 + x.o1) ?_ ?_); (focus (exact IntWalk.i64_in (wo1 + x.o1) ⟨by omega, by omega⟩)))
       | ((with_reducible apply ixN_lit); (focus rfl); (focus rfl))
       | with_reducible refine wr_i64 (by first | omega | (simp only [LN] at *; omega)) ?_
       | fail)
      all_goals (try (conv => whnf))
      all_goals try first | (show Nat.ble _ _ = true; rfl) | (exfalso; rename_i hz; cases hz; done) | (exfalso; (try simp only [LN] at *) <;> omega)
      all_goals first
       | ((refine Z.rndK (2) (fun s => [0, 1, 2, 3]) rfl rfl rfl rfl ?_ ?_ ?_ ?_); (focus (repeat' (first | exact trivial | exact rfl | apply And.intro))); (focus (repeat' (first | exact trivial | (intro b hb; cases hb; rfl) | exact Z.gB_sub rfl rfl (ren_map fun _ => rfl) | apply And.intro))); (focus (((try dsimp only); omega))); ((try dsimp only); omega))
       | fail
     ·skip
      repeat' ((conv => whnf); first
       | with_reducible first | refine spB_yes (by decide) ?_
       | ((with_reducible refine wr_mk (wo2 + x.o2) ?_ ?_); (focus (exact IntWalk.i64_in (wo2 + x.o2) ⟨by omega, by omega⟩)))
       | ((with_reducible apply ixN_lit); (focus rfl); (focus rfl))
       | with_reducible refine wr_i64 (by first | omega | (simp only [LN] at *; omega)) ?_
       | fail)
      all_goals (try (conv => whnf))
      all_goals try first | (show Nat.ble _ _ = true; rfl) | (exfalso; rename_i hz; cases hz; done) | (exfalso; (try simp only [LN] at *) <;> omega)
      all_goals first
       | ((refine Z.rndK (3) (fun s => [0, 1, 2, 3]) rfl rfl rfl rfl ?_ ?_ ?_ ?_); (focus (repeat' (first | exact trivial | exact rfl | apply And.intro))); (focus (repeat' (first | exact trivial | (intro b hb; cases hb; rfl) | exact Z.gB_sub rfl rfl (ren_map fun _ => rfl) | apply And.intro))); (focus (((try dsimp only); omega))); ((try dsimp only); omega))
       | fail
     ·skip
      repeat' ((conv => whnf); first
       | with_reducible first | refine spB_yes (by decide) ?_
       | ((with_reducible refine wr_mk (wo3 + x.o3) ?_ ?_); (focus (exact IntWalk.i64_in (wo3 + x.o3) ⟨by omega, by omega⟩)))
       | ((with_reducible apply ixN_lit); (focus rfl); (focus rfl))
       | with_reducible refine wr_i64 (by first | omega | (simp only [LN] at *; omega)) ?_
       | fail)
      all_goals (try (conv => whnf))
      all_goals try first | (show Nat.ble _ _ = true; rfl) | (exfalso; rename_i hz; cases hz; done) | (exfalso; (try simp only [LN] at *) <;> omega)
      all_goals first
       | ((refine Z.rndK (4) (fun s => [0, 1, 2, 3]) rfl rfl rfl rfl ?_ ?_ ?_ ?_); (focus (repeat' (first | exact trivial | exact rfl | apply And.intro))); (focus (repeat' (first | exact trivial | (intro b hb; cases hb; rfl) | exact Z.gB_sub rfl rfl (ren_map fun _ => rfl) | apply And.intro))); (focus (((try dsimp only); omega))); ((try dsimp only); omega))
       | fail
     ·skip
      repeat' ((conv => whnf); first
       | with_reducible first | refine spB_yes (by decide) ?_
       | ((with_reducible refine wr_mk (wo4 + x.o4) ?_ ?_); (focus (exact IntWalk.i64_in (wo4 + x.o4) ⟨by omega, by omega⟩)))
       | ((with_reducible apply ixN_lit); (focus rfl); (focus rfl))
       | with_reducible refine wr_i64 (by first | omega | (simp only [LN] at *; omega)) ?_
       | fail)
      all_goals (try (conv => whnf))
      all_goals try first | (show Nat.ble _ _ = true; rfl) | (exfalso; rename_i hz; cases hz; done) | (exfalso; (try simp only [LN] at *) <;> omega)
      all_goals first
       | ((refine Z.rndK (5) (fun s => [0, 1, 2, 3]) rfl rfl rfl rfl ?_ ?_ ?_ ?_); (focus (repeat' (first | exact trivial | exact rfl | apply And.intro))); (focus (repeat' (first | exact trivial | (intro b hb; cases hb; rfl) | exact Z.gB_sub rfl rfl (ren_map fun _ => rfl) | apply And.intro))); (focus (((try dsimp only); omega))); ((try dsimp only); omega))
       | fail
     ·skip
      repeat' ((conv => whnf); first
       | with_reducible first | refine spB_yes (by decide) ?_
       | ((with_reducible refine wr_mk (wo5 + x.o5) ?_ ?_); (focus (exact IntWalk.i64_in (wo5 + x.o5) ⟨by omega, by omega⟩)))
       | ((with_reducible apply ixN_lit); (focus rfl); (focus rfl))
       | with_reducible refine wr_i64 (by first | omega | (simp only [LN] at *; omega)) ?_
       | fail)
      all_goals (try (conv => whnf))
      all_goals try first | (show Nat.ble _ _ = true; rfl) | (exfalso; rename_i hz; cases hz; done) | (exfalso; (try simp only [LN] at *) <;> omega)
      all_goals first
       | ((refine Z.rndK (6) (fun s => [0, 1, 2, 3]) rfl rfl rfl rfl ?_ ?_ ?_ ?_); (focus (repeat' (first | exact trivial | exact rfl | apply And.intro))); (focus (repeat' (first | exact trivial | (intro b hb; cases hb; rfl) | exact Z.gB_sub rfl rfl (ren_map fun _ => rfl) | apply And.intro))); (focus (((try dsimp only); omega))); ((try dsimp only); omega))
       | fail
     ·skip
      repeat' ((conv => whnf); first
       | with_reducible first | refine spB_yes (by decide) ?_
       | ((with_reducible refine wr_mk (wo6 + x.o6) ?_ ?_); (focus (exact IntWalk.i64_in (wo6 + x.o6) ⟨by omega, by omega⟩)))
       | ((with_reducible apply ixN_lit); (focus rfl); (focus rfl))
       | with_reducible refine wr_i64 (by first | omega | (simp only [LN] at *; omega)) ?_
       | fail)
      all_goals (try (conv => whnf))
      all_goals try first | (show Nat.ble _ _ = true; rfl) | (exfalso; rename_i hz; cases hz; done) | (exfalso; (try simp only [LN] at *) <;> omega)
      all_goals first
       | ((refine Z.rndK (7) (fun s => [0, 1, 2, 3]) rfl rfl rfl rfl ?_ ?_ ?_ ?_); (focus (repeat' (first | exact trivial | exact rfl | apply And.intro))); (focus (repeat' (first | exact trivial | (intro b hb; cases hb; rfl) | exact Z.gB_sub rfl rfl (ren_map fun _ => rfl) | apply And.intro))); (focus (((try dsimp only); omega))); ((try dsimp only); omega))
       | fail
     ·skip
      repeat' ((conv => whnf); first
       | with_reducible first | refine spB_yes (by decide) ?_
       | ((with_reducible refine wr_mk (wo7 + x.o7) ?_ ?_); (focus (exact IntWalk.i64_in (wo7 + x.o7) ⟨by omega, by omega⟩)))
       | ((with_reducible apply ixN_lit); (focus rfl); (focus rfl))
       | with_reducible refine wr_i64 (by first | omega | (simp only [LN] at *; omega)) ?_
       | fail)
      all_goals (try (conv => whnf))
      all_goals try first | (show Nat.ble _ _ = true; rfl) | (exfalso; rename_i hz; cases hz; done) | (exfalso; (try simp only [LN] at *) <;> omega)
      all_goals first
       | ((refine Z.rndK (8) (fun s => [0, 1, 2, 3]) rfl rfl rfl rfl ?_ ?_ ?_ ?_); (focus (repeat' (first | exact trivial | exact rfl | apply And.intro))); (focus (repeat' (first | exact trivial | (intro b hb; cases hb; rfl) | exact Z.gB_sub rfl rfl (ren_map fun _ => rfl) | apply And.intro))); (focus (((try dsimp only); omega))); ((try dsimp only); omega))
       | fail
     ·skip
      repeat' ((conv => whnf); first
       | with_reducible first | refine spB_no (by decide) ?_
       | fail)
      all_goals (try (conv => whnf))
      all_goals try first | (show Nat.ble _ _ = true; rfl) | (exfalso; rename_i hz; cases hz; done) | (exfalso; (try simp only [LN] at *) <;> omega)
      exact hq8
    repeat' ((conv => whnf); first
     | ((with_reducible refine posE_pos ?_ ?_); (focus ((try simp only [LN] at *) <;> omega)))
     | ((with_reducible refine apdN.mk ?_ ?_ ?_ ?_ ?_ ?_); (focus (first | (simp; done))); (focus (first | exact one_map2 (fun _ => rfl))); (focus ((try simp only [LN] at *) <;> omega)); (focus ((try simp only [LN] at *) <;> omega)); (focus ((try simp only [LN] at *) <;> omega)))
     | with_reducible refine wr_i64 (by first | omega | (simp only [LN] at *; omega)) ?_
     | ((with_reducible refine eqN_mk2 ?_ ?_); (focus (exact Z.kb_some rfl)))
     | fail)
    all_goals (try (conv => whnf))
    all_goals try first | (show Nat.ble _ _ = true; rfl) | (exfalso; rename_i hz; cases hz; done) | (exfalso; (try simp only [LN] at *) <;> omega)
    all_goals first
     | ((refine Z.rnd_rw 1 ([[.v (.int .i64 a.op), .v (.int .i64 0), .v (.int .i64 1), .v (.bool false), .ro true 4 (J1.map Tab.eK), .v (.int .i64 (addJ 8 0 wo0 x.o0)), .v (.int .i64 (addJ 8 1 wo1 x.o1)), .v (.int .i64 (addJ 8 2 wo2 x.o2)), .v (.int .i64 (addJ 8 3 wo3 x.o3)), .v (.int .i64 (addJ 8 4 wo4 x.o4)), .v (.int .i64 (addJ 8 5 wo5 x.o5)), .v (.int .i64 (addJ 8 6 wo6 x.o6)), .v (.int .i64 (addJ 8 7 wo7 x.o7)), .gsl 4 ((wtxs ++ x.txs).map cN)]]) rfl rfl ?_ ?_); (focus ((rw [← hap]; rfl))); ((refine Z.rnd_rw 4 ((wtxs ++ x.txs).map cN) rfl rfl ?_ ?_); (focus (first | exact hap)); ((refine Z.rndK ((k + 1, (⟨a.op, 0, 1, false, J1, wo0 + x.o0, wo1 + x.o1, wo2 + x.o2, wo3 + x.o3, wo4 + x.o4, wo5 + x.o5, wo6 + x.o6, wo7 + x.o7, wtxs ++ x.txs⟩ : Sn))) (fun s => [0, 1, s.idIn 1 13]) rfl rfl rfl rfl ?_ ?_ ?_ ?_); (focus (repeat' (first | exact trivial | exact rfl | apply And.intro))); (focus (repeat' (first | exact trivial | (intro b hb; cases hb; rfl) | exact Z.gB_sub' rfl (by first | rfl | (rw [List.map_append]; rfl) | simp only [List.map_append, List.map_cons, List.map_nil]) (ren_map fun _ => rfl) | apply And.intro))); (focus ((refine ⟨by (try dsimp only); omega, hpa.symm, ?_⟩; (try dsimp only); intro y j hj hy; rcases Nat.lt_succ_iff_lt_or_eq.1 hj with h | h; exact HF y j h hy; subst h; rw [hx] at hy; cases hy; exact ⟨by rw [hhd]; exact hf.1, hf.2⟩))); ((try dsimp only); omega))))
     | fail
   ·simp only [Bool.false_and, Bool.true_and] at hpa
    repeat' ((conv => whnf); first
     | with_reducible first | refine spB_t ?_
     | with_reducible first | refine spB_no (by decide) ?_
     | (with_reducible refine spB_dec ?_ ?_ <;> intro _ <;> (try (exfalso; (first | omega))))
     | (with_reducible refine spB_bne ?_ ?_ <;> intro _ <;> (try (exfalso; (first | omega))))
     | with_reducible first | refine Z.rowN_known hx ?_ | refine Z.rowN_known ha ?_
     | ((with_reducible apply ixN_litp); (focus rfl); (focus ((try simp only [LN] at *) <;> omega)))
     | ((first | (with_reducible refine Z.callZ_mk ?_ (cj) ?_)); (focus ((repeat' (first | exact trivial | exact rfl | apply And.intro)); done)))
     | with_reducible first | refine Z.drawZ_rule tabOk mixOk ?_ | refine Z.apZ_mk (by kernel_rfl) ?_
     | fail)
    all_goals (try (conv => whnf))
    all_goals try first | (show Nat.ble _ _ = true; rfl) | (exfalso; rename_i hz; cases hz; done) | (exfalso; (try simp only [LN] at *) <;> omega)
    apply loopQn 4
    ·intro Q1 hq8
     refine Z.loopK tabOk (fun zq : Nat => [(86, .val (.int .i64 (zq : Int)))]) (fun zq : Nat => ([(0, some (Z.Ob.b ⟨[[.v (.int .i64 0), .v (.int .i64 0), .v (.int .i64 0), .v (.bool false), .v (.slice none 0 0), .v (.int .i64 0), .v (.int .i64 0), .v (.int .i64 0), .v (.int .i64 0), .v (.int .i64 0), .v (.int .i64 0), .v (.int .i64 0), .v (.int .i64 0), .v (.slice none 0 0)]], 14, 33, true⟩)), (1, some (Z.Ob.b ⟨[[.v (.int .i64 a.op), .v (.int .i64 0), .v (.int .i64 1), .v (.bool x.en), .ro true 4 (J1.map Tab.eK), .v (.int .i64 (addJ zq 0 wo0 x.o0)), .v (.int .i64 (addJ zq 1 wo1 x.o1)), .v (.int .i64 (addJ zq 2 wo2 x.o2)), .v (.int .i64 (addJ zq 3 wo3 x.o3)), .v (.int .i64 (addJ zq 4 wo4 x.o4)), .v (.int .i64 (addJ zq 5 wo5 x.o5)), .v (.int .i64 (addJ zq 6 wo6 x.o6)), .v (.int .i64 (addJ zq 7 wo7 x.o7)), .gsl 2 (wtxs.map cN)]], 14, 33, true⟩)), (2, (gB 3 90 (wtxs.map cN)).map Z.Ob.b), (3, some (Z.Ob.b ⟨[[.v (.int .i64 x.op), .v (.int .i64 x.ix), .v (.int .i64 x.w), .v (.bool x.en), .ro false 4 (x.rows.map Tab.eK), .v (.int .i64 x.o0), .v (.int .i64 x.o1), .v (.int .i64 x.o2), .v (.int .i64 x.o3), .v (.int .i64 x.o4), .v (.int .i64 x.o5), .v (.int .i64 x.o6), .v (.int .i64 x.o7), .ro false 3 (x.txs.map eN)]], 14, 33, true⟩))] : Z.Kr)) (fun zq => zq ≤ 8) (fun zq => 8 - zq) 0 4 [(0, _), (2, _), (6, _), (8, _), (40, _), (41, _), (42, _), (85, _)] ⟨rfl, rfl, rfl, rfl, rfl, rfl, rfl, rfl, trivial⟩ [] trivial ?_ ?_ rfl rfl (Nat.zero_le _) ?_
     ·repeat' (first | exact trivial | apply And.intro | exact ⟨_, rfl, Z.Imp.refl _⟩)
     ·repeat' (first | exact trivial | exact (fun b hb => ⟨b, hb, Z.ImpO.refl b⟩) | apply And.intro)
     rintro j HINV
     (try dsimp only at HINV); (try dsimp only)
     have hc9 : j = 0 ∨ j = 1 ∨ j = 2 ∨ j = 3 ∨ j = 4 ∨ j = 5 ∨ j = 6 ∨ j = 7 ∨ j = 8 := by omega
     rcases hc9 with rfl | rfl | rfl | rfl | rfl | rfl | rfl | rfl | rfl
     ·skip
      repeat' ((conv => whnf); first
       | with_reducible first | refine spB_yes (by decide) ?_
       | ((with_reducible refine wr_mk (wo0 + x.o0) ?_ ?_); (focus (exact IntWalk.i64_in (wo0 + x.o0) ⟨by omega, by omega⟩)))
       | ((with_reducible apply ixN_lit); (focus rfl); (focus rfl))
       | with_reducible refine wr_i64 (by first | omega | (simp only [LN] at *; omega)) ?_
       | fail)
      all_goals (try (conv => whnf))
      all_goals try first | (show Nat.ble _ _ = true; rfl) | (exfalso; rename_i hz; cases hz; done) | (exfalso; (try simp only [LN] at *) <;> omega)
      all_goals first
       | ((refine Z.rndK (1) (fun s => [0, 1, 2, 3]) rfl rfl rfl rfl ?_ ?_ ?_ ?_); (focus (repeat' (first | exact trivial | exact rfl | apply And.intro))); (focus (repeat' (first | exact trivial | (intro b hb; cases hb; rfl) | exact Z.gB_sub rfl rfl (ren_map fun _ => rfl) | apply And.intro))); (focus (((try dsimp only); omega))); ((try dsimp only); omega))
       | fail
     ·skip
      repeat' ((conv => whnf); first
       | with_reducible first | refine spB_yes (by decide) ?_
       | ((with_reducible refine wr_mk (wo1 + x.o1) ?_ ?_); (focus (exact IntWalk.i64_in (wo1 + x.o1) ⟨by omega, by omega⟩)))
       | ((with_reducible apply ixN_lit); (focus rfl); (focus rfl))
       | with_reducible refine wr_i64 (by first | omega | (simp only [LN] at *; omega)) ?_
       | fail)
      all_goals (try (conv => whnf))
      all_goals try first | (show Nat.ble _ _ = true; rfl) | (exfalso; rename_i hz; cases hz; done) | (exfalso; (try simp only [LN] at *) <;> omega)
      all_goals first
       | ((refine Z.rndK (2) (fun s => [0, 1, 2, 3]) rfl rfl rfl rfl ?_ ?_ ?_ ?_); (focus (repeat' (first | exact trivial | exact rfl | apply And.intro))); (focus (repeat' (first | exact trivial | (intro b hb; cases hb; rfl) | exact Z.gB_sub rfl rfl (ren_map fun _ => rfl) | apply And.intro))); (focus (((try dsimp only); omega))); ((try dsimp only); omega))
       | fail
     ·skip
      repeat' ((conv => whnf); first
       | with_reducible first | refine spB_yes (by decide) ?_
       | ((with_reducible refine wr_mk (wo2 + x.o2) ?_ ?_); (focus (exact IntWalk.i64_in (wo2 + x.o2) ⟨by omega, by omega⟩)))
       | ((with_reducible apply ixN_lit); (focus rfl); (focus rfl))
       | with_reducible refine wr_i64 (by first | omega | (simp only [LN] at *; omega)) ?_
       | fail)
      all_goals (try (conv => whnf))
      all_goals try first | (show Nat.ble _ _ = true; rfl) | (exfalso; rename_i hz; cases hz; done) | (exfalso; (try simp only [LN] at *) <;> omega)
      all_goals first
       | ((refine Z.rndK (3) (fun s => [0, 1, 2, 3]) rfl rfl rfl rfl ?_ ?_ ?_ ?_); (focus (repeat' (first | exact trivial | exact rfl | apply And.intro))); (focus (repeat' (first | exact trivial | (intro b hb; cases hb; rfl) | exact Z.gB_sub rfl rfl (ren_map fun _ => rfl) | apply And.intro))); (focus (((try dsimp only); omega))); ((try dsimp only); omega))
       | fail
     ·skip
      repeat' ((conv => whnf); first
       | with_reducible first | refine spB_yes (by decide) ?_
       | ((with_reducible refine wr_mk (wo3 + x.o3) ?_ ?_); (focus (exact IntWalk.i64_in (wo3 + x.o3) ⟨by omega, by omega⟩)))
       | ((with_reducible apply ixN_lit); (focus rfl); (focus rfl))
       | with_reducible refine wr_i64 (by first | omega | (simp only [LN] at *; omega)) ?_
       | fail)
      all_goals (try (conv => whnf))
      all_goals try first | (show Nat.ble _ _ = true; rfl) | (exfalso; rename_i hz; cases hz; done) | (exfalso; (try simp only [LN] at *) <;> omega)
      all_goals first
       | ((refine Z.rndK (4) (fun s => [0, 1, 2, 3]) rfl rfl rfl rfl ?_ ?_ ?_ ?_); (focus (repeat' (first | exact trivial | exact rfl | apply And.intro))); (focus (repeat' (first | exact trivial | (intro b hb; cases hb; rfl) | exact Z.gB_sub rfl rfl (ren_map fun _ => rfl) | apply And.intro))); (focus (((try dsimp only); omega))); ((try dsimp only); omega))
       | fail
     ·skip
      repeat' ((conv => whnf); first
       | with_reducible first | refine spB_yes (by decide) ?_
       | ((with_reducible refine wr_mk (wo4 + x.o4) ?_ ?_); (focus (exact IntWalk.i64_in (wo4 + x.o4) ⟨by omega, by omega⟩)))
       | ((with_reducible apply ixN_lit); (focus rfl); (focus rfl))
       | with_reducible refine wr_i64 (by first | omega | (simp only [LN] at *; omega)) ?_
       | fail)
      all_goals (try (conv => whnf))
      all_goals try first | (show Nat.ble _ _ = true; rfl) | (exfalso; rename_i hz; cases hz; done) | (exfalso; (try simp only [LN] at *) <;> omega)
      all_goals first
       | ((refine Z.rndK (5) (fun s => [0, 1, 2, 3]) rfl rfl rfl rfl ?_ ?_ ?_ ?_); (focus (repeat' (first | exact trivial | exact rfl | apply And.intro))); (focus (repeat' (first | exact trivial | (intro b hb; cases hb; rfl) | exact Z.gB_sub rfl rfl (ren_map fun _ => rfl) | apply And.intro))); (focus (((try dsimp only); omega))); ((try dsimp only); omega))
       | fail
     ·skip
      repeat' ((conv => whnf); first
       | with_reducible first | refine spB_yes (by decide) ?_
       | ((with_reducible refine wr_mk (wo5 + x.o5) ?_ ?_); (focus (exact IntWalk.i64_in (wo5 + x.o5) ⟨by omega, by omega⟩)))
       | ((with_reducible apply ixN_lit); (focus rfl); (focus rfl))
       | with_reducible refine wr_i64 (by first | omega | (simp only [LN] at *; omega)) ?_
       | fail)
      all_goals (try (conv => whnf))
      all_goals try first | (show Nat.ble _ _ = true; rfl) | (exfalso; rename_i hz; cases hz; done) | (exfalso; (try simp only [LN] at *) <;> omega)
      all_goals first
       | ((refine Z.rndK (6) (fun s => [0, 1, 2, 3]) rfl rfl rfl rfl ?_ ?_ ?_ ?_); (focus (repeat' (first | exact trivial | exact rfl | apply And.intro))); (focus (repeat' (first | exact trivial | (intro b hb; cases hb; rfl) | exact Z.gB_sub rfl rfl (ren_map fun _ => rfl) | apply And.intro))); (focus (((try dsimp only); omega))); ((try dsimp only); omega))
       | fail
     ·skip
      repeat' ((conv => whnf); first
       | with_reducible first | refine spB_yes (by decide) ?_
       | ((with_reducible refine wr_mk (wo6 + x.o6) ?_ ?_); (focus (exact IntWalk.i64_in (wo6 + x.o6) ⟨by omega, by omega⟩)))
       | ((with_reducible apply ixN_lit); (focus rfl); (focus rfl))
       | with_reducible refine wr_i64 (by first | omega | (simp only [LN] at *; omega)) ?_
       | fail)
      all_goals (try (conv => whnf))
      all_goals try first | (show Nat.ble _ _ = true; rfl) | (exfalso; rename_i hz; cases hz; done) | (exfalso; (try simp only [LN] at *) <;> omega)
      all_goals first
       | ((refine Z.rndK (7) (fun s => [0, 1, 2, 3]) rfl rfl rfl rfl ?_ ?_ ?_ ?_); (focus (repeat' (first | exact trivial | exact rfl | apply And.intro))); (focus (repeat' (first | exact trivial | (intro b hb; cases hb; rfl) | exact Z.gB_sub rfl rfl (ren_map fun _ => rfl) | apply And.intro))); (focus (((try dsimp only); omega))); ((try dsimp only); omega))
       | fail
     ·skip
      repeat' ((conv => whnf); first
       | with_reducible first | refine spB_yes (by decide) ?_
       | ((with_reducible refine wr_mk (wo7 + x.o7) ?_ ?_); (focus (exact IntWalk.i64_in (wo7 + x.o7) ⟨by omega, by omega⟩)))
       | ((with_reducible apply ixN_lit); (focus rfl); (focus rfl))
       | with_reducible refine wr_i64 (by first | omega | (simp only [LN] at *; omega)) ?_
       | fail)
      all_goals (try (conv => whnf))
      all_goals try first | (show Nat.ble _ _ = true; rfl) | (exfalso; rename_i hz; cases hz; done) | (exfalso; (try simp only [LN] at *) <;> omega)
      all_goals first
       | ((refine Z.rndK (8) (fun s => [0, 1, 2, 3]) rfl rfl rfl rfl ?_ ?_ ?_ ?_); (focus (repeat' (first | exact trivial | exact rfl | apply And.intro))); (focus (repeat' (first | exact trivial | (intro b hb; cases hb; rfl) | exact Z.gB_sub rfl rfl (ren_map fun _ => rfl) | apply And.intro))); (focus (((try dsimp only); omega))); ((try dsimp only); omega))
       | fail
     ·skip
      repeat' ((conv => whnf); first
       | with_reducible first | refine spB_no (by decide) ?_
       | fail)
      all_goals (try (conv => whnf))
      all_goals try first | (show Nat.ble _ _ = true; rfl) | (exfalso; rename_i hz; cases hz; done) | (exfalso; (try simp only [LN] at *) <;> omega)
      exact hq8
    repeat' ((conv => whnf); first
     | ((with_reducible refine posE_pos ?_ ?_); (focus ((try simp only [LN] at *) <;> omega)))
     | ((with_reducible refine apdN.mk ?_ ?_ ?_ ?_ ?_ ?_); (focus (first | (simp; done))); (focus (first | exact one_map2 (fun _ => rfl))); (focus ((try simp only [LN] at *) <;> omega)); (focus ((try simp only [LN] at *) <;> omega)); (focus ((try simp only [LN] at *) <;> omega)))
     | with_reducible refine wr_i64 (by first | omega | (simp only [LN] at *; omega)) ?_
     | ((with_reducible refine eqN_mk2 ?_ ?_); (focus (exact Z.kb_some rfl)))
     | fail)
    all_goals (try (conv => whnf))
    all_goals try first | (show Nat.ble _ _ = true; rfl) | (exfalso; rename_i hz; cases hz; done) | (exfalso; (try simp only [LN] at *) <;> omega)
    all_goals first
     | ((refine Z.rnd_rw 1 ([[.v (.int .i64 a.op), .v (.int .i64 0), .v (.int .i64 1), .v (.bool x.en), .ro true 4 (J1.map Tab.eK), .v (.int .i64 (addJ 8 0 wo0 x.o0)), .v (.int .i64 (addJ 8 1 wo1 x.o1)), .v (.int .i64 (addJ 8 2 wo2 x.o2)), .v (.int .i64 (addJ 8 3 wo3 x.o3)), .v (.int .i64 (addJ 8 4 wo4 x.o4)), .v (.int .i64 (addJ 8 5 wo5 x.o5)), .v (.int .i64 (addJ 8 6 wo6 x.o6)), .v (.int .i64 (addJ 8 7 wo7 x.o7)), .gsl 4 ((wtxs ++ x.txs).map cN)]]) rfl rfl ?_ ?_); (focus ((rw [← hap]; rfl))); ((refine Z.rnd_rw 4 ((wtxs ++ x.txs).map cN) rfl rfl ?_ ?_); (focus (first | exact hap)); ((refine Z.rndK ((k + 1, (⟨a.op, 0, 1, x.en, J1, wo0 + x.o0, wo1 + x.o1, wo2 + x.o2, wo3 + x.o3, wo4 + x.o4, wo5 + x.o5, wo6 + x.o6, wo7 + x.o7, wtxs ++ x.txs⟩ : Sn))) (fun s => [0, 1, s.idIn 1 13]) rfl rfl rfl rfl ?_ ?_ ?_ ?_); (focus (repeat' (first | exact trivial | exact rfl | apply And.intro))); (focus (repeat' (first | exact trivial | (intro b hb; cases hb; rfl) | exact Z.gB_sub' rfl (by first | rfl | (rw [List.map_append]; rfl) | simp only [List.map_append, List.map_cons, List.map_nil]) (ren_map fun _ => rfl) | apply And.intro))); (focus ((refine ⟨by (try dsimp only); omega, hpa.symm, ?_⟩; (try dsimp only); intro y j hj hy; rcases Nat.lt_succ_iff_lt_or_eq.1 hj with h | h; exact HF y j h hy; subst h; rw [hx] at hy; cases hy; exact ⟨by rw [hhd]; exact hf.1, hf.2⟩))); ((try dsimp only); omega))))
     | fail
 have hkl : k = l.length := by omega
 subst hkl
 have hfit : fitW l = true := fit_yes h0 (fun j y hy => HF y j (List.getElem?_eq_some_iff.1 hy).1 hy)
 have HW2 : W = wholeS l := by rw [HW, pw_all h1 hfit]
 have hnx : (l.map (·.txs)).flatten = W.txs := by rw [HW2]; rfl
 have hWo : a.op = W.op := by rw [HW]; exact (congrArg Sn.op hhd).symm
 have hWi : 0 = W.ix := by rw [HW]; rfl
 have hWw : 1 = W.w := by rw [HW]; rfl
 rw [hnx, ← HW2]
 have cn := rnamesok_con W.txs (by omega)
 cases hn : namesR W.txs
 all_goals rw [hn] at cn
 ·rw [if_pos (.inr rfl)]
  repeat' ((conv => whnf); first
   | with_reducible first | refine spB_t ?_
   | ((with_reducible apply spB_cong); (focus (simp only [splQ, Int.reduceBEq, Int.reduceBNe, Int.reduceLE, Int.reduceLT, Int.reduceEq]; rfl)))
   | (with_reducible refine spB_dec ?_ ?_ <;> intro _ <;> (try (exfalso; (first | contradiction))))
   | ((first | (with_reducible refine Z.callZ_mk ?_ (cn) ?_)); (focus ((repeat' (first | exact trivial | exact Z.low_gslm (by first | rfl | exact Z.kb_some rfl) (fun _ => rfl) | apply And.intro)); done)))
   | fail)
  all_goals (try (conv => whnf))
  all_goals try first | (show Nat.ble _ _ = true; rfl) | (exfalso; rename_i hz; cases hz; done) | (exfalso; (try simp only [LN] at *) <;> omega)
  all_goals first
   | ((first | (with_reducible apply Z.retF2)); (focus rfl); (repeat' (first | exact trivial | (with_reducible apply Z.frz_one) | (with_reducible apply Z.frz_agg) | (with_reducible apply Z.fq_int) | (with_reducible apply Z.fq_bool) | (exact Z.frz_nil) | exact rfl | apply And.intro)); (all_goals (try exact (fun _ => none))); all_goals (first | (simp; done)))
   | fail
 ·rw [if_neg (by rw [hfit]; simp)]
  repeat' ((conv => whnf); first
   | ((with_reducible apply spB_cong); (focus (simp only [splQ, Int.reduceBEq, Int.reduceBNe, Int.reduceLE, Int.reduceLT, Int.reduceEq]; rfl)))
   | with_reducible first | refine spB_no (by decide) ?_
   | (with_reducible refine spB_dec ?_ ?_ <;> intro _ <;> (try (exfalso; (first | contradiction))))
   | ((first | (with_reducible refine Z.callZ_mk ?_ (cn) ?_)); (focus ((repeat' (first | exact trivial | exact Z.low_gslm (by first | rfl | exact Z.kb_some rfl) (fun _ => rfl) | apply And.intro)); done)))
   | fail)
  all_goals (try (conv => whnf))
  all_goals try first | (show Nat.ble _ _ = true; rfl) | (exfalso; rename_i hz; cases hz; done) | (exfalso; (try simp only [LN] at *) <;> omega)
  all_goals first
   | ((first | (with_reducible apply Z.retF2)); (focus rfl); (repeat' (first | exact trivial | (with_reducible apply Z.frz_one) | (with_reducible apply Z.frz_agg) | (with_reducible apply Z.fq_int) | (with_reducible apply Z.fq_bool) | (with_reducible apply Z.fq_ro) | ((with_reducible apply Z.fq_gsl); (focus (first | exact Z.isB_map _)); (focus (exact fun _ => rfl))) | exact rfl | apply And.intro)); (all_goals (try exact (fun _ => none))); all_goals (first | exact hWo | exact hWi | exact hWw))
   | fail
end Go.Proofs.Ytopieffkpdlpbaa
namespace Go.Proofs.Ytopieffkpdlpbaa
open Go Go.RowKit Wx
set_option maxHeartbeats 4000000
theorem snapR_tab {x : Sn} (h : snapR x = true) : Tab.tabR x.rows = true := by
 unfold snapR at h
 simp only [Bool.and_eq_true] at h
 exact h.2.2.2.1
theorem snapR_part {x : Sn} (h : snapR x = true) : Tab.partL x.rows x.ix x.w = x.rows := by
 unfold snapR at h
 simp only [Bool.and_eq_true, decide_eq_true_eq] at h
 exact h.2.2.2.2
theorem snapR_sh {x : Sn} (h : snapR x = true) : Tab.okS x.ix x.w := by
 unfold snapR at h
 simp only [Bool.and_eq_true, decide_eq_true_eq] at h
 exact h.1.2
end Go.Proofs.Ytopieffkpdlpbaa
namespace Go.Proofs.Ytopieffkpdlpbaa
open Go Go.RowKit Wx
set_option maxHeartbeats 4000000
abbrev Dsj (a b : List Tab.Kc) : Prop := ∀ x ∈ a, ∀ y ∈ b, Tab.neK x y
theorem gath_go : ∀ {L : List (List Tab.Kc)} {acc : List Tab.Kc}, Tab.tabR acc = true → (∀ r ∈ L, Tab.tabR r = true) → (∀ r ∈ L, Dsj acc r) → L.Pairwise Dsj → Tab.tabR (L.foldl (fun t r => (Tab.joinT t r).1) acc) = true ∧ ∀ x, x ∈ L.foldl (fun t r => (Tab.joinT t r).1) acc ↔ x ∈ acc ∨ ∃ r ∈ L, x ∈ r
 | [], acc, h, _, _, _ => ⟨h, fun x => by simp⟩
 | r :: L, acc, h, ht, hd, hp => by
  rw [List.pairwise_cons] at hp
  have hr := ht r (by simp)
  have b1 := Tab.tab_iff.1 hr
  have hn : Dsj acc r := hd r (by simp)
  have hc := (Tab.comm_no (b := r) h).2 hn
  have hm : (Tab.mrg acc r).Perm (acc ++ r) := Tab.mrg_perm h b1.1 hn (Tab.pw_ne b1.2)
  have hj : (Tab.joinT acc r).1 = Tab.mrg acc r := by
   unfold Tab.joinT
   rw [if_neg (by rw [h, hr]; simp), if_neg (by rw [hc]; decide)]
  have hmt : Tab.tabR (Tab.mrg acc r) = true := Tab.mrg_tab h b1.1
  have ih := gath_go (L := L) (acc := Tab.mrg acc r) hmt (fun q hq => ht q (by simp [hq])) (fun q hq x hx y hy => by
   rcases List.mem_append.1 ((hm.mem_iff (a := x)).1 hx) with e | e
   ·exact hd q (by simp [hq]) x e y hy
   ·exact hp.1 q hq x e y hy) hp.2
  rw [List.foldl_cons, hj]
  refine ⟨ih.1, fun x => ?_⟩
  rw [ih.2, hm.mem_iff, List.mem_append]
  constructor
  ·rintro ((h1 | h1) | ⟨q, hq, h1⟩)
   ·exact .inl h1
   ·exact .inr ⟨r, by simp, h1⟩
   ·exact .inr ⟨q, by simp [hq], h1⟩
  ·rintro (h1 | ⟨q, hq, h1⟩)
   ·exact .inl (.inl h1)
   ·rcases List.mem_cons.1 hq with rfl | hq
    ·exact .inl (.inr h1)
    ·exact .inr ⟨q, hq, h1⟩
theorem gath_mem {L : List (List Tab.Kc)} (ht : ∀ r ∈ L, Tab.tabR r = true) (hp : L.Pairwise Dsj) : Tab.tabR (gath L) = true ∧ ∀ x, x ∈ gath L ↔ ∃ r ∈ L, x ∈ r := by
 have h := gath_go (L := L) (acc := []) rfl ht (fun r _ x hx => nomatch hx) hp
 exact ⟨h.1, fun x => (h.2 x).trans (by simp)⟩
theorem snapR_own {x : Sn} (h : snapR x = true) : ∀ y ∈ x.rows, Tab.ownG (y.key % 8) x.w = x.ix := by
 have h1 := rrows_is x (snapR_tab h) (snapR_sh h)
 rw [decide_eq_true (snapR_part h)] at h1
 exact of_decide_eq_true h1.symm
theorem fit_at {l : List Sn} (hf : fitW l = true) {j : Nat} {x : Sn} (hx : l[j]? = some x) : fitK l j x := by
 unfold fitW at hf
 simp only [Bool.and_eq_true, List.all_eq_true] at hf
 exact of_decide_eq_true (hf.2 (x, j) (List.mem_iff_getElem?.2 ⟨j, by rw [List.getElem?_zipIdx, hx]; simp⟩))
theorem fit_pos {l : List Sn} (h1 : ∀ x ∈ l, snapR x = true) (hf : fitW l = true) : 1 ≤ l.length ∧ l.length ≤ 3 := by
 rcases fit_len h1 hf with ⟨a, rfl⟩ | ⟨a, b, rfl⟩ | ⟨a, b, c, rfl⟩ <;> simp
theorem fit_dsj {l : List Sn} (h1 : ∀ x ∈ l, snapR x = true) (hf : fitW l = true) : (l.map (·.rows)).Pairwise Dsj := by
 rw [List.pairwise_map, List.pairwise_iff_getElem]
 intro i j hi hj hij x hx y hy he
 have fi := fit_at hf (List.getElem?_eq_getElem hi)
 have fj := fit_at hf (List.getElem?_eq_getElem hj)
 have oi := snapR_own (h1 _ (List.getElem_mem hi)) x hx
 have oj := snapR_own (h1 _ (List.getElem_mem hj)) y hy
 rw [fi.2.1, fi.2.2] at oi
 rw [fj.2.1, fj.2.2] at oj
 rw [he.2, oj] at oi
 omega
theorem whole_rows {l : List Sn} (h1 : ∀ x ∈ l, snapR x = true) (hf : fitW l = true) : Tab.tabR (wholeS l).rows = true ∧ ∀ x, x ∈ (wholeS l).rows ↔ ∃ s ∈ l, x ∈ s.rows := by
 have h := gath_mem (L := l.map (·.rows)) (fun r hr => by obtain ⟨s, hs, rfl⟩ := List.mem_map.1 hr; exact snapR_tab (h1 s hs)) (fit_dsj h1 hf)
 refine ⟨h.1, fun x => ?_⟩
 rw [show (wholeS l).rows = gath (l.map (·.rows)) from rfl, h.2]
 constructor
 ·rintro ⟨r, hr, hx⟩
  obtain ⟨s, hs, rfl⟩ := List.mem_map.1 hr
  exact ⟨s, hs, hx⟩
 ·rintro ⟨s, hs, hx⟩
  exact ⟨_, List.mem_map.2 ⟨s, hs, rfl⟩, hx⟩
theorem own_rng {g : Int} {n : Nat} (hg : 0 ≤ g ∧ g < 8) (hn : 1 ≤ n ∧ n ≤ 3) : 0 ≤ Tab.ownG g n ∧ Tab.ownG g n < n := by
 unfold Tab.ownG
 have h : n = 1 ∨ n = 2 ∨ n = 3 := by omega
 rcases h with rfl | rfl | rfl <;> constructor <;> simp <;> omega
theorem own_mem {l : List Sn} {g : Int} (hg : 0 ≤ g ∧ g < 8) (hn : 1 ≤ l.length ∧ l.length ≤ 3) : ownW g l ∈ l := by
 have h := own_rng hg hn
 unfold ownW
 have h2 : (Tab.ownG g l.length).toNat < l.length := by omega
 rw [List.getD_eq_getElem?_getD, List.getElem?_eq_getElem h2]
 exact List.getElem_mem h2
theorem own_one {g : Int} (hg : 0 ≤ g ∧ g < 8) : Tab.ownG g 1 = 0 := by unfold Tab.ownG; omega
theorem sn_op {x : Sn} (h : snapR x = true) : 0 ≤ x.op ∧ x.op < 8 := by
 unfold snapR at h
 simp only [Bool.and_eq_true, decide_eq_true_eq] at h
 exact h.1.1
theorem snapR_of {x : Sn} (h1 : 0 ≤ x.op ∧ x.op < 8) (h2 : Tab.okS x.ix x.w) (h3 : (0 ≤ x.o0 ∧ x.o0 ≤ 40) ∧ (0 ≤ x.o1 ∧ x.o1 ≤ 40) ∧ (0 ≤ x.o2 ∧ x.o2 ≤ 40) ∧ (0 ≤ x.o3 ∧ x.o3 ≤ 40) ∧ (0 ≤ x.o4 ∧ x.o4 ≤ 40) ∧ (0 ≤ x.o5 ∧ x.o5 ≤ 40) ∧ (0 ≤ x.o6 ∧ x.o6 ≤ 40) ∧ (0 ≤ x.o7 ∧ x.o7 ≤ 40)) (h4 : (x.o0 = 0 ∨ Tab.ownG 0 x.w = x.ix) ∧ (x.o1 = 0 ∨ Tab.ownG 1 x.w = x.ix) ∧ (x.o2 = 0 ∨ Tab.ownG 2 x.w = x.ix) ∧ (x.o3 = 0 ∨ Tab.ownG 3 x.w = x.ix) ∧ (x.o4 = 0 ∨ Tab.ownG 4 x.w = x.ix) ∧ (x.o5 = 0 ∨ Tab.ownG 5 x.w = x.ix) ∧ (x.o6 = 0 ∨ Tab.ownG 6 x.w = x.ix) ∧ (x.o7 = 0 ∨ Tab.ownG 7 x.w = x.ix)) (h5 : namesR x.txs = true) (h6 : Tab.tabR x.rows = true) (h7 : ∀ y ∈ x.rows, Tab.ownG (y.key % 8) x.w = x.ix) : snapR x = true := by
 have h8 := rrows_is x h6 h2
 rw [decide_eq_true h7] at h8
 unfold snapR
 rw [decide_eq_true ⟨h1, h2⟩, offR_is, decide_eq_true ⟨h3, h4⟩, h5, h6, h8]
 rfl
theorem whole_R {l : List Sn} (h1 : ∀ x ∈ l, snapR x = true) (hf : fitW l = true) (hn : namesR (l.map (·.txs)).flatten = true) : snapR (wholeS l) = true := by
 have hp := fit_pos h1 hf
 have hw := whole_rows h1 hf
 have hd : (wholeS l).op = (l.headD zeroS).op := rfl
 obtain ⟨a, ha⟩ : ∃ a, l[0]? = some a := ⟨_, List.getElem?_eq_getElem (by omega)⟩
 have hop := sn_op (h1 a (List.mem_of_getElem? ha))
 have fa := fit_at hf ha
 refine snapR_of (by rw [hd, ← fa.1]; exact hop) (by unfold Tab.okS; exact ⟨⟨(by decide : (1:Int) ≤ 1), (by decide : (1:Int) ≤ 3)⟩, (by decide : (0:Int) ≤ 0), (by decide : (0:Int) < 1)⟩) ⟨?_, ?_, ?_, ?_, ?_, ?_, ?_, ?_⟩ ⟨.inr (own_one (g := 0) (by decide)), .inr (own_one (g := 1) (by decide)), .inr (own_one (g := 2) (by decide)), .inr (own_one (g := 3) (by decide)), .inr (own_one (g := 4) (by decide)), .inr (own_one (g := 5) (by decide)), .inr (own_one (g := 6) (by decide)), .inr (own_one (g := 7) (by decide))⟩ hn hw.1 (fun y hy => own_one (by have := Tab.keyOk_iff.1 ((Tab.tab_iff.1 hw.1).1 y hy).1; omega))
 ·exact (snapR_rng (h1 _ (own_mem (g := 0) (by decide) hp))).1.1
 ·exact (snapR_rng (h1 _ (own_mem (g := 1) (by decide) hp))).1.2.1
 ·exact (snapR_rng (h1 _ (own_mem (g := 2) (by decide) hp))).1.2.2.1
 ·exact (snapR_rng (h1 _ (own_mem (g := 3) (by decide) hp))).1.2.2.2.1
 ·exact (snapR_rng (h1 _ (own_mem (g := 4) (by decide) hp))).1.2.2.2.2.1
 ·exact (snapR_rng (h1 _ (own_mem (g := 5) (by decide) hp))).1.2.2.2.2.2.1
 ·exact (snapR_rng (h1 _ (own_mem (g := 6) (by decide) hp))).1.2.2.2.2.2.2.1
 ·exact (snapR_rng (h1 _ (own_mem (g := 7) (by decide) hp))).1.2.2.2.2.2.2.2
def resc (W : Sn) (w : Int) : List Sn := if w = 1 then [partS W 0 1] else if w = 2 then [partS W 0 2, partS W 1 2] else [partS W 0 3, partS W 1 3, partS W 2 3]
theorem okS_lt {i w : Int} (h1 : 1 ≤ w) (h2 : w ≤ 3) (h3 : 0 ≤ i) (h4 : i < w) : Tab.okS i w := ⟨⟨h1, h2⟩, h3, h4⟩
end Go.Proofs.Ytopieffkpdlpbaa
namespace Go.Proofs.Ytopieffkpdlpbaa
open Go Go.RowKit Wx
set_option maxHeartbeats 4000000
theorem rwh_nil   : Con Try.prog 15 [.one (.ro false 14 (([] : List Sn).map eSn))] (fun rx rK rt => rx = .tup [.agg [.v (.int .i64 zeroS.op), .v (.int .i64 zeroS.ix), .v (.int .i64 zeroS.w), .v (.bool zeroS.en), .ro true 4 (zeroS.rows.map Tab.eK), .v (.int .i64 zeroS.o0), .v (.int .i64 zeroS.o1), .v (.int .i64 zeroS.o2), .v (.int .i64 zeroS.o3), .v (.int .i64 zeroS.o4), .v (.int .i64 zeroS.o5), .v (.int .i64 zeroS.o6), .v (.int .i64 zeroS.o7), .ro true 3 (zeroS.txs.map eN)], .one (.v (.int .i64 281))] ∧ rK = [] ∧ rt = 0) := by
 refine Z.con_ofF tabOk 112 Try.f15 _ Try.func15 (by kernel_rfl) rfl rfl rfl rfl ?_
 repeat' ((conv => whnf); first
  | with_reducible first | refine spB_t ?_
  | with_reducible first | refine spB_yes (by decide) ?_ | refine spB_no (by decide) ?_
  | with_reducible first | refine Z.loopZ_unroll tabOk 1 ?_
  | fail)
 all_goals (try (conv => whnf))
 all_goals try first | (show Nat.ble _ _ = true; rfl) | (exfalso; rename_i hz; cases hz; done) | (exfalso; (try simp only [LN] at *) <;> omega)
 all_goals first
  | ((first | (with_reducible apply Z.retF2)); (focus rfl); (repeat' (first | exact trivial | (with_reducible apply Z.frz_one) | (with_reducible apply Z.frz_agg) | (with_reducible apply Z.fq_int) | (with_reducible apply Z.fq_bool) | (exact Z.frz_nil) | exact rfl | apply And.intro)); (all_goals (try exact (fun _ => none))); all_goals (first | (simp; done)))
  | fail
theorem rwh_chk (l : List Sn) (hA : ∀ x ∈ l, x.rows.length ≤ 1000 ∧ x.txs.length ≤ 1000) (hl : l.length ≤ 1000) (h1 : l.all snapR = false) : Con Try.prog 15 [.one (.ro false 14 ((l : List Sn).map eSn))] (fun rx rK rt => rx = .tup [.agg [.v (.int .i64 zeroS.op), .v (.int .i64 zeroS.ix), .v (.int .i64 zeroS.w), .v (.bool zeroS.en), .ro true 4 (zeroS.rows.map Tab.eK), .v (.int .i64 zeroS.o0), .v (.int .i64 zeroS.o1), .v (.int .i64 zeroS.o2), .v (.int .i64 zeroS.o3), .v (.int .i64 zeroS.o4), .v (.int .i64 zeroS.o5), .v (.int .i64 zeroS.o6), .v (.int .i64 zeroS.o7), .ro true 3 (zeroS.txs.map eN)], .one (.v (.int .i64 280))] ∧ rK = [] ∧ rt = 0) := by
 refine Z.con_ofF tabOk 112 Try.f15 _ Try.func15 (by kernel_rfl) rfl rfl rfl rfl ?_
 repeat' ((conv => whnf); first
  | with_reducible first | refine spB_t ?_
  | fail)
 all_goals (try (conv => whnf))
 all_goals try first | (show Nat.ble _ _ = true; rfl) | (exfalso; rename_i hz; cases hz; done) | (exfalso; (try simp only [LN] at *) <;> omega)
 refine Z.loopK tabOk (fun zq : Nat => [(13, .val (.int .i64 (zq : Int)))]) (fun zq : Nat => ([] : Z.Kr)) (fun zq => zq ≤ l.length ∧ (∀ x ∈ l.take zq, snapR x = true)) (fun zq => l.length - zq) 0 1 [(0, _), (2, _), (11, _), (12, _)] ⟨rfl, rfl, rfl, rfl, trivial⟩ [(0, some _)] ⟨rfl, trivial⟩ ?_ ?_ rfl rfl ⟨Nat.zero_le _, (fun x h => nomatch h)⟩ ?_
 ·repeat' (first | exact trivial | apply And.intro | exact ⟨_, rfl, Z.Imp.refl _⟩)
 ·repeat' (first | exact trivial)
 rintro i HINV
 (try dsimp only at HINV); (try dsimp only)
 obtain ⟨HI, HG⟩ := HINV
 by_cases hi : i < l.length
 ·obtain ⟨x, hx⟩ := getElem?_some' (xs := l) (i := i) hi
  have hxm := List.mem_of_getElem? hx
  have ck := rright_con x (hA x hxm).1 (by have := (hA x hxm).2; omega)
  cases hs : snapR x
  all_goals rw [hs] at ck
  ·skip
   repeat' ((conv => whnf); first
    | with_reducible first | refine spB_t ?_
    | ((with_reducible apply spB_cong); (focus (simp only [splQ, Int.reduceBEq, Int.reduceBNe, Int.reduceLE, Int.reduceLT, Int.reduceEq]; rfl)))
    | (with_reducible refine spB_dec ?_ ?_ <;> intro _ <;> (try (exfalso; (first | (simp only [LN] at *; omega)))))
    | with_reducible first | refine Z.rowN_known hx ?_
    | ((with_reducible apply ixN_litp); (focus rfl); (focus ((try simp only [LN] at *) <;> omega)))
    | ((first | (with_reducible refine Z.callZ_mk ?_ (ck) ?_)); (focus ((repeat' (first | exact trivial | exact rfl | apply And.intro)); done)))
    | fail)
   all_goals (try (conv => whnf))
   all_goals try first | (show Nat.ble _ _ = true; rfl) | (exfalso; rename_i hz; cases hz; done) | (exfalso; (try simp only [LN] at *) <;> omega)
   all_goals first
    | ((first | (with_reducible apply Z.retF2)); (focus rfl); (repeat' (first | exact trivial | (with_reducible apply Z.frz_one) | (with_reducible apply Z.frz_agg) | (with_reducible apply Z.fq_int) | (with_reducible apply Z.fq_bool) | (exact Z.frz_nil) | exact rfl | apply And.intro)); (all_goals (try exact (fun _ => none))); all_goals (first | (simp; done)))
    | fail
  ·skip
   repeat' ((conv => whnf); first
    | ((with_reducible apply spB_cong); (focus (simp only [splQ, Int.reduceBEq, Int.reduceBNe, Int.reduceLE, Int.reduceLT, Int.reduceEq]; rfl)))
    | with_reducible first | refine spB_no (by decide) ?_
    | (with_reducible refine spB_dec ?_ ?_ <;> intro _ <;> (try (exfalso; (first | (simp only [LN] at *; omega)))))
    | with_reducible first | refine Z.rowN_known hx ?_
    | ((with_reducible apply ixN_litp); (focus rfl); (focus ((try simp only [LN] at *) <;> omega)))
    | with_reducible refine wr_i64 (by first | omega | (simp only [LN] at *; omega)) ?_
    | ((first | (with_reducible refine Z.callZ_mk ?_ (ck) ?_)); (focus ((repeat' (first | exact trivial | exact rfl | apply And.intro)); done)))
    | fail)
   all_goals (try (conv => whnf))
   all_goals try first | (show Nat.ble _ _ = true; rfl) | (exfalso; rename_i hz; cases hz; done) | (exfalso; (try simp only [LN] at *) <;> omega)
   all_goals first
    | ((refine Z.rndK ((i + 1)) (fun s => [0]) rfl rfl rfl rfl ?_ ?_ ?_ ?_); (focus (repeat' (first | exact trivial | exact rfl | apply And.intro))); (focus (repeat' (first | exact trivial | (intro b hb; cases hb; rfl) | apply And.intro))); (focus ((refine ⟨by (try dsimp only); omega, ?_⟩; (try dsimp only); rw [take_snoc hx]; intro z hz; rcases List.mem_append.1 hz with h | h; exact HG z h; rw [List.mem_singleton.1 h]; exact hs))); ((try dsimp only); omega))
    | fail
 have hil : i = l.length := by omega
 subst hil
 rw [List.take_length] at HG
 exact absurd (List.all_eq_true.2 HG) (by rw [h1]; decide)
theorem rwh_w (l : List Sn) (hA : ∀ x ∈ l, x.rows.length ≤ 1000 ∧ x.txs.length ≤ 1000) (hl : l.length ≤ 1000) (h1 : ∀ x ∈ l, snapR x = true) (a : Sn) (ha : l[0]? = some a) (hw : a.w ≠ (l.length : Int)) : Con Try.prog 15 [.one (.ro false 14 ((l : List Sn).map eSn))] (fun rx rK rt => rx = .tup [.agg [.v (.int .i64 zeroS.op), .v (.int .i64 zeroS.ix), .v (.int .i64 zeroS.w), .v (.bool zeroS.en), .ro true 4 (zeroS.rows.map Tab.eK), .v (.int .i64 zeroS.o0), .v (.int .i64 zeroS.o1), .v (.int .i64 zeroS.o2), .v (.int .i64 zeroS.o3), .v (.int .i64 zeroS.o4), .v (.int .i64 zeroS.o5), .v (.int .i64 zeroS.o6), .v (.int .i64 zeroS.o7), .ro true 3 (zeroS.txs.map eN)], .one (.v (.int .i64 281))] ∧ rK = [] ∧ rt = 0) := by
 refine Z.con_ofF tabOk 112 Try.f15 _ Try.func15 (by kernel_rfl) rfl rfl rfl rfl ?_
 repeat' ((conv => whnf); first
  | with_reducible first | refine spB_t ?_
  | fail)
 all_goals (try (conv => whnf))
 all_goals try first | (show Nat.ble _ _ = true; rfl) | (exfalso; rename_i hz; cases hz; done) | (exfalso; (try simp only [LN] at *) <;> omega)
 refine Z.loopK tabOk (fun zq : Nat => [(13, .val (.int .i64 (zq : Int)))]) (fun zq : Nat => ([] : Z.Kr)) (fun zq => zq ≤ l.length ∧ (∀ x ∈ l.take zq, snapR x = true)) (fun zq => l.length - zq) 0 1 [(0, _), (2, _), (11, _), (12, _)] ⟨rfl, rfl, rfl, rfl, trivial⟩ [(0, some _)] ⟨rfl, trivial⟩ ?_ ?_ rfl rfl ⟨Nat.zero_le _, (fun x h => nomatch h)⟩ ?_
 ·repeat' (first | exact trivial | apply And.intro | exact ⟨_, rfl, Z.Imp.refl _⟩)
 ·repeat' (first | exact trivial)
 rintro i HINV
 (try dsimp only at HINV); (try dsimp only)
 obtain ⟨HI, HG⟩ := HINV
 by_cases hi : i < l.length
 ·obtain ⟨x, hx⟩ := getElem?_some' (xs := l) (i := i) hi
  have hxm := List.mem_of_getElem? hx
  have ck := rright_con x (hA x hxm).1 (by have := (hA x hxm).2; omega)
  cases hs : snapR x
  all_goals rw [hs] at ck
  ·exact absurd (h1 x hxm) (by rw [hs]; decide)
  ·skip
   repeat' ((conv => whnf); first
    | ((with_reducible apply spB_cong); (focus (simp only [splQ, Int.reduceBEq, Int.reduceBNe, Int.reduceLE, Int.reduceLT, Int.reduceEq]; rfl)))
    | with_reducible first | refine spB_no (by decide) ?_
    | (with_reducible refine spB_dec ?_ ?_ <;> intro _ <;> (try (exfalso; (first | (simp only [LN] at *; omega)))))
    | with_reducible first | refine Z.rowN_known hx ?_
    | ((with_reducible apply ixN_litp); (focus rfl); (focus ((try simp only [LN] at *) <;> omega)))
    | with_reducible refine wr_i64 (by first | omega | (simp only [LN] at *; omega)) ?_
    | ((first | (with_reducible refine Z.callZ_mk ?_ (ck) ?_)); (focus ((repeat' (first | exact trivial | exact rfl | apply And.intro)); done)))
    | fail)
   all_goals (try (conv => whnf))
   all_goals try first | (show Nat.ble _ _ = true; rfl) | (exfalso; rename_i hz; cases hz; done) | (exfalso; (try simp only [LN] at *) <;> omega)
   all_goals first
    | ((refine Z.rndK ((i + 1)) (fun s => [0]) rfl rfl rfl rfl ?_ ?_ ?_ ?_); (focus (repeat' (first | exact trivial | exact rfl | apply And.intro))); (focus (repeat' (first | exact trivial | (intro b hb; cases hb; rfl) | apply And.intro))); (focus ((refine ⟨by (try dsimp only); omega, ?_⟩; (try dsimp only); rw [take_snoc hx]; intro z hz; rcases List.mem_append.1 hz with h | h; exact HG z h; rw [List.mem_singleton.1 h]; exact hs))); ((try dsimp only); omega))
    | fail
 have hil : i = l.length := by omega
 subst hil
 rw [List.take_length] at HG
 clear HG
 have h0 := (List.getElem?_eq_some_iff.1 ha).1
 repeat' ((conv => whnf); first
  | with_reducible first | refine spB_no (by decide) ?_
  | (with_reducible refine spB_dec ?_ ?_ <;> intro _ <;> (try (exfalso; (first | (rename_i hz; simp at hz; done)))))
  | (with_reducible refine spB_beq ?_ ?_ <;> intro _ <;> (try (exfalso; (first | (simp only [LN] at *; omega)))))
  | (with_reducible refine spB_bne ?_ ?_ <;> intro _ <;> (try (exfalso; (first | (simp only [LN] at *; omega)))))
  | with_reducible first | refine Z.rowN_known ha ?_
  | ((with_reducible apply ixN_litp); (focus rfl); (focus ((try simp only [LN] at *) <;> omega)))
  | fail)
 all_goals (try (conv => whnf))
 all_goals try first | (show Nat.ble _ _ = true; rfl) | (exfalso; rename_i hz; cases hz; done) | (exfalso; (try simp only [LN] at *) <;> omega)
 all_goals first
  | ((first | (with_reducible apply Z.retF2)); (focus rfl); (repeat' (first | exact trivial | (with_reducible apply Z.frz_one) | (with_reducible apply Z.frz_agg) | (with_reducible apply Z.fq_int) | (with_reducible apply Z.fq_bool) | (exact Z.frz_nil) | exact rfl | apply And.intro)); (all_goals (try exact (fun _ => none))); all_goals (first | (simp; done)))
  | fail
end Go.Proofs.Ytopieffkpdlpbaa
namespace Go.Proofs.Ytopieffkpdlpbaa
open Go Go.RowKit Wx
set_option maxHeartbeats 4000000
def rescE (l : List Sn) (w : Int) : List Sn × Int := if (wholeE l).2 ≠ 0 then ([], (wholeE l).2) else if Tab.okS 0 w then (resc (wholeE l).1 w, 0) else ([], 2)
theorem wholeE_ok {l : List Sn} (h : (wholeE l).2 = 0) : (∀ x ∈ l, snapR x = true) ∧ fitW l = true ∧ namesR (l.map (·.txs)).flatten = true ∧ wholeE l = (wholeS l, 0) := by
 unfold wholeE at h ⊢
 by_cases h1 : l.all snapR = false
 ·rw [if_pos h1] at h; exact absurd h (by decide)
 rw [if_neg h1] at h ⊢
 by_cases h2 : fitW l = false ∨ namesR (l.map (·.txs)).flatten = false
 ·rw [if_pos h2] at h; exact absurd h (by decide)
 rw [if_neg h2]
 have h3 : l.all snapR = true := by simpa using h1
 rw [not_or] at h2
 exact ⟨List.all_eq_true.1 h3, by simpa using h2.1, by simpa using h2.2, rfl⟩
theorem wholeE_len {l : List Sn} : (wholeE l).1.rows.length ≤ 256 := by
 unfold wholeE
 split
 ·exact Nat.zero_le _
 split
 ·exact Nat.zero_le _
 ·exact gath_len _
theorem names_len {l : List Nm} (h : namesR l = true) : l.length ≤ 24 := by
 unfold namesR at h
 simp only [Bool.and_eq_true, decide_eq_true_eq] at h
 exact h.1
theorem wholeE_txs {l : List Sn} : (wholeE l).1.txs.length ≤ 24 := by
 by_cases h : (wholeE l).2 = 0
 ·obtain ⟨_, _, h3, h4⟩ := wholeE_ok h
  rw [h4]; exact names_len h3
 ·unfold wholeE at h ⊢
  split
  ·exact Nat.zero_le _
  split
  ·exact Nat.zero_le _
  ·rename_i h1 h2; rw [if_neg h1, if_neg h2] at h; exact absurd rfl h
theorem srwhole_con (l : List Sn) (hA : ∀ x ∈ l, x.rows.length ≤ 1000 ∧ x.txs.length ≤ 1000) (hl : l.length ≤ 1000) : Con Try.prog 15 [.one (.ro false 14 ((l : List Sn).map eSn))] (fun rx rK rt => rx = .tup [.agg [.v (.int .i64 (wholeE l).1.op), .v (.int .i64 (wholeE l).1.ix), .v (.int .i64 (wholeE l).1.w), .v (.bool (wholeE l).1.en), .ro true 4 ((wholeE l).1.rows.map Tab.eK), .v (.int .i64 (wholeE l).1.o0), .v (.int .i64 (wholeE l).1.o1), .v (.int .i64 (wholeE l).1.o2), .v (.int .i64 (wholeE l).1.o3), .v (.int .i64 (wholeE l).1.o4), .v (.int .i64 (wholeE l).1.o5), .v (.int .i64 (wholeE l).1.o6), .v (.int .i64 (wholeE l).1.o7), .ro true 3 ((wholeE l).1.txs.map eN)], .one (.v (.int .i64 (wholeE l).2))] ∧ rK = [] ∧ rt = 0) := by
 cases h1 : l.all snapR
 ·rw [show wholeE l = (zeroS, 280) by unfold wholeE; rw [if_pos h1]]; exact rwh_chk l hA hl h1
 have H1 : ∀ x ∈ l, snapR x = true := List.all_eq_true.1 h1
 cases hl0 : l[0]? with
 | none =>
  have : l = [] := by cases l with | nil => rfl | cons a t => cases hl0
  subst this
  exact rwh_nil
 | some a =>
  by_cases hw : a.w = (l.length : Int)
  ·exact rwh_all l hA hl H1 a hl0 hw
  ·rw [show wholeE l = (zeroS, 281) by unfold wholeE; rw [if_neg (by rw [h1]; decide), if_pos (.inl (fit_no hl0 (fun h => hw h.1)))]]
   exact rwh_w l hA hl H1 a hl0 hw
theorem partE_yes {W : Sn} (hs : snapR W = true) (hw : W.w = 1) {i w : Int} (ho : Tab.okS i w) : partE W i w = (partS W i w, 0) := by
 unfold partE
 rw [if_neg (by rw [hs]; decide), if_neg (by omega), if_pos ho]
theorem spart0_con (x : Sn) (i w : Int) (hr : x.rows.length ≤ 1000) (htb : Tab.tabR x.rows = true) (ho : Tab.okS i w) : Con Try.prog 49 [.agg [.v (.int .i64 x.op), .v (.int .i64 x.ix), .v (.int .i64 x.w), .v (.bool x.en), .ro false 4 (x.rows.map Tab.eK), .v (.int .i64 x.o0), .v (.int .i64 x.o1), .v (.int .i64 x.o2), .v (.int .i64 x.o3), .v (.int .i64 x.o4), .v (.int .i64 x.o5), .v (.int .i64 x.o6), .v (.int .i64 x.o7), .ro false 3 (x.txs.map eN)], .one (.v (.int .i64 i)), .one (.v (.int .i64 w))] (fun rx rK rt => rx = .pl (.agg [.v (.int .i64 (partS x i w).op), .v (.int .i64 (partS x i w).ix), .v (.int .i64 (partS x i w).w), .v (.bool (partS x i w).en), .ro true 4 ((partS x i w).rows.map Tab.eK), .v (.int .i64 (partS x i w).o0), .v (.int .i64 (partS x i w).o1), .v (.int .i64 (partS x i w).o2), .v (.int .i64 (partS x i w).o3), .v (.int .i64 (partS x i w).o4), .v (.int .i64 (partS x i w).o5), .v (.int .i64 (partS x i w).o6), .v (.int .i64 (partS x i w).o7), .ro true 3 ((partS x i w).txs.map eN)]) ∧ rK = [] ∧ rt = 0) := by
 refine Z.con_ofF tabOk 30 Try.f49 _ Try.func49 (by kernel_rfl) rfl rfl rfl rfl ?_
 have cpa := Tab.part_ok x.rows i w hr htb ho
 have cj := joined_con x.o0 x.o1 x.o2 x.o3 x.o4 x.o5 x.o6 x.o7 i w ho
 repeat' ((conv => whnf); first
  | with_reducible first | refine Z.callZ_in tabOk 18 Try.f88 _ Try.func88 (by kernel_rfl) rfl rfl rfl ?_
  | ((first | (with_reducible refine Z.callZ_mk ?_ (cpa) ?_) | (with_reducible refine Z.callZ_mk ?_ (cj) ?_)); (focus ((repeat' (first | exact trivial | exact rfl | apply And.intro)); done)))
  | ((with_reducible apply ex_and); exact rfl)
  | with_reducible first | refine Z.drawZ_rule tabOk mixOk ?_ | refine Z.apZ_mk (by kernel_rfl) ?_
  | ((with_reducible refine Z.ConZ.red ?_); (try subst hlb); (apply Z.conZ_all); (focus (repeat (first | exact Z.FK.nil | (apply Z.FK.keep; exact rfl)))); (focus rfl); (focus rfl); (focus (repeat (first | exact trivial | (refine ⟨(fun o ho => (by first | (cases ho; rfl) | (cases ho; exact Z.inL_map fun _ => rfl) | (cases ho; exact Z.inL_mapr fun _ => rfl) | exact Z.inL_gB ho fun _ => rfl)), ?_⟩)))))
  | ((refine ⟨rfl, ?_, rfl⟩); (focus (repeat (first | exact Z.DK.nil | apply Z.DK.cons))))
  | fail)
 all_goals (try (conv => whnf))
 all_goals try first | (show Nat.ble _ _ = true; rfl) | (exfalso; rename_i hz; cases hz; done) | (exfalso; (try simp only [LN] at *) <;> omega)
 all_goals first
  | ((first | (with_reducible apply Z.retF1)); (focus rfl); (repeat' (first | exact trivial | (with_reducible apply Z.frz_agg) | (with_reducible apply Z.fq_int) | (with_reducible apply Z.fq_bool) | (exact Z.frz_nil) | exact rfl | apply And.intro)); (all_goals (try exact (fun _ => none))); all_goals (first | (simp; done)))
  | fail
end Go.Proofs.Ytopieffkpdlpbaa
namespace Go.Proofs.Ytopieffkpdlpbaa
open Go Go.RowKit Wx
set_option maxHeartbeats 4000000
theorem sresc_con (l : List Sn) (w : Int) (hA : ∀ x ∈ l, x.rows.length ≤ 1000 ∧ x.txs.length ≤ 1000) (hl : l.length ≤ 1000) : Con Try.prog 18 [.one (.ro false 14 ((l : List Sn).map eSn)), .one (.v (.int .i64 w))] (fun rx rK rt => rx = .tup [.one (.ro true 14 (((rescE l w).1 : List Sn).map eSn)), .one (.v (.int .i64 (rescE l w).2))] ∧ rK = [] ∧ rt = 0) := by
 refine Z.con_ofF tabOk 32 Try.f18 _ Try.func18 (by kernel_rfl) rfl rfl rfl rfl ?_
 unfold rescE
 have hok := @wholeE_ok l
 have hrl := @wholeE_len l
 have htl := @wholeE_txs l
 have cw := swhole_con l hA hl
 have hW : (wholeE l).2 = 0 → snapR (wholeE l).1 = true ∧ (wholeE l).1.w = 1 := fun h => by
  obtain ⟨h1, h2, h3, h4⟩ := wholeE_ok h
  rw [h4]
  exact ⟨whole_R h1 h2 h3, rfl⟩
 clear hok
 generalize wholeE l = D at *
 obtain ⟨W, e⟩ := D
 dsimp only at *
 by_cases he : e = 0
 rotate_left
 ·rw [if_pos he]
  repeat' ((conv => whnf); first
   | (with_reducible refine spB_bne ?_ ?_ <;> intro _ <;> (try (exfalso; (first | contradiction))))
   | ((first | (with_reducible refine Z.callZ_mk ?_ (cw) ?_)); (focus ((repeat' (first | exact trivial | exact rfl | apply And.intro)); done)))
   | fail)
  all_goals (try (conv => whnf))
  all_goals try first | (show Nat.ble _ _ = true; rfl) | (exfalso; rename_i hz; cases hz; done) | (exfalso; (try simp only [LN] at *) <;> omega)
  all_goals first
   | ((first | (with_reducible apply Z.retF2)); (focus rfl); (repeat' (first | exact trivial | (with_reducible apply Z.frz_one) | (exact Z.frz_nil) | exact rfl | apply And.intro)); (all_goals (try exact (fun _ => none))); all_goals (first | (simp; done)))
   | fail
 subst he
 rw [if_neg (by decide)]
 obtain ⟨hs, hw1⟩ := hW rfl
 by_cases ho : Tab.okS 0 w
 rotate_left
 ·rw [if_neg ho]
  have cow := Tab.owned_bad 0 w ho
  repeat' ((conv => whnf); first
   | with_reducible first | refine spB_t ?_
   | ((with_reducible apply spB_cong); (focus (simp only [splQ, Int.reduceBEq, Int.reduceBNe, Int.reduceLE, Int.reduceLT, Int.reduceEq]; rfl)))
   | with_reducible first | refine spB_no (by decide) ?_
   | with_reducible first | refine Z.callZ_in tabOk 15 Try.f32 _ Try.func32 (by kernel_rfl) rfl rfl rfl ?_
   | ((first | (with_reducible refine Z.callZ_mk ?_ (cw) ?_) | (with_reducible refine Z.callZ_mk ?_ (cow) ?_)); (focus ((repeat' (first | exact trivial | exact rfl | apply And.intro)); done)))
   | ((with_reducible apply ex_and); exact rfl)
   | fail)
  all_goals (try (conv => whnf))
  all_goals try first | (show Nat.ble _ _ = true; rfl) | (exfalso; rename_i hz; cases hz; done) | (exfalso; (try simp only [LN] at *) <;> omega)
  all_goals first
   | ((first | (with_reducible apply Z.retF2)); (focus rfl); (repeat' (first | exact trivial | (with_reducible apply Z.frz_one) | (with_reducible apply Z.fq_int) | (exact Z.frz_nil) | exact rfl | apply And.intro)); (all_goals (try exact (fun _ => none))); all_goals (first | (simp; done)))
   | fail
 rw [if_pos ho]
 have hw3 : w = 1 ∨ w = 2 ∨ w = 3 := by unfold Tab.okS at ho; omega
 obtain ⟨L, cow⟩ := Tab.owned_ok 0 w ho
 have htb := snapR_tab hs
 rcases hw3 with rfl | rfl | rfl
 ·rw [show resc W 1 = [partS W 0 1] from rfl]
  have p0 := spart0_con W 0 1 (by omega) htb (okS_lt (by decide) (by decide) (by decide) (by decide))
  repeat' ((conv => whnf); first
   | with_reducible first | refine spB_t ?_
   | ((with_reducible apply spB_cong); (focus (simp only [splQ, Int.reduceBEq, Int.reduceBNe, Int.reduceLE, Int.reduceLT, Int.reduceEq]; rfl)))
   | with_reducible first | refine spB_no (by decide) ?_
   | with_reducible first | refine Z.loopZ_unroll tabOk 2 ?_
   | ((with_reducible refine posE_pos ?_ ?_); (focus ((try simp only [LN] at *) <;> omega)))
   | ((with_reducible refine apdN.mk ?_ ?_ ?_ ?_ ?_ ?_); (focus (first | rfl)); (focus (first | exact one_all (by rfl))); (focus ((try simp only [LN] at *) <;> omega)); (focus ((try simp only [LN] at *) <;> omega)); (focus ((try simp only [LN] at *) <;> omega)))
   | with_reducible refine wr_i64 (by first | omega | (simp only [LN] at *; omega)) ?_
   | with_reducible first | refine Z.callZ_in tabOk 17 Try.f85 _ Try.func85 (by kernel_rfl) rfl rfl rfl ?_ | refine Z.callZ_in tabOk 15 Try.f32 _ Try.func32 (by kernel_rfl) rfl rfl rfl ?_ | refine Z.callZ_in tabOk 6 Try.f46 _ Try.func46 (by kernel_rfl) rfl rfl rfl ?_
   | ((first | (with_reducible refine Z.callZ_mk ?_ (p0) ?_) | (with_reducible refine Z.callZ_mk ?_ (cw) ?_) | (with_reducible refine Z.callZ_mk ?_ (cow) ?_)); (focus ((repeat' (first | exact trivial | exact rfl | apply And.intro)); done)))
   | ((with_reducible apply ex_and); exact rfl)
   | ((with_reducible refine Z.rngN.mk ?_); (try subst hlb))
   | ((with_reducible refine Z.CallZ.yl ?_); subst hlb; refine Z.yield_rule tabOk _ _ rfl rfl rfl rfl ?_)
   | ((with_reducible refine Z.RangeZ.red ?_); (refine Z.range_rule [(8, _), (25, _)] rfl ⟨rfl, rfl, trivial⟩ rfl rfl ?_); intro lb hlb)
   | fail)
  all_goals (try (conv => whnf))
  all_goals try first | (show Nat.ble _ _ = true; rfl) | (exfalso; rename_i hz; cases hz; done) | (exfalso; (try simp only [LN] at *) <;> omega)
  all_goals first
   | ((first | (with_reducible apply Z.retF2)); (focus rfl); (repeat' (first | exact trivial | (refine Z.frz_gsl (l := [partS W 0 1]) (f := cSn) (g := eSn) (ty := 33) ?_ (fun _ => rfl); (focus (first | rfl))) | (with_reducible apply Z.frz_one) | (with_reducible apply Z.fq_int) | exact rfl | apply And.intro)); (all_goals (try exact (fun _ => none))); all_goals (first | (simp; done)))
   | fail
 ·rw [show resc W 2 = [partS W 0 2, partS W 1 2] from rfl]
  have p0 := spart0_con W 0 2 (by omega) htb (okS_lt (by decide) (by decide) (by decide) (by decide))
  have p1 := spart0_con W 1 2 (by omega) htb (okS_lt (by decide) (by decide) (by decide) (by decide))
  repeat' ((conv => whnf); first
   | with_reducible first | refine spB_t ?_
   | ((with_reducible apply spB_cong); (focus (simp only [splQ, Int.reduceBEq, Int.reduceBNe, Int.reduceLE, Int.reduceLT, Int.reduceEq]; rfl)))
   | with_reducible first | refine spB_yes (by decide) ?_ | refine spB_no (by decide) ?_
   | with_reducible first | refine Z.loopZ_unroll tabOk 3 ?_
   | ((with_reducible refine posE_pos ?_ ?_); (focus ((try simp only [LN] at *) <;> omega)))
   | ((with_reducible refine eqN_mk2 ?_ ?_); (focus rfl))
   | ((with_reducible refine apdN.mk ?_ ?_ ?_ ?_ ?_ ?_); (focus (first | rfl)); (focus (first | exact one_all (by rfl))); (focus ((try simp only [LN] at *) <;> omega)); (focus ((try simp only [LN] at *) <;> omega)); (focus ((try simp only [LN] at *) <;> omega)))
   | with_reducible refine wr_i64 (by first | omega | (simp only [LN] at *; omega)) ?_
   | with_reducible first | refine Z.callZ_in tabOk 17 Try.f85 _ Try.func85 (by kernel_rfl) rfl rfl rfl ?_ | refine Z.callZ_in tabOk 15 Try.f32 _ Try.func32 (by kernel_rfl) rfl rfl rfl ?_ | refine Z.callZ_in tabOk 6 Try.f46 _ Try.func46 (by kernel_rfl) rfl rfl rfl ?_
   | ((first | (with_reducible refine Z.callZ_mk ?_ (cw) ?_) | (with_reducible refine Z.callZ_mk ?_ (cow) ?_)); (focus ((repeat' (first | exact trivial | exact rfl | apply And.intro)); done)))
   | ((first | (with_reducible refine Z.callZ_mk ?_ (p0) ?_)); (focus ((repeat' (first | exact trivial | exact rfl | apply And.intro)); done)))
   | ((first | (with_reducible refine Z.callZ_mk ?_ (p1) ?_)); (focus ((repeat' (first | exact trivial | exact rfl | apply And.intro)); done)))
   | ((with_reducible apply ex_and); exact rfl)
   | ((with_reducible refine Z.rngN.mk ?_); (try subst hlb))
   | ((with_reducible refine Z.CallZ.yl ?_); refine Z.yield_rule tabOk _ _ rfl rfl rfl rfl ?_)
   | ((with_reducible refine Z.CallZ.yl ?_); subst hlb; refine Z.yield_rule tabOk _ _ rfl rfl rfl rfl ?_)
   | ((with_reducible refine Z.RangeZ.red ?_); (refine Z.range_rule [(8, _), (25, _)] rfl ⟨rfl, rfl, trivial⟩ rfl rfl ?_); intro lb hlb)
   | fail)
  all_goals (try (conv => whnf))
  all_goals try first | (show Nat.ble _ _ = true; rfl) | (exfalso; rename_i hz; cases hz; done) | (exfalso; (try simp only [LN] at *) <;> omega)
  all_goals first
   | ((first | (with_reducible apply Z.retF2)); (focus rfl); (repeat' (first | exact trivial | (refine Z.frz_gsl (l := [partS W 0 2, partS W 1 2]) (f := cSn) (g := eSn) (ty := 33) ?_ (fun _ => rfl); (focus (first | rfl))) | (with_reducible apply Z.frz_one) | (with_reducible apply Z.fq_int) | exact rfl | apply And.intro)); (all_goals (try exact (fun _ => none))); all_goals (first | (simp; done)))
   | fail
 ·rw [show resc W 3 = [partS W 0 3, partS W 1 3, partS W 2 3] from rfl]
  have p0 := spart0_con W 0 3 (by omega) htb (okS_lt (by decide) (by decide) (by decide) (by decide))
  have p1 := spart0_con W 1 3 (by omega) htb (okS_lt (by decide) (by decide) (by decide) (by decide))
  have p2 := spart0_con W 2 3 (by omega) htb (okS_lt (by decide) (by decide) (by decide) (by decide))
  repeat' ((conv => whnf); first
   | with_reducible first | refine spB_t ?_
   | ((with_reducible apply spB_cong); (focus (simp only [splQ, Int.reduceBEq, Int.reduceBNe, Int.reduceLE, Int.reduceLT, Int.reduceEq]; rfl)))
   | with_reducible first | refine spB_yes (by decide) ?_ | refine spB_no (by decide) ?_
   | with_reducible first | refine Z.loopZ_unroll tabOk 4 ?_
   | ((with_reducible refine posE_pos ?_ ?_); (focus ((try simp only [LN] at *) <;> omega)))
   | ((with_reducible refine eqN_mk2 ?_ ?_); (focus rfl))
   | ((with_reducible refine apdN.mk ?_ ?_ ?_ ?_ ?_ ?_); (focus (first | rfl)); (focus (first | exact one_all (by rfl))); (focus ((try simp only [LN] at *) <;> omega)); (focus ((try simp only [LN] at *) <;> omega)); (focus ((try simp only [LN] at *) <;> omega)))
   | with_reducible refine wr_i64 (by first | omega | (simp only [LN] at *; omega)) ?_
   | with_reducible first | refine Z.callZ_in tabOk 17 Try.f85 _ Try.func85 (by kernel_rfl) rfl rfl rfl ?_ | refine Z.callZ_in tabOk 15 Try.f32 _ Try.func32 (by kernel_rfl) rfl rfl rfl ?_ | refine Z.callZ_in tabOk 6 Try.f46 _ Try.func46 (by kernel_rfl) rfl rfl rfl ?_
   | ((first | (with_reducible refine Z.callZ_mk ?_ (cw) ?_) | (with_reducible refine Z.callZ_mk ?_ (cow) ?_)); (focus ((repeat' (first | exact trivial | exact rfl | apply And.intro)); done)))
   | ((first | (with_reducible refine Z.callZ_mk ?_ (p0) ?_)); (focus ((repeat' (first | exact trivial | exact rfl | apply And.intro)); done)))
   | ((first | (with_reducible refine Z.callZ_mk ?_ (p1) ?_)); (focus ((repeat' (first | exact trivial | exact rfl | apply And.intro)); done)))
   | ((first | (with_reducible refine Z.callZ_mk ?_ (p2) ?_)); (focus ((repeat' (first | exact trivial | exact rfl | apply And.intro)); done)))
   | ((with_reducible apply ex_and); exact rfl)
   | ((with_reducible refine Z.rngN.mk ?_); (try subst hlb))
   | ((with_reducible refine Z.CallZ.yl ?_); refine Z.yield_rule tabOk _ _ rfl rfl rfl rfl ?_)
   | ((with_reducible refine Z.CallZ.yl ?_); subst hlb; refine Z.yield_rule tabOk _ _ rfl rfl rfl rfl ?_)
   | ((with_reducible refine Z.RangeZ.red ?_); (refine Z.range_rule [(8, _), (25, _)] rfl ⟨rfl, rfl, trivial⟩ rfl rfl ?_); intro lb hlb)
   | fail)
  all_goals (try (conv => whnf))
  all_goals try first | (show Nat.ble _ _ = true; rfl) | (exfalso; rename_i hz; cases hz; done) | (exfalso; (try simp only [LN] at *) <;> omega)
  all_goals first
   | ((first | (with_reducible apply Z.retF2)); (focus rfl); (repeat' (first | exact trivial | (refine Z.frz_gsl (l := [partS W 0 3, partS W 1 3, partS W 2 3]) (f := cSn) (g := eSn) (ty := 33) ?_ (fun _ => rfl); (focus (first | rfl))) | (with_reducible apply Z.frz_one) | (with_reducible apply Z.fq_int) | exact rfl | apply And.intro)); (all_goals (try exact (fun _ => none))); all_goals (first | (simp; done)))
   | fail
end Go.Proofs.Ytopieffkpdlpbaa
namespace Go.Proofs.Ytopieffkpdlpbaa
open Go Go.RowKit Wx
set_option maxHeartbeats 4000000
def shortsS (l : List Sn) : List Sn := (l.take 4).map shortS
theorem shortsS_at {l : List Sn} {k : Nat} {x : Sn} (hx : l[k]? = some x) : shortsS (l.take (k + 1)) = shortsS (l.take k) ++ (if k < 4 then [shortS x] else []) := by
 unfold shortsS
 by_cases h : k < 4
 ·rw [if_pos h, List.take_of_length_le (by rw [List.length_take]; omega), take_snoc hx, List.map_append, List.take_of_length_le (l := l.take k) (by rw [List.length_take]; omega)]
  rfl
 ·rw [if_neg h, List.append_nil, List.take_take, List.take_take]
  congr 2
  omega
theorem shortsS_len {l : List Sn} : (shortsS l).length ≤ 4 ∧ ∀ x ∈ shortsS l, x.rows.length ≤ 257 ∧ x.txs.length ≤ 25 := by
 unfold shortsS
 refine ⟨by rw [List.length_map, List.length_take]; omega, fun x hx => ?_⟩
 obtain ⟨y, _, rfl⟩ := List.mem_map.1 hx
 exact shortS_len y
theorem shorts_con (l : List Sn) (hA : ∀ x ∈ l, x.rows.length ≤ 9223372036854775807 ∧ x.txs.length ≤ 9223372036854775807) (hl : l.length ≤ 9223372036854775807) : Con Try.prog 13 [.one (.ro false 14 ((l : List Sn).map eSn))] (fun rx rK rt => rx = .c (.ro true 14 ((shortsS l).map eSn)) ∧ rK = [] ∧ rt = 0) := by
 refine Z.con_ofF tabOk 22 Try.f13 _ Try.func13 (by kernel_rfl) rfl rfl rfl rfl ?_
 repeat' ((conv => whnf); first
  | with_reducible first | refine spB_t ?_
  | fail)
 all_goals (try (conv => whnf))
 all_goals try first | (show Nat.ble _ _ = true; rfl) | (exfalso; rename_i hz; cases hz; done) | (exfalso; (try simp only [LN] at *) <;> omega)
 refine Z.loopK tabOk (fun zq : Nat × List Sn => [(8, .val (.int .i64 (zq.1 : Int))), (3, .c (.gsl 0 (zq.2.map cSn)))]) (fun zq : Nat × List Sn => ([(0, (gB 14 33 (zq.2.map cSn)).map Z.Ob.b)] : Z.Kr)) (fun zq => zq.1 ≤ l.length ∧ zq.2 = shortsS (l.take zq.1)) (fun zq => l.length - zq.1) (0, []) 1 [(6, _), (7, _)] ⟨rfl, rfl, trivial⟩ [] trivial ?_ ?_ rfl rfl ⟨Nat.zero_le _, rfl⟩ ?_
 ·repeat' (first | exact trivial | apply And.intro | exact ⟨_, rfl, Z.Imp.refl _⟩ | exact ⟨_, rfl, Z.Imp.nilg _⟩)
 ·repeat' (first | exact trivial | (intro b hb; cases hb; done) | apply And.intro)
 rintro ⟨k, acc⟩ HINV
 (try dsimp only at HINV); (try dsimp only)
 obtain ⟨HI, HA⟩ := HINV
 have hal := (shortsS_len (l := l.take k)).1
 rw [← HA] at hal
 by_cases hi : k < l.length
 ·obtain ⟨x, hx⟩ := getElem?_some' (xs := l) (i := k) hi
  have hsa := shortsS_at hx
  rw [← HA] at hsa
  have csx := shortS_con x (hA x (List.mem_of_getElem? hx)).1 (hA x (List.mem_of_getElem? hx)).2
  by_cases h4 : k < 4
  ·rw [if_pos h4] at hsa
   repeat' ((conv => whnf); first
    | (with_reducible refine spB_dec ?_ ?_ <;> intro _ <;> (try (exfalso; first | contradiction | omega | (rename_i hz; refine hz ?_; simp; done) | (rename_i hz; simp at hz; done) | (simp only [LN] at *; omega))))
    | with_reducible first | refine Z.rowN_known hx ?_
    | ((with_reducible refine posE_pos ?_ ?_); (focus ((try simp only [LN] at *) <;> omega)))
    | ((with_reducible apply ixN_litp); (focus rfl); (focus ((try simp only [LN] at *) <;> omega)))
    | ((with_reducible refine apdN.mk ?_ ?_ ?_ ?_ ?_ ?_); (focus (first | rfl)); (focus (first | exact one_all (by rfl))); (focus ((try simp only [LN] at *) <;> omega)); (focus ((try simp only [LN] at *) <;> omega)); (focus ((try simp only [LN] at *) <;> omega)))
    | with_reducible refine wr_i64 (by first | omega | (simp only [LN] at *; omega)) ?_
    | ((first | (with_reducible refine Z.callZ_mk ?_ (csx) ?_)); (focus ((repeat' (first | exact trivial | exact rfl | apply And.intro)); done)))
    | ((with_reducible refine eqN_mk2 ?_ ?_); (focus (exact Z.kb_some rfl)))
    | fail)
   all_goals (try (conv => whnf))
   all_goals try first | (show Nat.ble _ _ = true; rfl) | (exfalso; rename_i hz; cases hz; done) | (exfalso; (try simp only [LN] at *) <;> omega)
   all_goals first
    | ((refine Z.rndK ((k + 1, acc ++ [shortS x])) (fun s => [s.idAt 3]) rfl rfl rfl rfl ?_ ?_ ?_ ?_); (focus (repeat' (first | exact trivial | exact rfl | (rw [List.map_append (f := cSn)]; exact rfl) | apply And.intro))); (focus (repeat' (first | exact trivial | exact Z.gB_sub' rfl (by first | rfl | (rw [List.map_append]; rfl) | simp only [List.map_append, List.map_cons, List.map_nil]) (ren_map fun _ => rfl) | apply And.intro))); (focus (exact ⟨by (try dsimp only); omega, hsa.symm⟩)); ((try dsimp only); omega))
    | fail
  ·rw [if_neg h4, List.append_nil] at hsa
   repeat' ((conv => whnf); first
    | (with_reducible refine spB_dec ?_ ?_ <;> intro _ <;> (try (exfalso; first | contradiction | omega | (rename_i hz; refine hz ?_; simp; done) | (rename_i hz; simp at hz; done) | (simp only [LN] at *; omega))))
    | with_reducible first | refine Z.rowN_known hx ?_
    | ((with_reducible apply ixN_litp); (focus rfl); (focus ((try simp only [LN] at *) <;> omega)))
    | with_reducible refine wr_i64 (by first | omega | (simp only [LN] at *; omega)) ?_
    | fail)
   all_goals (try (conv => whnf))
   all_goals try first | (show Nat.ble _ _ = true; rfl) | (exfalso; rename_i hz; cases hz; done) | (exfalso; (try simp only [LN] at *) <;> omega)
   all_goals first
    | ((refine Z.rndK ((k + 1, acc)) (fun s => [s.idAt 3]) rfl rfl rfl rfl ?_ ?_ ?_ ?_); (focus (repeat' (first | exact trivial | exact rfl | apply And.intro))); (focus (repeat' (first | exact trivial | exact Z.gB_sub rfl rfl (ren_map fun _ => rfl) | apply And.intro))); (focus (exact ⟨by (try dsimp only); omega, hsa.symm⟩)); ((try dsimp only); omega))
    | fail
 have hil : k = l.length := by omega
 subst hil
 rw [List.take_length] at HA
 subst HA
 repeat' ((conv => whnf); first
  | (with_reducible refine spB_dec ?_ ?_ <;> intro _ <;> (try (exfalso; first | contradiction | omega | (rename_i hz; refine hz ?_; simp; done) | (rename_i hz; simp at hz; done) | (simp only [LN] at *; omega))))
  | fail)
 all_goals (try (conv => whnf))
 all_goals try first | (show Nat.ble _ _ = true; rfl) | (exfalso; rename_i hz; cases hz; done) | (exfalso; (try simp only [LN] at *) <;> omega)
 all_goals first
  | ((first | (with_reducible apply Z.retF1)); (focus rfl); (repeat' (first | exact trivial | (with_reducible apply Z.frz_one) | ((with_reducible apply Z.fq_gsl); (focus (first | exact Z.isB_map _)); (focus (exact fun _ => rfl))) | exact rfl | apply And.intro)); (all_goals (try exact (fun _ => none))); all_goals (first | (simp; done)))
  | fail
end Go.Proofs.Ytopieffkpdlpbaa
namespace Go.Proofs.Ytopieffkpdlpbaa
open Go Go.RowKit Wx
set_option maxHeartbeats 4000000
end Go.Proofs.Ytopieffkpdlpbaa
namespace Go.Proofs.Ytopieffkpdlpbaa
open Go Go.RowKit Wx
set_option maxHeartbeats 4000000
def rowsE {α : Type} (sz mx : Nat) (d : List Ce → Option α) (dr : List RT → Option α) (K : Nat → Option Y.Ob) : Ce → Option (List α)
 | .ro _ z rows => match Nat.beq z sz, rows.mapM dr with
  | true, some xs => match Nat.ble xs.length mx with
   | true => some xs
   | false => none
  | _, _ => none
 | c => Y.rowsD sz mx d K c
theorem mapM_en {α : Type} {dr : List RT → Option α} {en : α → List RT} (hd : ∀ r x, dr r = some x → r = en x) : ∀ {rows : List (List RT)} {xs : List α}, rows.mapM dr = some xs → rows = xs.map en
 | [], xs, h => by simp only [List.mapM_nil, Option.pure_def, Option.some.injEq] at h; subst h; rfl
 | r :: rows, xs, h => by
  rw [List.mapM_cons] at h
  cases h1 : dr r with
  | none => rw [h1] at h; cases h
  | some x =>
   cases h2 : rows.mapM dr with
   | none => rw [h1, h2] at h; cases h
   | some ys =>
    rw [h1, h2] at h
    simp only [Option.pure_def, Option.bind_eq_bind, Option.bind_some, Option.some.injEq] at h
    subst h
    rw [List.map_cons, ← hd r x h1, ← mapM_en hd h2]
theorem rowsE_low {α : Type} {sz mx : Nat} {d : List Ce → Option α} {dr : List RT → Option α} {en : α → List RT} (hd : ∀ r x, d r = some x → r.map RT.of = (en x).map some) (hr : ∀ r x, dr r = some x → r = en x) {K : Nat → Option Y.Ob} {c : Ce} {xs : List α} (h : rowsE sz mx d dr K c = some xs) : lowC (Y.blkOf K) c (.ro false sz (xs.map en)) ∧ xs.length ≤ mx := by
 unfold rowsE at h
 split at h
 ·rename_i fl z rows
  split at h
  ·rename_i ys h1 h2
   split at h
   ·rename_i h3
    simp only [Option.some.injEq] at h
    subst h
    refine ⟨?_, Nat.le_of_ble_eq_true h3⟩
    have e := mapM_en hr h2
    subst e
    rw [Nat.eq_of_beq_eq_true h1]
    exact rfl
   ·cases h
  ·cases h
 ·exact Y.rowsD_low hd h
def decK : List Ce → Option Tab.Kc
 | [.v (.int .i64 a), .v (.int .i64 b), .v (.int .i64 c), .v (.int .i64 d)] => some ⟨a, b, c, d⟩
 | _ => none
theorem decK_ok (r : List Ce) (x : Tab.Kc) (h : decK r = some x) : r.map RT.of = (Tab.eK x).map some := by
 unfold decK at h
 split at h
 ·simp only [Option.some.injEq] at h; subst h; rfl
 ·cases h
def decKr : List RT → Option Tab.Kc
 | [.v (.int .i64 a), .v (.int .i64 b), .v (.int .i64 c), .v (.int .i64 d)] => some ⟨a, b, c, d⟩
 | _ => none
theorem decKr_ok (r : List RT) (x : Tab.Kc) (h : decKr r = some x) : r = Tab.eK x := by
 unfold decKr at h
 split at h
 ·simp only [Option.some.injEq] at h; subst h; rfl
 ·cases h
def orcJ : Y.CallFn := fun c avs K top => match c, avs with
 | .fn g [], [.pl (.agg [ca]), .pl (.agg [cb])] => match Nat.beq g 79, rowsE 4 1000 decK decKr K.get ca, rowsE 4 1000 decK decKr K.get cb with
  | true, some a, some b => some ⟨.tup [.agg [.ro true 4 ((Tab.joinT a b).1.map Tab.eK)], .one (.v (.int .i64 (Tab.joinT a b).2))], K, top, []⟩
  | _, _, _ => none
 | _, _ => none
theorem orcJ_sound : Y.CallsOk Try.prog orcJ := by
 intro c avs K top r h
 unfold orcJ at h
 split at h
 ·rename_i g ca cb
  split at h
  ·rename_i a b h1 h2 h3
   simp only [Option.some.injEq] at h
   subst h
   obtain ⟨g1, g2⟩ := rowsE_low (en := Tab.eK) decK_ok decKr_ok h2
   obtain ⟨g3, g4⟩ := rowsE_low (en := Tab.eK) decK_ok decKr_ok h3
   have := Nat.eq_of_beq_eq_true h1
   subst this
   exact ⟨Y.con_callE (args := [.agg [.ro false 4 (a.map Tab.eK)], .agg [.ro false 4 (b.map Tab.eK)]]) ⟨⟨g1, trivial⟩, ⟨g3, trivial⟩, trivial⟩ (Tab.tjoin_con a b g2 g4) rfl, fun _ _ => rfl⟩
  ·cases h
 ·cases h
theorem wakes_con : Con Try.prog 9 [] (fun x K t => x = .val (.bool true) ∧ K = [] ∧ t = 0) := Y.con_runO ftabOk tabOk mixOk orcJ_sound 60 14 (by kernel_rfl) (by kernel_rfl)
end Go.Proofs.Ytopieffkpdlpbaa
namespace Go.Proofs.Ytopieffkpdlpbaa
open Go Go.RowKit Wx
set_option maxHeartbeats 4000000
theorem partL_len {W : Sn} {i w : Int} (h : W.rows.length ≤ 256) : (partS W i w).rows.length ≤ 256 ∧ (partS W i w).txs = [] := ⟨by have := @Tab.part_len W.rows i w; show (Tab.partL W.rows i w).length ≤ 256; omega, rfl⟩
theorem resc_lens {W : Sn} {w : Int} (h : W.rows.length ≤ 256) : ∀ x ∈ resc W w, x.rows.length ≤ 1000 ∧ x.txs.length ≤ 1000 := by
 intro x hx
 have hp : ∀ i w, (partS W i w).rows.length ≤ 1000 ∧ (partS W i w).txs.length ≤ 1000 := fun i w => by have := partL_len (i := i) (w := w) h; exact ⟨by omega, by rw [this.2]; exact Nat.zero_le _⟩
 unfold resc at hx
 split at hx
 ·simp at hx; subst hx; exact hp _ _
 split at hx
 ·simp at hx; rcases hx with rfl | rfl <;> exact hp _ _
 ·simp at hx; rcases hx with rfl | rfl | rfl <;> exact hp _ _
end Go.Proofs.Ytopieffkpdlpbaa
namespace Go.Proofs.Ytopieffkpdlpbaa
open Go Go.RowKit Wx
set_option maxHeartbeats 4000000
theorem swhole_ownR (l : List Sn) (hA : ∀ x ∈ l, x.rows.length ≤ 1000 ∧ x.txs.length ≤ 1000) (h0 : (wholeE l).2 = 0) (hg : (wholeS l).rows ≠ []) : Con Try.prog 14 [.one (.ro false 14 ((l : List Sn).map eSn))] (ownWR (wholeS l)) := by
 obtain ⟨k1, k2, k3, _⟩ := wholeE_ok h0
 rcases fit_len k1 k2 with ⟨a, rfl⟩ | ⟨a, b, rfl⟩ | ⟨a, b, c, rfl⟩
 ·rw [fit_1] at k2
  have hf := of_decide_eq_true k2
  rw [wholeS_1] at hg ⊢
  have pa := hA a (by simp)
  have ra := k1 a (by simp)
  exact who_1r a pa.1 pa.2 ra hf.1 hf.2 k3 hg
 ·rw [fit_2] at k2
  have hf := of_decide_eq_true k2
  rw [wholeS_2] at hg ⊢
  have pa := hA a (by simp)
  have ra := k1 a (by simp)
  have pb := hA b (by simp)
  have rb := k1 b (by simp)
  exact who_2r a b pa.1 pa.2 ra hf.1.1 hf.1.2 pb.1 pb.2 rb hf.2.2.1 hf.2.2.2 hf.2.1.symm k3 hg
 ·rw [fit_3] at k2
  have hf := of_decide_eq_true k2
  rw [wholeS_3] at hg ⊢
  have pa := hA a (by simp)
  have ra := k1 a (by simp)
  have pb := hA b (by simp)
  have rb := k1 b (by simp)
  have pc := hA c (by simp)
  have rc := k1 c (by simp)
  exact who_3r a b c pa.1 pa.2 ra hf.1.1 hf.1.2 pb.1 pb.2 rb hf.2.1.2.1 hf.2.1.2.2 hf.2.1.1.symm pc.1 pc.2 rc hf.2.2.2.1 hf.2.2.2.2 hf.2.2.1.symm k3 hg
theorem swhole_ownE (l : List Sn) (hA : ∀ x ∈ l, x.rows.length ≤ 1000 ∧ x.txs.length ≤ 1000) (h0 : (wholeE l).2 = 0) (hg : (wholeS l).rows = []) : Con Try.prog 14 [.one (.ro false 14 ((l : List Sn).map eSn))] (ownWE (wholeS l)) := by
 obtain ⟨k1, k2, k3, _⟩ := wholeE_ok h0
 rcases fit_len k1 k2 with ⟨a, rfl⟩ | ⟨a, b, rfl⟩ | ⟨a, b, c, rfl⟩
 ·rw [fit_1] at k2
  have hf := of_decide_eq_true k2
  rw [wholeS_1] at hg ⊢
  have pa := hA a (by simp)
  have ra := k1 a (by simp)
  exact who_1e a pa.1 pa.2 ra hf.1 hf.2 k3 hg
 ·rw [fit_2] at k2
  have hf := of_decide_eq_true k2
  rw [wholeS_2] at hg ⊢
  have pa := hA a (by simp)
  have ra := k1 a (by simp)
  have pb := hA b (by simp)
  have rb := k1 b (by simp)
  exact who_2e a b pa.1 pa.2 ra hf.1.1 hf.1.2 pb.1 pb.2 rb hf.2.2.1 hf.2.2.2 hf.2.1.symm k3 hg
 ·rw [fit_3] at k2
  have hf := of_decide_eq_true k2
  rw [wholeS_3] at hg ⊢
  have pa := hA a (by simp)
  have ra := k1 a (by simp)
  have pb := hA b (by simp)
  have rb := k1 b (by simp)
  have pc := hA c (by simp)
  have rc := k1 c (by simp)
  exact who_3e a b c pa.1 pa.2 ra hf.1.1 hf.1.2 pb.1 pb.2 rb hf.2.1.2.1 hf.2.1.2.2 hf.2.1.1.symm pc.1 pc.2 rc hf.2.2.2.1 hf.2.2.2.2 hf.2.2.1.symm k3 hg
theorem wholeE_bad {l : List Sn} (h : (wholeE l).2 ≠ 0) : (wholeE l).1 = zeroS := by
 unfold wholeE at h ⊢
 split
 ·rfl
 split
 ·rfl
 ·rename_i h1 h2; rw [if_neg h1, if_neg h2] at h; exact absurd rfl h
theorem rescE_lens {l : List Sn} {w : Int} : (∀ x ∈ (rescE l w).1, x.rows.length ≤ 1000 ∧ x.txs.length ≤ 1000) ∧ (rescE l w).1.length ≤ 3 := by
 unfold rescE
 split
 ·exact ⟨(fun x h => nomatch h), Nat.zero_le _⟩
 split
 ·refine ⟨resc_lens wholeE_len, ?_⟩
  unfold resc
  split
  ·exact Nat.le_of_ble_eq_true rfl
  split <;> exact Nat.le_of_ble_eq_true rfl
 ·exact ⟨(fun x h => nomatch h), Nat.zero_le _⟩
def spNm (x : Nm) : Nm := ⟨x.s, x.a, 99⟩
def spN (R : List Nm) (j : Nat) : List Nm := (R.take j).map spNm ++ R.drop j
theorem spN_get {R : List Nm} {j : Nat} {z : Nm} (h : R[j]? = some z) : ((spN R j).map cN)[0 + j]? = some (cN z) := by
 have hl := (List.getElem?_eq_some_iff.1 h).1
 unfold spN
 rw [Nat.zero_add, List.getElem?_map, List.getElem?_append_right (by simp; omega), List.getElem?_drop]
 rw [show j + (j - ((R.take j).map spNm).length) = j by simp; omega, h]
 rfl
theorem spN_set {R : List Nm} {j : Nat} {z : Nm} (h : R[j]? = some z) : ((spN R j).map cN).set (0 + j) (cN (spNm z)) = (spN R (j + 1)).map cN := by
 have hl := (List.getElem?_eq_some_iff.1 h).1
 have e1 : ((R.take j).map spNm).length = j := by simp; omega
 unfold spN
 rw [Nat.zero_add, ← List.map_set]
 congr 1
 rw [take_snoc h, drop_cons h, List.map_append, List.set_append_right _ _ (by omega), e1, Nat.sub_self]
 simp
end Go.Proofs.Ytopieffkpdlpbaa
namespace Go.Proofs.Ytopieffkpdlpbaa
open Go Go.RowKit Wx
set_option maxHeartbeats 4000000
theorem rpart_no (x : Sn) (i w : Int) (hr : x.rows.length ≤ 1000) (ht : x.txs.length ≤ 9223372036854775807) (hs : snapR x = false) : Con Try.prog 22 [.agg [.v (.int .i64 x.op), .v (.int .i64 x.ix), .v (.int .i64 x.w), .v (.bool x.en), .ro false 4 (x.rows.map Tab.eK), .v (.int .i64 x.o0), .v (.int .i64 x.o1), .v (.int .i64 x.o2), .v (.int .i64 x.o3), .v (.int .i64 x.o4), .v (.int .i64 x.o5), .v (.int .i64 x.o6), .v (.int .i64 x.o7), .ro false 3 (x.txs.map eN)], .one (.v (.int .i64 i)), .one (.v (.int .i64 w))] (fun rx rK rt => rx = .tup [.agg [.v (.int .i64 zeroS.op), .v (.int .i64 zeroS.ix), .v (.int .i64 zeroS.w), .v (.bool zeroS.en), .ro true 4 (zeroS.rows.map Tab.eK), .v (.int .i64 zeroS.o0), .v (.int .i64 zeroS.o1), .v (.int .i64 zeroS.o2), .v (.int .i64 zeroS.o3), .v (.int .i64 zeroS.o4), .v (.int .i64 zeroS.o5), .v (.int .i64 zeroS.o6), .v (.int .i64 zeroS.o7), .ro true 3 (zeroS.txs.map eN)], .one (.v (.int .i64 280))] ∧ rK = [] ∧ rt = 0) := by
 refine Z.con_ofF tabOk 59 Try.f22 _ Try.func22 (by kernel_rfl) rfl rfl rfl rfl ?_
 have cm := rright_con x hr ht
 rw [hs] at cm
 repeat' ((conv => whnf); first
  | with_reducible first | refine spB_t ?_
  | ((with_reducible apply spB_cong); (focus (simp only [splQ, Int.reduceBEq, Int.reduceBNe, Int.reduceLE, Int.reduceLT, Int.reduceEq]; rfl)))
  | ((first | (with_reducible refine Z.callZ_mk ?_ (cm) ?_)); (focus ((repeat' (first | exact trivial | exact rfl | apply And.intro)); done)))
  | fail)
 all_goals (try (conv => whnf))
 all_goals try first | (show Nat.ble _ _ = true; rfl) | (exfalso; rename_i hz; cases hz; done) | (exfalso; (try simp only [LN] at *) <;> omega)
 all_goals first
  | ((first | (with_reducible apply Z.retF2)); (focus rfl); (repeat' (first | exact trivial | (with_reducible apply Z.frz_one) | (with_reducible apply Z.frz_agg) | (with_reducible apply Z.fq_int) | (with_reducible apply Z.fq_bool) | (exact Z.frz_nil) | exact rfl | apply And.intro)); (all_goals (try exact (fun _ => none))); all_goals (first | (simp; done)))
  | fail
theorem rpart_w (x : Sn) (i w : Int) (hr : x.rows.length ≤ 1000) (ht : x.txs.length ≤ 9223372036854775807) (hs : snapR x = true) (hw : x.w ≠ 1) : Con Try.prog 22 [.agg [.v (.int .i64 x.op), .v (.int .i64 x.ix), .v (.int .i64 x.w), .v (.bool x.en), .ro false 4 (x.rows.map Tab.eK), .v (.int .i64 x.o0), .v (.int .i64 x.o1), .v (.int .i64 x.o2), .v (.int .i64 x.o3), .v (.int .i64 x.o4), .v (.int .i64 x.o5), .v (.int .i64 x.o6), .v (.int .i64 x.o7), .ro false 3 (x.txs.map eN)], .one (.v (.int .i64 i)), .one (.v (.int .i64 w))] (fun rx rK rt => rx = .tup [.agg [.v (.int .i64 zeroS.op), .v (.int .i64 zeroS.ix), .v (.int .i64 zeroS.w), .v (.bool zeroS.en), .ro true 4 (zeroS.rows.map Tab.eK), .v (.int .i64 zeroS.o0), .v (.int .i64 zeroS.o1), .v (.int .i64 zeroS.o2), .v (.int .i64 zeroS.o3), .v (.int .i64 zeroS.o4), .v (.int .i64 zeroS.o5), .v (.int .i64 zeroS.o6), .v (.int .i64 zeroS.o7), .ro true 3 (zeroS.txs.map eN)], .one (.v (.int .i64 281))] ∧ rK = [] ∧ rt = 0) := by
 refine Z.con_ofF tabOk 59 Try.f22 _ Try.func22 (by kernel_rfl) rfl rfl rfl rfl ?_
 have cm := rright_con x hr ht
 rw [hs] at cm
 repeat' ((conv => whnf); first
  | ((with_reducible apply spB_cong); (focus (simp only [splQ, Int.reduceBEq, Int.reduceBNe, Int.reduceLE, Int.reduceLT, Int.reduceEq]; rfl)))
  | with_reducible first | refine spB_no (by decide) ?_
  | (with_reducible refine spB_bne ?_ ?_ <;> intro _ <;> (try (exfalso; (first | contradiction))))
  | ((first | (with_reducible refine Z.callZ_mk ?_ (cm) ?_)); (focus ((repeat' (first | exact trivial | exact rfl | apply And.intro)); done)))
  | fail)
 all_goals (try (conv => whnf))
 all_goals try first | (show Nat.ble _ _ = true; rfl) | (exfalso; rename_i hz; cases hz; done) | (exfalso; (try simp only [LN] at *) <;> omega)
 all_goals first
  | ((first | (with_reducible apply Z.retF2)); (focus rfl); (repeat' (first | exact trivial | (with_reducible apply Z.frz_one) | (with_reducible apply Z.frz_agg) | (with_reducible apply Z.fq_int) | (with_reducible apply Z.fq_bool) | (exact Z.frz_nil) | exact rfl | apply And.intro)); (all_goals (try exact (fun _ => none))); all_goals (first | (simp; done)))
  | fail
theorem rpart_sh (x : Sn) (i w : Int) (hr : x.rows.length ≤ 1000) (ht : x.txs.length ≤ 9223372036854775807) (hs : snapR x = true) (hw : x.w = 1) (ho : ¬ Tab.okS i w) : Con Try.prog 22 [.agg [.v (.int .i64 x.op), .v (.int .i64 x.ix), .v (.int .i64 x.w), .v (.bool x.en), .ro false 4 (x.rows.map Tab.eK), .v (.int .i64 x.o0), .v (.int .i64 x.o1), .v (.int .i64 x.o2), .v (.int .i64 x.o3), .v (.int .i64 x.o4), .v (.int .i64 x.o5), .v (.int .i64 x.o6), .v (.int .i64 x.o7), .ro false 3 (x.txs.map eN)], .one (.v (.int .i64 i)), .one (.v (.int .i64 w))] (fun rx rK rt => rx = .tup [.agg [.v (.int .i64 zeroS.op), .v (.int .i64 zeroS.ix), .v (.int .i64 zeroS.w), .v (.bool zeroS.en), .ro true 4 (zeroS.rows.map Tab.eK), .v (.int .i64 zeroS.o0), .v (.int .i64 zeroS.o1), .v (.int .i64 zeroS.o2), .v (.int .i64 zeroS.o3), .v (.int .i64 zeroS.o4), .v (.int .i64 zeroS.o5), .v (.int .i64 zeroS.o6), .v (.int .i64 zeroS.o7), .ro true 3 (zeroS.txs.map eN)], .one (.v (.int .i64 2))] ∧ rK = [] ∧ rt = 0) := by
 refine Z.con_ofF tabOk 59 Try.f22 _ Try.func22 (by kernel_rfl) rfl rfl rfl rfl ?_
 have cm := rright_con x hr ht
 rw [hs] at cm
 have csh := Tab.rshare_con i w
 rw [decide_eq_false ho] at csh
 repeat' ((conv => whnf); first
  | with_reducible first | refine spB_t ?_
  | ((with_reducible apply spB_cong); (focus (simp only [splQ, Int.reduceBEq, Int.reduceBNe, Int.reduceLE, Int.reduceLT, Int.reduceEq]; rfl)))
  | with_reducible first | refine spB_no (by decide) ?_
  | (with_reducible refine spB_bne ?_ ?_ <;> intro _ <;> (try (exfalso; (first | contradiction))))
  | ((first | (with_reducible refine Z.callZ_mk ?_ (cm) ?_) | (with_reducible refine Z.callZ_mk ?_ (csh) ?_)); (focus ((repeat' (first | exact trivial | exact rfl | apply And.intro)); done)))
  | fail)
 all_goals (try (conv => whnf))
 all_goals try first | (show Nat.ble _ _ = true; rfl) | (exfalso; rename_i hz; cases hz; done) | (exfalso; (try simp only [LN] at *) <;> omega)
 all_goals first
  | ((first | (with_reducible apply Z.retF2)); (focus rfl); (repeat' (first | exact trivial | (with_reducible apply Z.frz_one) | (with_reducible apply Z.frz_agg) | (with_reducible apply Z.fq_int) | (with_reducible apply Z.fq_bool) | (exact Z.frz_nil) | exact rfl | apply And.intro)); (all_goals (try exact (fun _ => none))); all_goals (first | (simp; done)))
  | fail
theorem rpart_okS (x : Sn) (i w : Int) (hr : x.rows.length ≤ 1000) (ht : x.txs.length ≤ 9223372036854775807) (hs : snapR x = true) (hw : x.w = 1) (ho : Tab.okS i w) : Con Try.prog 22 [.agg [.v (.int .i64 x.op), .v (.int .i64 x.ix), .v (.int .i64 x.w), .v (.bool x.en), .ro false 4 (x.rows.map Tab.eK), .v (.int .i64 x.o0), .v (.int .i64 x.o1), .v (.int .i64 x.o2), .v (.int .i64 x.o3), .v (.int .i64 x.o4), .v (.int .i64 x.o5), .v (.int .i64 x.o6), .v (.int .i64 x.o7), .ro false 3 (x.txs.map eN)], .one (.v (.int .i64 i)), .one (.v (.int .i64 w))] (fun rx rK rt => rx = .tup [.agg [.v (.int .i64 (partS x i w).op), .v (.int .i64 (partS x i w).ix), .v (.int .i64 (partS x i w).w), .v (.bool (partS x i w).en), .ro true 4 ((partS x i w).rows.map Tab.eK), .v (.int .i64 (partS x i w).o0), .v (.int .i64 (partS x i w).o1), .v (.int .i64 (partS x i w).o2), .v (.int .i64 (partS x i w).o3), .v (.int .i64 (partS x i w).o4), .v (.int .i64 (partS x i w).o5), .v (.int .i64 (partS x i w).o6), .v (.int .i64 (partS x i w).o7), .ro true 3 ((partS x i w).txs.map eN)], .one (.v (.int .i64 0))] ∧ rK = [] ∧ rt = 0) := by
 refine Z.con_ofF tabOk 59 Try.f22 _ Try.func22 (by kernel_rfl) rfl rfl rfl rfl ?_
 have cm := rright_con x hr ht
 rw [hs] at cm
 have htb : Tab.tabR x.rows = true := snapR_tab hs
 have csh := Tab.rshare_con i w
 rw [decide_eq_true ho] at csh
 have cpa := Tab.rpart_con x.rows i w hr
 unfold Tab.partT at cpa
 rw [htb] at cpa
 rw [if_neg (by decide), if_pos ho] at cpa
 dsimp only at cpa
 generalize hQ : Tab.partL x.rows i w = Q at *
 have hz : (AV.tup [.agg [.v (.int .i64 (partS x i w).op), .v (.int .i64 (partS x i w).ix), .v (.int .i64 (partS x i w).w), .v (.bool (partS x i w).en), .ro true 4 ((partS x i w).rows.map Tab.eK), .v (.int .i64 (partS x i w).o0), .v (.int .i64 (partS x i w).o1), .v (.int .i64 (partS x i w).o2), .v (.int .i64 (partS x i w).o3), .v (.int .i64 (partS x i w).o4), .v (.int .i64 (partS x i w).o5), .v (.int .i64 (partS x i w).o6), .v (.int .i64 (partS x i w).o7), .ro true 3 ((partS x i w).txs.map eN)], .one (.v (.int .i64 0))]) = .tup [.agg [.v (.int .i64 x.op), .v (.int .i64 i), .v (.int .i64 w), .v (.bool x.en), .ro true 4 (Q.map Tab.eK), .v (.int .i64 (own1 0 i w x.o0)), .v (.int .i64 (own1 1 i w x.o1)), .v (.int .i64 (own1 2 i w x.o2)), .v (.int .i64 (own1 3 i w x.o3)), .v (.int .i64 (own1 4 i w x.o4)), .v (.int .i64 (own1 5 i w x.o5)), .v (.int .i64 (own1 6 i w x.o6)), .v (.int .i64 (own1 7 i w x.o7)), .ro true 3 (([] : List Nm).map eN)], .one (.v (.int .i64 0))] := by unfold partS; rw [hQ]
 rw [hz]
 clear hz hQ
 unfold own1
 rcases six ho with ⟨rfl, rfl⟩ | ⟨rfl, rfl⟩ | ⟨rfl, rfl⟩ | ⟨rfl, rfl⟩ | ⟨rfl, rfl⟩ | ⟨rfl, rfl⟩
 ·simp only [show Tab.ownG 0 1 = 0 from rfl, show Tab.ownG 1 1 = 0 from rfl, show Tab.ownG 2 1 = 0 from rfl, show Tab.ownG 3 1 = 0 from rfl, show Tab.ownG 4 1 = 0 from rfl, show Tab.ownG 5 1 = 0 from rfl, show Tab.ownG 6 1 = 0 from rfl, show Tab.ownG 7 1 = 0 from rfl]
  repeat' ((conv => whnf); first
   | with_reducible first | refine spB_t ?_
   | ((with_reducible apply spB_cong); (focus (simp only [splQ, Int.reduceBEq, Int.reduceBNe, Int.reduceLE, Int.reduceLT, Int.reduceEq]; rfl)))
   | with_reducible first | refine spB_yes (by decide) ?_ | refine spB_no (by decide) ?_
   | (with_reducible refine spB_bne ?_ ?_ <;> intro _ <;> (try (exfalso; (first | contradiction))))
   | with_reducible first | refine Z.loopZ_unroll tabOk 9 ?_
   | ((with_reducible apply ixN_lit); (focus rfl); (focus rfl))
   | with_reducible refine wr_i64 (by first | omega | (simp only [LN] at *; omega)) ?_
   | ((first | (with_reducible refine Z.callZ_mk ?_ (cm) ?_) | (with_reducible refine Z.callZ_mk ?_ (csh) ?_) | (with_reducible refine Z.callZ_mk ?_ (cpa) ?_)); (focus ((repeat' (first | exact trivial | exact rfl | apply And.intro)); done)))
   | ((first | (with_reducible refine Z.callZ_mk ?_ (rown_0_0_1) ?_)); (focus ((repeat' (first | exact trivial | exact rfl | apply And.intro)); done)))
   | ((first | (with_reducible refine Z.callZ_mk ?_ (rown_1_0_1) ?_)); (focus ((repeat' (first | exact trivial | exact rfl | apply And.intro)); done)))
   | ((first | (with_reducible refine Z.callZ_mk ?_ (rown_2_0_1) ?_)); (focus ((repeat' (first | exact trivial | exact rfl | apply And.intro)); done)))
   | ((first | (with_reducible refine Z.callZ_mk ?_ (rown_3_0_1) ?_)); (focus ((repeat' (first | exact trivial | exact rfl | apply And.intro)); done)))
   | ((first | (with_reducible refine Z.callZ_mk ?_ (rown_4_0_1) ?_)); (focus ((repeat' (first | exact trivial | exact rfl | apply And.intro)); done)))
   | ((first | (with_reducible refine Z.callZ_mk ?_ (rown_5_0_1) ?_)); (focus ((repeat' (first | exact trivial | exact rfl | apply And.intro)); done)))
   | ((first | (with_reducible refine Z.callZ_mk ?_ (rown_6_0_1) ?_)); (focus ((repeat' (first | exact trivial | exact rfl | apply And.intro)); done)))
   | ((first | (with_reducible refine Z.callZ_mk ?_ (rown_7_0_1) ?_)); (focus ((repeat' (first | exact trivial | exact rfl | apply And.intro)); done)))
   | fail)
  all_goals (try (conv => whnf))
  all_goals try first | (show Nat.ble _ _ = true; rfl) | (exfalso; rename_i hz; cases hz; done) | (exfalso; (try simp only [LN] at *) <;> omega)
  all_goals first
   | ((first | (with_reducible apply Z.retF2)); (focus rfl); (repeat' (first | exact trivial | (with_reducible apply Z.frz_one) | (with_reducible apply Z.frz_agg) | (with_reducible apply Z.fq_int) | (with_reducible apply Z.fq_bool) | (exact Z.frz_nil) | exact rfl | apply And.intro)); (all_goals (try exact (fun _ => none))); all_goals (first | (simp; done)))
   | fail
 ·simp only [show Tab.ownG 0 2 = 0 from rfl, show Tab.ownG 1 2 = 0 from rfl, show Tab.ownG 2 2 = 0 from rfl, show Tab.ownG 3 2 = 0 from rfl, show Tab.ownG 4 2 = 1 from rfl, show Tab.ownG 5 2 = 1 from rfl, show Tab.ownG 6 2 = 1 from rfl, show Tab.ownG 7 2 = 1 from rfl]
  repeat' ((conv => whnf); first
   | with_reducible first | refine spB_t ?_
   | ((with_reducible apply spB_cong); (focus (simp only [splQ, Int.reduceBEq, Int.reduceBNe, Int.reduceLE, Int.reduceLT, Int.reduceEq]; rfl)))
   | with_reducible first | refine spB_yes (by decide) ?_ | refine spB_no (by decide) ?_
   | (with_reducible refine spB_bne ?_ ?_ <;> intro _ <;> (try (exfalso; (first | contradiction))))
   | with_reducible first | refine Z.loopZ_unroll tabOk 9 ?_
   | ((with_reducible apply ixN_lit); (focus rfl); (focus rfl))
   | with_reducible refine wr_i64 (by first | omega | (simp only [LN] at *; omega)) ?_
   | ((first | (with_reducible refine Z.callZ_mk ?_ (cm) ?_) | (with_reducible refine Z.callZ_mk ?_ (csh) ?_) | (with_reducible refine Z.callZ_mk ?_ (cpa) ?_)); (focus ((repeat' (first | exact trivial | exact rfl | apply And.intro)); done)))
   | ((first | (with_reducible refine Z.callZ_mk ?_ (rown_0_0_2) ?_)); (focus ((repeat' (first | exact trivial | exact rfl | apply And.intro)); done)))
   | ((first | (with_reducible refine Z.callZ_mk ?_ (rown_1_0_2) ?_)); (focus ((repeat' (first | exact trivial | exact rfl | apply And.intro)); done)))
   | ((first | (with_reducible refine Z.callZ_mk ?_ (rown_2_0_2) ?_)); (focus ((repeat' (first | exact trivial | exact rfl | apply And.intro)); done)))
   | ((first | (with_reducible refine Z.callZ_mk ?_ (rown_3_0_2) ?_)); (focus ((repeat' (first | exact trivial | exact rfl | apply And.intro)); done)))
   | ((first | (with_reducible refine Z.callZ_mk ?_ (rown_4_0_2) ?_)); (focus ((repeat' (first | exact trivial | exact rfl | apply And.intro)); done)))
   | ((first | (with_reducible refine Z.callZ_mk ?_ (rown_5_0_2) ?_)); (focus ((repeat' (first | exact trivial | exact rfl | apply And.intro)); done)))
   | ((first | (with_reducible refine Z.callZ_mk ?_ (rown_6_0_2) ?_)); (focus ((repeat' (first | exact trivial | exact rfl | apply And.intro)); done)))
   | ((first | (with_reducible refine Z.callZ_mk ?_ (rown_7_0_2) ?_)); (focus ((repeat' (first | exact trivial | exact rfl | apply And.intro)); done)))
   | fail)
  all_goals (try (conv => whnf))
  all_goals try first | (show Nat.ble _ _ = true; rfl) | (exfalso; rename_i hz; cases hz; done) | (exfalso; (try simp only [LN] at *) <;> omega)
  all_goals first
   | ((first | (with_reducible apply Z.retF2)); (focus rfl); (repeat' (first | exact trivial | (with_reducible apply Z.frz_one) | (with_reducible apply Z.frz_agg) | (with_reducible apply Z.fq_int) | (with_reducible apply Z.fq_bool) | (exact Z.frz_nil) | exact rfl | apply And.intro)); (all_goals (try exact (fun _ => none))); all_goals (first | (simp; done)))
   | fail
 ·simp only [show Tab.ownG 0 2 = 0 from rfl, show Tab.ownG 1 2 = 0 from rfl, show Tab.ownG 2 2 = 0 from rfl, show Tab.ownG 3 2 = 0 from rfl, show Tab.ownG 4 2 = 1 from rfl, show Tab.ownG 5 2 = 1 from rfl, show Tab.ownG 6 2 = 1 from rfl, show Tab.ownG 7 2 = 1 from rfl]
  repeat' ((conv => whnf); first
   | with_reducible first | refine spB_t ?_
   | ((with_reducible apply spB_cong); (focus (simp only [splQ, Int.reduceBEq, Int.reduceBNe, Int.reduceLE, Int.reduceLT, Int.reduceEq]; rfl)))
   | with_reducible first | refine spB_yes (by decide) ?_ | refine spB_no (by decide) ?_
   | (with_reducible refine spB_bne ?_ ?_ <;> intro _ <;> (try (exfalso; (first | contradiction))))
   | with_reducible first | refine Z.loopZ_unroll tabOk 9 ?_
   | ((with_reducible apply ixN_lit); (focus rfl); (focus rfl))
   | with_reducible refine wr_i64 (by first | omega | (simp only [LN] at *; omega)) ?_
   | ((first | (with_reducible refine Z.callZ_mk ?_ (cm) ?_) | (with_reducible refine Z.callZ_mk ?_ (csh) ?_) | (with_reducible refine Z.callZ_mk ?_ (cpa) ?_)); (focus ((repeat' (first | exact trivial | exact rfl | apply And.intro)); done)))
   | ((first | (with_reducible refine Z.callZ_mk ?_ (rown_0_1_2) ?_)); (focus ((repeat' (first | exact trivial | exact rfl | apply And.intro)); done)))
   | ((first | (with_reducible refine Z.callZ_mk ?_ (rown_1_1_2) ?_)); (focus ((repeat' (first | exact trivial | exact rfl | apply And.intro)); done)))
   | ((first | (with_reducible refine Z.callZ_mk ?_ (rown_2_1_2) ?_)); (focus ((repeat' (first | exact trivial | exact rfl | apply And.intro)); done)))
   | ((first | (with_reducible refine Z.callZ_mk ?_ (rown_3_1_2) ?_)); (focus ((repeat' (first | exact trivial | exact rfl | apply And.intro)); done)))
   | ((first | (with_reducible refine Z.callZ_mk ?_ (rown_4_1_2) ?_)); (focus ((repeat' (first | exact trivial | exact rfl | apply And.intro)); done)))
   | ((first | (with_reducible refine Z.callZ_mk ?_ (rown_5_1_2) ?_)); (focus ((repeat' (first | exact trivial | exact rfl | apply And.intro)); done)))
   | ((first | (with_reducible refine Z.callZ_mk ?_ (rown_6_1_2) ?_)); (focus ((repeat' (first | exact trivial | exact rfl | apply And.intro)); done)))
   | ((first | (with_reducible refine Z.callZ_mk ?_ (rown_7_1_2) ?_)); (focus ((repeat' (first | exact trivial | exact rfl | apply And.intro)); done)))
   | fail)
  all_goals (try (conv => whnf))
  all_goals try first | (show Nat.ble _ _ = true; rfl) | (exfalso; rename_i hz; cases hz; done) | (exfalso; (try simp only [LN] at *) <;> omega)
  all_goals first
   | ((first | (with_reducible apply Z.retF2)); (focus rfl); (repeat' (first | exact trivial | (with_reducible apply Z.frz_one) | (with_reducible apply Z.frz_agg) | (with_reducible apply Z.fq_int) | (with_reducible apply Z.fq_bool) | (exact Z.frz_nil) | exact rfl | apply And.intro)); (all_goals (try exact (fun _ => none))); all_goals (first | (simp; done)))
   | fail
 ·simp only [show Tab.ownG 0 3 = 0 from rfl, show Tab.ownG 1 3 = 0 from rfl, show Tab.ownG 2 3 = 0 from rfl, show Tab.ownG 3 3 = 1 from rfl, show Tab.ownG 4 3 = 1 from rfl, show Tab.ownG 5 3 = 1 from rfl, show Tab.ownG 6 3 = 2 from rfl, show Tab.ownG 7 3 = 2 from rfl]
  repeat' ((conv => whnf); first
   | with_reducible first | refine spB_t ?_
   | ((with_reducible apply spB_cong); (focus (simp only [splQ, Int.reduceBEq, Int.reduceBNe, Int.reduceLE, Int.reduceLT, Int.reduceEq]; rfl)))
   | with_reducible first | refine spB_yes (by decide) ?_ | refine spB_no (by decide) ?_
   | (with_reducible refine spB_bne ?_ ?_ <;> intro _ <;> (try (exfalso; (first | contradiction))))
   | with_reducible first | refine Z.loopZ_unroll tabOk 9 ?_
   | ((with_reducible apply ixN_lit); (focus rfl); (focus rfl))
   | with_reducible refine wr_i64 (by first | omega | (simp only [LN] at *; omega)) ?_
   | ((first | (with_reducible refine Z.callZ_mk ?_ (cm) ?_) | (with_reducible refine Z.callZ_mk ?_ (csh) ?_) | (with_reducible refine Z.callZ_mk ?_ (cpa) ?_)); (focus ((repeat' (first | exact trivial | exact rfl | apply And.intro)); done)))
   | ((first | (with_reducible refine Z.callZ_mk ?_ (rown_0_0_3) ?_)); (focus ((repeat' (first | exact trivial | exact rfl | apply And.intro)); done)))
   | ((first | (with_reducible refine Z.callZ_mk ?_ (rown_1_0_3) ?_)); (focus ((repeat' (first | exact trivial | exact rfl | apply And.intro)); done)))
   | ((first | (with_reducible refine Z.callZ_mk ?_ (rown_2_0_3) ?_)); (focus ((repeat' (first | exact trivial | exact rfl | apply And.intro)); done)))
   | ((first | (with_reducible refine Z.callZ_mk ?_ (rown_3_0_3) ?_)); (focus ((repeat' (first | exact trivial | exact rfl | apply And.intro)); done)))
   | ((first | (with_reducible refine Z.callZ_mk ?_ (rown_4_0_3) ?_)); (focus ((repeat' (first | exact trivial | exact rfl | apply And.intro)); done)))
   | ((first | (with_reducible refine Z.callZ_mk ?_ (rown_5_0_3) ?_)); (focus ((repeat' (first | exact trivial | exact rfl | apply And.intro)); done)))
   | ((first | (with_reducible refine Z.callZ_mk ?_ (rown_6_0_3) ?_)); (focus ((repeat' (first | exact trivial | exact rfl | apply And.intro)); done)))
   | ((first | (with_reducible refine Z.callZ_mk ?_ (rown_7_0_3) ?_)); (focus ((repeat' (first | exact trivial | exact rfl | apply And.intro)); done)))
   | fail)
  all_goals (try (conv => whnf))
  all_goals try first | (show Nat.ble _ _ = true; rfl) | (exfalso; rename_i hz; cases hz; done) | (exfalso; (try simp only [LN] at *) <;> omega)
  all_goals first
   | ((first | (with_reducible apply Z.retF2)); (focus rfl); (repeat' (first | exact trivial | (with_reducible apply Z.frz_one) | (with_reducible apply Z.frz_agg) | (with_reducible apply Z.fq_int) | (with_reducible apply Z.fq_bool) | (exact Z.frz_nil) | exact rfl | apply And.intro)); (all_goals (try exact (fun _ => none))); all_goals (first | (simp; done)))
   | fail
 ·simp only [show Tab.ownG 0 3 = 0 from rfl, show Tab.ownG 1 3 = 0 from rfl, show Tab.ownG 2 3 = 0 from rfl, show Tab.ownG 3 3 = 1 from rfl, show Tab.ownG 4 3 = 1 from rfl, show Tab.ownG 5 3 = 1 from rfl, show Tab.ownG 6 3 = 2 from rfl, show Tab.ownG 7 3 = 2 from rfl]
  repeat' ((conv => whnf); first
   | with_reducible first | refine spB_t ?_
   | ((with_reducible apply spB_cong); (focus (simp only [splQ, Int.reduceBEq, Int.reduceBNe, Int.reduceLE, Int.reduceLT, Int.reduceEq]; rfl)))
   | with_reducible first | refine spB_yes (by decide) ?_ | refine spB_no (by decide) ?_
   | (with_reducible refine spB_bne ?_ ?_ <;> intro _ <;> (try (exfalso; (first | contradiction))))
   | with_reducible first | refine Z.loopZ_unroll tabOk 9 ?_
   | ((with_reducible apply ixN_lit); (focus rfl); (focus rfl))
   | with_reducible refine wr_i64 (by first | omega | (simp only [LN] at *; omega)) ?_
   | ((first | (with_reducible refine Z.callZ_mk ?_ (cm) ?_) | (with_reducible refine Z.callZ_mk ?_ (csh) ?_) | (with_reducible refine Z.callZ_mk ?_ (cpa) ?_)); (focus ((repeat' (first | exact trivial | exact rfl | apply And.intro)); done)))
   | ((first | (with_reducible refine Z.callZ_mk ?_ (rown_0_1_3) ?_)); (focus ((repeat' (first | exact trivial | exact rfl | apply And.intro)); done)))
   | ((first | (with_reducible refine Z.callZ_mk ?_ (rown_1_1_3) ?_)); (focus ((repeat' (first | exact trivial | exact rfl | apply And.intro)); done)))
   | ((first | (with_reducible refine Z.callZ_mk ?_ (rown_2_1_3) ?_)); (focus ((repeat' (first | exact trivial | exact rfl | apply And.intro)); done)))
   | ((first | (with_reducible refine Z.callZ_mk ?_ (rown_3_1_3) ?_)); (focus ((repeat' (first | exact trivial | exact rfl | apply And.intro)); done)))
   | ((first | (with_reducible refine Z.callZ_mk ?_ (rown_4_1_3) ?_)); (focus ((repeat' (first | exact trivial | exact rfl | apply And.intro)); done)))
   | ((first | (with_reducible refine Z.callZ_mk ?_ (rown_5_1_3) ?_)); (focus ((repeat' (first | exact trivial | exact rfl | apply And.intro)); done)))
   | ((first | (with_reducible refine Z.callZ_mk ?_ (rown_6_1_3) ?_)); (focus ((repeat' (first | exact trivial | exact rfl | apply And.intro)); done)))
   | ((first | (with_reducible refine Z.callZ_mk ?_ (rown_7_1_3) ?_)); (focus ((repeat' (first | exact trivial | exact rfl | apply And.intro)); done)))
   | fail)
  all_goals (try (conv => whnf))
  all_goals try first | (show Nat.ble _ _ = true; rfl) | (exfalso; rename_i hz; cases hz; done) | (exfalso; (try simp only [LN] at *) <;> omega)
  all_goals first
   | ((first | (with_reducible apply Z.retF2)); (focus rfl); (repeat' (first | exact trivial | (with_reducible apply Z.frz_one) | (with_reducible apply Z.frz_agg) | (with_reducible apply Z.fq_int) | (with_reducible apply Z.fq_bool) | (exact Z.frz_nil) | exact rfl | apply And.intro)); (all_goals (try exact (fun _ => none))); all_goals (first | (simp; done)))
   | fail
 ·simp only [show Tab.ownG 0 3 = 0 from rfl, show Tab.ownG 1 3 = 0 from rfl, show Tab.ownG 2 3 = 0 from rfl, show Tab.ownG 3 3 = 1 from rfl, show Tab.ownG 4 3 = 1 from rfl, show Tab.ownG 5 3 = 1 from rfl, show Tab.ownG 6 3 = 2 from rfl, show Tab.ownG 7 3 = 2 from rfl]
  repeat' ((conv => whnf); first
   | with_reducible first | refine spB_t ?_
   | ((with_reducible apply spB_cong); (focus (simp only [splQ, Int.reduceBEq, Int.reduceBNe, Int.reduceLE, Int.reduceLT, Int.reduceEq]; rfl)))
   | with_reducible first | refine spB_yes (by decide) ?_ | refine spB_no (by decide) ?_
   | (with_reducible refine spB_bne ?_ ?_ <;> intro _ <;> (try (exfalso; (first | contradiction))))
   | with_reducible first | refine Z.loopZ_unroll tabOk 9 ?_
   | ((with_reducible apply ixN_lit); (focus rfl); (focus rfl))
   | with_reducible refine wr_i64 (by first | omega | (simp only [LN] at *; omega)) ?_
   | ((first | (with_reducible refine Z.callZ_mk ?_ (cm) ?_) | (with_reducible refine Z.callZ_mk ?_ (csh) ?_) | (with_reducible refine Z.callZ_mk ?_ (cpa) ?_)); (focus ((repeat' (first | exact trivial | exact rfl | apply And.intro)); done)))
   | ((first | (with_reducible refine Z.callZ_mk ?_ (rown_0_2_3) ?_)); (focus ((repeat' (first | exact trivial | exact rfl | apply And.intro)); done)))
   | ((first | (with_reducible refine Z.callZ_mk ?_ (rown_1_2_3) ?_)); (focus ((repeat' (first | exact trivial | exact rfl | apply And.intro)); done)))
   | ((first | (with_reducible refine Z.callZ_mk ?_ (rown_2_2_3) ?_)); (focus ((repeat' (first | exact trivial | exact rfl | apply And.intro)); done)))
   | ((first | (with_reducible refine Z.callZ_mk ?_ (rown_3_2_3) ?_)); (focus ((repeat' (first | exact trivial | exact rfl | apply And.intro)); done)))
   | ((first | (with_reducible refine Z.callZ_mk ?_ (rown_4_2_3) ?_)); (focus ((repeat' (first | exact trivial | exact rfl | apply And.intro)); done)))
   | ((first | (with_reducible refine Z.callZ_mk ?_ (rown_5_2_3) ?_)); (focus ((repeat' (first | exact trivial | exact rfl | apply And.intro)); done)))
   | ((first | (with_reducible refine Z.callZ_mk ?_ (rown_6_2_3) ?_)); (focus ((repeat' (first | exact trivial | exact rfl | apply And.intro)); done)))
   | ((first | (with_reducible refine Z.callZ_mk ?_ (rown_7_2_3) ?_)); (focus ((repeat' (first | exact trivial | exact rfl | apply And.intro)); done)))
   | fail)
  all_goals (try (conv => whnf))
  all_goals try first | (show Nat.ble _ _ = true; rfl) | (exfalso; rename_i hz; cases hz; done) | (exfalso; (try simp only [LN] at *) <;> omega)
  all_goals first
   | ((first | (with_reducible apply Z.retF2)); (focus rfl); (repeat' (first | exact trivial | (with_reducible apply Z.frz_one) | (with_reducible apply Z.frz_agg) | (with_reducible apply Z.fq_int) | (with_reducible apply Z.fq_bool) | (exact Z.frz_nil) | exact rfl | apply And.intro)); (all_goals (try exact (fun _ => none))); all_goals (first | (simp; done)))
   | fail
theorem srpart_con (x : Sn) (i w : Int) (hr : x.rows.length ≤ 1000) (ht : x.txs.length ≤ 9223372036854775807) : Con Try.prog 22 [.agg [.v (.int .i64 x.op), .v (.int .i64 x.ix), .v (.int .i64 x.w), .v (.bool x.en), .ro false 4 (x.rows.map Tab.eK), .v (.int .i64 x.o0), .v (.int .i64 x.o1), .v (.int .i64 x.o2), .v (.int .i64 x.o3), .v (.int .i64 x.o4), .v (.int .i64 x.o5), .v (.int .i64 x.o6), .v (.int .i64 x.o7), .ro false 3 (x.txs.map eN)], .one (.v (.int .i64 i)), .one (.v (.int .i64 w))] (fun rx rK rt => rx = .tup [.agg [.v (.int .i64 (partE x i w).1.op), .v (.int .i64 (partE x i w).1.ix), .v (.int .i64 (partE x i w).1.w), .v (.bool (partE x i w).1.en), .ro true 4 ((partE x i w).1.rows.map Tab.eK), .v (.int .i64 (partE x i w).1.o0), .v (.int .i64 (partE x i w).1.o1), .v (.int .i64 (partE x i w).1.o2), .v (.int .i64 (partE x i w).1.o3), .v (.int .i64 (partE x i w).1.o4), .v (.int .i64 (partE x i w).1.o5), .v (.int .i64 (partE x i w).1.o6), .v (.int .i64 (partE x i w).1.o7), .ro true 3 ((partE x i w).1.txs.map eN)], .one (.v (.int .i64 (partE x i w).2))] ∧ rK = [] ∧ rt = 0) := by
 unfold partE
 by_cases hs : snapR x = false
 ·rw [if_pos hs]; exact rpart_no x i w hr ht hs
 have hs2 : snapR x = true := by simpa using hs
 rw [if_neg hs]
 by_cases hw : x.w ≠ 1
 ·rw [if_pos hw]; exact rpart_w x i w hr ht hs2 hw
 rw [if_neg hw]
 by_cases ho : Tab.okS i w
 ·rw [if_pos ho]; exact rpart_okS x i w hr ht hs2 (by omega) ho
 ·rw [if_neg ho]; exact rpart_sh x i w hr ht hs2 (by omega) ho
end Go.Proofs.Ytopieffkpdlpbaa
namespace Go.Proofs.Ytopieffkpdlpbaa
open Go Go.RowKit Wx
set_option maxHeartbeats 4000000
theorem srresc_con (l : List Sn) (w : Int) (hA : ∀ x ∈ l, x.rows.length ≤ 1000 ∧ x.txs.length ≤ 1000) (hl : l.length ≤ 1000) : Con Try.prog 19 [.one (.ro false 14 ((l : List Sn).map eSn)), .one (.v (.int .i64 w))] (fun rx rK rt => rx = .tup [.one (.ro true 14 (((rescE l w).1 : List Sn).map eSn)), .one (.v (.int .i64 (rescE l w).2))] ∧ rK = [] ∧ rt = 0) := by
 refine Z.con_ofF tabOk 43 Try.f19 _ Try.func19 (by kernel_rfl) rfl rfl rfl rfl ?_
 unfold rescE
 have hok := @wholeE_ok l
 have hrl := @wholeE_len l
 have htl := @wholeE_txs l
 have cw := srwhole_con l hA hl
 have hW : (wholeE l).2 = 0 → snapR (wholeE l).1 = true ∧ (wholeE l).1.w = 1 := fun h => by
  obtain ⟨h1, h2, h3, h4⟩ := wholeE_ok h
  rw [h4]
  exact ⟨whole_R h1 h2 h3, rfl⟩
 clear hok
 generalize wholeE l = D at *
 obtain ⟨W, e⟩ := D
 dsimp only at *
 by_cases he : e = 0
 rotate_left
 ·rw [if_pos he]
  repeat' ((conv => whnf); first
   | (with_reducible refine spB_bne ?_ ?_ <;> intro _ <;> (try (exfalso; (first | contradiction))))
   | ((first | (with_reducible refine Z.callZ_mk ?_ (cw) ?_)); (focus ((repeat' (first | exact trivial | exact rfl | apply And.intro)); done)))
   | fail)
  all_goals (try (conv => whnf))
  all_goals try first | (show Nat.ble _ _ = true; rfl) | (exfalso; rename_i hz; cases hz; done) | (exfalso; (try simp only [LN] at *) <;> omega)
  all_goals first
   | ((first | (with_reducible apply Z.retF2)); (focus rfl); (repeat' (first | exact trivial | (with_reducible apply Z.frz_one) | (exact Z.frz_nil) | exact rfl | apply And.intro)); (all_goals (try exact (fun _ => none))); all_goals (first | (simp; done)))
   | fail
 subst he
 rw [if_neg (by decide)]
 obtain ⟨hs, hw1⟩ := hW rfl
 by_cases ho : Tab.okS 0 w
 rotate_left
 ·rw [if_neg ho]
  unfold Tab.okS at ho
  repeat' ((conv => whnf); first
   | with_reducible first | refine spB_t ?_
   | ((with_reducible apply spB_cong); (focus (simp only [splQ, Int.reduceBEq, Int.reduceBNe, Int.reduceLE, Int.reduceLT, Int.reduceEq]; rfl)))
   | with_reducible first | refine spB_no (by decide) ?_
   | (with_reducible refine spB_dec ?_ ?_ <;> intro _ <;> (try (exfalso; (first | omega))))
   | ((first | (with_reducible refine Z.callZ_mk ?_ (cw) ?_)); (focus ((repeat' (first | exact trivial | exact rfl | apply And.intro)); done)))
   | fail)
  all_goals (try (conv => whnf))
  all_goals try first | (show Nat.ble _ _ = true; rfl) | (exfalso; rename_i hz; cases hz; done) | (exfalso; (try simp only [LN] at *) <;> omega)
  all_goals first
   | ((first | (with_reducible apply Z.retF2)); (focus rfl); (repeat' (first | exact trivial | (with_reducible apply Z.frz_one) | (with_reducible apply Z.fq_int) | (exact Z.frz_nil) | exact rfl | apply And.intro)); (all_goals (try exact (fun _ => none))); all_goals (first | (simp; done)))
   | fail
 rw [if_pos ho]
 have hw3 : w = 1 ∨ w = 2 ∨ w = 3 := by unfold Tab.okS at ho; omega
 rcases hw3 with rfl | rfl | rfl
 ·rw [show resc W 1 = [partS W 0 1] from rfl]
  have p0 := srpart_con W 0 1 (by omega) (by omega)
  rw [partE_yes hs hw1 (okS_lt (i := 0) (w := 1) (by decide) (by decide) (by decide) (by decide))] at p0
  dsimp only at p0
  repeat' ((conv => whnf); first
   | with_reducible first | refine spB_t ?_
   | ((with_reducible apply spB_cong); (focus (simp only [splQ, Int.reduceBEq, Int.reduceBNe, Int.reduceLE, Int.reduceLT, Int.reduceEq]; rfl)))
   | with_reducible first | refine spB_no (by decide) ?_
   | with_reducible first | refine Z.loopZ_unroll tabOk 2 ?_
   | ((with_reducible refine posE_pos ?_ ?_); (focus ((try simp only [LN] at *) <;> omega)))
   | ((with_reducible refine apdN.mk ?_ ?_ ?_ ?_ ?_ ?_); (focus (first | rfl)); (focus (first | exact one_all (by rfl))); (focus ((try simp only [LN] at *) <;> omega)); (focus ((try simp only [LN] at *) <;> omega)); (focus ((try simp only [LN] at *) <;> omega)))
   | with_reducible refine wr_i64 (by first | omega | (simp only [LN] at *; omega)) ?_
   | ((first | (with_reducible refine Z.callZ_mk ?_ (cw) ?_) | (with_reducible refine Z.callZ_mk ?_ (p0) ?_)); (focus ((repeat' (first | exact trivial | exact rfl | apply And.intro)); done)))
   | fail)
  all_goals (try (conv => whnf))
  all_goals try first | (show Nat.ble _ _ = true; rfl) | (exfalso; rename_i hz; cases hz; done) | (exfalso; (try simp only [LN] at *) <;> omega)
  all_goals first
   | ((first | (with_reducible apply Z.retF2)); (focus rfl); (repeat' (first | exact trivial | (refine Z.frz_gsl (l := [partS W 0 1]) (f := cSn) (g := eSn) (ty := 33) ?_ (fun _ => rfl); (focus (first | rfl))) | (with_reducible apply Z.frz_one) | (with_reducible apply Z.fq_int) | exact rfl | apply And.intro)); (all_goals (try exact (fun _ => none))); all_goals (first | (simp; done)))
   | fail
 ·rw [show resc W 2 = [partS W 0 2, partS W 1 2] from rfl]
  have p0 := srpart_con W 0 2 (by omega) (by omega)
  rw [partE_yes hs hw1 (okS_lt (i := 0) (w := 2) (by decide) (by decide) (by decide) (by decide))] at p0
  dsimp only at p0
  have p1 := srpart_con W 1 2 (by omega) (by omega)
  rw [partE_yes hs hw1 (okS_lt (i := 1) (w := 2) (by decide) (by decide) (by decide) (by decide))] at p1
  dsimp only at p1
  repeat' ((conv => whnf); first
   | with_reducible first | refine spB_t ?_
   | ((with_reducible apply spB_cong); (focus (simp only [splQ, Int.reduceBEq, Int.reduceBNe, Int.reduceLE, Int.reduceLT, Int.reduceEq]; rfl)))
   | with_reducible first | refine spB_yes (by decide) ?_ | refine spB_no (by decide) ?_
   | with_reducible first | refine Z.loopZ_unroll tabOk 3 ?_
   | ((with_reducible refine posE_pos ?_ ?_); (focus ((try simp only [LN] at *) <;> omega)))
   | ((with_reducible refine eqN_mk2 ?_ ?_); (focus rfl))
   | ((with_reducible refine apdN.mk ?_ ?_ ?_ ?_ ?_ ?_); (focus (first | rfl)); (focus (first | exact one_all (by rfl))); (focus ((try simp only [LN] at *) <;> omega)); (focus ((try simp only [LN] at *) <;> omega)); (focus ((try simp only [LN] at *) <;> omega)))
   | with_reducible refine wr_i64 (by first | omega | (simp only [LN] at *; omega)) ?_
   | ((first | (with_reducible refine Z.callZ_mk ?_ (cw) ?_)); (focus ((repeat' (first | exact trivial | exact rfl | apply And.intro)); done)))
   | ((first | (with_reducible refine Z.callZ_mk ?_ (p0) ?_)); (focus ((repeat' (first | exact trivial | exact rfl | apply And.intro)); done)))
   | ((first | (with_reducible refine Z.callZ_mk ?_ (p1) ?_)); (focus ((repeat' (first | exact trivial | exact rfl | apply And.intro)); done)))
   | fail)
  all_goals (try (conv => whnf))
  all_goals try first | (show Nat.ble _ _ = true; rfl) | (exfalso; rename_i hz; cases hz; done) | (exfalso; (try simp only [LN] at *) <;> omega)
  all_goals first
   | ((first | (with_reducible apply Z.retF2)); (focus rfl); (repeat' (first | exact trivial | (refine Z.frz_gsl (l := [partS W 0 2, partS W 1 2]) (f := cSn) (g := eSn) (ty := 33) ?_ (fun _ => rfl); (focus (first | rfl))) | (with_reducible apply Z.frz_one) | (with_reducible apply Z.fq_int) | exact rfl | apply And.intro)); (all_goals (try exact (fun _ => none))); all_goals (first | (simp; done)))
   | fail
 ·rw [show resc W 3 = [partS W 0 3, partS W 1 3, partS W 2 3] from rfl]
  have p0 := srpart_con W 0 3 (by omega) (by omega)
  rw [partE_yes hs hw1 (okS_lt (i := 0) (w := 3) (by decide) (by decide) (by decide) (by decide))] at p0
  dsimp only at p0
  have p1 := srpart_con W 1 3 (by omega) (by omega)
  rw [partE_yes hs hw1 (okS_lt (i := 1) (w := 3) (by decide) (by decide) (by decide) (by decide))] at p1
  dsimp only at p1
  have p2 := srpart_con W 2 3 (by omega) (by omega)
  rw [partE_yes hs hw1 (okS_lt (i := 2) (w := 3) (by decide) (by decide) (by decide) (by decide))] at p2
  dsimp only at p2
  repeat' ((conv => whnf); first
   | with_reducible first | refine spB_t ?_
   | ((with_reducible apply spB_cong); (focus (simp only [splQ, Int.reduceBEq, Int.reduceBNe, Int.reduceLE, Int.reduceLT, Int.reduceEq]; rfl)))
   | with_reducible first | refine spB_yes (by decide) ?_ | refine spB_no (by decide) ?_
   | with_reducible first | refine Z.loopZ_unroll tabOk 4 ?_
   | ((with_reducible refine posE_pos ?_ ?_); (focus ((try simp only [LN] at *) <;> omega)))
   | ((with_reducible refine eqN_mk2 ?_ ?_); (focus rfl))
   | ((with_reducible refine apdN.mk ?_ ?_ ?_ ?_ ?_ ?_); (focus (first | rfl)); (focus (first | exact one_all (by rfl))); (focus ((try simp only [LN] at *) <;> omega)); (focus ((try simp only [LN] at *) <;> omega)); (focus ((try simp only [LN] at *) <;> omega)))
   | with_reducible refine wr_i64 (by first | omega | (simp only [LN] at *; omega)) ?_
   | ((first | (with_reducible refine Z.callZ_mk ?_ (cw) ?_)); (focus ((repeat' (first | exact trivial | exact rfl | apply And.intro)); done)))
   | ((first | (with_reducible refine Z.callZ_mk ?_ (p0) ?_)); (focus ((repeat' (first | exact trivial | exact rfl | apply And.intro)); done)))
   | ((first | (with_reducible refine Z.callZ_mk ?_ (p1) ?_)); (focus ((repeat' (first | exact trivial | exact rfl | apply And.intro)); done)))
   | ((first | (with_reducible refine Z.callZ_mk ?_ (p2) ?_)); (focus ((repeat' (first | exact trivial | exact rfl | apply And.intro)); done)))
   | fail)
  all_goals (try (conv => whnf))
  all_goals try first | (show Nat.ble _ _ = true; rfl) | (exfalso; rename_i hz; cases hz; done) | (exfalso; (try simp only [LN] at *) <;> omega)
  all_goals first
   | ((first | (with_reducible apply Z.retF2)); (focus rfl); (repeat' (first | exact trivial | (refine Z.frz_gsl (l := [partS W 0 3, partS W 1 3, partS W 2 3]) (f := cSn) (g := eSn) (ty := 33) ?_ (fun _ => rfl); (focus (first | rfl))) | (with_reducible apply Z.frz_one) | (with_reducible apply Z.fq_int) | exact rfl | apply And.intro)); (all_goals (try exact (fun _ => none))); all_goals (first | (simp; done)))
   | fail
end Go.Proofs.Ytopieffkpdlpbaa
