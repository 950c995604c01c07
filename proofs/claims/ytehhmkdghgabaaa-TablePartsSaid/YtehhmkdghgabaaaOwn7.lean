import Derived.Test.YtehhmkdghgabaaaOwn6
import Derived.Test.YtehhmkdghgabaaaLib3
import Derived.Test.YtehhmkdghgabaaaLib4
namespace Go.Proofs.Ytehhmkdghgabaaa
open Go Go.RowKit Wx
set_option linter.unusedVariables false
set_option linter.unusedSimpArgs false
set_option maxHeartbeats 4000000
theorem inL_snocK {r : List Nat} {o : List Kc} {y : Kc} {S : List (List Ce)} {sz : Nat} {ty : TypeId} {bx : Bool} (hS : S = [cK y]) : (Z.Ob.b ⟨o.map cK ++ S, sz, ty, bx⟩).inL r = true := by
  subst hS
  rw [show o.map cK ++ [cK y] = (o ++ [y]).map cK by simp]
  exact Z.inL_map (f := cK) fun _ => rfl
theorem rput_con (l : List Kc) (s k v : Int) (c : Int × Int) (hl : l.length ≤ 1000000) : Con Try.prog 63 [.agg [.ro false 4 (l.map eK)], .agg [.v (.int .i64 s), .v (.int .i64 k), .v (.int .i64 v)], .agg [.v (.int .i64 c.1), .v (.int .i64 c.2)]] (fun rx rK rt => rx = .pl (.agg [.ro true 4 ((putD l s k c).map eK)]) ∧ rK = [] ∧ rt = 0) := by
  refine Z.con_ofF tabOk 64 Try.f63 _ Try.func63 (by kernel_rfl) rfl rfl rfl rfl ?_
  have hc0 : (decide (c.1 = 0) && decide (c.2 = 0)) = decide (c = (0, 0)) := by
    by_cases h1 : c.1 = 0 <;> by_cases h2 : c.2 = 0 <;> simp [h1, h2, Prod.ext_iff]
  have hc1 : (c.1 == 0 && (c.2 == 0 && true)) = decide (c = (0, 0)) := by rw [← hc0, Bool.and_true]; rfl
  repeat' ((conv => whnf); first
    | with_reducible first | refine spB_t ?_
    | fail)
  all_goals (try (conv => whnf))
  all_goals try (show Nat.ble _ _ = true; rfl)
  all_goals try (exfalso; rename_i hz; cases hz; done)
  all_goals try (exfalso; (try simp only [LN] at *) <;> omega)
  have hcI : Z.ImpV (AV.val (Value.bool (c.1 == 0 && (c.2 == 0 && true)))) (AV.val (Value.bool (decide (c = (0, 0))))) := by rw [hc1]; exact Z.ImpV.refl _
  refine Z.loopK tabOk (fun zq : Nat × List Kc × Bool => [(24, .val (.int .i64 (zq.1 : Int))), (8, .val (.bool zq.2.2))]) (fun zq : Nat × List Kc × Bool => ([(1, some (Z.Ob.b ⟨[[.v (.int .i64 s), .v (.int .i64 k), .v (.int .i64 v)]], 3, 39, true⟩)), (3, some (Z.Ob.b ⟨[[.v (.slice none 0 0)]], 1, 30, true⟩)), (4, some (Z.Ob.b ⟨[[.gsl 6 (zq.2.1.map cK)]], 1, 30, true⟩)), (5, some (Z.Ob.b ⟨[[.v (.int .i64 s), .v (.int .i64 k), .v (.int .i64 c.1), .v (.int .i64 c.2)]], 4, 74, true⟩)), (6, (gB 4 74 (zq.2.1.map cK)).map Z.Ob.b)] : Z.Kr)) (fun zq => zq.1 ≤ l.length ∧ (l.take zq.1).foldl (putS s k c) ([], decide (c = (0, 0))) = (zq.2.1, zq.2.2) ∧ zq.2.1.length ≤ 2 * zq.1) (fun zq => l.length - zq.1) (0, [], decide (c = (0, 0))) 7 [(4, _), (6, _), (7, _), (9, _), (22, _), (23, _)] ⟨rfl, rfl, rfl, rfl, rfl, rfl, trivial⟩ [] trivial ?_ ?_ rfl rfl ⟨Nat.zero_le _, rfl, Nat.zero_le _⟩ ?_
  · repeat' (first | exact trivial | apply And.intro | exact ⟨_, rfl, Z.Imp.refl _⟩ | exact ⟨_, rfl, hcI⟩)
  · repeat' (first | exact trivial | (intro b hb; cases hb; done) | exact (fun b hb => ⟨b, hb, Z.ImpO.refl b⟩) | (intro b hb; cases hb; refine ⟨_, rfl, ⟨rfl, rfl, rfl⟩, ?_⟩; (repeat' (first | exact trivial | apply And.intro | exact Z.Imp.nilg _)); done) | apply And.intro)
  rintro ⟨i, o, d⟩ HINV
  (try dsimp only at HINV); (try dsimp only)
  obtain ⟨HI, HF, HO⟩ := HINV
  by_cases hi : i < l.length
  · obtain ⟨x, hx⟩ := getElem?_some' (xs := l) (i := i) hi
    have hs := putS_at hx HF
    have cc := rcompare_con x.src x.key 0 s k v
    have hcl := @cmp_lt x.src x.key s k
    have hce := cmp_eq x.src x.key s k
    generalize cmpR x.src x.key s k = C at *
    rcases @kLt_tri x.src x.key s k with h1 | ⟨h1, h2⟩ | h1
    · skip
      have e2 : gtK s k x = false := decide_eq_false (by first | exact h1 | exact kLt_asym h1 | (rw [h1, h2]; exact kLt_irr))
      have e3 : eqK s k x = false := decide_eq_false fun e => by rw [e.1, e.2] at h1; exact kLt_irr h1
      have hne : ¬ (x.src = s ∧ x.key = k) := fun e => by rw [e.1, e.2] at h1; exact kLt_irr h1
      rw [decide_eq_true h1] at hcl
      have hC : ¬ 0 ≤ C := of_decide_eq_false (by simpa using hcl)
      cases d
      · have hp : putS s k c (o, false) x = (o ++ [x], false) := by unfold putS; simp [e2, e3]
        have hs2 := hs.trans hp
        repeat' ((conv => whnf); first
          | with_reducible first | refine spB_t ?_
          | ((with_reducible apply spB_cong); (focus (simp only [beq_self_eq_true, bne_self_eq_false, Bool.true_bne, Bool.false_bne, Bool.bne_true, Bool.bne_false, Bool.true_beq, Bool.false_beq, Bool.not_true, Bool.not_false, Bool.not_not, Int.reduceBEq, Int.reduceBNe, Int.reduceLE, Int.reduceLT, Int.reduceEq, decide_true, decide_false]; rfl)))
          | (with_reducible refine spB_dec ?_ ?_ <;> intro _ <;> (try (exfalso; first | contradiction | omega | (rename_i hz; refine hz ?_; simp; done) | (rename_i hz; simp at hz; done) | (simp only [LN] at *; omega))))
          | (with_reducible refine spB_bne ?_ ?_ <;> intro _ <;> (try (exfalso; first | contradiction | omega | (rename_i hz; refine hz ?_; simp; done) | (rename_i hz; simp at hz; done) | (simp only [LN] at *; omega))))
          | with_reducible first | refine Z.rowN_known hx ?_
          | ((with_reducible refine posE_pos ?_ ?_); (focus ((try simp only [LN] at *) <;> omega)))
          | ((with_reducible apply ixN_litp); (focus (exact rfl)); (focus ((try simp only [LN] at *) <;> omega)))
          | ((with_reducible refine apdN.mk ?_ ?_ ?_ ?_ ?_ ?_); (focus (first | rfl)); (focus (first | exact one_all (by rfl))); (focus ((try simp only [LN] at *) <;> omega)); (focus ((try simp only [LN] at *) <;> omega)); (focus ((try simp only [LN] at *) <;> omega)))
          | with_reducible refine wr_i64 (by first | omega | (simp only [LN] at *; omega)) ?_
          | with_reducible first | refine Z.callZ_in tabOk 8 Try.f47 _ Try.func47 (by kernel_rfl) rfl rfl rfl ?_
          | ((first | (with_reducible refine Z.conZ_mz ?_ (cc) ?_)); (focus ((repeat' (first | exact trivial | exact rfl | apply And.intro)); done)))
          | ((with_reducible refine eqN_mk2 ?_ ?_); (focus (exact Z.kb_some rfl)))
          | ((with_reducible apply ex_and); exact rfl)
          | with_reducible first | refine Z.drawZ_rule tabOk mixOk ?_ | refine Z.apZ_mk (by kernel_rfl) ?_
          | ((with_reducible refine Z.ConZ.red ?_); (try subst hlb); (apply Z.conZ_all); (focus (repeat (first | exact Z.FK.nil | (apply Z.FK.keep; exact rfl)))); (focus rfl); (focus rfl); (focus (repeat (first | exact trivial | (refine ⟨(fun o ho => (by first | (cases ho; rfl) | (cases ho; exact Z.inL_map fun _ => rfl) | (cases ho; exact Z.inL_mapr fun _ => rfl) | exact Z.inL_gB ho fun _ => rfl)), ?_⟩)))))
          | ((refine ⟨rfl, ?_, rfl⟩); (focus (repeat (first | exact Z.DK.nil | apply Z.DK.cons))))
          | fail)
        all_goals (try (conv => whnf))
        all_goals try (show Nat.ble _ _ = true; rfl)
        all_goals try (exfalso; rename_i hz; cases hz; done)
        all_goals try (exfalso; (try simp only [LN] at *) <;> omega)
        all_goals first
          | ((refine Z.rndK ((i + 1, o ++ [x], false)) (fun s => [0, 1, 2, 3, 4, 5, s.idIn 4 0]) rfl rfl rfl rfl ?_ ?_ ?_ ?_); (focus (repeat' (first | exact trivial | exact rfl | apply And.intro))); (focus (repeat' (first | exact trivial | (intro b hb; cases hb; rfl) | (intro b hb; cases hb; rw [List.map_append]; rfl) | exact Z.gB_sub' rfl (by first | rfl | (rw [List.map_append]; rfl) | simp only [List.map_append, List.map_cons, List.map_nil]) (ren_map fun _ => rfl) | apply And.intro))); (focus (exact ⟨by (try dsimp only); omega, hs2, by (try dsimp only); (try simp only [List.length_append, List.length_cons, List.length_nil]); omega⟩)); ((try dsimp only); omega))
          | fail
      · have hp : putS s k c (o, true) x = (o ++ [x], true) := by unfold putS; simp [e2, e3]
        have hs2 := hs.trans hp
        repeat' ((conv => whnf); first
          | ((with_reducible apply spB_cong); (focus (simp only [beq_self_eq_true, bne_self_eq_false, Bool.true_bne, Bool.false_bne, Bool.bne_true, Bool.bne_false, Bool.true_beq, Bool.false_beq, Bool.not_true, Bool.not_false, Bool.not_not, Int.reduceBEq, Int.reduceBNe, Int.reduceLE, Int.reduceLT, Int.reduceEq, decide_true, decide_false]; rfl)))
          | with_reducible first | refine spB_no (by decide) ?_
          | (with_reducible refine spB_dec ?_ ?_ <;> intro _ <;> (try (exfalso; first | contradiction | omega | (rename_i hz; refine hz ?_; simp; done) | (rename_i hz; simp at hz; done) | (simp only [LN] at *; omega))))
          | (with_reducible refine spB_bne ?_ ?_ <;> intro _ <;> (try (exfalso; first | contradiction | omega | (rename_i hz; refine hz ?_; simp; done) | (rename_i hz; simp at hz; done) | (simp only [LN] at *; omega))))
          | with_reducible first | refine Z.rowN_known hx ?_
          | ((with_reducible refine posE_pos ?_ ?_); (focus ((try simp only [LN] at *) <;> omega)))
          | ((with_reducible apply ixN_litp); (focus (exact rfl)); (focus ((try simp only [LN] at *) <;> omega)))
          | ((with_reducible refine apdN.mk ?_ ?_ ?_ ?_ ?_ ?_); (focus (first | rfl)); (focus (first | exact one_all (by rfl))); (focus ((try simp only [LN] at *) <;> omega)); (focus ((try simp only [LN] at *) <;> omega)); (focus ((try simp only [LN] at *) <;> omega)))
          | with_reducible refine wr_i64 (by first | omega | (simp only [LN] at *; omega)) ?_
          | with_reducible first | refine Z.callZ_in tabOk 8 Try.f47 _ Try.func47 (by kernel_rfl) rfl rfl rfl ?_
          | ((first | (with_reducible refine Z.conZ_mz ?_ (cc) ?_)); (focus ((repeat' (first | exact trivial | exact rfl | apply And.intro)); done)))
          | ((with_reducible refine eqN_mk2 ?_ ?_); (focus (exact Z.kb_some rfl)))
          | ((with_reducible apply ex_and); exact rfl)
          | with_reducible first | refine Z.drawZ_rule tabOk mixOk ?_ | refine Z.apZ_mk (by kernel_rfl) ?_
          | ((with_reducible refine Z.ConZ.red ?_); (try subst hlb); (apply Z.conZ_all); (focus (repeat (first | exact Z.FK.nil | (apply Z.FK.keep; exact rfl)))); (focus rfl); (focus rfl); (focus (repeat (first | exact trivial | (refine ⟨(fun o ho => (by first | (cases ho; rfl) | (cases ho; exact Z.inL_map fun _ => rfl) | (cases ho; exact Z.inL_mapr fun _ => rfl) | exact Z.inL_gB ho fun _ => rfl)), ?_⟩)))))
          | ((refine ⟨rfl, ?_, rfl⟩); (focus (repeat (first | exact Z.DK.nil | apply Z.DK.cons))))
          | fail)
        all_goals (try (conv => whnf))
        all_goals try (show Nat.ble _ _ = true; rfl)
        all_goals try (exfalso; rename_i hz; cases hz; done)
        all_goals try (exfalso; (try simp only [LN] at *) <;> omega)
        all_goals first
          | ((refine Z.rndK ((i + 1, o ++ [x], true)) (fun s => [0, 1, 2, 3, 4, 5, s.idIn 4 0]) rfl rfl rfl rfl ?_ ?_ ?_ ?_); (focus (repeat' (first | exact trivial | exact rfl | apply And.intro))); (focus (repeat' (first | exact trivial | (intro b hb; cases hb; rfl) | (intro b hb; cases hb; rw [List.map_append]; rfl) | exact Z.gB_sub' rfl (by first | rfl | (rw [List.map_append]; rfl) | simp only [List.map_append, List.map_cons, List.map_nil]) (ren_map fun _ => rfl) | apply And.intro))); (focus (exact ⟨by (try dsimp only); omega, hs2, by (try dsimp only); (try simp only [List.length_append, List.length_cons, List.length_nil]); omega⟩)); ((try dsimp only); omega))
          | fail
    · skip
      have e2 : gtK s k x = false := decide_eq_false (by first | exact h1 | exact kLt_asym h1 | (rw [h1, h2]; exact kLt_irr))
      have e3 : eqK s k x = true := decide_eq_true ⟨h1, h2⟩
      have hC : C = 0 := by rw [h1, h2] at hce; simpa using hce
      subst hC
      cases d
      · have hp : putS s k c (o, false) x = (o, false) := by unfold putS; simp [e2, e3]
        have hs2 := hs.trans hp
        repeat' ((conv => whnf); first
          | with_reducible first | refine spB_t ?_
          | ((with_reducible apply spB_cong); (focus (simp only [beq_self_eq_true, bne_self_eq_false, Bool.true_bne, Bool.false_bne, Bool.bne_true, Bool.bne_false, Bool.true_beq, Bool.false_beq, Bool.not_true, Bool.not_false, Bool.not_not, Int.reduceBEq, Int.reduceBNe, Int.reduceLE, Int.reduceLT, Int.reduceEq, decide_true, decide_false]; rfl)))
          | with_reducible first | refine spB_no (by decide) ?_
          | (with_reducible refine spB_dec ?_ ?_ <;> intro _ <;> (try (exfalso; first | contradiction | omega | (rename_i hz; refine hz ?_; simp; done) | (rename_i hz; simp at hz; done) | (simp only [LN] at *; omega))))
          | with_reducible first | refine Z.rowN_known hx ?_
          | ((with_reducible apply ixN_litp); (focus (exact rfl)); (focus ((try simp only [LN] at *) <;> omega)))
          | with_reducible refine wr_i64 (by first | omega | (simp only [LN] at *; omega)) ?_
          | with_reducible first | refine Z.callZ_in tabOk 8 Try.f47 _ Try.func47 (by kernel_rfl) rfl rfl rfl ?_
          | ((first | (with_reducible refine Z.conZ_mz ?_ (cc) ?_)); (focus ((repeat' (first | exact trivial | exact rfl | apply And.intro)); done)))
          | ((with_reducible apply ex_and); exact rfl)
          | with_reducible first | refine Z.drawZ_rule tabOk mixOk ?_ | refine Z.apZ_mk (by kernel_rfl) ?_
          | ((with_reducible refine Z.ConZ.red ?_); (try subst hlb); (apply Z.conZ_all); (focus (repeat (first | exact Z.FK.nil | (apply Z.FK.keep; exact rfl)))); (focus rfl); (focus rfl); (focus (repeat (first | exact trivial | (refine ⟨(fun o ho => (by first | (cases ho; rfl) | (cases ho; exact Z.inL_map fun _ => rfl) | (cases ho; exact Z.inL_mapr fun _ => rfl) | exact Z.inL_gB ho fun _ => rfl)), ?_⟩)))))
          | ((refine ⟨rfl, ?_, rfl⟩); (focus (repeat (first | exact Z.DK.nil | apply Z.DK.cons))))
          | fail)
        all_goals (try (conv => whnf))
        all_goals try (show Nat.ble _ _ = true; rfl)
        all_goals try (exfalso; rename_i hz; cases hz; done)
        all_goals try (exfalso; (try simp only [LN] at *) <;> omega)
        all_goals first
          | ((refine Z.rndK ((i + 1, o, false)) (fun s => [0, 1, 2, 3, 4, 5, s.idIn 4 0]) rfl rfl rfl rfl ?_ ?_ ?_ ?_); (focus (repeat' (first | exact trivial | exact rfl | apply And.intro))); (focus (repeat' (first | exact trivial | (intro b hb; cases hb; rfl) | exact Z.gB_sub rfl rfl (ren_map fun _ => rfl) | apply And.intro))); (focus (exact ⟨by (try dsimp only); omega, hs2, by (try dsimp only); (try simp only [List.length_append, List.length_cons, List.length_nil]); omega⟩)); ((try dsimp only); omega))
          | fail
      · have hp : putS s k c (o, true) x = (o, true) := by unfold putS; simp [e2, e3]
        have hs2 := hs.trans hp
        repeat' ((conv => whnf); first
          | ((with_reducible apply spB_cong); (focus (simp only [beq_self_eq_true, bne_self_eq_false, Bool.true_bne, Bool.false_bne, Bool.bne_true, Bool.bne_false, Bool.true_beq, Bool.false_beq, Bool.not_true, Bool.not_false, Bool.not_not, Int.reduceBEq, Int.reduceBNe, Int.reduceLE, Int.reduceLT, Int.reduceEq, decide_true, decide_false]; rfl)))
          | with_reducible first | refine spB_no (by decide) ?_
          | (with_reducible refine spB_dec ?_ ?_ <;> intro _ <;> (try (exfalso; first | contradiction | omega | (rename_i hz; refine hz ?_; simp; done) | (rename_i hz; simp at hz; done) | (simp only [LN] at *; omega))))
          | with_reducible first | refine Z.rowN_known hx ?_
          | ((with_reducible apply ixN_litp); (focus (exact rfl)); (focus ((try simp only [LN] at *) <;> omega)))
          | with_reducible refine wr_i64 (by first | omega | (simp only [LN] at *; omega)) ?_
          | with_reducible first | refine Z.callZ_in tabOk 8 Try.f47 _ Try.func47 (by kernel_rfl) rfl rfl rfl ?_
          | ((first | (with_reducible refine Z.conZ_mz ?_ (cc) ?_)); (focus ((repeat' (first | exact trivial | exact rfl | apply And.intro)); done)))
          | ((with_reducible apply ex_and); exact rfl)
          | with_reducible first | refine Z.drawZ_rule tabOk mixOk ?_ | refine Z.apZ_mk (by kernel_rfl) ?_
          | ((with_reducible refine Z.ConZ.red ?_); (try subst hlb); (apply Z.conZ_all); (focus (repeat (first | exact Z.FK.nil | (apply Z.FK.keep; exact rfl)))); (focus rfl); (focus rfl); (focus (repeat (first | exact trivial | (refine ⟨(fun o ho => (by first | (cases ho; rfl) | (cases ho; exact Z.inL_map fun _ => rfl) | (cases ho; exact Z.inL_mapr fun _ => rfl) | exact Z.inL_gB ho fun _ => rfl)), ?_⟩)))))
          | ((refine ⟨rfl, ?_, rfl⟩); (focus (repeat (first | exact Z.DK.nil | apply Z.DK.cons))))
          | fail)
        all_goals (try (conv => whnf))
        all_goals try (show Nat.ble _ _ = true; rfl)
        all_goals try (exfalso; rename_i hz; cases hz; done)
        all_goals try (exfalso; (try simp only [LN] at *) <;> omega)
        all_goals first
          | ((refine Z.rndK ((i + 1, o, true)) (fun s => [0, 1, 2, 3, 4, 5, s.idIn 4 0]) rfl rfl rfl rfl ?_ ?_ ?_ ?_); (focus (repeat' (first | exact trivial | exact rfl | apply And.intro))); (focus (repeat' (first | exact trivial | (intro b hb; cases hb; rfl) | exact Z.gB_sub rfl rfl (ren_map fun _ => rfl) | apply And.intro))); (focus (exact ⟨by (try dsimp only); omega, hs2, by (try dsimp only); (try simp only [List.length_append, List.length_cons, List.length_nil]); omega⟩)); ((try dsimp only); omega))
          | fail
    · skip
      have e2 : gtK s k x = true := decide_eq_true (by first | exact h1 | exact kLt_asym h1 | (rw [h1, h2]; exact kLt_irr))
      have e3 : eqK s k x = false := decide_eq_false fun e => by rw [e.1, e.2] at h1; exact kLt_irr h1
      have hne : ¬ (x.src = s ∧ x.key = k) := fun e => by rw [e.1, e.2] at h1; exact kLt_irr h1
      rw [decide_eq_false (kLt_asym h1)] at hcl
      have hC0 : 0 ≤ C := of_decide_eq_true (by simpa using hcl)
      have hC1 : C ≠ 0 := fun e => by rw [e] at hce; simp at hce; exact hne hce
      have hC : 0 < C := by omega
      cases d
      · have hp : putS s k c (o, false) x = (o ++ [(⟨s, k, c.1, c.2⟩ : Kc)] ++ [x], true) := by unfold putS; simp [e2, e3]
        have hs2 := hs.trans hp
        repeat' ((conv => whnf); first
          | with_reducible first | refine spB_t ?_
          | ((with_reducible apply spB_cong); (focus (simp only [beq_self_eq_true, bne_self_eq_false, Bool.true_bne, Bool.false_bne, Bool.bne_true, Bool.bne_false, Bool.true_beq, Bool.false_beq, Bool.not_true, Bool.not_false, Bool.not_not, Int.reduceBEq, Int.reduceBNe, Int.reduceLE, Int.reduceLT, Int.reduceEq, decide_true, decide_false]; rfl)))
          | (with_reducible refine spB_dec ?_ ?_ <;> intro _ <;> (try (exfalso; first | contradiction | omega | (rename_i hz; refine hz ?_; simp; done) | (rename_i hz; simp at hz; done) | (simp only [LN] at *; omega))))
          | (with_reducible refine spB_bne ?_ ?_ <;> intro _ <;> (try (exfalso; first | contradiction | omega | (rename_i hz; refine hz ?_; simp; done) | (rename_i hz; simp at hz; done) | (simp only [LN] at *; omega))))
          | ((refine ⟨(fun o ho => (by cases ho)), ?_⟩); (refine ⟨(fun o9 ho => (by cases ho; exact inL_snocK (y := ⟨s, k, c.1, c.2⟩) rfl)), ?_⟩); (repeat (first | exact trivial | (refine ⟨(fun o ho => (by first | (cases ho; rfl) | (cases ho; exact Z.inL_map fun _ => rfl) | (cases ho; exact Z.inL_mapr fun _ => rfl) | exact Z.inL_gB ho fun _ => rfl)), ?_⟩))))
          | ((with_reducible refine eqN_mk2 ?_ ?_); (focus (first | exact Z.gB_snoc.symm)))
          | with_reducible first | refine Z.rowN_known hx ?_
          | ((with_reducible refine posE_pos ?_ ?_); (focus ((try simp only [LN] at *) <;> omega)))
          | ((with_reducible apply ixN_litp); (focus (exact rfl)); (focus ((try simp only [LN] at *) <;> omega)))
          | ((with_reducible refine apdN.mk ?_ ?_ ?_ ?_ ?_ ?_); (focus (first | rfl)); (focus (first | exact one_all (by rfl))); (focus ((try simp only [LN] at *) <;> omega)); (focus ((try simp only [LN] at *) <;> omega)); (focus ((try simp only [LN] at *) <;> omega)))
          | with_reducible refine wr_i64 (by first | omega | (simp only [LN] at *; omega)) ?_
          | with_reducible first | refine Z.callZ_in tabOk 8 Try.f47 _ Try.func47 (by kernel_rfl) rfl rfl rfl ?_
          | ((first | (with_reducible refine Z.conZ_mz ?_ (cc) ?_)); (focus ((repeat' (first | exact trivial | exact rfl | apply And.intro)); done)))
          | ((with_reducible refine eqN_mk2 ?_ ?_); (focus (exact Z.kb_some rfl)))
          | ((with_reducible apply ex_and); exact rfl)
          | with_reducible first | refine Z.drawZ_rule tabOk mixOk ?_ | refine Z.apZ_mk (by kernel_rfl) ?_
          | ((with_reducible refine Z.ConZ.red ?_); (try subst hlb); (apply Z.conZ_all); (focus (repeat (first | exact Z.FK.nil | (apply Z.FK.keep; exact rfl)))); (focus rfl); (focus rfl); (focus (repeat (first | exact trivial | (refine ⟨(fun o ho => (by first | (cases ho; rfl) | (cases ho; exact Z.inL_map fun _ => rfl) | (cases ho; exact Z.inL_mapr fun _ => rfl) | exact Z.inL_gB ho fun _ => rfl)), ?_⟩)))))
          | ((refine ⟨rfl, ?_, rfl⟩); (focus (repeat (first | exact Z.DK.nil | apply Z.DK.cons))))
          | fail)
        all_goals (try (conv => whnf))
        all_goals try (show Nat.ble _ _ = true; rfl)
        all_goals try (exfalso; rename_i hz; cases hz; done)
        all_goals try (exfalso; (try simp only [LN] at *) <;> omega)
        all_goals first
          | ((refine Z.rndK ((i + 1, o ++ [(⟨s, k, c.1, c.2⟩ : Kc)] ++ [x], true)) (fun s => [0, 1, 2, 3, 4, 5, s.idIn 4 0]) rfl rfl rfl rfl ?_ ?_ ?_ ?_); (focus (repeat' (first | exact trivial | exact rfl | apply And.intro))); (focus (repeat' (first | exact trivial | (intro b hb; cases hb; rw [List.map_append, List.map_append]; rfl) | exact Z.gB_sub' rfl (by rw [List.map_append, List.map_append]; rfl) (ren_map fun _ => rfl) | (intro b hb; cases hb; rfl) | apply And.intro))); (focus (exact ⟨by (try dsimp only); omega, hs2, by (try dsimp only); (try simp only [List.length_append, List.length_cons, List.length_nil]); omega⟩)); ((try dsimp only); omega))
          | fail
      · have hp : putS s k c (o, true) x = (o ++ [x], true) := by unfold putS; simp [e2, e3]
        have hs2 := hs.trans hp
        repeat' ((conv => whnf); first
          | ((with_reducible apply spB_cong); (focus (simp only [beq_self_eq_true, bne_self_eq_false, Bool.true_bne, Bool.false_bne, Bool.bne_true, Bool.bne_false, Bool.true_beq, Bool.false_beq, Bool.not_true, Bool.not_false, Bool.not_not, Int.reduceBEq, Int.reduceBNe, Int.reduceLE, Int.reduceLT, Int.reduceEq, decide_true, decide_false]; rfl)))
          | with_reducible first | refine spB_no (by decide) ?_
          | (with_reducible refine spB_dec ?_ ?_ <;> intro _ <;> (try (exfalso; first | contradiction | omega | (rename_i hz; refine hz ?_; simp; done) | (rename_i hz; simp at hz; done) | (simp only [LN] at *; omega))))
          | (with_reducible refine spB_bne ?_ ?_ <;> intro _ <;> (try (exfalso; first | contradiction | omega | (rename_i hz; refine hz ?_; simp; done) | (rename_i hz; simp at hz; done) | (simp only [LN] at *; omega))))
          | with_reducible first | refine Z.rowN_known hx ?_
          | ((with_reducible refine posE_pos ?_ ?_); (focus ((try simp only [LN] at *) <;> omega)))
          | ((with_reducible apply ixN_litp); (focus (exact rfl)); (focus ((try simp only [LN] at *) <;> omega)))
          | ((with_reducible refine apdN.mk ?_ ?_ ?_ ?_ ?_ ?_); (focus (first | rfl)); (focus (first | exact one_all (by rfl))); (focus ((try simp only [LN] at *) <;> omega)); (focus ((try simp only [LN] at *) <;> omega)); (focus ((try simp only [LN] at *) <;> omega)))
          | with_reducible refine wr_i64 (by first | omega | (simp only [LN] at *; omega)) ?_
          | with_reducible first | refine Z.callZ_in tabOk 8 Try.f47 _ Try.func47 (by kernel_rfl) rfl rfl rfl ?_
          | ((first | (with_reducible refine Z.conZ_mz ?_ (cc) ?_)); (focus ((repeat' (first | exact trivial | exact rfl | apply And.intro)); done)))
          | ((with_reducible refine eqN_mk2 ?_ ?_); (focus (exact Z.kb_some rfl)))
          | ((with_reducible apply ex_and); exact rfl)
          | with_reducible first | refine Z.drawZ_rule tabOk mixOk ?_ | refine Z.apZ_mk (by kernel_rfl) ?_
          | ((with_reducible refine Z.ConZ.red ?_); (try subst hlb); (apply Z.conZ_all); (focus (repeat (first | exact Z.FK.nil | (apply Z.FK.keep; exact rfl)))); (focus rfl); (focus rfl); (focus (repeat (first | exact trivial | (refine ⟨(fun o ho => (by first | (cases ho; rfl) | (cases ho; exact Z.inL_map fun _ => rfl) | (cases ho; exact Z.inL_mapr fun _ => rfl) | exact Z.inL_gB ho fun _ => rfl)), ?_⟩)))))
          | ((refine ⟨rfl, ?_, rfl⟩); (focus (repeat (first | exact Z.DK.nil | apply Z.DK.cons))))
          | fail)
        all_goals (try (conv => whnf))
        all_goals try (show Nat.ble _ _ = true; rfl)
        all_goals try (exfalso; rename_i hz; cases hz; done)
        all_goals try (exfalso; (try simp only [LN] at *) <;> omega)
        all_goals first
          | ((refine Z.rndK ((i + 1, o ++ [x], true)) (fun s => [0, 1, 2, 3, 4, 5, s.idIn 4 0]) rfl rfl rfl rfl ?_ ?_ ?_ ?_); (focus (repeat' (first | exact trivial | exact rfl | apply And.intro))); (focus (repeat' (first | exact trivial | (intro b hb; cases hb; rfl) | (intro b hb; cases hb; rw [List.map_append]; rfl) | exact Z.gB_sub' rfl (by first | rfl | (rw [List.map_append]; rfl) | simp only [List.map_append, List.map_cons, List.map_nil]) (ren_map fun _ => rfl) | apply And.intro))); (focus (exact ⟨by (try dsimp only); omega, hs2, by (try dsimp only); (try simp only [List.length_append, List.length_cons, List.length_nil]); omega⟩)); ((try dsimp only); omega))
          | fail
  have hil : i = l.length := by omega
  subst hil
  rw [List.take_length] at HF
  have hpd : putD l s k c = o ++ (if d = false then [⟨s, k, c.1, c.2⟩] else []) := by unfold putD; rw [HF]
  rw [hpd]
  cases d
  all_goals simp only [if_true, if_false, Bool.true_eq_false, List.append_nil, reduceCtorEq]
  all_goals (
    repeat' ((conv => whnf); first
      | with_reducible first | refine spB_t ?_
      | ((with_reducible apply spB_cong); (focus (simp only [beq_self_eq_true, bne_self_eq_false, Bool.true_bne, Bool.false_bne, Bool.bne_true, Bool.bne_false, Bool.true_beq, Bool.false_beq, Bool.not_true, Bool.not_false, Bool.not_not, Int.reduceBEq, Int.reduceBNe, Int.reduceLE, Int.reduceLT, Int.reduceEq, decide_true, decide_false]; rfl)))
      | with_reducible first | refine spB_no (by decide) ?_
      | (with_reducible refine spB_dec ?_ ?_ <;> intro _ <;> (try (exfalso; first | contradiction | omega | (rename_i hz; refine hz ?_; simp; done) | (rename_i hz; simp at hz; done) | (simp only [LN] at *; omega))))
      | ((with_reducible refine posE_pos ?_ ?_); (focus ((try simp only [LN] at *) <;> omega)))
      | ((with_reducible refine apdN.mk ?_ ?_ ?_ ?_ ?_ ?_); (focus (first | rfl)); (focus (first | exact one_all (by rfl))); (focus ((try simp only [LN] at *) <;> omega)); (focus ((try simp only [LN] at *) <;> omega)); (focus ((try simp only [LN] at *) <;> omega)))
      | ((with_reducible refine eqN_mk2 ?_ ?_); (focus (exact Z.kb_some rfl)))
      | fail)
    all_goals (try (conv => whnf)))
  all_goals try (show Nat.ble _ _ = true; rfl)
  all_goals try (exfalso; rename_i hz; cases hz; done)
  all_goals try (exfalso; (try simp only [LN] at *) <;> omega)
  all_goals first
    | ((first | (with_reducible apply Z.retF1)); (focus (exact rfl)); (repeat' (first | exact trivial | (with_reducible apply Z.frz_agg) | ((with_reducible apply Z.fq_gsl); (focus (first | exact Z.isB_map _)); (focus (exact fun _ => rfl))) | exact rfl | apply And.intro)); (all_goals (try exact (fun _ => none))); all_goals (first | (simp; done)))
    | (refine Z.retF1 [.agg [.gsl 8 (o.map cK ++ [cK ⟨s, k, c.1, c.2⟩])]] rfl ⟨⟨⟨4, 74, (o ++ [(⟨s, k, c.1, c.2⟩ : Kc)]).map eK, rfl, Z.gB_snoc.symm, ?_⟩, trivial⟩, trivial⟩; rw [show o.map cK ++ [cK ⟨s, k, c.1, c.2⟩] = (o ++ [(⟨s, k, c.1, c.2⟩ : Kc)]).map cK by simp, List.map_map, List.map_map]; rfl)
    | fail
end Go.Proofs.Ytehhmkdghgabaaa
namespace Go.Proofs.Ytehhmkdghgabaaa
open Go Go.RowKit Wx
set_option linter.unusedVariables false
set_option linter.unusedSimpArgs false
set_option maxHeartbeats 4000000
theorem rcheck_con (l : List Kc) (hl : l.length ≤ 9223372036854775807) : Con Try.prog 14 [.agg [.ro false 4 (l.map eK)]] (fun rx rK rt => rx = .val (.bool (tabR l)) ∧ rK = [] ∧ rt = 0) := by
  refine Z.con_ofF tabOk 41 Try.f14 _ Try.func14 (by kernel_rfl) rfl rfl rfl rfl ?_
  repeat' ((conv => whnf); first
    | with_reducible first | refine spB_t ?_
    | fail)
  all_goals (try (conv => whnf))
  all_goals try (show Nat.ble _ _ = true; rfl)
  all_goals try (exfalso; rename_i hz; cases hz; done)
  all_goals try (exfalso; (try simp only [LN] at *) <;> omega)
  refine Z.loopK tabOk (fun zq : Nat => [(8, .val (.int .i64 (zq : Int)))]) (fun zq : Nat => ([(0, some (Z.Ob.b ⟨[[.ro false 4 (l.map eK)]], 1, 30, true⟩))] : Z.Kr)) (fun zq => zq ≤ l.length ∧ tabR l = okT (prevR l zq) (l.drop zq)) (fun zq => l.length - zq) 0 1 [(1, _), (6, _), (7, _)] ⟨rfl, rfl, rfl, trivial⟩ [] trivial ?_ ?_ rfl rfl ⟨Nat.zero_le _, rfl⟩ ?_
  · repeat' (first | exact trivial | apply And.intro | exact ⟨_, rfl, Z.Imp.refl _⟩)
  · repeat' (first | exact trivial | exact (fun b hb => ⟨b, hb, Z.ImpO.refl b⟩) | apply And.intro)
  rintro i HINV
  (try dsimp only at HINV); (try dsimp only)
  obtain ⟨HI, HT⟩ := HINV
  by_cases hi : i < l.length
  · obtain ⟨x, hx⟩ := getElem?_some' (xs := l) (i := i) hi
    rw [okT_at hx] at HT
    have ck := rrec_con x.src x.key 0
    cases hk : keyOk x.src x.key
    · rw [hk] at ck HT
      simp only [Bool.false_and, cond_false] at ck HT
      rw [HT]
      try simp only [cond_false]
      repeat' ((conv => whnf); first
        | with_reducible first | refine spB_t ?_
        | ((with_reducible apply spB_cong); (focus (simp only [beq_self_eq_true, bne_self_eq_false, Bool.true_bne, Bool.false_bne, Bool.bne_true, Bool.bne_false, Bool.true_beq, Bool.false_beq, Bool.not_true, Bool.not_false, Bool.not_not, Int.reduceBEq, Int.reduceBNe, Int.reduceLE, Int.reduceLT, Int.reduceEq, decide_true, decide_false]; rfl)))
        | (with_reducible refine spB_dec ?_ ?_ <;> intro _ <;> (try (exfalso; first | contradiction | omega | (rename_i hz; refine hz ?_; simp; done) | (rename_i hz; simp at hz; done) | (simp only [LN] at *; omega))))
        | with_reducible first | refine Z.rowN_known hx ?_
        | ((with_reducible apply ixN_litp); (focus (exact rfl)); (focus ((try simp only [LN] at *) <;> omega)))
        | with_reducible first | refine Z.callZ_in tabOk 8 Try.f47 _ Try.func47 (by kernel_rfl) rfl rfl rfl ?_
        | ((first | (with_reducible refine Z.conZ_mz ?_ (ck) ?_)); (focus ((repeat' (first | exact trivial | exact rfl | apply And.intro)); done)))
        | ((with_reducible apply ex_and); exact rfl)
        | with_reducible first | refine Z.drawZ_rule tabOk mixOk ?_ | refine Z.apZ_mk (by kernel_rfl) ?_
        | ((with_reducible refine Z.ConZ.red ?_); (try subst hlb); (apply Z.conZ_all); (focus (repeat (first | exact Z.FK.nil | (apply Z.FK.keep; exact rfl)))); (focus rfl); (focus rfl); (focus (repeat (first | exact trivial | (refine ⟨(fun o ho => (by first | (cases ho; rfl) | (cases ho; exact Z.inL_map fun _ => rfl) | (cases ho; exact Z.inL_mapr fun _ => rfl) | exact Z.inL_gB ho fun _ => rfl)), ?_⟩)))))
        | ((refine ⟨rfl, ?_, rfl⟩); (focus (repeat (first | exact Z.DK.nil | apply Z.DK.cons))))
        | fail)
      all_goals (try (conv => whnf))
      all_goals try (show Nat.ble _ _ = true; rfl)
      all_goals try (exfalso; rename_i hz; cases hz; done)
      all_goals try (exfalso; (try simp only [LN] at *) <;> omega)
      all_goals first
        | ((first | (with_reducible apply Z.retF1)); (focus (exact rfl)); (repeat' (first | exact trivial | (with_reducible apply Z.frz_one) | (with_reducible apply Z.fq_bool) | exact rfl | apply And.intro)); (all_goals (try exact (fun _ => none))); all_goals (first | (simp; done)))
        | fail
    rw [hk] at ck HT
    simp only [Bool.true_and, cond_true] at ck HT
    by_cases hc : 0 < x.cnt
    rotate_left
    · rw [decide_eq_false hc, Bool.false_and, Bool.false_and] at HT
      rw [HT]
      try simp only [cond_false]
      repeat' ((conv => whnf); first
        | with_reducible first | refine spB_t ?_
        | ((with_reducible apply spB_cong); (focus (simp only [beq_self_eq_true, bne_self_eq_false, Bool.true_bne, Bool.false_bne, Bool.bne_true, Bool.bne_false, Bool.true_beq, Bool.false_beq, Bool.not_true, Bool.not_false, Bool.not_not, Int.reduceBEq, Int.reduceBNe, Int.reduceLE, Int.reduceLT, Int.reduceEq, decide_true, decide_false]; rfl)))
        | with_reducible first | refine spB_no (by decide) ?_
        | (with_reducible refine spB_dec ?_ ?_ <;> intro _ <;> (try (exfalso; first | contradiction | omega | (rename_i hz; refine hz ?_; simp; done) | (rename_i hz; simp at hz; done) | (simp only [LN] at *; omega))))
        | with_reducible first | refine Z.rowN_known hx ?_
        | ((with_reducible apply ixN_litp); (focus (exact rfl)); (focus ((try simp only [LN] at *) <;> omega)))
        | with_reducible first | refine Z.callZ_in tabOk 8 Try.f47 _ Try.func47 (by kernel_rfl) rfl rfl rfl ?_
        | ((first | (with_reducible refine Z.conZ_mz ?_ (ck) ?_)); (focus ((repeat' (first | exact trivial | exact rfl | apply And.intro)); done)))
        | ((with_reducible apply ex_and); exact rfl)
        | with_reducible first | refine Z.drawZ_rule tabOk mixOk ?_ | refine Z.apZ_mk (by kernel_rfl) ?_
        | ((with_reducible refine Z.ConZ.red ?_); (try subst hlb); (apply Z.conZ_all); (focus (repeat (first | exact Z.FK.nil | (apply Z.FK.keep; exact rfl)))); (focus rfl); (focus rfl); (focus (repeat (first | exact trivial | (refine ⟨(fun o ho => (by first | (cases ho; rfl) | (cases ho; exact Z.inL_map fun _ => rfl) | (cases ho; exact Z.inL_mapr fun _ => rfl) | exact Z.inL_gB ho fun _ => rfl)), ?_⟩)))))
        | ((refine ⟨rfl, ?_, rfl⟩); (focus (repeat (first | exact Z.DK.nil | apply Z.DK.cons))))
        | fail)
      all_goals (try (conv => whnf))
      all_goals try (show Nat.ble _ _ = true; rfl)
      all_goals try (exfalso; rename_i hz; cases hz; done)
      all_goals try (exfalso; (try simp only [LN] at *) <;> omega)
      all_goals first
        | ((first | (with_reducible apply Z.retF1)); (focus (exact rfl)); (repeat' (first | exact trivial | (with_reducible apply Z.frz_one) | (with_reducible apply Z.fq_bool) | exact rfl | apply And.intro)); (all_goals (try exact (fun _ => none))); all_goals (first | (simp; done)))
        | fail
    rw [decide_eq_true hc, Bool.true_and] at HT
    rcases i with _ | j
    · have HT2 : tabR l = okT (prevR l 1) (l.drop 1) := by rw [HT]; rfl
      repeat' ((conv => whnf); first
        | ((with_reducible apply spB_cong); (focus (simp only [beq_self_eq_true, bne_self_eq_false, Bool.true_bne, Bool.false_bne, Bool.bne_true, Bool.bne_false, Bool.true_beq, Bool.false_beq, Bool.not_true, Bool.not_false, Bool.not_not, Int.reduceBEq, Int.reduceBNe, Int.reduceLE, Int.reduceLT, Int.reduceEq, decide_true, decide_false]; rfl)))
        | with_reducible first | refine spB_no (by decide) ?_
        | (with_reducible refine spB_dec ?_ ?_ <;> intro _ <;> (try (exfalso; first | contradiction | omega | (rename_i hz; refine hz ?_; simp; done) | (rename_i hz; simp at hz; done) | (simp only [LN] at *; omega))))
        | with_reducible first | refine Z.rowN_known hx ?_
        | ((with_reducible apply ixN_litp); (focus (exact rfl)); (focus ((try simp only [LN] at *) <;> omega)))
        | with_reducible refine wr_i64 (by first | omega | (simp only [LN] at *; omega)) ?_
        | with_reducible first | refine Z.callZ_in tabOk 8 Try.f47 _ Try.func47 (by kernel_rfl) rfl rfl rfl ?_
        | ((first | (with_reducible refine Z.conZ_mz ?_ (ck) ?_)); (focus ((repeat' (first | exact trivial | exact rfl | apply And.intro)); done)))
        | ((with_reducible apply ex_and); exact rfl)
        | with_reducible first | refine Z.drawZ_rule tabOk mixOk ?_ | refine Z.apZ_mk (by kernel_rfl) ?_
        | ((with_reducible refine Z.ConZ.red ?_); (try subst hlb); (apply Z.conZ_all); (focus (repeat (first | exact Z.FK.nil | (apply Z.FK.keep; exact rfl)))); (focus rfl); (focus rfl); (focus (repeat (first | exact trivial | (refine ⟨(fun o ho => (by first | (cases ho; rfl) | (cases ho; exact Z.inL_map fun _ => rfl) | (cases ho; exact Z.inL_mapr fun _ => rfl) | exact Z.inL_gB ho fun _ => rfl)), ?_⟩)))))
        | ((refine ⟨rfl, ?_, rfl⟩); (focus (repeat (first | exact Z.DK.nil | apply Z.DK.cons))))
        | fail)
      all_goals (try (conv => whnf))
      all_goals try (show Nat.ble _ _ = true; rfl)
      all_goals try (exfalso; rename_i hz; cases hz; done)
      all_goals try (exfalso; (try simp only [LN] at *) <;> omega)
      all_goals first
        | ((refine Z.rndK (1) (fun s => [0]) rfl rfl rfl rfl ?_ ?_ ?_ ?_); (focus (repeat' (first | exact trivial | exact rfl | apply And.intro))); (focus (repeat' (first | exact trivial | (intro b hb; cases hb; rfl) | apply And.intro))); (focus (exact ⟨by (try dsimp only); omega, HT2⟩)); ((try dsimp only); omega))
        | fail
    obtain ⟨q, hq⟩ := getElem?_some' (xs := l) (i := j) (by omega)
    have hpr : prevR l (j + 1) = some q := hq
    rw [hpr] at HT
    simp only at HT
    have cc := rcompare_con q.src q.key 0 x.src x.key 0
    have hcl := @cmp_lt q.src q.key x.src x.key
    generalize cmpR q.src q.key x.src x.key = C at *
    by_cases hlt : kLt q.src q.key x.src x.key
    · rw [decide_eq_true hlt] at HT hcl
      have hC : ¬ 0 ≤ C := of_decide_eq_false (by simpa using hcl)
      rw [Bool.true_and] at HT
      repeat' ((conv => whnf); first
        | with_reducible first | refine spB_t ?_
        | ((with_reducible apply spB_cong); (focus (simp only [beq_self_eq_true, bne_self_eq_false, Bool.true_bne, Bool.false_bne, Bool.bne_true, Bool.bne_false, Bool.true_beq, Bool.false_beq, Bool.not_true, Bool.not_false, Bool.not_not, Int.reduceBEq, Int.reduceBNe, Int.reduceLE, Int.reduceLT, Int.reduceEq, decide_true, decide_false]; rfl)))
        | with_reducible first | refine spB_no (by decide) ?_
        | (with_reducible refine spB_dec ?_ ?_ <;> intro _ <;> (try (exfalso; first | contradiction | omega | (rename_i hz; refine hz ?_; simp; done) | (rename_i hz; simp at hz; done) | (simp only [LN] at *; omega))))
        | with_reducible first | refine Z.rowN_known hx ?_ | refine Z.rowN_known hq ?_
        | ((with_reducible refine ixN_mk (j) ?_ ?_ ?_); (focus (first | ((try simp only [LN] at *) <;> omega))); (focus ((try simp only [LN] at *) <;> omega)))
        | ((with_reducible apply ixN_litp); (focus (exact rfl)); (focus ((try simp only [LN] at *) <;> omega)))
        | with_reducible refine wr_i64 (by first | omega | (simp only [LN] at *; omega)) ?_
        | with_reducible first | refine Z.callZ_in tabOk 8 Try.f47 _ Try.func47 (by kernel_rfl) rfl rfl rfl ?_
        | ((first | (with_reducible refine Z.conZ_mz ?_ (ck) ?_) | (with_reducible refine Z.conZ_mz ?_ (cc) ?_)); (focus ((repeat' (first | exact trivial | exact rfl | apply And.intro)); done)))
        | ((with_reducible apply ex_and); exact rfl)
        | with_reducible first | refine Z.drawZ_rule tabOk mixOk ?_ | refine Z.apZ_mk (by kernel_rfl) ?_
        | ((with_reducible refine Z.ConZ.red ?_); (try subst hlb); (apply Z.conZ_all); (focus (repeat (first | exact Z.FK.nil | (apply Z.FK.keep; exact rfl)))); (focus rfl); (focus rfl); (focus (repeat (first | exact trivial | (refine ⟨(fun o ho => (by first | (cases ho; rfl) | (cases ho; exact Z.inL_map fun _ => rfl) | (cases ho; exact Z.inL_mapr fun _ => rfl) | exact Z.inL_gB ho fun _ => rfl)), ?_⟩)))))
        | ((refine ⟨rfl, ?_, rfl⟩); (focus (repeat (first | exact Z.DK.nil | apply Z.DK.cons))))
        | fail)
      all_goals (try (conv => whnf))
      all_goals try (show Nat.ble _ _ = true; rfl)
      all_goals try (exfalso; rename_i hz; cases hz; done)
      all_goals try (exfalso; (try simp only [LN] at *) <;> omega)
      all_goals first
        | ((refine Z.rndK ((j + 1 + 1)) (fun s => [0]) rfl rfl rfl rfl ?_ ?_ ?_ ?_); (focus (repeat' (first | exact trivial | exact rfl | apply And.intro))); (focus (repeat' (first | exact trivial | (intro b hb; cases hb; rfl) | apply And.intro))); (focus (exact ⟨by (try dsimp only); omega, HT⟩)); ((try dsimp only); omega))
        | fail
    · rw [decide_eq_false hlt] at HT hcl
      have hC : 0 ≤ C := of_decide_eq_true (by simpa using hcl)
      rw [Bool.false_and] at HT
      rw [HT]
      try simp only [cond_false]
      repeat' ((conv => whnf); first
        | with_reducible first | refine spB_t ?_
        | ((with_reducible apply spB_cong); (focus (simp only [beq_self_eq_true, bne_self_eq_false, Bool.true_bne, Bool.false_bne, Bool.bne_true, Bool.bne_false, Bool.true_beq, Bool.false_beq, Bool.not_true, Bool.not_false, Bool.not_not, Int.reduceBEq, Int.reduceBNe, Int.reduceLE, Int.reduceLT, Int.reduceEq, decide_true, decide_false]; rfl)))
        | with_reducible first | refine spB_no (by decide) ?_
        | (with_reducible refine spB_dec ?_ ?_ <;> intro _ <;> (try (exfalso; first | contradiction | omega | (rename_i hz; refine hz ?_; simp; done) | (rename_i hz; simp at hz; done) | (simp only [LN] at *; omega))))
        | with_reducible first | refine Z.rowN_known hx ?_ | refine Z.rowN_known hq ?_
        | ((with_reducible refine ixN_mk (j) ?_ ?_ ?_); (focus (first | ((try simp only [LN] at *) <;> omega))); (focus ((try simp only [LN] at *) <;> omega)))
        | ((with_reducible apply ixN_litp); (focus (exact rfl)); (focus ((try simp only [LN] at *) <;> omega)))
        | with_reducible refine wr_i64 (by first | omega | (simp only [LN] at *; omega)) ?_
        | with_reducible first | refine Z.callZ_in tabOk 8 Try.f47 _ Try.func47 (by kernel_rfl) rfl rfl rfl ?_
        | ((first | (with_reducible refine Z.conZ_mz ?_ (ck) ?_) | (with_reducible refine Z.conZ_mz ?_ (cc) ?_)); (focus ((repeat' (first | exact trivial | exact rfl | apply And.intro)); done)))
        | ((with_reducible apply ex_and); exact rfl)
        | with_reducible first | refine Z.drawZ_rule tabOk mixOk ?_ | refine Z.apZ_mk (by kernel_rfl) ?_
        | ((with_reducible refine Z.ConZ.red ?_); (try subst hlb); (apply Z.conZ_all); (focus (repeat (first | exact Z.FK.nil | (apply Z.FK.keep; exact rfl)))); (focus rfl); (focus rfl); (focus (repeat (first | exact trivial | (refine ⟨(fun o ho => (by first | (cases ho; rfl) | (cases ho; exact Z.inL_map fun _ => rfl) | (cases ho; exact Z.inL_mapr fun _ => rfl) | exact Z.inL_gB ho fun _ => rfl)), ?_⟩)))))
        | ((refine ⟨rfl, ?_, rfl⟩); (focus (repeat (first | exact Z.DK.nil | apply Z.DK.cons))))
        | fail)
      all_goals (try (conv => whnf))
      all_goals try (show Nat.ble _ _ = true; rfl)
      all_goals try (exfalso; rename_i hz; cases hz; done)
      all_goals try (exfalso; (try simp only [LN] at *) <;> omega)
      all_goals first
        | ((first | (with_reducible apply Z.retF1)); (focus (exact rfl)); (repeat' (first | exact trivial | (with_reducible apply Z.frz_one) | (with_reducible apply Z.fq_bool) | exact rfl | apply And.intro)); (all_goals (try exact (fun _ => none))); all_goals (first | (simp; done)))
        | fail
  have hil : i = l.length := by omega
  subst hil
  rw [List.drop_length] at HT
  have HT3 : tabR l = true := by rw [HT]; cases prevR l l.length <;> rfl
  rw [HT3]
  try simp only [cond_true]
  repeat' ((conv => whnf); first
    | (with_reducible refine spB_dec ?_ ?_ <;> intro _ <;> (try (exfalso; first | contradiction | omega | (rename_i hz; refine hz ?_; simp; done) | (rename_i hz; simp at hz; done) | (simp only [LN] at *; omega))))
    | fail)
  all_goals (try (conv => whnf))
  all_goals try (show Nat.ble _ _ = true; rfl)
  all_goals try (exfalso; rename_i hz; cases hz; done)
  all_goals try (exfalso; (try simp only [LN] at *) <;> omega)
  all_goals first
    | ((first | (with_reducible apply Z.retF1)); (focus (exact rfl)); (repeat' (first | exact trivial | (with_reducible apply Z.frz_one) | (with_reducible apply Z.fq_bool) | exact rfl | apply And.intro)); (all_goals (try exact (fun _ => none))); all_goals (first | (simp; done)))
    | fail
end Go.Proofs.Ytehhmkdghgabaaa
namespace Go.Proofs.Ytehhmkdghgabaaa
open Go Go.RowKit Wx
set_option linter.unusedVariables false
set_option linter.unusedSimpArgs false
set_option maxHeartbeats 4000000
end Go.Proofs.Ytehhmkdghgabaaa
namespace Go.Proofs.Ytehhmkdghgabaaa
open Go Go.RowKit Wx
set_option linter.unusedVariables false
set_option linter.unusedSimpArgs false
set_option maxHeartbeats 4000000
theorem kc_eq {x y : Kc} (h : (x.src == y.src && (x.key == y.key && (x.cnt == y.cnt && (x.sum == y.sum && true)))) = true) : x = y := by
  cases x; cases y; simp_all
end Go.Proofs.Ytehhmkdghgabaaa
namespace Go.Proofs.Ytehhmkdghgabaaa
open Go Go.RowKit Wx
set_option linter.unusedVariables false
set_option linter.unusedSimpArgs false
set_option maxHeartbeats 4000000
theorem rsame_con (a b : List Kc) (hla : a.length ≤ 9223372036854775807) : Con Try.prog 20 [.agg [.ro false 4 (a.map eK)], .agg [.ro false 4 (b.map eK)]] (fun rx rK rt => rx = .val (.bool (decide (a = b))) ∧ rK = [] ∧ rt = 0) := by
  refine Z.con_ofF tabOk 31 Try.f20 _ Try.func20 (by kernel_rfl) rfl rfl rfl rfl ?_
  repeat' ((conv => whnf); first
    | (with_reducible refine spB_bne ?_ ?_ <;> intro _ <;> (try (exfalso; first | contradiction | omega | (rename_i hz; refine hz ?_; simp; done) | (rename_i hz; simp at hz; done) | (simp only [LN] at *; omega)))))
  all_goals (try (conv => whnf))
  all_goals try (show Nat.ble _ _ = true; rfl)
  all_goals try (exfalso; rename_i hz; cases hz; done)
  all_goals try (exfalso; (try simp only [LN] at *) <;> omega)
  all_goals try ((first | (with_reducible apply Z.retF1)); (focus (exact rfl)); (repeat' (first | exact trivial | (with_reducible apply Z.frz_one) | (with_reducible apply Z.fq_bool) | apply And.intro)); (all_goals (try exact (fun _ => none))); all_goals (exact bool_f (ne_len (by simp only [LN] at *; omega))))
  refine Z.loopK tabOk (fun zq : Nat => [(16, .val (.int .i64 (zq : Int)))]) (fun zq : Nat => ([(0, some (Z.Ob.b ⟨[[.ro false 4 (a.map eK)]], 1, 30, true⟩)), (1, some (Z.Ob.b ⟨[[.ro false 4 (b.map eK)]], 1, 30, true⟩))] : Z.Kr)) (fun zq => zq ≤ a.length ∧ a.length = b.length ∧ a.take zq = b.take zq) (fun zq => a.length - zq) 0 2 [(2, _), (3, _), (15, _)] ⟨rfl, rfl, rfl, trivial⟩ [] trivial ?_ ?_ rfl rfl ⟨Nat.zero_le _, by simp only [LN] at *; omega, rfl⟩ ?_
  · repeat' (first | exact trivial | apply And.intro | exact ⟨_, rfl, Z.Imp.refl _⟩)
  · repeat' (first | exact trivial | exact (fun b hb => ⟨b, hb, Z.ImpO.refl b⟩) | apply And.intro)
  rintro i HINV
  (try dsimp only at HINV); (try dsimp only)
  obtain ⟨HI, HL, HT⟩ := HINV
  by_cases hi : i < a.length
  · obtain ⟨x, hx⟩ := getElem?_some' (xs := a) (i := i) hi
    obtain ⟨y, hy⟩ := getElem?_some' (xs := b) (i := i) (by omega)
    repeat' ((conv => whnf); first
      | with_reducible first | refine spB_not ?_
      | (with_reducible refine spB_dec ?_ ?_ <;> intro _ <;> (try (exfalso; first | contradiction | omega | (rename_i hz; refine hz ?_; simp; done) | (rename_i hz; simp at hz; done) | (simp only [LN] at *; omega))))
      | (with_reducible refine spB_mk ?_ ?_ <;> intro _ <;> (try (exfalso; first | contradiction | omega | (rename_i hz; refine hz ?_; simp; done) | (rename_i hz; simp at hz; done) | (simp only [LN] at *; omega))))
      | with_reducible first | refine Z.rowN_known hx ?_ | refine Z.rowN_known hy ?_
      | ((with_reducible refine ixN_mk (i) ?_ ?_ ?_); (focus (first | rfl)); (focus ((try simp only [LN] at *) <;> omega)))
      | with_reducible refine wr_i64 (by first | omega | (simp only [LN] at *; omega)) ?_
      | with_reducible first | refine Z.drawZ_rule tabOk mixOk ?_ | refine Z.apZ_mk (by kernel_rfl) ?_)
    all_goals (try (conv => whnf))
    all_goals try (show Nat.ble _ _ = true; rfl)
    all_goals try (exfalso; rename_i hz; cases hz; done)
    all_goals try (exfalso; (try simp only [LN] at *) <;> omega)
    all_goals first
      | ((refine Z.rndK ((i + 1)) (fun s => [0, 1]) rfl rfl rfl rfl ?_ ?_ ?_ ?_); (focus (repeat' (first | exact trivial | exact rfl | apply And.intro))); (focus (repeat' (first | exact trivial | (intro b hb; cases hb; rfl) | apply And.intro))); (focus (exact ⟨by (try dsimp only); omega, HL, eq_step HT hx hy (kc_eq (by assumption))⟩)); ((try dsimp only); omega))
      | ((first | (with_reducible apply Z.retF1)); (focus (exact rfl)); (repeat' (first | exact trivial | (with_reducible apply Z.frz_one) | (with_reducible apply Z.fq_bool) | apply And.intro)); (all_goals (try exact (fun _ => none))); all_goals ((refine bool_f (ne_at hx hy ?_); intro e; subst e; first | contradiction | (simp_all; done))))
  have hil : i = a.length := by omega
  repeat' ((conv => whnf); first
    | (with_reducible refine spB_dec ?_ ?_ <;> intro _ <;> (try (exfalso; first | contradiction | omega | (rename_i hz; refine hz ?_; simp; done) | (rename_i hz; simp at hz; done) | (simp only [LN] at *; omega)))))
  all_goals (try (conv => whnf))
  all_goals try (show Nat.ble _ _ = true; rfl)
  all_goals try (exfalso; rename_i hz; cases hz; done)
  all_goals try (exfalso; (try simp only [LN] at *) <;> omega)
  all_goals first
    | ((first | (with_reducible apply Z.retF1)); (focus (exact rfl)); (repeat' (first | exact trivial | (with_reducible apply Z.frz_one) | (with_reducible apply Z.fq_bool) | apply And.intro)); (all_goals (try exact (fun _ => none))); all_goals (first | exact bool_t (eq_end HL HT (by omega))))
end Go.Proofs.Ytehhmkdghgabaaa
namespace Go.Proofs.Ytehhmkdghgabaaa
open Go Go.RowKit Wx
set_option linter.unusedVariables false
set_option linter.unusedSimpArgs false
set_option maxHeartbeats 4000000
theorem cut_k (l : List Kc) (fl : Bool) : List.map (List.map (RT.ce fl)) (List.take ((l.take 257).length - 0) (List.drop 0 (l.map eK))) = (l.take 257).map cK := by
  have e : List.take ((l.take 257).length) l = l.take 257 := List.take_eq_take_iff.2 (by rw [List.length_take]; omega)
  rw [Nat.sub_zero, List.drop_zero, ← List.map_take, List.map_map, e]
  rfl
theorem one_cutK {l : List Kc} {n m : Nat} {fl : Bool} : ∀ r ∈ List.map (List.map (RT.ce fl)) (List.take n (List.drop m (l.map eK))), ∀ c ∈ r, c.single = true := fun r hr c hc => by
  obtain ⟨t, ht, rfl⟩ := List.mem_map.1 hr
  obtain ⟨z, _, rfl⟩ := List.mem_map.1 (List.mem_of_mem_drop (List.mem_of_mem_take ht))
  simp only [List.map_cons, List.map_nil, List.mem_cons, List.not_mem_nil, or_false] at hc
  rcases hc with rfl | rfl | rfl | rfl <;> rfl
theorem short_con (l : List Kc) (hl : l.length ≤ 9223372036854775807) : Con Try.prog 13 [.agg [.ro false 4 (l.map eK)]] (fun rx rK rt => rx = .pl (.agg [.ro true 4 ((l.take 257).map eK)]) ∧ rK = [] ∧ rt = 0) := by
  refine Z.con_ofF tabOk 13 Try.f13 _ Try.func13 (by kernel_rfl) rfl rfl rfl rfl ?_
  have htl : (l.take 257).length ≤ 257 := by rw [List.length_take]; exact Nat.min_le_left _ _
  have HC := cut_k l
  repeat' ((conv => whnf); first
    | ((with_reducible refine slN_hi ((l.take 257).length) ?_ ?_ ?_); (focus (rw [List.length_take, List.length_map]; omega)); (focus (rw [List.length_take, List.length_map]; omega)))
    | ((with_reducible refine apdE_n ?_); (with_reducible refine apdN.mk ?_ ?_ ?_ ?_ ?_ ?_); (focus (first | (simp; done))); (focus (first | exact one_cutK)); (focus (first | exact Nat.zero_le _)); (iterate 2 (focus ((try simp only [LN] at *) <;> omega)))))
  all_goals (try (conv => whnf))
  all_goals try (show Nat.ble _ _ = true; rfl)
  all_goals try (exfalso; rename_i hz; cases hz; done)
  all_goals try (exfalso; (try simp only [LN] at *) <;> omega)
  all_goals first
    | ((first | (with_reducible apply Z.retF1)); (focus (exact rfl)); (repeat' (first | exact trivial | (refine Z.frz_oslw (l := l.take 257) (f := cK) (ty := 74) (bx := false) rfl ?_ ?_ (fun _ => rfl); (focus (first | (simp; done))); (focus (first | exact (congrArg (List.take _) (HC _)).trans (List.take_of_length_le (by simp))))) | (with_reducible apply Z.frz_agg) | apply And.intro)); (all_goals (try exact (fun _ => none))); all_goals (first | (simp; done)))
end Go.Proofs.Ytehhmkdghgabaaa
namespace Go.Proofs.Ytehhmkdghgabaaa
open Go Go.RowKit Wx
set_option linter.unusedVariables false
set_option linter.unusedSimpArgs false
set_option maxHeartbeats 4000000
theorem low_tlK {K : Nat → Option Blk} {i n : Nat} {c : Option Nat} {bx : Bool} {R : List (List Ce)} {l tl : List Kc} (h : K i = some ⟨R, 4, 74, bx⟩) (hR : R = (l ++ tl).map cK) (hn : n = l.length) : lowC K (.osl i 0 n c) (.ro false 4 (l.map eK)) := by
  subst hR hn
  simp only [lowC, h]
  exact ⟨_, rfl, by simp, by rw [List.drop_zero, List.map_append, List.take_left' (by simp), List.map_map, List.map_map]; rfl⟩
theorem ren_cK {L : List Kc} {r : Nat → Nat} : List.map (List.map (Ce.ren r)) (L.map cK) = L.map cK := ren_map fun _ => rfl
def spK (x : Kc) : Kc := ⟨x.src, x.key, x.cnt, 99⟩
def spR (R : List Kc) (j : Nat) : List Kc := (R.take j).map spK ++ R.drop j
theorem spR_get {R tl : List Kc} {j : Nat} {z : Kc} (h : R[j]? = some z) : ((spR R j ++ tl).map cK)[0 + j]? = some (cK z) := by
  have hl := (List.getElem?_eq_some_iff.1 h).1
  unfold spR
  rw [Nat.zero_add, List.getElem?_map, List.append_assoc, List.getElem?_append_right (by simp; omega), List.getElem?_append_left (by simp; omega), List.getElem?_drop]
  rw [show j + (j - ((R.take j).map spK).length) = j by simp; omega, h]
  rfl
theorem spR_set {R tl : List Kc} {j : Nat} {z : Kc} (h : R[j]? = some z) : ((spR R j ++ tl).map cK).set (0 + j) (cK (spK z)) = (spR R (j + 1) ++ tl).map cK := by
  have hl := (List.getElem?_eq_some_iff.1 h).1
  have e1 : ((R.take j).map spK).length = j := by simp; omega
  unfold spR
  rw [Nat.zero_add, ← List.map_set]
  congr 1
  rw [take_snoc h, drop_cons h, List.map_append, List.append_assoc, List.set_append_right _ _ (by omega), e1, Nat.sub_self]
  simp
theorem copyk_con (l : List Kc) (hl : l.length ≤ 1000) : Con Try.prog 25 [.agg [.ro false 4 (l.map eK)]] (fun rx rK rt => rx = .pl (.agg [.ro true 4 (l.map eK)]) ∧ rK = [] ∧ rt = 0) := by
  refine Z.con_ofF tabOk 8 Try.f25 _ Try.func25 (by kernel_rfl) rfl rfl rfl rfl ?_
  repeat' ((conv => whnf); first
    | ((with_reducible refine apdE_n ?_); (with_reducible refine apdN.mk ?_ ?_ ?_ ?_ ?_ ?_); (focus (first | (simp; done))); (focus (first | exact one_map2 (fun _ => rfl))); (focus (first | exact Nat.zero_le _)); (iterate 2 (focus ((try simp only [LN] at *) <;> omega)))))
  all_goals (try (conv => whnf))
  all_goals try (show Nat.ble _ _ = true; rfl)
  all_goals try (exfalso; rename_i hz; cases hz; done)
  all_goals try (exfalso; (try simp only [LN] at *) <;> omega)
  all_goals first
    | ((first | (with_reducible apply Z.retF1)); (focus (exact rfl)); (repeat' (first | exact trivial | (with_reducible apply Z.frz_agg) | ((with_reducible apply Z.fq_src); (focus (exact rfl)); (focus (first | (simp only [List.length_map, Nat.zero_add]; done))); (focus (exact fun _ => rfl))) | exact rfl | apply And.intro)); (all_goals (try exact (fun _ => none))); all_goals (first | (simp; done)))
end Go.Proofs.Ytehhmkdghgabaaa
namespace Go.Proofs.Ytehhmkdghgabaaa
open Go Go.RowKit Wx
set_option linter.unusedVariables false
set_option linter.unusedSimpArgs false
set_option maxHeartbeats 4000000
theorem part_g (l : List Kc) (a w : Int) (hl : l.length ≤ 1000) (ht : tabR l = true) (hs : okS a w) (hne : partL l a w ≠ []) : Con Try.prog 33 [.agg [.ro false 4 (l.map eK)], .one (.v (.int .i64 a)), .one (.v (.int .i64 w))] (fun rx rK rt => rx = .tup [.agg [.gsl 0 ((partL l a w).map cK)], .one (.v (.int .i64 0))] ∧ rK = [(0, some ⟨(partL l a w).map cK, 4, 74, false⟩)] ∧ rt = 1) := by
  refine Z.con_ofZ tabOk 41 Try.f33 _ Try.func33 (by kernel_rfl) rfl rfl rfl rfl ?_
  have cc := check_con l (by omega)
  rw [ht] at cc
  simp only [cond_true] at cc
  obtain ⟨L, cow⟩ := owned_ok a w hs
  repeat' ((conv => whnf); first
    | ((with_reducible apply spB_cong); (focus (simp only [beq_self_eq_true, bne_self_eq_false, Bool.true_bne, Bool.false_bne, Bool.bne_true, Bool.bne_false, Bool.true_beq, Bool.false_beq, Bool.not_true, Bool.not_false, Bool.not_not, Int.reduceBEq, Int.reduceBNe, Int.reduceLE, Int.reduceLT, Int.reduceEq, decide_true, decide_false]; rfl)))
    | with_reducible first | refine spB_no (by decide) ?_
    | with_reducible first | refine Z.callZ_in tabOk 26 Try.f104 _ Try.func104 (by kernel_rfl) rfl rfl rfl ?_ | refine Z.callZ_in tabOk 8 Try.f69 _ Try.func69 (by kernel_rfl) rfl rfl rfl ?_
    | ((first | (with_reducible refine Z.callZ_mk ?_ (cc) ?_) | (with_reducible refine Z.callZ_mk ?_ (cow) ?_)); (focus ((repeat' (first | exact trivial | exact rfl | apply And.intro)); done)))
    | ((with_reducible apply ex_and); exact rfl)
    | ((with_reducible refine Z.RangeZ.red ?_); (refine Z.range_rule [(6, _), (11, _), (32, _)] rfl ⟨rfl, rfl, rfl, trivial⟩ rfl rfl ?_); intro lb hlb)
    | fail)
  all_goals (try (conv => whnf))
  all_goals try (show Nat.ble _ _ = true; rfl)
  all_goals try (exfalso; rename_i hz; cases hz; done)
  all_goals try (exfalso; (try simp only [LN] at *) <;> omega)
  refine Z.loopK tabOk (fun zq : Nat × List Kc => [(10, .val (.int .i64 (zq.1 : Int)))]) (fun zq : Nat × List Kc => ([(2, some (Z.Ob.b ⟨[[.gsl 7 (zq.2.map cK)]], 1, 30, true⟩)), (7, (gB 4 74 (zq.2.map cK)).map Z.Ob.b)] : Z.Kr)) (fun zq => zq.1 ≤ l.length ∧ zq.2 = partL (l.take zq.1) a w) (fun zq => l.length - zq.1) (0, []) 8 [(0, _), (2, _), (3, _), (8, _), (9, _)] ⟨rfl, rfl, rfl, rfl, rfl, trivial⟩ [(0, some _), (1, some _), (3, some _), (4, some _), (5, some _), (6, some _)] ⟨rfl, rfl, rfl, rfl, rfl, rfl, trivial⟩ ?_ ?_ rfl rfl ⟨Nat.zero_le _, by simp [partL]⟩ ?_
  · repeat' (first | exact trivial | apply And.intro | exact ⟨_, rfl, Z.Imp.refl _⟩)
  · repeat' (first | exact trivial | (intro b hb; cases hb; done) | (intro b hb; cases hb; refine ⟨_, rfl, ⟨rfl, rfl, rfl⟩, ?_⟩; (repeat' (first | exact trivial | apply And.intro | exact Z.Imp.nilg _)); done) | apply And.intro)
  rintro ⟨i, acc⟩ HINV
  (try dsimp only at HINV); (try dsimp only)
  obtain ⟨HI, HA⟩ := HINV
  have hpl := @part_len (l.take i) a w
  rw [List.length_take, ← HA] at hpl
  by_cases hi2 : i < l.length
  · obtain ⟨x, hx⟩ := getElem?_some' (xs := l) (i := i) hi2
    have hpa := part_at (i := a) (w := w) hx
    rw [← HA] at hpa
    have cm := mine_con x.src x.key 0 a w
    cases hm : mineB x.src x.key a w
    all_goals rw [hm] at cm hpa
    all_goals simp only [cond_true, cond_false, List.append_nil] at hpa
    · skip
      repeat' ((conv => whnf); first
        | with_reducible first | refine spB_no (by decide) ?_
        | (with_reducible refine spB_dec ?_ ?_ <;> intro _ <;> (try (exfalso; first | contradiction | omega | (rename_i hz; refine hz ?_; simp; done) | (rename_i hz; simp at hz; done) | (simp only [LN] at *; omega))))
        | with_reducible first | refine Z.rowN_known hx ?_
        | ((with_reducible apply ixN_litp); (focus (exact rfl)); (focus ((try simp only [LN] at *) <;> omega)))
        | with_reducible refine wr_i64 (by first | omega | (simp only [LN] at *; omega)) ?_
        | with_reducible first | refine Z.callZ_in tabOk 8 Try.f49 _ Try.func49 (by kernel_rfl) rfl rfl rfl ?_
        | ((first | (with_reducible refine Z.conZ_mz ?_ (cm) ?_)); (focus ((repeat' (first | exact trivial | exact rfl | apply And.intro)); done)))
        | ((with_reducible apply ex_and); exact rfl)
        | with_reducible first | refine Z.drawZ_rule tabOk mixOk ?_ | refine Z.apZ_mk (by kernel_rfl) ?_
        | ((with_reducible refine Z.ConZ.red ?_); (try subst hlb); (apply Z.conZ_all); (focus (repeat (first | exact Z.FK.nil | (apply Z.FK.keep; exact rfl)))); (focus rfl); (focus rfl); (focus (repeat (first | exact trivial | (refine ⟨(fun o ho => (by first | (cases ho; rfl) | (cases ho; exact Z.inL_map fun _ => rfl) | (cases ho; exact Z.inL_mapr fun _ => rfl) | exact Z.inL_gB ho fun _ => rfl)), ?_⟩)))))
        | ((refine ⟨rfl, ?_, rfl⟩); (focus (repeat (first | exact Z.DK.nil | apply Z.DK.cons))))
        | fail)
      all_goals (try (conv => whnf))
      all_goals try (show Nat.ble _ _ = true; rfl)
      all_goals try (exfalso; rename_i hz; cases hz; done)
      all_goals try (exfalso; (try simp only [LN] at *) <;> omega)
      all_goals first
        | ((refine Z.rndK ((i + 1, acc)) (fun s => [0, 1, 2, 3, 4, 5, 6, s.idIn 2 0]) rfl rfl rfl rfl ?_ ?_ ?_ ?_); (focus (repeat' (first | exact trivial | exact rfl | apply And.intro))); (focus (repeat' (first | exact trivial | (intro b hb; cases hb; rfl) | exact Z.gB_sub rfl rfl (ren_map fun _ => rfl) | apply And.intro))); (focus (exact ⟨by (try dsimp only); omega, hpa.symm⟩)); ((try dsimp only); omega))
        | fail
    · skip
      repeat' ((conv => whnf); first
        | with_reducible first | refine spB_t ?_
        | ((with_reducible apply spB_cong); (focus (simp only [beq_self_eq_true, bne_self_eq_false, Bool.true_bne, Bool.false_bne, Bool.bne_true, Bool.bne_false, Bool.true_beq, Bool.false_beq, Bool.not_true, Bool.not_false, Bool.not_not, Int.reduceBEq, Int.reduceBNe, Int.reduceLE, Int.reduceLT, Int.reduceEq, decide_true, decide_false]; rfl)))
        | with_reducible first | refine spB_no (by decide) ?_
        | (with_reducible refine spB_dec ?_ ?_ <;> intro _ <;> (try (exfalso; first | contradiction | omega | (rename_i hz; refine hz ?_; simp; done) | (rename_i hz; simp at hz; done) | (simp only [LN] at *; omega))))
        | with_reducible first | refine Z.rowN_known hx ?_
        | ((with_reducible refine posE_pos ?_ ?_); (focus ((try simp only [LN] at *) <;> omega)))
        | ((with_reducible apply ixN_litp); (focus (exact rfl)); (focus ((try simp only [LN] at *) <;> omega)))
        | ((with_reducible refine apdN.mk ?_ ?_ ?_ ?_ ?_ ?_); (focus (first | rfl)); (focus (first | exact one_all (by rfl))); (focus ((try simp only [LN] at *) <;> omega)); (focus ((try simp only [LN] at *) <;> omega)); (focus ((try simp only [LN] at *) <;> omega)))
        | with_reducible refine wr_i64 (by first | omega | (simp only [LN] at *; omega)) ?_
        | with_reducible first | refine Z.callZ_in tabOk 8 Try.f49 _ Try.func49 (by kernel_rfl) rfl rfl rfl ?_
        | ((first | (with_reducible refine Z.conZ_mz ?_ (cm) ?_)); (focus ((repeat' (first | exact trivial | exact rfl | apply And.intro)); done)))
        | ((with_reducible refine eqN_mk2 ?_ ?_); (focus (exact Z.kb_some rfl)))
        | ((with_reducible apply ex_and); exact rfl)
        | ((with_reducible refine Z.CallZ.yl ?_); refine Z.yield_rule tabOk _ _ rfl rfl rfl rfl ?_)
        | with_reducible first | refine Z.drawZ_rule tabOk mixOk ?_ | refine Z.apZ_mk (by kernel_rfl) ?_
        | ((with_reducible refine Z.ConZ.red ?_); (try subst hlb); (apply Z.conZ_all); (focus (repeat (first | exact Z.FK.nil | (apply Z.FK.keep; exact rfl)))); (focus rfl); (focus rfl); (focus (repeat (first | exact trivial | (refine ⟨(fun o ho => (by first | (cases ho; rfl) | (cases ho; exact Z.inL_map fun _ => rfl) | (cases ho; exact Z.inL_mapr fun _ => rfl) | exact Z.inL_gB ho fun _ => rfl)), ?_⟩)))))
        | ((refine ⟨rfl, ?_, rfl⟩); (focus (repeat (first | exact Z.DK.nil | apply Z.DK.cons))))
        | fail)
      all_goals (try (conv => whnf))
      all_goals try (show Nat.ble _ _ = true; rfl)
      all_goals try (exfalso; rename_i hz; cases hz; done)
      all_goals try (exfalso; (try simp only [LN] at *) <;> omega)
      all_goals first
        | ((refine Z.rndK ((i + 1, acc ++ [x])) (fun s => [0, 1, 2, 3, 4, 5, 6, s.idIn 2 0]) rfl rfl rfl rfl ?_ ?_ ?_ ?_); (focus (repeat' (first | exact trivial | exact rfl | apply And.intro))); (focus (repeat' (first | exact trivial | (intro b hb; cases hb; rfl) | (intro b hb; cases hb; rw [List.map_append (f := cK)]; rfl) | exact Z.gB_sub' rfl (by first | rfl | (rw [List.map_append]; rfl) | simp only [List.map_append, List.map_cons, List.map_nil]) (ren_map fun _ => rfl) | apply And.intro))); (focus (exact ⟨by (try dsimp only); omega, hpa.symm⟩)); ((try dsimp only); omega))
        | fail
  have hil : i = l.length := by omega
  subst hil
  rw [List.take_length] at HA
  subst HA
  have hg : gB 4 74 ((partL l a w).map cK) = some ⟨(partL l a w).map cK, 4, 74, false⟩ := gB_ne (by simpa using hne)
  rw [hg]
  repeat' ((conv => whnf); first
    | (with_reducible refine spB_dec ?_ ?_ <;> intro _ <;> (try (exfalso; first | contradiction | omega | (rename_i hz; refine hz ?_; simp; done) | (rename_i hz; simp at hz; done) | (simp only [LN] at *; omega))))
    | ((with_reducible apply ex_and); exact rfl)
    | ((with_reducible refine Z.rngN.mk ?_); (try subst hlb))
    | fail)
  all_goals (try (conv => whnf))
  all_goals try (show Nat.ble _ _ = true; rfl)
  all_goals try (exfalso; rename_i hz; cases hz; done)
  all_goals try (exfalso; (try simp only [LN] at *) <;> omega)
  all_goals first
    | (refine ret1b 7 (.tup [.agg [.gsl 0 ((partL l a w).map cK)], .one (.v (.int .i64 0))]) ((partL l a w).map cK) 4 74 false _ rfl rfl rfl rfl (ren_map fun _ => rfl) rfl (own_map fun _ => rfl) ⟨rfl, rfl, rfl⟩)
    | fail
theorem part_own (l : List Kc) (a w : Int) (hl : l.length ≤ 1000) (ht : tabR l = true) (hs : okS a w) (hne : partL l a w ≠ []) : Con Try.prog 33 [.agg [.ro false 4 (l.map eK)], .one (.v (.int .i64 a)), .one (.v (.int .i64 w))] (ownP (partL l a w) 0) := own_gsl (List.length_pos_iff.2 hne) (part_g l a w hl ht hs hne)
end Go.Proofs.Ytehhmkdghgabaaa
namespace Go.Proofs.Ytehhmkdghgabaaa
open Go Go.RowKit Wx
set_option linter.unusedVariables false
set_option linter.unusedSimpArgs false
set_option maxHeartbeats 4000000
theorem sort_rule {m i n top : Nat} {c : Option Nat} {R : List (List Ce)} {bx : Bool} {K : Z.Kr} {k : AV → Z.Kr → Nat → Prop} (zs : List Kc) (hb : Z.kz K i = some (Z.Ob.b ⟨R, 4, 74, bx⟩)) (hr : R = zs.map cK) (hn : n = zs.length) (hl : zs.length ≤ 4000)
    (hkk : ∀ zs' : List Kc, zs'.Perm zs → zs'.Pairwise (fun x y => ltOf cfK y x = false) → k (.tup []) ((i, some (Z.Ob.b ⟨zs'.map cK, 4, 74, bx⟩)) :: K) top) : Z.CallZ Try.prog m (.fn 73 []) [.c (.osl i 0 n c), .c (.fn 74 [])] K top k := by
  refine Z.callZ_sortK (enc := ev) (kk := 4) (b := ⟨R, 4, 74, bx⟩) (by kernel_rfl) cK (ltOf cfK) zs [] (fun _ => rfl) (fun _ => rfl) hb rfl (by rw [hr, List.append_nil]) hn ?_ ?_
  · intro blk cap w hH hblk
    exact AnyQ.slices_SortFunc (ρ := Try.sortK_ren) Try.sortK 4 (fun _ => by kernel_rfl) (fun _ => by kernel_rfl) ev (fun _ => rfl) (fun x v hv => by
      simp only [List.mem_cons, List.not_mem_nil, or_false] at hv
      rcases hv with rfl | rfl | rfl | rfl <;> rfl) cfK cfK_swo 74 #[] blk 0 cap zs.toArray w (Go.Proofs.enters_of Try.func74 (by kernel_rfl) rfl) (Z.con_cmp fun x y => cmpk_con x y) hH hblk (by simp; omega)
  · intro zs' h1 h2
    rw [List.append_nil]
    exact hkk zs' h1 h2
end Go.Proofs.Ytehhmkdghgabaaa
namespace Go.Proofs.Ytehhmkdghgabaaa
open Go Go.RowKit Wx
set_option linter.unusedVariables false
set_option linter.unusedSimpArgs false
set_option maxHeartbeats 4000000
theorem concat_own (a b : List Kc) (ha : a.length ≤ 1000) (hb : b.length ≤ 1000) (h0 : 0 < a.length + b.length) : Con Try.prog 72 [.one (.ro false 1 [[RT.ro 4 (a.map eK)], [RT.ro 4 (b.map eK)]])] (fun rx rK rt => rx = .c (.osl 0 0 (a ++ b).length none) ∧ rK = [(0, some ⟨(a ++ b).map cK, 4, 74, false⟩)] ∧ rt = 1) := by
  refine Z.con_ofZ tabOk 36 Try.f72 _ Try.func72 (by kernel_rfl) rfl rfl rfl rfl ?_
  have hA : List.take (0 + (a.map eK).length) ((a.map eK).map (List.map (RT.ce false))) ++ (b.map eK).map (List.map (RT.ce false)) = (a ++ b).map cK := by rw [Nat.zero_add, List.take_of_length_le (by simp), List.map_append, List.map_map, List.map_map]; rfl
  repeat' ((conv => whnf); first
    | (with_reducible refine spB_dec ?_ ?_ <;> intro _ <;> (try (exfalso; first | contradiction | omega | (simp only [LN] at *; omega))))
    | with_reducible first | refine Z.loopZ_unroll tabOk 3 ?_
    | ((with_reducible refine slN_hi 0 ?_ ?_ ?_); (focus rfl); (focus (exact Nat.zero_le _)))
    | ((with_reducible refine apz0N_mk (a.length + b.length) ?_ ?_ ?_ ?_ ?_); (iterate 4 (focus ((try simp only [LN] at *) <;> omega))))
    | ((with_reducible apply rowN_mk); (focus rfl))
    | ((with_reducible apply ixN_lit); (focus (exact rfl)); (focus (exact rfl)))
    | with_reducible first | refine apdE_n ?_
    | ((with_reducible refine apdN.mk ?_ ?_ ?_ ?_ ?_ ?_); (focus (first | (simp; done))); (focus (first | exact one_map2 (fun _ => rfl))); (focus ((try simp only [LN] at *) <;> omega)); (focus ((try simp only [LN] at *) <;> omega)); (focus ((try simp only [LN] at *) <;> omega)))
    | with_reducible refine wr_i64 (by first | omega | (simp only [LN] at *; omega)) ?_
    | with_reducible first | refine Z.callZ_in tabOk 27 Try.f107 _ Try.func107 (by kernel_rfl) rfl rfl rfl ?_
    | ((with_reducible apply ex_and); exact rfl)
    | fail)
  all_goals (try (conv => whnf))
  all_goals try (show Nat.ble _ _ = true; rfl)
  all_goals try (exfalso; rename_i hz; cases hz; done)
  all_goals try (exfalso; (try simp only [LN] at *) <;> omega)
  all_goals (refine ret1b 2 (.c (.osl 0 0 (a ++ b).length none)) ((a ++ b).map cK) 4 74 false _ rfl ?_ (by rfl) ?_ (ren_map fun _ => rfl) rfl (own_map fun _ => rfl) ⟨rfl, rfl, rfl⟩)
  · exact congrArg (fun n => AV.c (Ce.osl 2 0 n none)) (by simp)
  · first | exact hA | (simp [List.take_of_length_le, Function.comp_def]; done) 
end Go.Proofs.Ytehhmkdghgabaaa
namespace Go.Proofs.Ytehhmkdghgabaaa
open Go Go.RowKit Wx
set_option linter.unusedVariables false
set_option linter.unusedSimpArgs false
set_option maxHeartbeats 4000000
theorem con_quiet {P : Program} {g : FuncId} {u v : Value} (hfn : fnB P g = true) (h : ∀ w, Calls P g #[u] w fun e w' => e = .returned v ∧ w' = w) : Con P g [.one (.v u)] (fun rx rK rt => rx = .val v ∧ rK = [] ∧ rt = 0) := by
  refine ⟨hfn, fun w vs hvs => ?_⟩
  cases vs with
  | nil => exact hvs.elim
  | cons x vs => cases vs with
    | cons _ _ => exact hvs.2.elim
    | nil =>
      have hx : x = u := hvs.1
      subst hx
      refine Calls.mono (h w) ?_
      rintro e w' ⟨rfl, rfl⟩
      exact ⟨v, .val v, [], 0, fun _ => none, fun _ _ => none, rfl, ⟨fun i b h => by simp [kg] at h, fun i j bi bj p q h => by simp [kg] at h, fun i b p h => by simp [kg] at h, (fun _ _ _ _ hu => nomatch hu), fun i b p f o h => by simp [kg] at h, (fun _ _ _ hu => nomatch hu), (fun _ _ _ hu => nomatch hu), .refl _, (fun _ _ _ _ hu => nomatch hu), fun _ h => h.elim⟩, fun _ _ => rfl, (fun p hp => nomatch hp), rfl, rfl, rfl, rfl⟩
theorem len0_con : Con Try.prog 109 [.one (.v (.int .u64 0))] (fun rx rK rt => rx = .val (.int .i64 0) ∧ rK = [] ∧ rt = 0) := con_quiet (by kernel_rfl) fun w => Any.bits_Len (SlLaysF0.n15.bits (P := Try.prog) (ρ := Try.sortK_ren) { Try.sortK with }) 0 w (by decide) (by decide)
theorem pdq0_con : Con Try.prog 108 [.one (.v (.slice none 0 0)), .one (.v (.int .i64 0)), .one (.v (.int .i64 0)), .one (.v (.int .i64 0)), .one (.fn 74 [])] (fun rx rK rt => rx = .tup [] ∧ rK = [] ∧ rt = 0) := Y.con_eval ftabOk tabOk mixOk 60 12 (by kernel_rfl) (by rfl) (by kernel_rfl)
theorem sortnil_con   : Con Try.prog 73 [.one (.v (.slice none 0 0)), .one (.fn 74 [])] (fun rx rK rt => rx = .tup [] ∧ rK = [] ∧ rt = 0) := by
  refine Z.con_ofF tabOk 14 Try.f73 _ Try.func73 (by kernel_rfl) rfl rfl rfl rfl ?_
  repeat' ((conv => whnf); first
    | with_reducible refine wr_u64 (by omega) ?_
    | ((first | (with_reducible refine Z.callZ_mk ?_ (pdq0_con) ?_) | (with_reducible refine Z.callZ_mk ?_ (len0_con) ?_)); (focus ((repeat' (first | exact trivial | exact rfl | exact .inl rfl | apply And.intro)); done)))
    | fail)
  all_goals (try (conv => whnf))
  all_goals try (show Nat.ble _ _ = true; rfl)
  all_goals first
    | ((first | (with_reducible apply Z.retF0)); (focus (exact rfl)); (repeat' (first | exact trivial)); (all_goals (try exact (fun _ => none))); all_goals (first | (simp; done)))
    | fail
theorem concat_nil   : Con Try.prog 72 [.one (.ro false 1 [[RT.ro 4 (([] : List Kc).map eK)], [RT.ro 4 (([] : List Kc).map eK)]])] (fun rx rK rt => rx = .val (.slice none 0 0) ∧ rK = [] ∧ rt = 0) := by
  refine Z.con_ofZ tabOk 36 Try.f72 _ Try.func72 (by kernel_rfl) rfl rfl rfl rfl ?_
  repeat' ((conv => whnf); first
    | with_reducible first | refine spB_yes (by decide) ?_ | refine spB_no (by decide) ?_
    | with_reducible first | refine Z.loopZ_unroll tabOk 3 ?_
    | ((with_reducible refine posE_nil ?_ ?_); (focus rfl))
    | ((with_reducible apply rowN_mk); (focus rfl))
    | ((with_reducible apply ixN_lit); (focus (exact rfl)); (focus (exact rfl)))
    | with_reducible refine wr_i64 (by first | omega | (simp only [LN] at *; omega)) ?_
    | with_reducible first | refine Z.callZ_in tabOk 27 Try.f107 _ Try.func107 (by kernel_rfl) rfl rfl rfl ?_
    | ((with_reducible apply ex_and); exact rfl)
    | fail)
  all_goals (try (conv => whnf))
  all_goals try (show Nat.ble _ _ = true; rfl)
  all_goals try (exfalso; rename_i hz; cases hz; done)
  all_goals try (exfalso; (try simp only [LN] at *) <;> omega)
  all_goals first
  | (refine ret1 [.one (.v (.slice none 0 0))] rfl [] (.val (.slice none 0 0)) [] rfl trivial List.nodup_nil rfl ?_ (fun p hp => nomatch hp) ⟨rfl, rfl, rfl⟩; intro p b hp; cases hp; done)
  | (fail)
end Go.Proofs.Ytehhmkdghgabaaa
namespace Go.Proofs.Ytehhmkdghgabaaa
open Go Go.RowKit Wx
set_option linter.unusedVariables false
set_option linter.unusedSimpArgs false
set_option maxHeartbeats 4000000
theorem join_bad (a b : List Kc) (h : tabR a = false ∨ tabR b = false) (hla : a.length ≤ 1000) (hlb : b.length ≤ 1000) : Con Try.prog 35 [.agg [.ro false 4 (a.map eK)], .agg [.ro false 4 (b.map eK)]] (fun rx rK rt => rx = .tup [.agg [.ro true 4 (([] : List Kc).map eK)], .one (.v (.int .i64 220))] ∧ rK = [] ∧ rt = 0) := by
  refine Z.con_ofF tabOk 32 Try.f35 _ Try.func35 (by kernel_rfl) rfl rfl rfl rfl ?_
  have ca := check_con a (by omega)
  have cb := check_con b (by omega)
  cases ha : tabR a
  all_goals rw [ha] at ca
  all_goals simp only [cond_true, cond_false] at ca
  rotate_left
  · have hb : tabR b = false := by rcases h with h | h; (rw [ha] at h; cases h); exact h
    rw [hb] at cb
    simp only [cond_false] at cb
    repeat' ((conv => whnf); first
      | with_reducible first | refine spB_t ?_
      | ((with_reducible apply spB_cong); (focus (simp only [beq_self_eq_true, bne_self_eq_false, Bool.true_bne, Bool.false_bne, Bool.bne_true, Bool.bne_false, Bool.true_beq, Bool.false_beq, Bool.not_true, Bool.not_false, Bool.not_not, Int.reduceBEq, Int.reduceBNe, Int.reduceLE, Int.reduceLT, Int.reduceEq, decide_true, decide_false]; rfl)))
      | with_reducible first | refine spB_no (by decide) ?_
      | ((first | (with_reducible refine Z.callZ_mk ?_ (ca) ?_)); (focus ((repeat' (first | exact trivial | exact rfl | apply And.intro)); done)))
      | ((first | (with_reducible refine Z.callZ_mk ?_ (cb) ?_)); (focus ((repeat' (first | exact trivial | exact rfl | apply And.intro)); done)))
      | fail)
    all_goals (try (conv => whnf))
    all_goals try (show Nat.ble _ _ = true; rfl)
    all_goals try (exfalso; rename_i hz; cases hz; done)
    all_goals try (exfalso; (try simp only [LN] at *) <;> omega)
    all_goals first
      | ((first | (with_reducible apply Z.retF2)); (focus (exact rfl)); (repeat' (first | exact trivial | (with_reducible apply Z.frz_one) | (with_reducible apply Z.frz_agg) | (with_reducible apply Z.fq_int) | (exact Z.frz_nil) | exact rfl | apply And.intro)); (all_goals (try exact (fun _ => none))); all_goals (first | (simp; done)))
      | fail
  repeat' ((conv => whnf); first
    | with_reducible first | refine spB_t ?_
    | ((with_reducible apply spB_cong); (focus (simp only [beq_self_eq_true, bne_self_eq_false, Bool.true_bne, Bool.false_bne, Bool.bne_true, Bool.bne_false, Bool.true_beq, Bool.false_beq, Bool.not_true, Bool.not_false, Bool.not_not, Int.reduceBEq, Int.reduceBNe, Int.reduceLE, Int.reduceLT, Int.reduceEq, decide_true, decide_false]; rfl)))
    | ((first | (with_reducible refine Z.callZ_mk ?_ (ca) ?_)); (focus ((repeat' (first | exact trivial | exact rfl | apply And.intro)); done)))
    | fail)
  all_goals (try (conv => whnf))
  all_goals try (show Nat.ble _ _ = true; rfl)
  all_goals try (exfalso; rename_i hz; cases hz; done)
  all_goals try (exfalso; (try simp only [LN] at *) <;> omega)
  all_goals first
    | ((first | (with_reducible apply Z.retF2)); (focus (exact rfl)); (repeat' (first | exact trivial | (with_reducible apply Z.frz_one) | (with_reducible apply Z.frz_agg) | (with_reducible apply Z.fq_int) | (exact Z.frz_nil) | exact rfl | apply And.intro)); (all_goals (try exact (fun _ => none))); all_goals (first | (simp; done)))
    | fail
theorem join_nil   : Con Try.prog 35 [.agg [.ro false 4 (([] : List Kc).map eK)], .agg [.ro false 4 (([] : List Kc).map eK)]] (fun rx rK rt => rx = .tup [.agg [.ro true 4 (([] : List Kc).map eK)], .one (.v (.int .i64 0))] ∧ rK = [] ∧ rt = 0) := by
  refine Z.con_ofF tabOk 32 Try.f35 _ Try.func35 (by kernel_rfl) rfl rfl rfl rfl ?_
  have ca := check_con [] (by simp)
  have cat := concat_nil
  rw [show tabR [] = true from rfl] at ca
  simp only [cond_true] at ca
  repeat' ((conv => whnf); first
    | ((with_reducible apply spB_cong); (focus (simp only [beq_self_eq_true, bne_self_eq_false, Bool.true_bne, Bool.false_bne, Bool.bne_true, Bool.bne_false, Bool.true_beq, Bool.false_beq, Bool.not_true, Bool.not_false, Bool.not_not, Int.reduceBEq, Int.reduceBNe, Int.reduceLE, Int.reduceLT, Int.reduceEq, decide_true, decide_false]; rfl)))
    | with_reducible first | refine spB_no (by decide) ?_
    | ((first | (with_reducible refine Z.callZ_mk ?_ (ca) ?_) | (with_reducible refine Z.callZ_mk ?_ (cat) ?_) | (with_reducible refine Z.callZ_mk ?_ (sortnil_con) ?_)); (focus ((repeat' (first | exact trivial | exact ⟨_, rfl, rfl, rfl⟩ | exact rfl | exact Z.low_nil | exact .inl rfl | apply And.intro)); done)))
    | fail)
  all_goals (try (conv => whnf))
  all_goals try (show Nat.ble _ _ = true; rfl)
  all_goals try (exfalso; rename_i hz; cases hz; done)
  all_goals try (exfalso; (try simp only [LN] at *) <;> omega)
  all_goals first
    | ((first | (with_reducible apply Z.retF2)); (focus (exact rfl)); (repeat' (first | exact trivial | (with_reducible apply Z.frz_one) | (with_reducible apply Z.frz_agg) | (with_reducible apply Z.fq_int) | (exact Z.frz_nil) | exact rfl | apply And.intro)); (all_goals (try exact (fun _ => none))); all_goals (first | (simp; done)))
    | fail
end Go.Proofs.Ytehhmkdghgabaaa
namespace Go.Proofs.Ytehhmkdghgabaaa
open Go Go.RowKit Wx
set_option linter.unusedVariables false
set_option linter.unusedSimpArgs false
set_option maxHeartbeats 4000000
theorem join_both (a b : List Kc) (ha : tabR a = true) (hb : tabR b = true) (h0 : 0 < a.length + b.length) (hc : comm a b = true) : Con Try.prog 35 [.agg [.ro false 4 (a.map eK)], .agg [.ro false 4 (b.map eK)]] (fun rx rK rt => rx = .tup [.agg [.ro true 4 (([] : List Kc).map eK)], .one (.v (.int .i64 5))] ∧ rK = [] ∧ rt = 0) := by
  refine Z.con_ofF tabOk 32 Try.f35 _ Try.func35 (by kernel_rfl) rfl rfl rfl rfl ?_
  have hla := tab_len ha
  have hlb := tab_len hb
  have ca := check_con a (by omega)
  have cb := check_con b (by omega)
  rw [ha] at ca
  rw [hb] at cb
  simp only [cond_true] at ca cb
  have cat := concat_own a b (by omega) (by omega) h0
  repeat' ((conv => whnf); first
    | ((with_reducible first | ((refine spB_t ?_); trace "<<G1A0>>")); trace "<<L17>>")
    | ((((with_reducible apply spB_cong); (focus (simp only [beq_self_eq_true, bne_self_eq_false, Bool.true_bne, Bool.false_bne, Bool.bne_true, Bool.bne_false, Bool.true_beq, Bool.false_beq, Bool.not_true, Bool.not_false, Bool.not_not, Int.reduceBEq, Int.reduceBNe, Int.reduceLE, Int.reduceLT, Int.reduceEq, decide_true, decide_false]; rfl)))); trace "<<L18>>")
    | ((with_reducible first | ((refine spB_no (by decide) ?_); trace "<<G2A1>>")); trace "<<L19>>")
    | ((((refine sort_rule (a ++ b) rfl ?_ ?_ ?_ ?_); (focus (first | ((exact ren_map fun _ => rfl); trace "<<G3A1>>"))); (focus (first | ((rfl); trace "<<G4A0>>"))); (focus ((try simp only [LN] at *) <;> omega)); (intro zs hzp hzs; have hzl : zs.length = (a ++ b).length := hzp.length_eq; obtain ⟨hj, hj2⟩ := sort_join ha hb hzp hzs; rw [hc] at hj; have cz := check_con zs (by rw [hzp.length_eq, List.length_append]; omega); rw [hj] at cz; simp only [Bool.not_true, Bool.not_false, cond_true, cond_false] at cz))); trace "<<L24>>")
    | ((((first | (((with_reducible refine Z.callZ_mk ?_ (cat) ?_)); trace "<<G7A1>>")); (focus ((repeat' (first | ((exact trivial); trace "<<G8A0>>") | ((exact ⟨_, rfl, rfl, rfl⟩); trace "<<G8A1>>") | ((apply And.intro); trace "<<G8A12>>"))); done)))); trace "<<L38>>")
    | ((((first | (((with_reducible refine Z.callZ_mk ?_ (ca) ?_)); trace "<<G10A1>>")); (focus ((repeat' (first | ((exact trivial); trace "<<G11A0>>") | ((exact rfl); trace "<<G11A3>>") | ((apply And.intro); trace "<<G11A12>>"))); done)))); trace "<<L39>>")
    | ((((first | (((with_reducible refine Z.callZ_mk ?_ (cb) ?_)); trace "<<G13A1>>")); (focus ((repeat' (first | ((exact trivial); trace "<<G14A0>>") | ((exact rfl); trace "<<G14A3>>") | ((apply And.intro); trace "<<G14A12>>"))); done)))); trace "<<L40>>")
    | ((((first | (((with_reducible refine Z.callZ_mk ?_ (cz) ?_)); trace "<<G16A1>>")); (focus ((repeat' (first | ((exact trivial); trace "<<G17A0>>") | (((refine Z.low_osln ?_ (fun _ => rfl); (first | ((exact hzl.symm); trace "<<G18A1>>")))); trace "<<G17A2>>") | ((apply And.intro); trace "<<G17A12>>"))); done)))); trace "<<L41>>")
    | fail)
  all_goals (try (conv => whnf))
  all_goals try (show Nat.ble _ _ = true; rfl)
  all_goals try (exfalso; rename_i hz; cases hz; done)
  all_goals try (exfalso; (try simp only [LN] at *) <;> omega)
  all_goals first
    | ((((first | (((with_reducible apply Z.retF2)); trace "<<G23A1>>")); (focus (exact rfl)); (repeat' (first | ((exact trivial); trace "<<G24A0>>") | (((with_reducible apply Z.frz_one)); trace "<<G24A1>>") | (((with_reducible apply Z.frz_agg)); trace "<<G24A2>>") | (((with_reducible apply Z.fq_int)); trace "<<G24A3>>") | (((exact Z.frz_nil)); trace "<<G24A5>>") | ((exact rfl); trace "<<G24A12>>") | ((apply And.intro); trace "<<G24A18>>"))); (all_goals (try exact (fun _ => none))); all_goals (first | (((simp; done)); trace "<<G30A1>>")))); trace "<<L53>>")
    | fail
end Go.Proofs.Ytehhmkdghgabaaa
namespace Go.Proofs.Ytehhmkdghgabaaa
open Go Go.RowKit Wx
set_option linter.unusedVariables false
set_option linter.unusedSimpArgs false
set_option maxHeartbeats 4000000
theorem join_ok (a b : List Kc) (ha : tabR a = true) (hb : tabR b = true) (h0 : 0 < a.length + b.length) (hc : comm a b = false) : Con Try.prog 35 [.agg [.ro false 4 (a.map eK)], .agg [.ro false 4 (b.map eK)]] (fun rx rK rt => rx = .tup [.agg [.ro true 4 ((mrg a b : List Kc).map eK)], .one (.v (.int .i64 0))] ∧ rK = [] ∧ rt = 0) := by
  refine Z.con_ofF tabOk 32 Try.f35 _ Try.func35 (by kernel_rfl) rfl rfl rfl rfl ?_
  have hla := tab_len ha
  have hlb := tab_len hb
  have ca := check_con a (by omega)
  have cb := check_con b (by omega)
  rw [ha] at ca
  rw [hb] at cb
  simp only [cond_true] at ca cb
  have cat := concat_own a b (by omega) (by omega) h0
  repeat' ((conv => whnf); first
    | ((with_reducible apply spB_cong); (focus (simp only [beq_self_eq_true, bne_self_eq_false, Bool.true_bne, Bool.false_bne, Bool.bne_true, Bool.bne_false, Bool.true_beq, Bool.false_beq, Bool.not_true, Bool.not_false, Bool.not_not, Int.reduceBEq, Int.reduceBNe, Int.reduceLE, Int.reduceLT, Int.reduceEq, decide_true, decide_false]; rfl)))
    | with_reducible first | refine spB_no (by decide) ?_
    | ((refine sort_rule (a ++ b) rfl ?_ ?_ ?_ ?_); (focus (first | exact ren_map fun _ => rfl)); (focus (first | rfl)); (focus ((try simp only [LN] at *) <;> omega)); (intro zs hzp hzs; have hzl : zs.length = (a ++ b).length := hzp.length_eq; obtain ⟨hj, hj2⟩ := sort_join ha hb hzp hzs; rw [hc] at hj; obtain rfl := hj2 hc; have cz := check_con (mrg a b) (by rw [hzp.length_eq, List.length_append]; omega); rw [hj] at cz; simp only [Bool.not_true, Bool.not_false, cond_true, cond_false] at cz))
    | ((first | (with_reducible refine Z.callZ_mk ?_ (cat) ?_)); (focus ((repeat' (first | exact trivial | exact ⟨_, rfl, rfl, rfl⟩ | apply And.intro)); done)))
    | ((first | (with_reducible refine Z.callZ_mk ?_ (ca) ?_)); (focus ((repeat' (first | exact trivial | exact rfl | apply And.intro)); done)))
    | ((first | (with_reducible refine Z.callZ_mk ?_ (cb) ?_)); (focus ((repeat' (first | exact trivial | exact rfl | apply And.intro)); done)))
    | ((first | (with_reducible refine Z.callZ_mk ?_ (cz) ?_)); (focus ((repeat' (first | exact trivial | (refine Z.low_osln ?_ (fun _ => rfl); (first | exact hzl.symm)) | apply And.intro)); done)))
    | fail)
  all_goals (try (conv => whnf))
  all_goals try (show Nat.ble _ _ = true; rfl)
  all_goals try (exfalso; rename_i hz; cases hz; done)
  all_goals try (exfalso; (try simp only [LN] at *) <;> omega)
  all_goals first
    | ((first | (with_reducible apply Z.retF2)); (focus (exact rfl)); (repeat' (first | exact trivial | (refine Z.frz_oslw (l := mrg a b) (f := cK) (ty := 74) (bx := false) rfl ?_ ?_ (fun _ => rfl); (focus (first | exact hzl.symm)); (focus (first | exact List.take_of_length_le (by rw [List.length_map]; exact Nat.le_of_eq hzl)))) | (with_reducible apply Z.frz_one) | (with_reducible apply Z.frz_agg) | (with_reducible apply Z.fq_int) | exact rfl | apply And.intro)); (all_goals (try exact (fun _ => none))); all_goals (first | (simp; done)))
    | fail
end Go.Proofs.Ytehhmkdghgabaaa
namespace Go.Proofs.Ytehhmkdghgabaaa
open Go Go.RowKit Wx
set_option linter.unusedVariables false
set_option linter.unusedSimpArgs false
set_option maxHeartbeats 4000000
theorem join_own (a b : List Kc) (ha : tabR a = true) (hb : tabR b = true) (h0 : 0 < a.length + b.length) (hc : comm a b = false) : Con Try.prog 35 [.agg [.ro false 4 (a.map eK)], .agg [.ro false 4 (b.map eK)]] (ownP (mrg a b) 0) := by
  refine Z.con_ofZ tabOk 32 Try.f35 _ Try.func35 (by kernel_rfl) rfl rfl rfl rfl ?_
  have hla := tab_len ha
  have hlb := tab_len hb
  have ca := check_con a (by omega)
  have cb := check_con b (by omega)
  rw [ha] at ca
  rw [hb] at cb
  simp only [cond_true] at ca cb
  have cat := concat_own a b (by omega) (by omega) h0
  repeat' ((conv => whnf); first
    | ((with_reducible apply spB_cong); (focus (simp only [beq_self_eq_true, bne_self_eq_false, Bool.true_bne, Bool.false_bne, Bool.bne_true, Bool.bne_false, Bool.true_beq, Bool.false_beq, Bool.not_true, Bool.not_false, Bool.not_not, Int.reduceBEq, Int.reduceBNe, Int.reduceLE, Int.reduceLT, Int.reduceEq, decide_true, decide_false]; rfl)))
    | with_reducible first | refine spB_no (by decide) ?_
    | ((refine sort_rule (a ++ b) rfl ?_ ?_ ?_ ?_); (focus (first | exact ren_map fun _ => rfl)); (focus (first | rfl)); (focus ((try simp only [LN] at *) <;> omega)); (intro zs hzp hzs; have hzl : zs.length = (a ++ b).length := hzp.length_eq; obtain ⟨hj, hj2⟩ := sort_join ha hb hzp hzs; rw [hc] at hj; obtain rfl := hj2 hc; have cz := check_con (mrg a b) (by rw [hzp.length_eq, List.length_append]; omega); rw [hj] at cz; simp only [Bool.not_true, Bool.not_false, cond_true, cond_false] at cz))
    | ((first | (with_reducible refine Z.callZ_mk ?_ (cat) ?_)); (focus ((repeat' (first | exact trivial | exact ⟨_, rfl, rfl, rfl⟩ | apply And.intro)); done)))
    | ((first | (with_reducible refine Z.callZ_mk ?_ (ca) ?_)); (focus ((repeat' (first | exact trivial | exact rfl | apply And.intro)); done)))
    | ((first | (with_reducible refine Z.callZ_mk ?_ (cb) ?_)); (focus ((repeat' (first | exact trivial | exact rfl | apply And.intro)); done)))
    | ((first | (with_reducible refine Z.callZ_mk ?_ (cz) ?_)); (focus ((repeat' (first | exact trivial | (refine Z.low_osln ?_ (fun _ => rfl); (first | exact hzl.symm)) | apply And.intro)); done)))
    | fail)
  all_goals (try (conv => whnf))
  all_goals try (show Nat.ble _ _ = true; rfl)
  all_goals try (exfalso; rename_i hz; cases hz; done)
  all_goals try (exfalso; (try simp only [LN] at *) <;> omega)
  all_goals first
    | (refine ret1b 4 (.tup [.agg [.osl 0 0 ((mrg a b)).length none], .one (.v (.int .i64 0))]) ((((mrg a b)) ++ []).map cK) 4 74 false _ rfl ?_ rfl ?_ (ren_map fun _ => rfl) rfl (own_map fun _ => rfl) ⟨none, [], rfl, rfl, rfl⟩; (focus (exact congrArg (fun n : Nat => (AV.tup [A0.agg [Ce.osl 4 0 n none], A0.one (Ce.v (.int .i64 0))])) (by first | rfl | (simp; done) | (simp; omega) | (rw [List.length_eraseIdx, if_pos hpl]; (try simp only [LN] at *) <;> omega) | omega))); (first | exact (by rw [List.append_nil])))
    | fail
end Go.Proofs.Ytehhmkdghgabaaa
namespace Go.Proofs.Ytehhmkdghgabaaa
open Go Go.RowKit Wx
set_option linter.unusedVariables false
set_option linter.unusedSimpArgs false
set_option maxHeartbeats 4000000
theorem mrg_at {a b : List Kc} {i : Nat} {x : Kc} (h : b[i]? = some x) : mrg a (b.take (i + 1)) = putR (mrg a (b.take i)) x.src x.key (x.cnt, x.sum) := by
  unfold mrg
  rw [take_snoc h, List.foldl_append]
  rfl
theorem comm_yes {a b : List Kc} {x : Kc} (h : x ∈ b) (hg : getR a x.src x.key ≠ (0, 0)) : comm a b = true := List.any_eq_true.2 ⟨x, h, decide_eq_true hg⟩
theorem comm_nil {a b : List Kc} (h : ∀ x ∈ b, getR a x.src x.key = (0, 0)) : comm a b = false := List.any_eq_false.2 fun x hx hd => of_decide_eq_true hd (h x hx)
theorem mrg_len {a b : List Kc} (ha : tabR a = true) (hb : tabR b = true) (i : Nat) : (mrg a (b.take i)).length ≤ 256 ∧ tabR (mrg a (b.take i)) = true := by
  have h := mrg_tab (b := b.take i) ha fun x hx => (tab_iff.1 hb).1 x (List.mem_of_mem_take hx)
  exact ⟨tab_len h, h⟩
theorem join_len {a b : List Kc} : (joinT a b).1.length ≤ 256 := by
  unfold joinT
  split
  · simp
  · rename_i h
    split
    · simp
    · have h1 : tabR a = true := by cases hz : tabR a with
        | true => rfl
        | false => exact absurd (.inl hz) h
      have h2 : tabR b = true := by cases hz : tabR b with
        | true => rfl
        | false => exact absurd (.inr hz) h
      have := (mrg_len h1 h2 b.length).1
      rwa [List.take_length] at this
theorem join_err {a b : List Kc} (h : (joinT a b).2 ≠ 0) : (joinT a b).1 = [] := by
  unfold joinT at *
  split
  · rfl
  · split
    · rfl
    · rename_i h1 h2; rw [if_neg h1, if_neg h2] at h; exact absurd rfl h
theorem partT_len {l : List Kc} {a w : Int} (hl : l.length ≤ 1000) : (partT l a w).1.length ≤ 1000 := by
  unfold partT
  split
  · simp
  · split
    · exact Nat.le_trans part_len hl
    · simp
theorem partT_err {l : List Kc} {a w : Int} (h : (partT l a w).2 ≠ 0) : (partT l a w).1 = [] := by
  unfold partT at *
  split
  · rfl
  · split
    · rename_i h1 h2; rw [if_neg h1, if_pos h2] at h; exact absurd rfl h
    · rfl
theorem tpart_con (l : List Kc) (a w : Int) (hl : l.length ≤ 1000) : Con Try.prog 33 [.agg [.ro false 4 (l.map eK)], .one (.v (.int .i64 a)), .one (.v (.int .i64 w))] (fun rx rK rt => rx = .tup [.agg [.ro true 4 ((partT l a w).1.map eK)], .one (.v (.int .i64 (partT l a w).2))] ∧ rK = [] ∧ rt = 0) := by
  unfold partT
  cases ht : tabR l
  · rw [if_pos rfl]; exact part_tab l a w hl ht
  · rw [if_neg (by decide)]
    by_cases hs : okS a w
    · rw [if_pos hs]; exact part_ok l a w hl ht hs
    · rw [if_neg hs]; exact part_sh l a w hl ht hs
theorem tpart_own (l : List Kc) (a w : Int) (hl : l.length ≤ 1000) (h0 : (partT l a w).2 = 0) (hne : (partT l a w).1 ≠ []) : Con Try.prog 33 [.agg [.ro false 4 (l.map eK)], .one (.v (.int .i64 a)), .one (.v (.int .i64 w))] (ownP (partT l a w).1 0) := by
  unfold partT at *
  cases ht : tabR l
  · rw [ht, if_pos rfl] at h0; exact absurd h0 (by decide)
  · rw [ht, if_neg (by decide)] at h0 hne
    rw [if_neg (by decide)]
    by_cases hs : okS a w
    · rw [if_pos hs] at hne ⊢; exact part_own l a w hl ht hs hne
    · rw [if_neg hs] at h0; exact absurd h0 (by decide)
theorem tjoin_con (a b : List Kc) (hla : a.length ≤ 1000) (hlb : b.length ≤ 1000) : Con Try.prog 35 [.agg [.ro false 4 (a.map eK)], .agg [.ro false 4 (b.map eK)]] (fun rx rK rt => rx = .tup [.agg [.ro true 4 ((joinT a b).1.map eK)], .one (.v (.int .i64 (joinT a b).2))] ∧ rK = [] ∧ rt = 0) := by
  unfold joinT
  by_cases h : tabR a = false ∨ tabR b = false
  · rw [if_pos h]; exact join_bad a b h hla hlb
  · rw [if_neg h]
    have ha : tabR a = true := by cases hz : tabR a with
      | true => rfl
      | false => exact absurd (.inl hz) h
    have hb : tabR b = true := by cases hz : tabR b with
      | true => rfl
      | false => exact absurd (.inr hz) h
    by_cases h0 : 0 < a.length + b.length
    · cases hc : comm a b
      · rw [if_neg (by decide)]; exact join_ok a b ha hb h0 hc
      · rw [if_pos rfl]; exact join_both a b ha hb h0 hc
    · have e1 : a = [] := List.length_eq_zero_iff.1 (by omega)
      have e2 : b = [] := List.length_eq_zero_iff.1 (by omega)
      subst e1 e2
      exact join_nil
theorem tjoin_own (a b : List Kc) (hla : a.length ≤ 1000) (hlb : b.length ≤ 1000) (h2 : (joinT a b).2 = 0) (hne : (joinT a b).1 ≠ []) : Con Try.prog 35 [.agg [.ro false 4 (a.map eK)], .agg [.ro false 4 (b.map eK)]] (ownP (joinT a b).1 0) := by
  unfold joinT at *
  by_cases h : tabR a = false ∨ tabR b = false
  · rw [if_pos h] at h2; exact absurd h2 (by decide)
  · rw [if_neg h] at h2 hne ⊢
    have ha : tabR a = true := by cases hz : tabR a with
      | true => rfl
      | false => exact absurd (.inl hz) h
    have hb : tabR b = true := by cases hz : tabR b with
      | true => rfl
      | false => exact absurd (.inr hz) h
    by_cases h0 : 0 < a.length + b.length
    · cases hc : comm a b
      · rw [if_neg (by decide)]; exact join_own a b ha hb h0 hc
      · rw [hc, if_pos rfl] at h2; exact absurd h2 (by decide)
    · have e1 : a = [] := List.length_eq_zero_iff.1 (by omega)
      have e2 : b = [] := List.length_eq_zero_iff.1 (by omega)
      subst e1 e2
      exact absurd rfl hne
end Go.Proofs.Ytehhmkdghgabaaa
namespace Go.Proofs.Ytehhmkdghgabaaa
open Go Go.RowKit Wx
set_option linter.unusedVariables false
set_option linter.unusedSimpArgs false
set_option maxHeartbeats 4000000
theorem rpart_con (l : List Kc) (a w : Int) (hl : l.length ≤ 1000) : Con Try.prog 34 [.agg [.ro false 4 (l.map eK)], .one (.v (.int .i64 a)), .one (.v (.int .i64 w))] (fun rx rK rt => rx = .tup [.agg [.ro true 4 ((partT l a w).1.map eK)], .one (.v (.int .i64 (partT l a w).2))] ∧ rK = [] ∧ rt = 0) := by
  refine Z.con_ofF tabOk 42 Try.f34 _ Try.func34 (by kernel_rfl) rfl rfl rfl rfl ?_
  have cc := rcheck_con l (by omega)
  have csh := rshare_con a w
  unfold partT
  cases ht : tabR l
  all_goals rw [ht] at cc
  · simp only [if_true]
    repeat' ((conv => whnf); first
      | with_reducible first | refine spB_t ?_
      | ((with_reducible apply spB_cong); (focus (simp only [beq_self_eq_true, bne_self_eq_false, Bool.true_bne, Bool.false_bne, Bool.bne_true, Bool.bne_false, Bool.true_beq, Bool.false_beq, Bool.not_true, Bool.not_false, Bool.not_not, Int.reduceBEq, Int.reduceBNe, Int.reduceLE, Int.reduceLT, Int.reduceEq, decide_true, decide_false]; rfl)))
      | ((first | (with_reducible refine Z.callZ_mk ?_ (cc) ?_)); (focus ((repeat' (first | exact trivial | exact rfl | apply And.intro)); done)))
      | fail)
    all_goals (try (conv => whnf))
    all_goals try (show Nat.ble _ _ = true; rfl)
    all_goals try (exfalso; rename_i hz; cases hz; done)
    all_goals try (exfalso; (try simp only [LN] at *) <;> omega)
    all_goals first
      | ((first | (with_reducible apply Z.retF2)); (focus (exact rfl)); (repeat' (first | exact trivial | (with_reducible apply Z.frz_one) | (with_reducible apply Z.frz_agg) | (with_reducible apply Z.fq_int) | (exact Z.frz_nil) | exact rfl | apply And.intro)); (all_goals (try exact (fun _ => none))); all_goals (first | (simp; done)))
      | fail
  simp only [Bool.true_eq_false, if_false]
  by_cases hs : okS a w
  rotate_left
  · rw [decide_eq_false hs] at csh
    rw [if_neg hs]
    repeat' ((conv => whnf); first
      | with_reducible first | refine spB_t ?_
      | ((with_reducible apply spB_cong); (focus (simp only [beq_self_eq_true, bne_self_eq_false, Bool.true_bne, Bool.false_bne, Bool.bne_true, Bool.bne_false, Bool.true_beq, Bool.false_beq, Bool.not_true, Bool.not_false, Bool.not_not, Int.reduceBEq, Int.reduceBNe, Int.reduceLE, Int.reduceLT, Int.reduceEq, decide_true, decide_false]; rfl)))
      | with_reducible first | refine spB_no (by decide) ?_
      | ((first | (with_reducible refine Z.callZ_mk ?_ (cc) ?_) | (with_reducible refine Z.callZ_mk ?_ (csh) ?_)); (focus ((repeat' (first | exact trivial | exact rfl | apply And.intro)); done)))
      | fail)
    all_goals (try (conv => whnf))
    all_goals try (show Nat.ble _ _ = true; rfl)
    all_goals try (exfalso; rename_i hz; cases hz; done)
    all_goals try (exfalso; (try simp only [LN] at *) <;> omega)
    all_goals first
      | ((first | (with_reducible apply Z.retF2)); (focus (exact rfl)); (repeat' (first | exact trivial | (with_reducible apply Z.frz_one) | (with_reducible apply Z.frz_agg) | (with_reducible apply Z.fq_int) | (exact Z.frz_nil) | exact rfl | apply And.intro)); (all_goals (try exact (fun _ => none))); all_goals (first | (simp; done)))
      | fail
  rw [decide_eq_true hs] at csh
  rw [if_pos hs]
  repeat' ((conv => whnf); first
    | ((with_reducible apply spB_cong); (focus (simp only [beq_self_eq_true, bne_self_eq_false, Bool.true_bne, Bool.false_bne, Bool.bne_true, Bool.bne_false, Bool.true_beq, Bool.false_beq, Bool.not_true, Bool.not_false, Bool.not_not, Int.reduceBEq, Int.reduceBNe, Int.reduceLE, Int.reduceLT, Int.reduceEq, decide_true, decide_false]; rfl)))
    | with_reducible first | refine spB_no (by decide) ?_
    | ((first | (with_reducible refine Z.callZ_mk ?_ (cc) ?_) | (with_reducible refine Z.callZ_mk ?_ (csh) ?_)); (focus ((repeat' (first | exact trivial | exact rfl | apply And.intro)); done)))
    | fail)
  all_goals (try (conv => whnf))
  all_goals try (show Nat.ble _ _ = true; rfl)
  all_goals try (exfalso; rename_i hz; cases hz; done)
  all_goals try (exfalso; (try simp only [LN] at *) <;> omega)
  refine Z.loopK tabOk (fun zq : Nat × List Kc => [(25, .val (.int .i64 (zq.1 : Int)))]) (fun zq : Nat × List Kc => ([(2, some (Z.Ob.b ⟨[[.gsl 3 (zq.2.map cK)]], 1, 30, true⟩)), (3, (gB 4 74 (zq.2.map cK)).map Z.Ob.b)] : Z.Kr)) (fun zq => zq.1 ≤ l.length ∧ zq.2 = partL (l.take zq.1) a w) (fun zq => l.length - zq.1) (0, []) 4 [(1, _), (2, _), (6, _), (8, _), (23, _), (24, _)] ⟨rfl, rfl, rfl, rfl, rfl, rfl, trivial⟩ [(0, some _), (1, some _)] ⟨rfl, rfl, trivial⟩ ?_ ?_ rfl rfl ⟨Nat.zero_le _, by simp [partL]⟩ ?_
  · repeat' (first | exact trivial | apply And.intro | exact ⟨_, rfl, Z.Imp.refl _⟩)
  · repeat' (first | exact trivial | (intro b hb; cases hb; done) | (intro b hb; cases hb; refine ⟨_, rfl, ⟨rfl, rfl, rfl⟩, ?_⟩; (repeat' (first | exact trivial | apply And.intro | exact Z.Imp.nilg _)); done) | apply And.intro)
  rintro ⟨i, acc⟩ HINV
  (try dsimp only at HINV); (try dsimp only)
  obtain ⟨HI, HA⟩ := HINV
  have hpl := @part_len (l.take i) a w
  rw [List.length_take, ← HA] at hpl
  by_cases hi2 : i < l.length
  · obtain ⟨x, hx⟩ := getElem?_some' (xs := l) (i := i) hi2
    have hpa := part_at (i := a) (w := w) hx
    rw [← HA] at hpa
    have cm := rmine_con x.src x.key 0 a w
    cases hm : mineB x.src x.key a w
    all_goals rw [hm] at cm hpa
    all_goals simp only [cond_true, cond_false, List.append_nil] at hpa
    · skip
      repeat' ((conv => whnf); first
        | with_reducible first | refine spB_no (by decide) ?_
        | (with_reducible refine spB_dec ?_ ?_ <;> intro _ <;> (try (exfalso; first | contradiction | omega | (rename_i hz; refine hz ?_; simp; done) | (rename_i hz; simp at hz; done) | (simp only [LN] at *; omega))))
        | with_reducible first | refine Z.rowN_known hx ?_
        | ((with_reducible apply ixN_litp); (focus (exact rfl)); (focus ((try simp only [LN] at *) <;> omega)))
        | with_reducible refine wr_i64 (by first | omega | (simp only [LN] at *; omega)) ?_
        | with_reducible first | refine Z.callZ_in tabOk 8 Try.f47 _ Try.func47 (by kernel_rfl) rfl rfl rfl ?_
        | ((first | (with_reducible refine Z.callZ_mk ?_ (cm) ?_)); (focus ((repeat' (first | exact trivial | exact rfl | apply And.intro)); done)))
        | ((with_reducible apply ex_and); exact rfl)
        | fail)
      all_goals (try (conv => whnf))
      all_goals try (show Nat.ble _ _ = true; rfl)
      all_goals try (exfalso; rename_i hz; cases hz; done)
      all_goals try (exfalso; (try simp only [LN] at *) <;> omega)
      all_goals first
        | ((refine Z.rndK ((i + 1, acc)) (fun s => [0, 1, 2, s.idIn 2 0]) rfl rfl rfl rfl ?_ ?_ ?_ ?_); (focus (repeat' (first | exact trivial | exact rfl | apply And.intro))); (focus (repeat' (first | exact trivial | (intro b hb; cases hb; rfl) | exact Z.gB_sub rfl rfl (ren_map fun _ => rfl) | apply And.intro))); (focus (exact ⟨by (try dsimp only); omega, hpa.symm⟩)); ((try dsimp only); omega))
        | fail
    · skip
      repeat' ((conv => whnf); first
        | with_reducible first | refine spB_t ?_
        | (with_reducible refine spB_dec ?_ ?_ <;> intro _ <;> (try (exfalso; first | contradiction | omega | (rename_i hz; refine hz ?_; simp; done) | (rename_i hz; simp at hz; done) | (simp only [LN] at *; omega))))
        | with_reducible first | refine Z.rowN_known hx ?_
        | ((with_reducible refine posE_pos ?_ ?_); (focus ((try simp only [LN] at *) <;> omega)))
        | ((with_reducible apply ixN_litp); (focus (exact rfl)); (focus ((try simp only [LN] at *) <;> omega)))
        | ((with_reducible refine apdN.mk ?_ ?_ ?_ ?_ ?_ ?_); (focus (first | rfl)); (focus (first | exact one_all (by rfl))); (focus ((try simp only [LN] at *) <;> omega)); (focus ((try simp only [LN] at *) <;> omega)); (focus ((try simp only [LN] at *) <;> omega)))
        | with_reducible refine wr_i64 (by first | omega | (simp only [LN] at *; omega)) ?_
        | with_reducible first | refine Z.callZ_in tabOk 8 Try.f47 _ Try.func47 (by kernel_rfl) rfl rfl rfl ?_
        | ((first | (with_reducible refine Z.callZ_mk ?_ (cm) ?_)); (focus ((repeat' (first | exact trivial | exact rfl | apply And.intro)); done)))
        | ((with_reducible refine eqN_mk2 ?_ ?_); (focus (exact Z.kb_some rfl)))
        | ((with_reducible apply ex_and); exact rfl)
        | fail)
      all_goals (try (conv => whnf))
      all_goals try (show Nat.ble _ _ = true; rfl)
      all_goals try (exfalso; rename_i hz; cases hz; done)
      all_goals try (exfalso; (try simp only [LN] at *) <;> omega)
      all_goals first
        | ((refine Z.rndK ((i + 1, acc ++ [x])) (fun s => [0, 1, 2, s.idIn 2 0]) rfl rfl rfl rfl ?_ ?_ ?_ ?_); (focus (repeat' (first | exact trivial | exact rfl | apply And.intro))); (focus (repeat' (first | exact trivial | (intro b hb; cases hb; rfl) | (intro b hb; cases hb; rw [List.map_append (f := cK)]; rfl) | exact Z.gB_sub' rfl (by first | rfl | (rw [List.map_append]; rfl) | simp only [List.map_append, List.map_cons, List.map_nil]) (ren_map fun _ => rfl) | apply And.intro))); (focus (exact ⟨by (try dsimp only); omega, hpa.symm⟩)); ((try dsimp only); omega))
        | fail
  have hil : i = l.length := by omega
  subst hil
  rw [List.take_length] at HA
  subst HA
  repeat' ((conv => whnf); first
    | (with_reducible refine spB_dec ?_ ?_ <;> intro _ <;> (try (exfalso; first | contradiction | omega | (rename_i hz; refine hz ?_; simp; done) | (rename_i hz; simp at hz; done) | (simp only [LN] at *; omega))))
    | fail)
  all_goals (try (conv => whnf))
  all_goals try (show Nat.ble _ _ = true; rfl)
  all_goals try (exfalso; rename_i hz; cases hz; done)
  all_goals try (exfalso; (try simp only [LN] at *) <;> omega)
  all_goals first
    | ((first | (with_reducible apply Z.retF2)); (focus (exact rfl)); (repeat' (first | exact trivial | (with_reducible apply Z.frz_one) | (with_reducible apply Z.frz_agg) | (with_reducible apply Z.fq_int) | ((with_reducible apply Z.fq_gsl); (focus (first | exact Z.isB_map _)); (focus (exact fun _ => rfl))) | exact rfl | apply And.intro)); (all_goals (try exact (fun _ => none))); all_goals (first | (simp; done)))
    | fail
end Go.Proofs.Ytehhmkdghgabaaa
namespace Go.Proofs.Ytehhmkdghgabaaa
open Go Go.RowKit Wx
set_option linter.unusedVariables false
set_option linter.unusedSimpArgs false
set_option maxHeartbeats 4000000
theorem rjoin_con (a b : List Kc) (hla : a.length ≤ 1000) (hlb : b.length ≤ 1000) : Con Try.prog 36 [.agg [.ro false 4 (a.map eK)], .agg [.ro false 4 (b.map eK)]] (fun rx rK rt => rx = .tup [.agg [.ro true 4 ((joinT a b).1.map eK)], .one (.v (.int .i64 (joinT a b).2))] ∧ rK = [] ∧ rt = 0) := by
  refine Z.con_ofF tabOk 42 Try.f36 _ Try.func36 (by kernel_rfl) rfl rfl rfl rfl ?_
  have ca := rcheck_con a (by omega)
  have cb := rcheck_con b (by omega)
  have ccp := copyk_con a (by omega)
  unfold joinT
  cases ha : tabR a
  all_goals rw [ha] at ca
  · rw [if_pos (.inl rfl)]
    repeat' ((conv => whnf); first
      | with_reducible first | refine spB_t ?_
      | ((with_reducible apply spB_cong); (focus (simp only [beq_self_eq_true, bne_self_eq_false, Bool.true_bne, Bool.false_bne, Bool.bne_true, Bool.bne_false, Bool.true_beq, Bool.false_beq, Bool.not_true, Bool.not_false, Bool.not_not, Int.reduceBEq, Int.reduceBNe, Int.reduceLE, Int.reduceLT, Int.reduceEq, decide_true, decide_false]; rfl)))
      | ((first | (with_reducible refine Z.callZ_mk ?_ (ca) ?_)); (focus ((repeat' (first | exact trivial | exact rfl | apply And.intro)); done)))
      | fail)
    all_goals (try (conv => whnf))
    all_goals try (show Nat.ble _ _ = true; rfl)
    all_goals try (exfalso; rename_i hz; cases hz; done)
    all_goals try (exfalso; (try simp only [LN] at *) <;> omega)
    all_goals first
      | ((first | (with_reducible apply Z.retF2)); (focus (exact rfl)); (repeat' (first | exact trivial | (with_reducible apply Z.frz_one) | (with_reducible apply Z.frz_agg) | (with_reducible apply Z.fq_int) | (exact Z.frz_nil) | exact rfl | apply And.intro)); (all_goals (try exact (fun _ => none))); all_goals (first | (simp; done)))
      | fail
  cases hb : tabR b
  all_goals rw [hb] at cb
  · rw [if_pos (.inr rfl)]
    repeat' ((conv => whnf); first
      | with_reducible first | refine spB_t ?_
      | ((with_reducible apply spB_cong); (focus (simp only [beq_self_eq_true, bne_self_eq_false, Bool.true_bne, Bool.false_bne, Bool.bne_true, Bool.bne_false, Bool.true_beq, Bool.false_beq, Bool.not_true, Bool.not_false, Bool.not_not, Int.reduceBEq, Int.reduceBNe, Int.reduceLE, Int.reduceLT, Int.reduceEq, decide_true, decide_false]; rfl)))
      | with_reducible first | refine spB_no (by decide) ?_
      | ((first | (with_reducible refine Z.callZ_mk ?_ (ca) ?_)); (focus ((repeat' (first | exact trivial | exact rfl | apply And.intro)); done)))
      | ((first | (with_reducible refine Z.callZ_mk ?_ (cb) ?_)); (focus ((repeat' (first | exact trivial | exact rfl | apply And.intro)); done)))
      | fail)
    all_goals (try (conv => whnf))
    all_goals try (show Nat.ble _ _ = true; rfl)
    all_goals try (exfalso; rename_i hz; cases hz; done)
    all_goals try (exfalso; (try simp only [LN] at *) <;> omega)
    all_goals first
      | ((first | (with_reducible apply Z.retF2)); (focus (exact rfl)); (repeat' (first | exact trivial | (with_reducible apply Z.frz_one) | (with_reducible apply Z.frz_agg) | (with_reducible apply Z.fq_int) | (exact Z.frz_nil) | exact rfl | apply And.intro)); (all_goals (try exact (fun _ => none))); all_goals (first | (simp; done)))
      | fail
  rw [if_neg (by simp)]
  repeat' ((conv => whnf); first
    | ((with_reducible apply spB_cong); (focus (simp only [beq_self_eq_true, bne_self_eq_false, Bool.true_bne, Bool.false_bne, Bool.bne_true, Bool.bne_false, Bool.true_beq, Bool.false_beq, Bool.not_true, Bool.not_false, Bool.not_not, Int.reduceBEq, Int.reduceBNe, Int.reduceLE, Int.reduceLT, Int.reduceEq, decide_true, decide_false]; rfl)))
    | with_reducible first | refine spB_no (by decide) ?_
    | ((first | (with_reducible refine Z.callZ_mk ?_ (ccp) ?_)); (focus ((repeat' (first | exact trivial | exact rfl | apply And.intro)); done)))
    | ((first | (with_reducible refine Z.callZ_mk ?_ (ca) ?_)); (focus ((repeat' (first | exact trivial | exact rfl | apply And.intro)); done)))
    | ((first | (with_reducible refine Z.callZ_mk ?_ (cb) ?_)); (focus ((repeat' (first | exact trivial | exact rfl | apply And.intro)); done)))
    | fail)
  all_goals (try (conv => whnf))
  all_goals try (show Nat.ble _ _ = true; rfl)
  all_goals try (exfalso; rename_i hz; cases hz; done)
  all_goals try (exfalso; (try simp only [LN] at *) <;> omega)
  refine Z.loopK tabOk (fun zq : Nat × List Kc => [(23, .val (.int .i64 (zq.1 : Int)))]) (fun zq : Nat × List Kc => ([(3, some (Z.Ob.b ⟨[[.ro true 4 (zq.2.map eK)]], 1, 30, true⟩))] : Z.Kr)) (fun zq => zq.1 ≤ b.length ∧ zq.2 = mrg a (b.take zq.1) ∧ (∀ x ∈ b.take zq.1, getR a x.src x.key = (0, 0))) (fun zq => b.length - zq.1) (0, a) 4 [(2, _), (4, _), (6, _), (21, _), (22, _)] ⟨rfl, rfl, rfl, rfl, rfl, trivial⟩ [(0, some _), (1, some _), (2, some _)] ⟨rfl, rfl, rfl, trivial⟩ ?_ ?_ rfl rfl ⟨Nat.zero_le _, rfl, (fun x h => nomatch h)⟩ ?_
  · repeat' (first | exact trivial | apply And.intro | exact ⟨_, rfl, Z.Imp.refl _⟩)
  · repeat' (first | exact trivial | exact (fun b hb => ⟨b, hb, Z.ImpO.refl b⟩) | apply And.intro)
  rintro ⟨i, nx⟩ HINV
  (try dsimp only at HINV); (try dsimp only)
  obtain ⟨HI, HA, HG⟩ := HINV
  have hml := mrg_len ha hb i
  rw [← HA] at hml
  by_cases hi2 : i < b.length
  · obtain ⟨x, hx⟩ := getElem?_some' (xs := b) (i := i) hi2
    have hma := mrg_at (a := a) hx
    rw [← HA] at hma
    have crg := rget_con a x.src x.key 0 (by omega)
    have crp := rput_con nx x.src x.key 0 (x.cnt, x.sum) (by omega)
    rw [putD_eq hml.2, ← hma] at crp
    dsimp only at crp
    by_cases hg : getR a x.src x.key = (0, 0)
    · rw [hg] at crg
      dsimp only at crg
      repeat' ((conv => whnf); first
        | ((with_reducible apply spB_cong); (focus (simp only [beq_self_eq_true, bne_self_eq_false, Bool.true_bne, Bool.false_bne, Bool.bne_true, Bool.bne_false, Bool.true_beq, Bool.false_beq, Bool.not_true, Bool.not_false, Bool.not_not, Int.reduceBEq, Int.reduceBNe, Int.reduceLE, Int.reduceLT, Int.reduceEq, decide_true, decide_false]; rfl)))
        | with_reducible first | refine spB_no (by decide) ?_
        | (with_reducible refine spB_dec ?_ ?_ <;> intro _ <;> (try (exfalso; first | contradiction | omega | (rename_i hz; refine hz ?_; simp; done) | (rename_i hz; simp at hz; done) | (simp only [LN] at *; omega))))
        | with_reducible first | refine Z.rowN_known hx ?_
        | ((with_reducible apply ixN_litp); (focus (exact rfl)); (focus ((try simp only [LN] at *) <;> omega)))
        | with_reducible refine wr_i64 (by first | omega | (simp only [LN] at *; omega)) ?_
        | with_reducible first | refine Z.callZ_in tabOk 8 Try.f47 _ Try.func47 (by kernel_rfl) rfl rfl rfl ?_
        | ((first | (with_reducible refine Z.conZ_mz ?_ (crg) ?_) | (with_reducible refine Z.conZ_mz ?_ (crp) ?_)); (focus ((repeat' (first | exact trivial | exact rfl | apply And.intro)); done)))
        | ((with_reducible apply ex_and); exact rfl)
        | with_reducible first | refine Z.drawZ_rule tabOk mixOk ?_ | refine Z.apZ_mk (by kernel_rfl) ?_
        | ((with_reducible refine Z.ConZ.red ?_); (try subst hlb); (apply Z.conZ_all); (focus (repeat (first | exact Z.FK.nil | (apply Z.FK.keep; exact rfl)))); (focus rfl); (focus rfl); (focus (repeat (first | exact trivial | (refine ⟨(fun o ho => (by first | (cases ho; rfl) | (cases ho; exact Z.inL_map fun _ => rfl) | (cases ho; exact Z.inL_mapr fun _ => rfl) | exact Z.inL_gB ho fun _ => rfl)), ?_⟩)))))
        | ((refine ⟨rfl, ?_, rfl⟩); (focus (repeat (first | exact Z.DK.nil | apply Z.DK.cons))))
        | fail)
      all_goals (try (conv => whnf))
      all_goals try (show Nat.ble _ _ = true; rfl)
      all_goals try (exfalso; rename_i hz; cases hz; done)
      all_goals try (exfalso; (try simp only [LN] at *) <;> omega)
      all_goals first
        | ((refine Z.rndK ((i + 1, mrg a (b.take (i + 1)))) (fun s => [0, 1, 2, 3]) rfl rfl rfl rfl ?_ ?_ ?_ ?_); (focus (repeat' (first | exact trivial | exact rfl | apply And.intro))); (focus (repeat' (first | exact trivial | (intro b hb; cases hb; rfl) | apply And.intro))); (focus ((refine ⟨by (try dsimp only); omega, rfl, ?_⟩; (try dsimp only); rw [take_snoc hx]; intro y hy; rcases List.mem_append.1 hy with h | h; exact HG y h; rw [List.mem_singleton.1 h]; exact hg))); ((try dsimp only); omega))
        | fail
    · have hct := comm_yes (a := a) (List.mem_of_getElem? hx) hg
      rw [if_pos hct]
      obtain ⟨y, hy, hyk⟩ := (get_in fun z hz => ((tab_iff.1 ha).1 z hz).2).1 hg
      generalize getR a x.src x.key = Gt at *
      obtain ⟨c1, c2⟩ := Gt
      dsimp only at crg
      have hcz : (c1 == 0 && (c2 == 0 && true)) = false := by
        cases hz : (c1 == 0 && (c2 == 0 && true)) with
        | false => rfl
        | true => exact absurd (by simp at hz; rw [hz.1, hz.2]) hg
      repeat' ((conv => whnf); first
        | with_reducible first | refine spB_not ?_ | refine spB_no (by assumption) ?_
        | (with_reducible refine spB_dec ?_ ?_ <;> intro _ <;> (try (exfalso; first | contradiction | omega | (rename_i hz; refine hz ?_; simp; done) | (rename_i hz; simp at hz; done) | (simp only [LN] at *; omega) | (rename_i hz; exact absurd (hcz.symm.trans hz) Bool.false_ne_true))))
        | with_reducible first | refine Z.rowN_known hx ?_
        | ((with_reducible apply ixN_litp); (focus (exact rfl)); (focus ((try simp only [LN] at *) <;> omega)))
        | with_reducible first | refine Z.callZ_in tabOk 8 Try.f47 _ Try.func47 (by kernel_rfl) rfl rfl rfl ?_
        | ((first | (with_reducible refine Z.conZ_mz ?_ (crg) ?_)); (focus ((repeat' (first | exact trivial | exact rfl | apply And.intro)); done)))
        | ((with_reducible apply ex_and); exact rfl)
        | with_reducible first | refine Z.drawZ_rule tabOk mixOk ?_ | refine Z.apZ_mk (by kernel_rfl) ?_
        | ((with_reducible refine Z.ConZ.red ?_); (try subst hlb); (apply Z.conZ_all); (focus (repeat (first | exact Z.FK.nil | (apply Z.FK.keep; exact rfl)))); (focus rfl); (focus rfl); (focus (repeat (first | exact trivial | (refine ⟨(fun o ho => (by first | (cases ho; rfl) | (cases ho; exact Z.inL_map fun _ => rfl) | (cases ho; exact Z.inL_mapr fun _ => rfl) | exact Z.inL_gB ho fun _ => rfl)), ?_⟩)))))
        | ((refine ⟨rfl, ?_, rfl⟩); (focus (repeat (first | exact Z.DK.nil | apply Z.DK.cons))))
        | fail)
      all_goals (try (conv => whnf))
      all_goals try (show Nat.ble _ _ = true; rfl)
      all_goals try (exfalso; rename_i hz; cases hz; done)
      all_goals try (exfalso; (try simp only [LN] at *) <;> omega)
      all_goals first
        | ((first | (with_reducible apply Z.retF2)); (focus (exact rfl)); (repeat' (first | exact trivial | (with_reducible apply Z.frz_one) | (with_reducible apply Z.frz_agg) | (with_reducible apply Z.fq_int) | (exact Z.frz_nil) | exact rfl | apply And.intro)); (all_goals (try exact (fun _ => none))); all_goals (first | (simp; done)))
        | fail
  have hil : i = b.length := by omega
  subst hil
  rw [List.take_length] at HA HG
  subst HA
  rw [if_neg (by rw [comm_nil HG]; decide)]
  repeat' ((conv => whnf); first
    | (with_reducible refine spB_dec ?_ ?_ <;> intro _ <;> (try (exfalso; first | contradiction | omega | (rename_i hz; refine hz ?_; simp; done) | (rename_i hz; simp at hz; done) | (simp only [LN] at *; omega))))
    | fail)
  all_goals (try (conv => whnf))
  all_goals try (show Nat.ble _ _ = true; rfl)
  all_goals try (exfalso; rename_i hz; cases hz; done)
  all_goals try (exfalso; (try simp only [LN] at *) <;> omega)
  all_goals first
    | ((first | (with_reducible apply Z.retF2)); (focus (exact rfl)); (repeat' (first | exact trivial | (with_reducible apply Z.frz_one) | (with_reducible apply Z.frz_agg) | (with_reducible apply Z.fq_int) | (with_reducible apply Z.fq_ro) | exact rfl | apply And.intro)); (all_goals (try exact (fun _ => none))); all_goals (first | (simp; done)))
    | fail
end Go.Proofs.Ytehhmkdghgabaaa
namespace Go.Proofs.Ytehhmkdghgabaaa
open Go Go.RowKit Wx
set_option linter.unusedVariables false
set_option linter.unusedSimpArgs false
set_option maxHeartbeats 4000000
namespace Ops
theorem Run_con (t w a b c s : Int) (ins : List Int) (l : List Int) (hi : ins.length ≤ 9223372036854775807) (hc : c ≤ 9223372036854775807) (hl : l.length ≤ 9223372036854775807) : Con Try.prog 44 [.agg [.v (.int .i64 t), .v (.int .i64 w), .ro false 1 (ins.map eI), .v (.int .i64 a), .v (.int .i64 b)], .agg [.v (.int .i64 c), .v (.int .i64 s)], .one (.ro false 1 (l.map eI))] (fun rx rK rt => rx = .tup [.agg [.v (.int .i64 (runF t w ins a b c s l).1.1), .v (.int .i64 (runF t w ins a b c s l).1.2)], .one (.ro true 1 ((runF t w ins a b c s l).2.1.map eI)), .one (.v (.int .i64 (runF t w ins a b c s l).2.2))] ∧ rK = [] ∧ rt = 0) := by
  have c1 := check_con t w a b c s ins hi
  by_cases h40 : 40 < l.length
  · rw [show runF t w ins a b c s l = ((0, 0), [], 3) by unfold runF; rw [if_pos h40]]
    refine con_to (X := .tup [.agg [.v (.int .i64 0), .v (.int .i64 0)], .one (.v (.slice none 0 0)), .one (.v (.int .i64 3))]) ?_ (fun I R v h => nil_ro h)
    refine con_of tabOk 28 Try.f44 _ Try.func44 (by kernel_rfl) rfl rfl rfl rfl (fun W => ?_)
    repeat' ((conv => whnf); first
      | (with_reducible refine spB_dec ?_ ?_ <;> intro _ <;> (try (exfalso; first | contradiction | omega | (rename_i hz; with_reducible exact absurd rfl hz))))
      | (with_reducible refine spB_bne ?_ ?_ <;> intro _ <;> (try (exfalso; first | contradiction | omega | (rename_i hz; with_reducible exact absurd rfl hz))))
      | ((with_reducible apply call_con2 ?_ (c1) ?_);(first | (focus exact ⟨⟨rfl, rfl, rfl, rfl, rfl, trivial⟩, ⟨rfl, rfl, trivial⟩, trivial⟩)); rintro _ _ _ ⟨rfl, rfl, rfl⟩))
    all_goals (try (conv => whnf))
    all_goals first | (refine ret0 _ rfl _ rfl (fun _ => rfl) rfl ⟨?_, rfl, rfl⟩; rfl) | (exfalso; (try simp only [LN] at *) <;> omega) | (fail)
  by_cases hok : okO t w ins a b = false
  · rw [show runF t w ins a b c s l = ((0, 0), [], 180) by unfold runF; rw [if_neg h40, if_pos hok]]
    rw [if_pos hok] at c1
    refine con_to (X := .tup [.agg [.v (.int .i64 0), .v (.int .i64 0)], .one (.v (.slice none 0 0)), .one (.v (.int .i64 180))]) ?_ (fun I R v h => nil_ro h)
    refine con_of tabOk 28 Try.f44 _ Try.func44 (by kernel_rfl) rfl rfl rfl rfl (fun W => ?_)
    repeat' ((conv => whnf); first
      | with_reducible first | refine spB_t ?_
      | ((with_reducible apply spB_cong); (focus (simp only [beq_self_eq_true, bne_self_eq_false, Bool.true_bne, Bool.false_bne, Bool.bne_true, Bool.bne_false, Bool.true_beq, Bool.false_beq, Bool.not_true, Bool.not_false, Bool.not_not, Int.reduceBEq, Int.reduceBNe, Int.reduceLE, Int.reduceLT, Int.reduceEq, decide_true, decide_false]; rfl)))
      | (with_reducible refine spB_dec ?_ ?_ <;> intro _ <;> (try (exfalso; first | contradiction | omega | (rename_i hz; with_reducible exact absurd rfl hz))))
      | ((with_reducible apply call_con2 ?_ (c1) ?_);(first | (focus exact ⟨⟨rfl, rfl, rfl, rfl, rfl, trivial⟩, ⟨rfl, rfl, trivial⟩, trivial⟩)); rintro _ _ _ ⟨rfl, rfl, rfl⟩))
    all_goals (try (conv => whnf))
    all_goals first | (refine ret0 _ rfl _ rfl (fun _ => rfl) rfl ⟨?_, rfl, rfl⟩; rfl) | (exfalso; (try simp only [LN] at *) <;> omega) | (fail)
  by_cases hf : fitP t a (c, s)
  · have c2 := rung_con t w a b c s ins l (by simpa using hok) hf hc (by omega)
    rw [show runF t w ins a b c s l = runG t a b c s l by unfold runF; rw [if_neg h40, if_neg hok, if_neg (not_not_intro hf)]]
    rw [if_neg hok, if_neg (not_not_intro hf)] at c1
    refine con_of tabOk 28 Try.f44 _ Try.func44 (by kernel_rfl) rfl rfl rfl rfl (fun W => ?_)
    repeat' ((conv => whnf); first
      | ((with_reducible apply spB_cong); (focus (simp only [beq_self_eq_true, bne_self_eq_false, Bool.true_bne, Bool.false_bne, Bool.bne_true, Bool.bne_false, Bool.true_beq, Bool.false_beq, Bool.not_true, Bool.not_false, Bool.not_not, Int.reduceBEq, Int.reduceBNe, Int.reduceLE, Int.reduceLT, Int.reduceEq, decide_true, decide_false]; rfl)))
      | with_reducible first | refine spB_no (by decide) ?_
      | (with_reducible refine spB_dec ?_ ?_ <;> intro _ <;> (try (exfalso; first | contradiction | omega | (rename_i hz; with_reducible exact absurd rfl hz))))
      | ((with_reducible apply call_con2 ?_ (c1) ?_);(first | (focus exact ⟨⟨rfl, rfl, rfl, rfl, rfl, trivial⟩, ⟨rfl, rfl, trivial⟩, trivial⟩)); rintro _ _ _ ⟨rfl, rfl, rfl⟩)
      | ((with_reducible apply call_con2 ?_ (c2) ?_);(first | (focus exact ⟨⟨rfl, rfl, rfl, rfl, rfl, trivial⟩, ⟨rfl, rfl, trivial⟩, rfl, trivial⟩)); rintro _ _ _ ⟨rfl, rfl, rfl⟩))
    all_goals (try (conv => whnf))
    all_goals first | (refine ret0 _ rfl _ rfl (fun _ => rfl) rfl ⟨?_, rfl, rfl⟩; rfl) | (exfalso; (try simp only [LN] at *) <;> omega) | (fail)
  · rw [show runF t w ins a b c s l = ((0, 0), [], 181) by unfold runF; rw [if_neg h40, if_neg hok, if_pos hf]]
    rw [if_neg hok, if_pos hf] at c1
    refine con_to (X := .tup [.agg [.v (.int .i64 0), .v (.int .i64 0)], .one (.v (.slice none 0 0)), .one (.v (.int .i64 181))]) ?_ (fun I R v h => nil_ro h)
    refine con_of tabOk 28 Try.f44 _ Try.func44 (by kernel_rfl) rfl rfl rfl rfl (fun W => ?_)
    repeat' ((conv => whnf); first
      | with_reducible first | refine spB_t ?_
      | ((with_reducible apply spB_cong); (focus (simp only [beq_self_eq_true, bne_self_eq_false, Bool.true_bne, Bool.false_bne, Bool.bne_true, Bool.bne_false, Bool.true_beq, Bool.false_beq, Bool.not_true, Bool.not_false, Bool.not_not, Int.reduceBEq, Int.reduceBNe, Int.reduceLE, Int.reduceLT, Int.reduceEq, decide_true, decide_false]; rfl)))
      | (with_reducible refine spB_dec ?_ ?_ <;> intro _ <;> (try (exfalso; first | contradiction | omega | (rename_i hz; with_reducible exact absurd rfl hz))))
      | ((with_reducible apply call_con2 ?_ (c1) ?_);(first | (focus exact ⟨⟨rfl, rfl, rfl, rfl, rfl, trivial⟩, ⟨rfl, rfl, trivial⟩, trivial⟩)); rintro _ _ _ ⟨rfl, rfl, rfl⟩))
    all_goals (try (conv => whnf))
    all_goals first | (refine ret0 _ rfl _ rfl (fun _ => rfl) rfl ⟨?_, rfl, rfl⟩; rfl) | (exfalso; (try simp only [LN] at *) <;> omega) | (fail)
end Ops
end Go.Proofs.Ytehhmkdghgabaaa
namespace Go.Proofs.Ytehhmkdghgabaaa
open Go Go.RowKit Wx
set_option linter.unusedVariables false
set_option linter.unusedSimpArgs false
set_option maxHeartbeats 4000000
namespace Ops
def doF (t w : Int) (ins : List Int) (a b c s v : Int) : (Int × Int) × List Int × Int :=
  if okO t w ins a b = false then ((0, 0), [], 180) else if ¬ fitP t a (c, s) then ((0, 0), [], 181) else if c = 9223372036854775807 then ((0, 0), [], 6) else ((stp t a b (c, s) v).1, (stp t a b (c, s) v).2, 0)
end Ops
end Go.Proofs.Ytehhmkdghgabaaa
namespace Go.Proofs.Ytehhmkdghgabaaa
open Go Go.RowKit Wx
set_option linter.unusedVariables false
set_option linter.unusedSimpArgs false
set_option maxHeartbeats 4000000
namespace Ops
theorem run_one (t w a b c s v : Int) (ins : List Int) : runF t w ins a b c s [v] = doF t w ins a b c s v := by
  unfold runF doF runG fullB fullB
  rw [if_neg (by simp)]
  split
  · rfl
  · split
    · rfl
    · simp [fs]
theorem doF_len {t w a b c s v : Int} {ins : List Int} : (doF t w ins a b c s v).2.1.length ≤ 1 := by
  unfold doF
  repeat' split
  all_goals first | exact Nat.zero_le _ | exact out_len
theorem do_con (t w a b c s v : Int) (ins : List Int) (hi : ins.length ≤ 9223372036854775807) (hc : c ≤ 9223372036854775807) : Con Try.prog 102 [.agg [.v (.int .i64 t), .v (.int .i64 w), .ro false 1 (ins.map eI), .v (.int .i64 a), .v (.int .i64 b)], .agg [.v (.int .i64 c), .v (.int .i64 s)], .one (.v (.int .i64 v))] (fun rx rK rt => rx = .tup [.agg [.v (.int .i64 (doF t w ins a b c s v).1.1), .v (.int .i64 (doF t w ins a b c s v).1.2)], .one (.ro true 1 ((doF t w ins a b c s v).2.1.map eI)), .one (.v (.int .i64 (doF t w ins a b c s v).2.2))] ∧ rK = [] ∧ rt = 0) := by
  have c1 := Run_con t w a b c s ins [v] hi hc (by simp)
  rw [run_one] at c1
  refine con_of tabOk 17 Try.f102 _ Try.func102 (by kernel_rfl) rfl rfl rfl rfl (fun W => ?_)
  repeat' ((conv => whnf); first
    | ((with_reducible apply call_con2 ?_ (c1) ?_);(first | (focus exact ⟨⟨rfl, rfl, rfl, rfl, rfl, trivial⟩, ⟨rfl, rfl, trivial⟩, ⟨[eI v], rfl, rfl, rfl⟩, trivial⟩)); rintro _ _ _ ⟨rfl, rfl, rfl⟩))
  all_goals (try (conv => whnf))
  all_goals first | (refine ret0 _ rfl _ rfl (fun _ => rfl) rfl ⟨?_, rfl, rfl⟩; rfl) | (fail)
end Ops
end Go.Proofs.Ytehhmkdghgabaaa
namespace Go.Proofs.Ytehhmkdghgabaaa
open Go Go.RowKit Wx
set_option linter.unusedVariables false
set_option linter.unusedSimpArgs false
set_option maxHeartbeats 4000000
structure Rcd where
  src : Int
  key : Int
  val : Int
deriving DecidableEq
abbrev eR (x : Rcd) : List RT := [RT.v (.int .i64 x.src), RT.v (.int .i64 x.key), RT.v (.int .i64 x.val)]
abbrev cR (x : Rcd) : List Ce := [Ce.v (.int .i64 x.src), Ce.v (.int .i64 x.key), Ce.v (.int .i64 x.val)]
structure Opr where
  t : Int
  w : Int
  ins : List Int
  a : Int
  b : Int
def dT (o : Opr) (l : List Kc) (r : Rcd) : List Kc × List Rcd × Int :=
  if keyOk r.src r.key = false then ([], [], 150) else
  if (Ops.doF o.t o.w o.ins o.a o.b (getR l r.src r.key).1 (getR l r.src r.key).2 r.val).2.2 = 0 then
    (putR l r.src r.key (Ops.doF o.t o.w o.ins o.a o.b (getR l r.src r.key).1 (getR l r.src r.key).2 r.val).1, (Ops.doF o.t o.w o.ins o.a o.b (getR l r.src r.key).1 (getR l r.src r.key).2 r.val).2.1.map fun x => ⟨r.src, r.key, x⟩, 0)
  else ([], [], (Ops.doF o.t o.w o.ins o.a o.b (getR l r.src r.key).1 (getR l r.src r.key).2 r.val).2.2)
theorem doF_err {t w : Int} {ins : List Int} {a b c s v : Int} (h : (Ops.doF t w ins a b c s v).2.2 ≠ 0) : Ops.doF t w ins a b c s v = ((0, 0), [], (Ops.doF t w ins a b c s v).2.2) := by
  unfold Ops.doF at *
  split
  · rfl
  · split
    · rfl
    · split
      · rfl
      · rename_i h1 h2 h3; simp [h1, h2, h3] at h
theorem doF_cell {t w : Int} {ins : List Int} {a b c s v : Int} (h : (Ops.doF t w ins a b c s v).2.2 = 0) : (0 < (Ops.doF t w ins a b c s v).1.1 ∨ (Ops.doF t w ins a b c s v).1 = (0, 0)) := by
  unfold Ops.doF at *
  split at h
  · cases h
  · split at h
    · cases h
    · split at h
      · cases h
      · rename_i h1 h2 h3
        have ht := Ops.okO_tag (by simpa using h1)
        have hf := Ops.fit_stp (v := v) ht (Decidable.not_not.1 h2)
        rw [if_neg h1, if_neg h2, if_neg h3]
        simp only
        generalize (Ops.stp t a b (c, s) v).1 = q at *
        unfold Ops.fitP at hf
        split at hf
        · rcases hf with ⟨h5, h6⟩ | ⟨h5, _⟩
          · right; exact Prod.ext h5 h6
          · left; exact h5
        · right; exact Prod.ext hf.1 hf.2
end Go.Proofs.Ytehhmkdghgabaaa
namespace Go.Proofs.Ytehhmkdghgabaaa
open Go Go.RowKit Wx
set_option linter.unusedVariables false
set_option linter.unusedSimpArgs false
set_option maxHeartbeats 4000000
theorem do_z0 (t w a b : Int) (ins : List Int) (l : List Kc) (s k v : Int) (c : Int × Int) (O : List Int) (p : Nat) (hi : ins.length ≤ 9223372036854775807) (hO : O.length ≤ 1) (hl : l.length ≤ 1000) (ht : tabR l = true) (hk : keyOk s k = true) (hr : Ops.doF t w ins a b 0 0 v = (c, O, 0)) (hc : c = (0, 0)) (hth : thereR l s k = false) (hp : posR l s k = p) (hne : l ≠ []) : Con Try.prog 64 [.agg [.v (.int .i64 t), .v (.int .i64 w), .ro false 1 (ins.map Ops.eI), .v (.int .i64 a), .v (.int .i64 b)], .agg [.ro false 4 (l.map eK)], .agg [.v (.int .i64 s), .v (.int .i64 k), .v (.int .i64 v)]] (fun rx rK rt => rx = .tup [.agg [.ro true 4 (l.map eK)], .one (.ro true 3 ((O.map fun x => (⟨s, k, x⟩ : Rcd)).map eR)), .one (.v (.int .i64 0))] ∧ rK = [] ∧ rt = 0) := by
  refine Z.con_ofF tabOk 22 Try.f64 _ Try.func64 (by kernel_rfl) rfl rfl rfl rfl ?_
  have ck := rec_con s k v
  rw [hk] at ck
  simp only [cond_true, cond_false] at ck
  have cf := find_con l s k v hl ht
  rw [hth, hp] at cf
  have cd := Ops.do_con t w a b 0 0 v ins hi (by decide)
  rw [hr] at cd
  dsimp only at cd
  have cw := clonek_con l hl hne
  subst hc
  rcases O with _ | ⟨y, _ | ⟨z, O⟩⟩
  rotate_right 1
  · exact absurd hO (by simp)
  all_goals (
    repeat' ((conv => whnf); first
      | ((with_reducible apply spB_cong); (focus (simp only [beq_self_eq_true, bne_self_eq_false, Bool.true_bne, Bool.false_bne, Bool.bne_true, Bool.bne_false, Bool.true_beq, Bool.false_beq, Bool.not_true, Bool.not_false, Bool.not_not, Int.reduceBEq, Int.reduceBNe, Int.reduceLE, Int.reduceLT, Int.reduceEq, decide_true, decide_false]; rfl)))
      | with_reducible first | refine spB_no (by decide) ?_
      | (with_reducible refine spB_dec ?_ ?_ <;> intro _ <;> (try (exfalso; first | contradiction | omega | (rename_i hz; refine hz ?_; simp; done) | (rename_i hz; simp at hz; done) | (simp only [LN] at *; omega))))
      | with_reducible first | refine Z.loopZ_unroll tabOk 3 ?_
      | ((with_reducible refine posE_pos ?_ ?_); (focus ((try simp only [LN] at *) <;> omega)))
      | ((with_reducible apply rowN_mk); (focus rfl))
      | ((with_reducible apply ixN_lit); (focus (exact rfl)); (focus (exact rfl)))
      | ((with_reducible refine apdN.mk ?_ ?_ ?_ ?_ ?_ ?_); (focus (first | rfl)); (focus (first | exact one_all (by rfl))); (focus ((try simp only [LN] at *) <;> omega)); (focus ((try simp only [LN] at *) <;> omega)); (focus ((try simp only [LN] at *) <;> omega)))
      | with_reducible refine wr_i64 (by first | omega | (simp only [LN] at *; omega)) ?_
      | with_reducible first | refine Z.callZ_in tabOk 38 Try.f101 _ Try.func101 (by kernel_rfl) rfl rfl rfl ?_ | refine Z.callZ_in tabOk 67 Try.f60 _ Try.func60 (by kernel_rfl) rfl rfl rfl ?_
      | ((first | (with_reducible refine Z.callZ_mk ?_ (cd) ?_) | (with_reducible refine Z.callZ_mk ?_ (ck) ?_) | (with_reducible refine Z.callZ_mk ?_ (cf) ?_) | (with_reducible refine Z.callZ_mk ?_ (cw) ?_)); (focus ((repeat' (first | exact trivial | exact rfl | apply And.intro)); done)))
      | ((with_reducible apply ex_and); exact rfl)
      | with_reducible first | refine Z.drawZ_rule tabOk mixOk ?_ | refine Z.apZ_mk (by kernel_rfl) ?_)
    all_goals (try (conv => whnf)))
  all_goals try (show Nat.ble _ _ = true; rfl)
  all_goals try (exfalso; rename_i hz; cases hz; done)
  all_goals try (exfalso; (try simp only [LN] at *) <;> omega)
  all_goals first
    | ((first | (with_reducible apply Z.retF2)); (focus (exact rfl)); (repeat' (first | exact trivial | (refine Z.frz_osl (l := l) (f := cK) (ty := 74) (bx := false) (by first | rfl | exact congrArg (fun r => some (⟨r, 4, 74, false⟩ : Blk)) (ren_map fun _ => rfl)) rfl (fun _ => rfl)) | (refine Z.fq_gsl (l := [(⟨s, k, y⟩ : Rcd)]) (f := cR) (g := eR) (sz := 3) (ty := 39) rfl (fun _ => rfl) ?_) | (with_reducible apply Z.frz_one) | (with_reducible apply Z.frz_agg) | (with_reducible apply Z.fq_int) | (exact Z.frz_nil) | exact rfl | apply And.intro)); (all_goals (try exact (fun _ => none))); all_goals (first | (simp; done)))
end Go.Proofs.Ytehhmkdghgabaaa
namespace Go.Proofs.Ytehhmkdghgabaaa
open Go Go.RowKit Wx
set_option linter.unusedVariables false
set_option linter.unusedSimpArgs false
set_option maxHeartbeats 4000000
theorem do_na (t w a b : Int) (ins : List Int) (l : List Kc) (s k v : Int) (c : Int × Int) (O : List Int) (p : Nat) (hi : ins.length ≤ 9223372036854775807) (hO : O.length ≤ 1) (hl : l.length ≤ 1000) (ht : tabR l = true) (hk : keyOk s k = true) (hr : Ops.doF t w ins a b 0 0 v = (c, O, 0)) (hc : 0 < c.1) (hth : thereR l s k = false) (hp : posR l s k = p) (hne : l ≠ []) (hpl : p = l.length) : Con Try.prog 64 [.agg [.v (.int .i64 t), .v (.int .i64 w), .ro false 1 (ins.map Ops.eI), .v (.int .i64 a), .v (.int .i64 b)], .agg [.ro false 4 (l.map eK)], .agg [.v (.int .i64 s), .v (.int .i64 k), .v (.int .i64 v)]] (fun rx rK rt => rx = .tup [.agg [.ro true 4 ((l ++ [(⟨s, k, c.1, c.2⟩ : Kc)]).map eK)], .one (.ro true 3 ((O.map fun x => (⟨s, k, x⟩ : Rcd)).map eR)), .one (.v (.int .i64 0))] ∧ rK = [] ∧ rt = 0) := by
  refine Z.con_ofF tabOk 22 Try.f64 _ Try.func64 (by kernel_rfl) rfl rfl rfl rfl ?_
  have ck := rec_con s k v
  rw [hk] at ck
  simp only [cond_true, cond_false] at ck
  have cf := find_con l s k v hl ht
  rw [hth, hp] at cf
  have cd := Ops.do_con t w a b 0 0 v ins hi (by decide)
  rw [hr] at cd
  dsimp only at cd
  have hcz : (c.1 == 0 && (c.2 == 0 && true)) = false := by rw [show (c.1 == 0) = false by simp; omega]; rfl
  have cw := clonek_con l hl hne
  subst hpl
  rcases O with _ | ⟨y, _ | ⟨z, O⟩⟩
  rotate_right 1
  · exact absurd hO (by simp)
  all_goals (
    repeat' ((conv => whnf); first
      | with_reducible first | refine spB_t ?_
      | ((with_reducible apply spB_cong); (focus (simp only [beq_self_eq_true, bne_self_eq_false, Bool.true_bne, Bool.false_bne, Bool.bne_true, Bool.bne_false, Bool.true_beq, Bool.false_beq, Bool.not_true, Bool.not_false, Bool.not_not, Int.reduceBEq, Int.reduceBNe, Int.reduceLE, Int.reduceLT, Int.reduceEq, decide_true, decide_false]; rfl)))
      | with_reducible first | refine spB_no (by decide) ?_ | refine spB_not ?_ | refine spB_no (by assumption) ?_
      | (with_reducible refine spB_dec ?_ ?_ <;> intro _ <;> (try (exfalso; first | contradiction | omega | (rename_i hz; refine hz ?_; simp; done) | (rename_i hz; simp at hz; done) | (simp only [LN] at *; omega) | (rename_i hz; exact absurd (hcz.symm.trans hz) Bool.false_ne_true))))
      | with_reducible first | refine Z.loopZ_unroll tabOk 3 ?_
      | ((apply Z.callZ_rwcap (l.map cK)); (focus (exact rfl)); (focus (first | exact ren_map fun _ => rfl)); (focus (simp; done)); (intro capv hcapv; refine ⟨fun hcap => ?_, fun hcap gv hgv => ?_⟩))
      | ((with_reducible refine Z.slN_lo (l.length) ?_ ?_ ?_); (focus rfl); (focus ((try simp only [LN] at *) <;> omega)))
      | ((with_reducible refine apdE_r ?_); (with_reducible refine aprN.mk ⟨_, rfl, ?_⟩ ?_ ?_ ?_ ?_); (focus omega); (focus rfl); (focus (exact one_all (by rfl))); (focus (simp; done)))
      | ((with_reducible refine apdE_k ?_); (with_reducible refine apkN.mk ⟨_, rfl, ?_⟩ ?_); (focus omega); (with_reducible refine apdN.mk ?_ ?_ ?_ ?_ ?_ ?_); (focus rfl); (focus (exact one_all (by rfl))); (focus (simp; done)); (focus ((try simp only [LN] at *) <;> omega)); (focus ((try simp only [LN] at *) <;> omega)))
      | ((with_reducible refine posE_pos ?_ ?_); (focus ((try simp only [LN] at *) <;> omega)))
      | ((with_reducible apply rowN_mk); (focus rfl))
      | ((with_reducible apply ixN_lit); (focus (exact rfl)); (focus (exact rfl)))
      | ((with_reducible refine slE_b ?_ ?_); (focus ((try simp only [LN] at *) <;> omega)))
      | ((with_reducible refine apdN.mk ?_ ?_ ?_ ?_ ?_ ?_); (focus (first | rfl)); (focus (first | exact one_all (by rfl))); (focus ((try simp only [LN] at *) <;> omega)); (focus ((try simp only [LN] at *) <;> omega)); (focus ((try simp only [LN] at *) <;> omega)))
      | with_reducible refine wr_i64 (by first | omega | (simp only [LN] at *; omega)) ?_
      | with_reducible first | refine Z.callZ_in tabOk 38 Try.f101 _ Try.func101 (by kernel_rfl) rfl rfl rfl ?_ | refine Z.callZ_in tabOk 67 Try.f60 _ Try.func60 (by kernel_rfl) rfl rfl rfl ?_ | refine Z.callZ_in tabOk 95 Try.f100 _ Try.func100 (by kernel_rfl) rfl rfl rfl ?_
      | ((first | (with_reducible refine Z.callZ_mk ?_ (cd) ?_) | (with_reducible refine Z.callZ_mk ?_ (ck) ?_) | (with_reducible refine Z.callZ_mk ?_ (cf) ?_) | (with_reducible refine Z.callZ_mk ?_ (cw) ?_)); (focus ((repeat' (first | exact trivial | exact rfl | apply And.intro)); done)))
      | ((with_reducible apply ex_and); exact rfl)
      | with_reducible first | refine Z.drawZ_rule tabOk mixOk ?_ | refine Z.apZ_mk (by kernel_rfl) ?_)
    all_goals (try (conv => whnf)))
  all_goals try (show Nat.ble _ _ = true; rfl)
  all_goals try (exfalso; rename_i hz; cases hz; done)
  all_goals try (exfalso; (try simp only [LN] at *) <;> omega)
  all_goals first
    | ((first | (with_reducible apply Z.retF2)); (focus (exact rfl)); (repeat' (first | exact trivial | (refine Z.frz_oslw (l := (l ++ [(⟨s, k, c.1, c.2⟩ : Kc)])) (f := cK) (ty := 74) (bx := false) rfl ?_ ?_ (fun _ => rfl); (focus (first | (simp; done))); (focus (first | exact (congrArg (List.take _) (Z.g_app (f := cK) (v := (⟨s, k, c.1, c.2⟩ : Kc)) rfl rfl)).trans (List.take_of_length_le (by simp)) | exact (congrArg (List.take _) (Z.g_appr (f := cK) (v := (⟨s, k, c.1, c.2⟩ : Kc)) rfl rfl)).trans (List.take_of_length_le (by simp))))) | (refine Z.fq_gsl (l := [(⟨s, k, y⟩ : Rcd)]) (f := cR) (g := eR) (sz := 3) (ty := 39) rfl (fun _ => rfl) ?_) | (with_reducible apply Z.frz_one) | (with_reducible apply Z.frz_agg) | (with_reducible apply Z.fq_int) | (exact Z.frz_nil) | exact rfl | apply And.intro)); (all_goals (try exact (fun _ => none))); all_goals (first | (simp; done)))
end Go.Proofs.Ytehhmkdghgabaaa
namespace Go.Proofs.Ytehhmkdghgabaaa
open Go Go.RowKit Wx
set_option linter.unusedVariables false
set_option linter.unusedSimpArgs false
set_option maxHeartbeats 4000000
theorem do_ni (t w a b : Int) (ins : List Int) (l : List Kc) (s k v : Int) (c : Int × Int) (O : List Int) (p : Nat) (hi : ins.length ≤ 9223372036854775807) (hO : O.length ≤ 1) (hl : l.length ≤ 1000) (ht : tabR l = true) (hk : keyOk s k = true) (hr : Ops.doF t w ins a b 0 0 v = (c, O, 0)) (hc : 0 < c.1) (hth : thereR l s k = false) (hp : posR l s k = p) (hne : l ≠ []) (hpl : p < l.length) : Con Try.prog 64 [.agg [.v (.int .i64 t), .v (.int .i64 w), .ro false 1 (ins.map Ops.eI), .v (.int .i64 a), .v (.int .i64 b)], .agg [.ro false 4 (l.map eK)], .agg [.v (.int .i64 s), .v (.int .i64 k), .v (.int .i64 v)]] (fun rx rK rt => rx = .tup [.agg [.ro true 4 ((l.take p ++ (⟨s, k, c.1, c.2⟩ : Kc) :: l.drop p).map eK)], .one (.ro true 3 ((O.map fun x => (⟨s, k, x⟩ : Rcd)).map eR)), .one (.v (.int .i64 0))] ∧ rK = [] ∧ rt = 0) := by
  refine Z.con_ofF tabOk 22 Try.f64 _ Try.func64 (by kernel_rfl) rfl rfl rfl rfl ?_
  have ck := rec_con s k v
  rw [hk] at ck
  simp only [cond_true, cond_false] at ck
  have cf := find_con l s k v hl ht
  rw [hth, hp] at cf
  have cd := Ops.do_con t w a b 0 0 v ins hi (by decide)
  rw [hr] at cd
  dsimp only at cd
  have hcz : (c.1 == 0 && (c.2 == 0 && true)) = false := by rw [show (c.1 == 0) = false by simp; omega]; rfl
  have cw := clonek_con l hl hne
  obtain ⟨x0, hx0⟩ := getElem?_some' (xs := l) (i := p) hpl
  rcases O with _ | ⟨y, _ | ⟨z, O⟩⟩
  rotate_right 1
  · exact absurd hO (by simp)
  all_goals (
    repeat' ((conv => whnf); first
      | with_reducible first | refine spB_t ?_
      | ((with_reducible apply spB_cong); (focus (simp only [beq_self_eq_true, bne_self_eq_false, Bool.true_bne, Bool.false_bne, Bool.bne_true, Bool.bne_false, Bool.true_beq, Bool.false_beq, Bool.not_true, Bool.not_false, Bool.not_not, Int.reduceBEq, Int.reduceBNe, Int.reduceLE, Int.reduceLT, Int.reduceEq, decide_true, decide_false]; rfl)))
      | with_reducible first | refine spB_no (by decide) ?_ | refine spB_not ?_ | refine spB_no (by assumption) ?_
      | (with_reducible refine spB_dec ?_ ?_ <;> intro _ <;> (try (exfalso; first | contradiction | omega | (rename_i hz; refine hz ?_; simp; done) | (rename_i hz; simp at hz; done) | (simp only [LN] at *; omega) | (rename_i hz; exact absurd (hcz.symm.trans hz) Bool.false_ne_true))))
      | (with_reducible refine spB_beq ?_ ?_ <;> intro _ <;> (try (exfalso; first | contradiction | omega | (rename_i hz; refine hz ?_; simp; done) | (rename_i hz; simp at hz; done) | (simp only [LN] at *; omega) | (rename_i hz; exact absurd (hcz.symm.trans hz) Bool.false_ne_true))))
      | with_reducible first | refine Z.loopZ_unroll tabOk 3 ?_
      | ((apply Z.callZ_rwcap (l.map cK)); (focus (exact rfl)); (focus (first | exact ren_map fun _ => rfl)); (focus (simp; done)); (intro capv hcapv; refine ⟨fun hcap => ?_, fun hcap gv hgv => ?_⟩))
      | ((with_reducible refine Z.slN_lo (p) ?_ ?_ ?_); (focus rfl); (focus ((try simp only [LN] at *) <;> omega)))
      | ((with_reducible refine Z.slN_lo (p + 1) ?_ ?_ ?_); (focus rfl); (focus ((try simp only [LN] at *) <;> omega)))
      | ((with_reducible refine slN_hi (p) ?_ ?_ ?_); (focus rfl); (focus ((try simp only [LN] at *) <;> omega)))
      | ((with_reducible refine Z.slN_hc (l.length + 1) ?_ ?_ ?_); (focus rfl); (focus (exact ⟨_, rfl, by first | omega | (dsimp only; omega) | (simp; omega)⟩)))
      | ((with_reducible refine apzE_k ?_); (with_reducible refine apzK_mk (l.length + 1 - p) ⟨_, rfl, ?_⟩ ?_ ?_ ?_ ?_ ?_ ?_); (focus ((try simp only [LN] at *) <;> omega)); (focus ((try simp only [LN] at *) <;> omega)); (focus (exact Z.g_le (f := cK) rfl (by omega))); (iterate 2 (focus ((try simp only [LN] at *) <;> omega))); (focus rfl))
      | ((with_reducible refine cpyN.mk ?_ ?_ ?_ ?_); (focus rfl); (focus (exact one_all (by rfl))); (focus (exact Z.g_fit (f := cK) rfl (by omega) (by (try simp only [LN] at *) <;> omega))))
      | ((with_reducible refine cpyN.mk ?_ ?_ ?_ ?_); (focus (exact Z.g_len (f := cK) rfl (by (try simp only [LN] at *) <;> omega))); (focus (exact Z.g_one cK_one rfl)); (focus (exact Z.g_fit2 (f := cK) rfl (by omega) (by (try simp only [LN] at *) <;> omega) Z.gS_len)))
      | ((with_reducible refine cpyN.mk2 ?_ ?_ ?_ ?_); (focus (exact Z.g_lenp (f := cK) (by (try simp only [LN] at *) <;> omega))); (focus (exact Z.g_onep cK_one (Z.g_min (by (try simp only [LN] at *) <;> omega)))); (focus (exact Z.g_fitp (f := cK) (by (try simp only [LN] at *) <;> omega))))
      | ((with_reducible refine cpyN.mk ?_ ?_ ?_ ?_); (focus rfl); (focus (exact one_all (by rfl))); (focus (exact Z.g_fitp2 (f := cK) (by (try simp only [LN] at *) <;> omega) (Z.g_fitk (by (try simp only [LN] at *) <;> omega)))))
      | ((with_reducible apply Z.callZ_ovl (tS := 28) (tR := 4) tabOk Try.f117 Try.func117 (by kernel_rfl) (by kernel_rfl) (by kernel_rfl) (by kernel_rfl)); (iterate 4 (focus (exact rfl))); (focus (exact Nat.ne_of_beq_eq_false rfl)); (focus (simp; done)); (focus (exact Nat.zero_lt_succ _)))
      | ((with_reducible refine posE_pos ?_ ?_); (focus ((try simp only [LN] at *) <;> omega)))
      | ((with_reducible apply rowN_mk); (focus rfl))
      | ((with_reducible apply ixN_lit); (focus (exact rfl)); (focus (exact rfl)))
      | ((with_reducible refine slE_a ?_ ?_); (focus ((try simp only [LN] at *) <;> omega)))
      | ((with_reducible refine apdN.mk ?_ ?_ ?_ ?_ ?_ ?_); (focus (first | rfl)); (focus (first | exact one_all (by rfl))); (focus ((try simp only [LN] at *) <;> omega)); (focus ((try simp only [LN] at *) <;> omega)); (focus ((try simp only [LN] at *) <;> omega)))
      | with_reducible refine wr_i64 (by first | omega | (simp only [LN] at *; omega)) ?_
      | with_reducible first | refine Z.callZ_in tabOk 38 Try.f101 _ Try.func101 (by kernel_rfl) rfl rfl rfl ?_ | refine Z.callZ_in tabOk 67 Try.f60 _ Try.func60 (by kernel_rfl) rfl rfl rfl ?_ | refine Z.callZ_in tabOk 95 Try.f100 _ Try.func100 (by kernel_rfl) rfl rfl rfl ?_
      | ((first | (with_reducible refine Z.callZ_mk ?_ (cd) ?_) | (with_reducible refine Z.callZ_mk ?_ (ck) ?_) | (with_reducible refine Z.callZ_mk ?_ (cf) ?_) | (with_reducible refine Z.callZ_mk ?_ (cw) ?_)); (focus ((repeat' (first | exact trivial | exact rfl | apply And.intro)); done)))
      | ((with_reducible apply ex_and); exact rfl)
      | with_reducible first | refine Z.drawZ_rule tabOk mixOk ?_ | refine Z.apZ_mk (by kernel_rfl) ?_)
    all_goals (try (conv => whnf)))
  all_goals try (show Nat.ble _ _ = true; rfl)
  all_goals try (exfalso; rename_i hz; cases hz; done)
  all_goals try (exfalso; (try simp only [LN] at *) <;> omega)
  all_goals first
    | ((first | (with_reducible apply Z.retF2)); (focus (exact rfl)); (repeat' (first | exact trivial | (refine Z.frz_oslw (l := (l.take p ++ (⟨s, k, c.1, c.2⟩ : Kc) :: l.drop p)) (f := cK) (ty := 74) (bx := false) rfl ?_ ?_ (fun _ => rfl); (focus (first | (simp; omega))); (focus (first | exact (congrArg (List.take _) (Z.g_ins (f := cK) (v := (⟨s, k, c.1, c.2⟩ : Kc)) rfl (by omega) rfl (Z.gS_eq (by omega) rfl) (Z.gT_eq (f := cK) rfl (Nat.le_min.2 ⟨by omega, by omega⟩) (by omega)))).trans (List.take_of_length_le (by simp; omega)) | exact (congrArg (List.take _) (Z.g_insp (f := cK) (v := (⟨s, k, c.1, c.2⟩ : Kc)) (by omega) (Z.gS_eq (by omega) rfl) (Z.gT_eqp (f := cK) (by omega) (.inl ⟨(Nat.min_eq_right (by omega)).trans (by omega), by omega⟩)))).trans (List.take_of_length_le (by simp; omega))))) | (refine Z.fq_gsl (l := [(⟨s, k, y⟩ : Rcd)]) (f := cR) (g := eR) (sz := 3) (ty := 39) rfl (fun _ => rfl) ?_) | (with_reducible apply Z.frz_one) | (with_reducible apply Z.frz_agg) | (with_reducible apply Z.fq_int) | (exact Z.frz_nil) | exact rfl | apply And.intro)); (all_goals (try exact (fun _ => none))); all_goals (first | (simp; done)))
end Go.Proofs.Ytehhmkdghgabaaa
namespace Go.Proofs.Ytehhmkdghgabaaa
open Go Go.RowKit Wx
set_option linter.unusedVariables false
set_option linter.unusedSimpArgs false
set_option maxHeartbeats 4000000
theorem do_za (t w a b : Int) (ins : List Int) (l : List Kc) (s k v : Int) (c : Int × Int) (O : List Int) (p : Nat) (hi : ins.length ≤ 9223372036854775807) (hO : O.length ≤ 1) (hl : l.length ≤ 1000) (ht : tabR l = true) (hk : keyOk s k = true) (hth : thereR l s k = true) (hp : posR l s k = p) (hne : l ≠ []) (x : Kc) (hx : l[p]? = some x) (hc0 : x.cnt ≤ 9223372036854775807) (hr : Ops.doF t w ins a b x.cnt x.sum v = (c, O, 0)) (hc : c = (0, 0)) (hpl : p < l.length) (hpe : p + 1 = l.length) : Con Try.prog 64 [.agg [.v (.int .i64 t), .v (.int .i64 w), .ro false 1 (ins.map Ops.eI), .v (.int .i64 a), .v (.int .i64 b)], .agg [.ro false 4 (l.map eK)], .agg [.v (.int .i64 s), .v (.int .i64 k), .v (.int .i64 v)]] (fun rx rK rt => rx = .tup [.agg [.ro true 4 ((l.eraseIdx p).map eK)], .one (.ro true 3 ((O.map fun x => (⟨s, k, x⟩ : Rcd)).map eR)), .one (.v (.int .i64 0))] ∧ rK = [] ∧ rt = 0) := by
  refine Z.con_ofF tabOk 22 Try.f64 _ Try.func64 (by kernel_rfl) rfl rfl rfl rfl ?_
  have ck := rec_con s k v
  rw [hk] at ck
  simp only [cond_true, cond_false] at ck
  have cf := find_con l s k v hl ht
  rw [hth, hp] at cf
  have cd := Ops.do_con t w a b x.cnt x.sum v ins hi hc0
  rw [hr] at cd
  dsimp only at cd
  subst hc
  have cw := clonek_con l hl hne
  rcases O with _ | ⟨y, _ | ⟨z, O⟩⟩
  rotate_right 1
  · exact absurd hO (by simp)
  all_goals (
    repeat' ((conv => whnf); first
      | with_reducible first | refine spB_t ?_
      | ((with_reducible apply spB_cong); (focus (simp only [beq_self_eq_true, bne_self_eq_false, Bool.true_bne, Bool.false_bne, Bool.bne_true, Bool.bne_false, Bool.true_beq, Bool.false_beq, Bool.not_true, Bool.not_false, Bool.not_not, Int.reduceBEq, Int.reduceBNe, Int.reduceLE, Int.reduceLT, Int.reduceEq, decide_true, decide_false]; rfl)))
      | with_reducible first | refine spB_no (by decide) ?_
      | (with_reducible refine spB_dec ?_ ?_ <;> intro _ <;> (try (exfalso; first | contradiction | omega | (rename_i hz; refine hz ?_; simp; done) | (rename_i hz; simp at hz; done) | (simp only [LN] at *; omega))))
      | (with_reducible refine spB_beq ?_ ?_ <;> intro _ <;> (try (exfalso; first | contradiction | omega | (rename_i hz; refine hz ?_; simp; done) | (rename_i hz; simp at hz; done) | (simp only [LN] at *; omega))))
      | with_reducible first | refine Z.loopZ_unroll tabOk 3 ?_
      | ((apply Z.callZ_rwcapn (l.map cK)); (focus (exact rfl)); (focus (first | exact ren_map fun _ => rfl)); (intro capv hcapv))
      | ((with_reducible refine slN_hi (p) ?_ ?_ ?_); (focus rfl); (focus ((try simp only [LN] at *) <;> omega)))
      | ((with_reducible refine Z.slN_lo (p + 1) ?_ ?_ ?_); (focus rfl); (focus ((try simp only [LN] at *) <;> omega)))
      | ((with_reducible refine Z.slN_lhc (l.length - 1) l.length ?_ ?_ ?_ ?_ ?_); (iterate 3 (focus ((try simp only [LN] at *) <;> omega))); (focus (exact ⟨_, rfl, (by (try simp only [LN] at *) <;> omega)⟩)))
      | ((with_reducible refine apdE_r ?_); (with_reducible refine aprN.mk ⟨_, rfl, ?_⟩ ?_ ?_ ?_ ?_); (focus ((try simp only [LN] at *) <;> omega)); (focus rfl); (focus (exact one_all (by rfl))); (focus (exact Z.g_le (f := cK) rfl (by (try simp only [LN] at *) <;> omega))))
      | ((with_reducible refine clrN_mk ?_ ?_ ?_); (focus (exact Z.g_clr (f := cK) rfl (by first | (rw [Z.g_len (f := cK) (l := l) rfl (by (try simp only [LN] at *) <;> omega)]; omega) | (simp; omega)) (by (try simp only [LN] at *) <;> omega))); (focus rfl))
      | with_reducible first | refine Z.rowN_known hx ?_
      | ((with_reducible refine ixN_mk (p) ?_ ?_ ?_); (focus (first | rfl)); (focus ((try simp only [LN] at *) <;> omega)))
      | ((with_reducible refine posE_pos ?_ ?_); (focus ((try simp only [LN] at *) <;> omega)))
      | ((with_reducible apply rowN_mk); (focus rfl))
      | ((with_reducible apply ixN_lit); (focus (exact rfl)); (focus (exact rfl)))
      | ((with_reducible refine slE_a ?_ ?_); (focus ((try simp only [LN] at *) <;> omega)))
      | ((with_reducible refine slE_b ?_ ?_); (focus ((try simp only [LN] at *) <;> omega)))
      | ((with_reducible apply sl3N_mk); (focus (exact rfl)); (focus (exact rfl)); (focus (exact rfl)); (focus ((try simp only [LN] at *) <;> omega)); (focus ((try simp only [LN] at *) <;> omega)); (focus ((try simp only [LN] at *) <;> omega)); (focus ((try simp only [LN] at *) <;> omega)))
      | ((with_reducible refine apdN.mk ?_ ?_ ?_ ?_ ?_ ?_); (focus (first | rfl)); (focus (first | exact one_all (by rfl))); (focus ((try simp only [LN] at *) <;> omega)); (focus ((try simp only [LN] at *) <;> omega)); (focus ((try simp only [LN] at *) <;> omega)))
      | with_reducible refine wr_i64 (by first | omega | (simp only [LN] at *; omega)) ?_
      | with_reducible first | refine Z.callZ_in tabOk 38 Try.f101 _ Try.func101 (by kernel_rfl) rfl rfl rfl ?_ | refine Z.callZ_in tabOk 67 Try.f60 _ Try.func60 (by kernel_rfl) rfl rfl rfl ?_ | refine Z.callZ_in tabOk 33 Try.f99 _ Try.func99 (by kernel_rfl) rfl rfl rfl ?_
      | ((first | (with_reducible refine Z.callZ_mk ?_ (cd) ?_) | (with_reducible refine Z.callZ_mk ?_ (ck) ?_) | (with_reducible refine Z.callZ_mk ?_ (cf) ?_) | (with_reducible refine Z.callZ_mk ?_ (cw) ?_)); (focus ((repeat' (first | exact trivial | exact rfl | apply And.intro)); done)))
      | ((with_reducible apply ex_and); exact rfl)
      | with_reducible first | refine Z.drawZ_rule tabOk mixOk ?_ | refine Z.apZ_mk (by kernel_rfl) ?_)
    all_goals (try (conv => whnf)))
  all_goals try (show Nat.ble _ _ = true; rfl)
  all_goals try (exfalso; rename_i hz; cases hz; done)
  all_goals try (exfalso; (try simp only [LN] at *) <;> omega)
  all_goals first
    | ((first | (with_reducible apply Z.retF2)); (focus (exact rfl)); (repeat' (first | exact trivial | (refine Z.frz_oslw (l := l.eraseIdx p) (f := cK) (ty := 74) (bx := false) rfl ?_ ?_ (fun _ => rfl); (focus (rw [List.length_eraseIdx, if_pos hpl]; (try simp only [LN] at *) <;> omega)); (focus (first | exact Z.del_end (by omega)))) | (refine Z.fq_gsl (l := [(⟨s, k, y⟩ : Rcd)]) (f := cR) (g := eR) (sz := 3) (ty := 39) rfl (fun _ => rfl) ?_) | (with_reducible apply Z.frz_one) | (with_reducible apply Z.frz_agg) | (with_reducible apply Z.fq_int) | (exact Z.frz_nil) | exact rfl | apply And.intro)); (all_goals (try exact (fun _ => none))); all_goals (first | (simp; done)))
end Go.Proofs.Ytehhmkdghgabaaa
namespace Go.Proofs.Ytehhmkdghgabaaa
open Go Go.RowKit Wx
set_option linter.unusedVariables false
set_option linter.unusedSimpArgs false
set_option maxHeartbeats 4000000
theorem do_zi (t w a b : Int) (ins : List Int) (l : List Kc) (s k v : Int) (c : Int × Int) (O : List Int) (p : Nat) (hi : ins.length ≤ 9223372036854775807) (hO : O.length ≤ 1) (hl : l.length ≤ 1000) (ht : tabR l = true) (hk : keyOk s k = true) (hth : thereR l s k = true) (hp : posR l s k = p) (hne : l ≠ []) (x : Kc) (hx : l[p]? = some x) (hc0 : x.cnt ≤ 9223372036854775807) (hr : Ops.doF t w ins a b x.cnt x.sum v = (c, O, 0)) (hc : c = (0, 0)) (hpl : p < l.length) (hpe : p + 1 < l.length) : Con Try.prog 64 [.agg [.v (.int .i64 t), .v (.int .i64 w), .ro false 1 (ins.map Ops.eI), .v (.int .i64 a), .v (.int .i64 b)], .agg [.ro false 4 (l.map eK)], .agg [.v (.int .i64 s), .v (.int .i64 k), .v (.int .i64 v)]] (fun rx rK rt => rx = .tup [.agg [.ro true 4 ((l.eraseIdx p).map eK)], .one (.ro true 3 ((O.map fun x => (⟨s, k, x⟩ : Rcd)).map eR)), .one (.v (.int .i64 0))] ∧ rK = [] ∧ rt = 0) := by
  refine Z.con_ofF tabOk 22 Try.f64 _ Try.func64 (by kernel_rfl) rfl rfl rfl rfl ?_
  have ck := rec_con s k v
  rw [hk] at ck
  simp only [cond_true, cond_false] at ck
  have cf := find_con l s k v hl ht
  rw [hth, hp] at cf
  have cd := Ops.do_con t w a b x.cnt x.sum v ins hi hc0
  rw [hr] at cd
  dsimp only at cd
  subst hc
  have cw := clonek_con l hl hne
  rcases O with _ | ⟨y, _ | ⟨z, O⟩⟩
  rotate_right 1
  · exact absurd hO (by simp)
  all_goals (
    repeat' ((conv => whnf); first
      | with_reducible first | refine spB_t ?_
      | ((with_reducible apply spB_cong); (focus (simp only [beq_self_eq_true, bne_self_eq_false, Bool.true_bne, Bool.false_bne, Bool.bne_true, Bool.bne_false, Bool.true_beq, Bool.false_beq, Bool.not_true, Bool.not_false, Bool.not_not, Int.reduceBEq, Int.reduceBNe, Int.reduceLE, Int.reduceLT, Int.reduceEq, decide_true, decide_false]; rfl)))
      | with_reducible first | refine spB_no (by decide) ?_
      | (with_reducible refine spB_dec ?_ ?_ <;> intro _ <;> (try (exfalso; first | contradiction | omega | (rename_i hz; refine hz ?_; simp; done) | (rename_i hz; simp at hz; done) | (simp only [LN] at *; omega))))
      | (with_reducible refine spB_beq ?_ ?_ <;> intro _ <;> (try (exfalso; first | contradiction | omega | (rename_i hz; refine hz ?_; simp; done) | (rename_i hz; simp at hz; done) | (simp only [LN] at *; omega))))
      | with_reducible first | refine Z.loopZ_unroll tabOk 3 ?_
      | ((apply Z.callZ_rwcapn (l.map cK)); (focus (exact rfl)); (focus (first | exact ren_map fun _ => rfl)); (intro capv hcapv))
      | ((with_reducible refine slN_hi (p) ?_ ?_ ?_); (focus rfl); (focus ((try simp only [LN] at *) <;> omega)))
      | ((with_reducible refine Z.slN_lo (p + 1) ?_ ?_ ?_); (focus rfl); (focus ((try simp only [LN] at *) <;> omega)))
      | ((with_reducible refine Z.slN_lhc (l.length - 1) l.length ?_ ?_ ?_ ?_ ?_); (iterate 3 (focus ((try simp only [LN] at *) <;> omega))); (focus (exact ⟨_, rfl, (by (try simp only [LN] at *) <;> omega)⟩)))
      | ((with_reducible refine apdE_r ?_); (with_reducible refine aprN.mk ⟨_, rfl, ?_⟩ ?_ ?_ ?_ ?_); (focus ((try simp only [LN] at *) <;> omega)); (focus (exact Z.g_len (f := cK) rfl (by (try simp only [LN] at *) <;> omega))); (focus (exact Z.g_one cK_one rfl)); (focus (exact Z.g_le (f := cK) rfl (by (try simp only [LN] at *) <;> omega))))
      | ((with_reducible refine clrN_mk ?_ ?_ ?_); (focus (exact Z.g_clr (f := cK) rfl (by first | (rw [Z.g_len (f := cK) (l := l) rfl (by (try simp only [LN] at *) <;> omega)]; omega) | (simp; omega)) (by (try simp only [LN] at *) <;> omega))); (focus rfl))
      | with_reducible first | refine Z.rowN_known hx ?_
      | ((with_reducible refine ixN_mk (p) ?_ ?_ ?_); (focus (first | rfl)); (focus ((try simp only [LN] at *) <;> omega)))
      | ((with_reducible refine posE_pos ?_ ?_); (focus ((try simp only [LN] at *) <;> omega)))
      | ((with_reducible apply rowN_mk); (focus rfl))
      | ((with_reducible apply ixN_lit); (focus (exact rfl)); (focus (exact rfl)))
      | ((with_reducible refine slE_a ?_ ?_); (focus ((try simp only [LN] at *) <;> omega)))
      | ((with_reducible apply sl3N_mk); (focus (exact rfl)); (focus (exact rfl)); (focus (exact rfl)); (focus ((try simp only [LN] at *) <;> omega)); (focus ((try simp only [LN] at *) <;> omega)); (focus ((try simp only [LN] at *) <;> omega)); (focus ((try simp only [LN] at *) <;> omega)))
      | ((with_reducible refine apdN.mk ?_ ?_ ?_ ?_ ?_ ?_); (focus (first | rfl)); (focus (first | exact one_all (by rfl))); (focus ((try simp only [LN] at *) <;> omega)); (focus ((try simp only [LN] at *) <;> omega)); (focus ((try simp only [LN] at *) <;> omega)))
      | with_reducible refine wr_i64 (by first | omega | (simp only [LN] at *; omega)) ?_
      | with_reducible first | refine Z.callZ_in tabOk 38 Try.f101 _ Try.func101 (by kernel_rfl) rfl rfl rfl ?_ | refine Z.callZ_in tabOk 67 Try.f60 _ Try.func60 (by kernel_rfl) rfl rfl rfl ?_ | refine Z.callZ_in tabOk 33 Try.f99 _ Try.func99 (by kernel_rfl) rfl rfl rfl ?_
      | ((first | (with_reducible refine Z.callZ_mk ?_ (cd) ?_) | (with_reducible refine Z.callZ_mk ?_ (ck) ?_) | (with_reducible refine Z.callZ_mk ?_ (cf) ?_) | (with_reducible refine Z.callZ_mk ?_ (cw) ?_)); (focus ((repeat' (first | exact trivial | exact rfl | apply And.intro)); done)))
      | ((with_reducible apply ex_and); exact rfl)
      | with_reducible first | refine Z.drawZ_rule tabOk mixOk ?_ | refine Z.apZ_mk (by kernel_rfl) ?_)
    all_goals (try (conv => whnf)))
  all_goals try (show Nat.ble _ _ = true; rfl)
  all_goals try (exfalso; rename_i hz; cases hz; done)
  all_goals try (exfalso; (try simp only [LN] at *) <;> omega)
  all_goals first
    | ((first | (with_reducible apply Z.retF2)); (focus (exact rfl)); (repeat' (first | exact trivial | (refine Z.frz_oslw (l := l.eraseIdx p) (f := cK) (ty := 74) (bx := false) rfl ?_ ?_ (fun _ => rfl); (focus (rw [List.length_eraseIdx, if_pos hpl]; (try simp only [LN] at *) <;> omega)); (focus (first | exact Z.del_rows hpl (by simp)))) | (refine Z.fq_gsl (l := [(⟨s, k, y⟩ : Rcd)]) (f := cR) (g := eR) (sz := 3) (ty := 39) rfl (fun _ => rfl) ?_) | (with_reducible apply Z.frz_one) | (with_reducible apply Z.frz_agg) | (with_reducible apply Z.fq_int) | (exact Z.frz_nil) | exact rfl | apply And.intro)); (all_goals (try exact (fun _ => none))); all_goals (first | (simp; done)))
end Go.Proofs.Ytehhmkdghgabaaa
namespace Go.Proofs.Ytehhmkdghgabaaa
open Go Go.RowKit Wx
set_option linter.unusedVariables false
set_option linter.unusedSimpArgs false
set_option maxHeartbeats 4000000
theorem do_sa (t w a b : Int) (ins : List Int) (l : List Kc) (s k v : Int) (c : Int × Int) (O : List Int) (p : Nat) (hi : ins.length ≤ 9223372036854775807) (hO : O.length ≤ 1) (hl : l.length ≤ 1000) (ht : tabR l = true) (hk : keyOk s k = true) (hth : thereR l s k = true) (hp : posR l s k = p) (hne : l ≠ []) (x : Kc) (hx : l[p]? = some x) (hc0 : x.cnt ≤ 9223372036854775807) (hr : Ops.doF t w ins a b x.cnt x.sum v = (c, O, 0)) (hc : 0 < c.1) (hpl : p < l.length) (hpe : p + 1 = l.length) : Con Try.prog 64 [.agg [.v (.int .i64 t), .v (.int .i64 w), .ro false 1 (ins.map Ops.eI), .v (.int .i64 a), .v (.int .i64 b)], .agg [.ro false 4 (l.map eK)], .agg [.v (.int .i64 s), .v (.int .i64 k), .v (.int .i64 v)]] (fun rx rK rt => rx = .tup [.agg [.ro true 4 (((l.eraseIdx p).take p ++ (⟨s, k, c.1, c.2⟩ : Kc) :: (l.eraseIdx p).drop p).map eK)], .one (.ro true 3 ((O.map fun x => (⟨s, k, x⟩ : Rcd)).map eR)), .one (.v (.int .i64 0))] ∧ rK = [] ∧ rt = 0) := by
  refine Z.con_ofF tabOk 22 Try.f64 _ Try.func64 (by kernel_rfl) rfl rfl rfl rfl ?_
  have ck := rec_con s k v
  rw [hk] at ck
  simp only [cond_true, cond_false] at ck
  have cf := find_con l s k v hl ht
  rw [hth, hp] at cf
  have cd := Ops.do_con t w a b x.cnt x.sum v ins hi hc0
  rw [hr] at cd
  dsimp only at cd
  have hcz : (c.1 == 0 && (c.2 == 0 && true)) = false := by rw [show (c.1 == 0) = false by simp; omega]; rfl
  have cw := clonek_con l hl hne
  obtain ⟨L, hL⟩ : ∃ L, l.eraseIdx p = L := ⟨_, rfl⟩
  have hLl : L.length + 1 = l.length := by rw [← hL, List.length_eraseIdx, if_pos hpl]; omega
  rw [hL]
  rcases O with _ | ⟨y, _ | ⟨z, O⟩⟩
  rotate_right 1
  · exact absurd hO (by simp)
  all_goals (
    repeat' ((conv => whnf); first
      | with_reducible first | refine spB_t ?_
      | ((with_reducible apply spB_cong); (focus (simp only [beq_self_eq_true, bne_self_eq_false, Bool.true_bne, Bool.false_bne, Bool.bne_true, Bool.bne_false, Bool.true_beq, Bool.false_beq, Bool.not_true, Bool.not_false, Bool.not_not, Int.reduceBEq, Int.reduceBNe, Int.reduceLE, Int.reduceLT, Int.reduceEq, decide_true, decide_false]; rfl)))
      | with_reducible first | refine spB_no (by decide) ?_ | refine spB_not ?_ | refine spB_no (by assumption) ?_
      | (with_reducible refine spB_dec ?_ ?_ <;> intro _ <;> (try (exfalso; first | contradiction | omega | (rename_i hz; refine hz ?_; simp; done) | (rename_i hz; simp at hz; done) | (simp only [LN] at *; omega) | (rename_i hz; exact absurd (hcz.symm.trans hz) Bool.false_ne_true))))
      | (with_reducible refine spB_beq ?_ ?_ <;> intro _ <;> (try (exfalso; first | contradiction | omega | (rename_i hz; refine hz ?_; simp; done) | (rename_i hz; simp at hz; done) | (simp only [LN] at *; omega) | (rename_i hz; exact absurd (hcz.symm.trans hz) Bool.false_ne_true))))
      | with_reducible first | refine Z.loopZ_unroll tabOk 3 ?_
      | ((apply Z.callZ_tell (L.map cK ++ [cK ⟨0, 0, 0, 0⟩]) L.length); (focus (exact rfl)); (focus (exact (Z.del_full0 (f := cK) (z := (⟨0, 0, 0, 0⟩ : Kc)) rfl hpe rfl (by first | rfl | (rw [show l.length - (l.length - 1) = 1 by omega]; rfl))).trans (by rw [hL, List.map_append]; rfl))); (focus ((try simp only [LN] at *) <;> omega)))
      | ((apply Z.callZ_rwcapn (l.map cK)); (focus (exact rfl)); (focus (first | exact ren_map fun _ => rfl)); (intro capv hcapv))
      | ((with_reducible refine slN_hi (p) ?_ ?_ ?_); (focus rfl); (focus ((try simp only [LN] at *) <;> omega)))
      | ((with_reducible refine Z.slN_lo (p + 1) ?_ ?_ ?_); (focus rfl); (focus ((try simp only [LN] at *) <;> omega)))
      | ((with_reducible refine Z.slN_lhc (l.length - 1) l.length ?_ ?_ ?_ ?_ ?_); (iterate 3 (focus ((try simp only [LN] at *) <;> omega))); (focus (exact ⟨_, rfl, (by (try simp only [LN] at *) <;> omega)⟩)))
      | ((with_reducible refine apdE_r ?_); (with_reducible refine aprN.mk ⟨_, rfl, ?_⟩ ?_ ?_ ?_ ?_); (focus ((try simp only [LN] at *) <;> omega)); (focus rfl); (focus (exact one_all (by rfl))); (focus (exact Z.g_le (f := cK) rfl (by (try simp only [LN] at *) <;> omega))))
      | ((with_reducible refine clrN_mk ?_ ?_ ?_); (focus (exact Z.g_clr (f := cK) rfl (by first | (rw [Z.g_len (f := cK) (l := l) rfl (by (try simp only [LN] at *) <;> omega)]; omega) | (simp; omega)) (by (try simp only [LN] at *) <;> omega))); (focus rfl))
      | ((with_reducible refine Z.slN_lo (p) ?_ ?_ ?_); (focus rfl); (focus ((try simp only [LN] at *) <;> omega)))
      | with_reducible first | refine Z.rowN_known hx ?_
      | ((with_reducible refine ixN_mk (p) ?_ ?_ ?_); (focus (first | rfl)); (focus ((try simp only [LN] at *) <;> omega)))
      | ((with_reducible refine posE_pos ?_ ?_); (focus ((try simp only [LN] at *) <;> omega)))
      | ((with_reducible apply rowN_mk); (focus rfl))
      | ((with_reducible apply ixN_lit); (focus (exact rfl)); (focus (exact rfl)))
      | ((with_reducible refine apdE_r ?_); (with_reducible refine aprN.mk ⟨_, rfl, ?_⟩ ?_ ?_ ?_ ?_); (focus ((try simp only [LN] at *) <;> omega)); (focus (first | rfl)); (focus (first | exact one_all (by rfl))); (focus ((try simp only [LN] at *) <;> omega)))
      | ((with_reducible refine slE_a ?_ ?_); (focus ((try simp only [LN] at *) <;> omega)))
      | ((with_reducible refine slE_b ?_ ?_); (focus ((try simp only [LN] at *) <;> omega)))
      | ((with_reducible apply sl3N_mk); (focus (exact rfl)); (focus (exact rfl)); (focus (exact rfl)); (focus ((try simp only [LN] at *) <;> omega)); (focus ((try simp only [LN] at *) <;> omega)); (focus ((try simp only [LN] at *) <;> omega)); (focus ((try simp only [LN] at *) <;> omega)))
      | ((with_reducible refine apdN.mk ?_ ?_ ?_ ?_ ?_ ?_); (focus (first | rfl)); (focus (first | exact one_all (by rfl))); (focus ((try simp only [LN] at *) <;> omega)); (focus ((try simp only [LN] at *) <;> omega)); (focus ((try simp only [LN] at *) <;> omega)))
      | with_reducible refine wr_i64 (by first | omega | (simp only [LN] at *; omega)) ?_
      | with_reducible first | refine Z.callZ_in tabOk 38 Try.f101 _ Try.func101 (by kernel_rfl) rfl rfl rfl ?_ | refine Z.callZ_in tabOk 67 Try.f60 _ Try.func60 (by kernel_rfl) rfl rfl rfl ?_ | refine Z.callZ_in tabOk 33 Try.f99 _ Try.func99 (by kernel_rfl) rfl rfl rfl ?_ | refine Z.callZ_in tabOk 95 Try.f100 _ Try.func100 (by kernel_rfl) rfl rfl rfl ?_
      | ((first | (with_reducible refine Z.callZ_mk ?_ (cd) ?_) | (with_reducible refine Z.callZ_mk ?_ (ck) ?_) | (with_reducible refine Z.callZ_mk ?_ (cf) ?_) | (with_reducible refine Z.callZ_mk ?_ (cw) ?_)); (focus ((repeat' (first | exact trivial | exact rfl | apply And.intro)); done)))
      | ((with_reducible apply ex_and); exact rfl)
      | with_reducible first | refine Z.drawZ_rule tabOk mixOk ?_ | refine Z.apZ_mk (by kernel_rfl) ?_)
    all_goals (try (conv => whnf)))
  all_goals try (show Nat.ble _ _ = true; rfl)
  all_goals try (exfalso; rename_i hz; cases hz; done)
  all_goals try (exfalso; (try simp only [LN] at *) <;> omega)
  all_goals (have hpL : p = L.length := by omega)
  all_goals (rw [show L.take p ++ (⟨s, k, c.1, c.2⟩ : Kc) :: L.drop p = L ++ [⟨s, k, c.1, c.2⟩] by rw [hpL, List.take_length, List.drop_length]])
  all_goals first
    | ((first | (with_reducible apply Z.retF2)); (focus (exact rfl)); (repeat' (first | exact trivial | (refine Z.frz_oslw (l := (L ++ [(⟨s, k, c.1, c.2⟩ : Kc)])) (f := cK) (ty := 74) (bx := false) rfl ?_ ?_ (fun _ => rfl); (focus (first | (simp; done))); (focus (first | exact (congrArg (List.take _) (Z.g_appr (f := cK) (l := L) (g := cK ⟨0, 0, 0, 0⟩) (v := (⟨s, k, c.1, c.2⟩ : Kc)) rfl rfl)).trans (List.take_of_length_le (by simp))))) | (refine Z.fq_gsl (l := [(⟨s, k, y⟩ : Rcd)]) (f := cR) (g := eR) (sz := 3) (ty := 39) rfl (fun _ => rfl) ?_) | (with_reducible apply Z.frz_one) | (with_reducible apply Z.frz_agg) | (with_reducible apply Z.fq_int) | (exact Z.frz_nil) | exact rfl | apply And.intro)); (all_goals (try exact (fun _ => none))); all_goals (first | (simp; done)))
end Go.Proofs.Ytehhmkdghgabaaa
namespace Go.Proofs.Ytehhmkdghgabaaa
open Go Go.RowKit Wx
set_option linter.unusedVariables false
set_option linter.unusedSimpArgs false
set_option maxHeartbeats 4000000
theorem do_si (t w a b : Int) (ins : List Int) (l : List Kc) (s k v : Int) (c : Int × Int) (O : List Int) (p : Nat) (hi : ins.length ≤ 9223372036854775807) (hO : O.length ≤ 1) (hl : l.length ≤ 1000) (ht : tabR l = true) (hk : keyOk s k = true) (hth : thereR l s k = true) (hp : posR l s k = p) (hne : l ≠ []) (x : Kc) (hx : l[p]? = some x) (hc0 : x.cnt ≤ 9223372036854775807) (hr : Ops.doF t w ins a b x.cnt x.sum v = (c, O, 0)) (hc : 0 < c.1) (hpl : p < l.length) (hpe : p + 1 < l.length) : Con Try.prog 64 [.agg [.v (.int .i64 t), .v (.int .i64 w), .ro false 1 (ins.map Ops.eI), .v (.int .i64 a), .v (.int .i64 b)], .agg [.ro false 4 (l.map eK)], .agg [.v (.int .i64 s), .v (.int .i64 k), .v (.int .i64 v)]] (fun rx rK rt => rx = .tup [.agg [.ro true 4 (((l.eraseIdx p).take p ++ (⟨s, k, c.1, c.2⟩ : Kc) :: (l.eraseIdx p).drop p).map eK)], .one (.ro true 3 ((O.map fun x => (⟨s, k, x⟩ : Rcd)).map eR)), .one (.v (.int .i64 0))] ∧ rK = [] ∧ rt = 0) := by
  refine Z.con_ofF tabOk 22 Try.f64 _ Try.func64 (by kernel_rfl) rfl rfl rfl rfl ?_
  have ck := rec_con s k v
  rw [hk] at ck
  simp only [cond_true, cond_false] at ck
  have cf := find_con l s k v hl ht
  rw [hth, hp] at cf
  have cd := Ops.do_con t w a b x.cnt x.sum v ins hi hc0
  rw [hr] at cd
  dsimp only at cd
  have hcz : (c.1 == 0 && (c.2 == 0 && true)) = false := by rw [show (c.1 == 0) = false by simp; omega]; rfl
  have cw := clonek_con l hl hne
  obtain ⟨L, hL⟩ : ∃ L, l.eraseIdx p = L := ⟨_, rfl⟩
  have hLl : L.length + 1 = l.length := by rw [← hL, List.length_eraseIdx, if_pos hpl]; omega
  rw [hL]
  rcases O with _ | ⟨y, _ | ⟨z, O⟩⟩
  rotate_right 1
  · exact absurd hO (by simp)
  all_goals (
    repeat' ((conv => whnf); first
      | with_reducible first | refine spB_t ?_
      | ((with_reducible apply spB_cong); (focus (simp only [beq_self_eq_true, bne_self_eq_false, Bool.true_bne, Bool.false_bne, Bool.bne_true, Bool.bne_false, Bool.true_beq, Bool.false_beq, Bool.not_true, Bool.not_false, Bool.not_not, Int.reduceBEq, Int.reduceBNe, Int.reduceLE, Int.reduceLT, Int.reduceEq, decide_true, decide_false]; rfl)))
      | with_reducible first | refine spB_no (by decide) ?_ | refine spB_not ?_ | refine spB_no (by assumption) ?_
      | (with_reducible refine spB_dec ?_ ?_ <;> intro _ <;> (try (exfalso; first | contradiction | omega | (rename_i hz; refine hz ?_; simp; done) | (rename_i hz; simp at hz; done) | (simp only [LN] at *; omega) | (rename_i hz; exact absurd (hcz.symm.trans hz) Bool.false_ne_true))))
      | (with_reducible refine spB_beq ?_ ?_ <;> intro _ <;> (try (exfalso; first | contradiction | omega | (rename_i hz; refine hz ?_; simp; done) | (rename_i hz; simp at hz; done) | (simp only [LN] at *; omega) | (rename_i hz; exact absurd (hcz.symm.trans hz) Bool.false_ne_true))))
      | with_reducible first | refine Z.loopZ_unroll tabOk 3 ?_
      | ((apply Z.callZ_tell (L.map cK ++ [cK ⟨0, 0, 0, 0⟩]) L.length); (focus (exact rfl)); (focus (exact (Z.del_full (f := cK) (z := (⟨0, 0, 0, 0⟩ : Kc)) rfl hpl rfl (by first | rfl | (rw [show l.length - (l.length - 1) = 1 by omega]; rfl))).trans (by rw [hL, List.map_append]; rfl))); (focus ((try simp only [LN] at *) <;> omega)))
      | ((apply Z.callZ_rwcapn (l.map cK)); (focus (exact rfl)); (focus (first | exact ren_map fun _ => rfl)); (intro capv hcapv))
      | ((with_reducible refine slN_hi (p) ?_ ?_ ?_); (focus rfl); (focus ((try simp only [LN] at *) <;> omega)))
      | ((with_reducible refine Z.slN_lo (p + 1) ?_ ?_ ?_); (focus rfl); (focus ((try simp only [LN] at *) <;> omega)))
      | ((with_reducible refine Z.slN_lhc (l.length - 1) l.length ?_ ?_ ?_ ?_ ?_); (iterate 3 (focus ((try simp only [LN] at *) <;> omega))); (focus (exact ⟨_, rfl, (by (try simp only [LN] at *) <;> omega)⟩)))
      | ((with_reducible refine apdE_r ?_); (with_reducible refine aprN.mk ⟨_, rfl, ?_⟩ ?_ ?_ ?_ ?_); (focus ((try simp only [LN] at *) <;> omega)); (focus (exact Z.g_len (f := cK) rfl (by (try simp only [LN] at *) <;> omega))); (focus (exact Z.g_one cK_one rfl)); (focus (exact Z.g_le (f := cK) rfl (by (try simp only [LN] at *) <;> omega))))
      | ((with_reducible refine clrN_mk ?_ ?_ ?_); (focus (exact Z.g_clr (f := cK) rfl (by first | (rw [Z.g_len (f := cK) (l := l) rfl (by (try simp only [LN] at *) <;> omega)]; omega) | (simp; omega)) (by (try simp only [LN] at *) <;> omega))); (focus rfl))
      | ((with_reducible refine Z.slN_lo (p) ?_ ?_ ?_); (focus rfl); (focus ((try simp only [LN] at *) <;> omega)))
      | ((with_reducible refine Z.slN_hc (L.length + 1) ?_ ?_ ?_); (focus rfl); (focus (exact ⟨_, rfl, by first | omega | (dsimp only; omega) | (simp; omega)⟩)))
      | ((with_reducible refine cpyN.mk2 ?_ ?_ ?_ ?_); (focus (exact Z.g_lenp (f := cK) (by (try simp only [LN] at *) <;> omega))); (focus (exact Z.g_onep cK_one (Z.g_min (by (try simp only [LN] at *) <;> omega)))); (focus (exact Z.g_fitp (f := cK) (by (try simp only [LN] at *) <;> omega))))
      | ((with_reducible refine cpyN.mk ?_ ?_ ?_ ?_); (focus rfl); (focus (exact one_all (by rfl))); (focus (exact Z.g_fitp2 (f := cK) (by (try simp only [LN] at *) <;> omega) (Z.g_fitk (by (try simp only [LN] at *) <;> omega)))))
      | ((with_reducible apply Z.callZ_ovl (tS := 28) (tR := 4) tabOk Try.f117 Try.func117 (by kernel_rfl) (by kernel_rfl) (by kernel_rfl) (by kernel_rfl)); (iterate 4 (focus (exact rfl))); (focus (exact Nat.ne_of_beq_eq_false rfl)); (focus (simp; done)); (focus (exact Nat.zero_lt_succ _)))
      | with_reducible first | refine Z.rowN_known hx ?_
      | ((with_reducible refine ixN_mk (p) ?_ ?_ ?_); (focus (first | rfl)); (focus ((try simp only [LN] at *) <;> omega)))
      | ((with_reducible refine posE_pos ?_ ?_); (focus ((try simp only [LN] at *) <;> omega)))
      | ((with_reducible apply rowN_mk); (focus rfl))
      | ((with_reducible apply ixN_lit); (focus (exact rfl)); (focus (exact rfl)))
      | ((with_reducible refine slE_a ?_ ?_); (focus ((try simp only [LN] at *) <;> omega)))
      | ((with_reducible apply sl3N_mk); (focus (exact rfl)); (focus (exact rfl)); (focus (exact rfl)); (focus ((try simp only [LN] at *) <;> omega)); (focus ((try simp only [LN] at *) <;> omega)); (focus ((try simp only [LN] at *) <;> omega)); (focus ((try simp only [LN] at *) <;> omega)))
      | ((with_reducible refine apdN.mk ?_ ?_ ?_ ?_ ?_ ?_); (focus (first | rfl)); (focus (first | exact one_all (by rfl))); (focus ((try simp only [LN] at *) <;> omega)); (focus ((try simp only [LN] at *) <;> omega)); (focus ((try simp only [LN] at *) <;> omega)))
      | with_reducible refine wr_i64 (by first | omega | (simp only [LN] at *; omega)) ?_
      | with_reducible first | refine Z.callZ_in tabOk 38 Try.f101 _ Try.func101 (by kernel_rfl) rfl rfl rfl ?_ | refine Z.callZ_in tabOk 67 Try.f60 _ Try.func60 (by kernel_rfl) rfl rfl rfl ?_ | refine Z.callZ_in tabOk 33 Try.f99 _ Try.func99 (by kernel_rfl) rfl rfl rfl ?_ | refine Z.callZ_in tabOk 95 Try.f100 _ Try.func100 (by kernel_rfl) rfl rfl rfl ?_
      | ((first | (with_reducible refine Z.callZ_mk ?_ (cd) ?_) | (with_reducible refine Z.callZ_mk ?_ (ck) ?_) | (with_reducible refine Z.callZ_mk ?_ (cf) ?_) | (with_reducible refine Z.callZ_mk ?_ (cw) ?_)); (focus ((repeat' (first | exact trivial | exact rfl | apply And.intro)); done)))
      | ((with_reducible apply ex_and); exact rfl)
      | with_reducible first | refine Z.drawZ_rule tabOk mixOk ?_ | refine Z.apZ_mk (by kernel_rfl) ?_)
    all_goals (try (conv => whnf)))
  all_goals try (show Nat.ble _ _ = true; rfl)
  all_goals try (exfalso; rename_i hz; cases hz; done)
  all_goals try (exfalso; (try simp only [LN] at *) <;> omega)
  all_goals first
    | ((first | (with_reducible apply Z.retF2)); (focus (exact rfl)); (repeat' (first | exact trivial | (refine Z.frz_oslw (l := (L.take p ++ (⟨s, k, c.1, c.2⟩ : Kc) :: L.drop p)) (f := cK) (ty := 74) (bx := false) rfl ?_ ?_ (fun _ => rfl); (focus (first | (simp; omega))); (focus (first | exact (congrArg (List.take _) (Z.g_insp (f := cK) (l := L) (g := cK ⟨0, 0, 0, 0⟩) (v := (⟨s, k, c.1, c.2⟩ : Kc)) (by omega) (Z.gS_eq (by omega) rfl) (Z.gT_eqp (f := cK) (by omega) (.inl ⟨(Nat.min_eq_right (by omega)).trans (by omega), by omega⟩)))).trans (List.take_of_length_le (by simp; omega))))) | (refine Z.fq_gsl (l := [(⟨s, k, y⟩ : Rcd)]) (f := cR) (g := eR) (sz := 3) (ty := 39) rfl (fun _ => rfl) ?_) | (with_reducible apply Z.frz_one) | (with_reducible apply Z.frz_agg) | (with_reducible apply Z.fq_int) | (exact Z.frz_nil) | exact rfl | apply And.intro)); (all_goals (try exact (fun _ => none))); all_goals (first | (simp; done)))
end Go.Proofs.Ytehhmkdghgabaaa
namespace Go.Proofs.Ytehhmkdghgabaaa
open Go Go.RowKit Wx
set_option linter.unusedVariables false
set_option linter.unusedSimpArgs false
set_option maxHeartbeats 4000000
theorem do_0zn (t w a b : Int) (ins : List Int) (s k v : Int) (c : Int × Int) (O : List Int) (hi : ins.length ≤ 9223372036854775807) (hO : O.length ≤ 1) (hk : keyOk s k = true) (hr : Ops.doF t w ins a b 0 0 v = (c, O, 0)) (hc : c = (0, 0)) : Con Try.prog 64 [.agg [.v (.int .i64 t), .v (.int .i64 w), .ro false 1 (ins.map Ops.eI), .v (.int .i64 a), .v (.int .i64 b)], .agg [.v (.slice none 0 0)], .agg [.v (.int .i64 s), .v (.int .i64 k), .v (.int .i64 v)]] (fun rx rK rt => rx = .tup [.agg [.ro true 4 (([] : List Kc).map eK)], .one (.ro true 3 ((O.map fun x => (⟨s, k, x⟩ : Rcd)).map eR)), .one (.v (.int .i64 0))] ∧ rK = [] ∧ rt = 0) := by
  refine Z.con_ofF tabOk 22 Try.f64 _ Try.func64 (by kernel_rfl) rfl rfl rfl rfl ?_
  have ck := rec_con s k v
  rw [hk] at ck
  simp only [cond_true] at ck
  have cf := find_con [] s k v (by simp) rfl
  rw [show thereR [] s k = false from rfl, show posR [] s k = 0 from rfl] at cf
  have cd := Ops.do_con t w a b 0 0 v ins hi (by decide)
  rw [hr] at cd
  dsimp only at cd
  subst hc
  have cw := clonek_0
  rcases O with _ | ⟨y, _ | ⟨z, O⟩⟩
  rotate_right 1
  · exact absurd hO (by simp)
  all_goals (
    repeat' ((conv => whnf); first
      | ((with_reducible apply spB_cong); (focus (simp only [beq_self_eq_true, bne_self_eq_false, Bool.true_bne, Bool.false_bne, Bool.bne_true, Bool.bne_false, Bool.true_beq, Bool.false_beq, Bool.not_true, Bool.not_false, Bool.not_not, Int.reduceBEq, Int.reduceBNe, Int.reduceLE, Int.reduceLT, Int.reduceEq, decide_true, decide_false]; rfl)))
      | with_reducible first | refine spB_no (by decide) ?_
      | (with_reducible refine spB_dec ?_ ?_ <;> intro _ <;> (try (exfalso; first | contradiction | omega | (rename_i hz; refine hz ?_; simp; done) | (rename_i hz; simp at hz; done) | (simp only [LN] at *; omega))))
      | with_reducible first | refine Z.loopZ_unroll tabOk 3 ?_
      | ((with_reducible refine posE_pos ?_ ?_); (focus ((try simp only [LN] at *) <;> omega)))
      | ((with_reducible apply rowN_mk); (focus rfl))
      | ((with_reducible apply ixN_lit); (focus (exact rfl)); (focus (exact rfl)))
      | ((with_reducible refine apdN.mk ?_ ?_ ?_ ?_ ?_ ?_); (focus (first | rfl)); (focus (first | exact one_all (by rfl))); (focus ((try simp only [LN] at *) <;> omega)); (focus ((try simp only [LN] at *) <;> omega)); (focus ((try simp only [LN] at *) <;> omega)))
      | with_reducible refine wr_i64 (by first | omega | (simp only [LN] at *; omega)) ?_
      | with_reducible first | refine Z.callZ_in tabOk 38 Try.f101 _ Try.func101 (by kernel_rfl) rfl rfl rfl ?_ | refine Z.callZ_in tabOk 67 Try.f60 _ Try.func60 (by kernel_rfl) rfl rfl rfl ?_
      | ((first | (with_reducible refine Z.callZ_mk ?_ (cd) ?_) | (with_reducible refine Z.callZ_mk ?_ (ck) ?_) | (with_reducible refine Z.callZ_mk ?_ (cf) ?_) | (with_reducible refine Z.callZ_mk ?_ (cw) ?_)); (focus ((repeat' (first | exact trivial | exact rfl | exact Z.low_nil | exact .inl rfl | apply And.intro)); done)))
      | ((with_reducible apply ex_and); exact rfl)
      | with_reducible first | refine Z.drawZ_rule tabOk mixOk ?_ | refine Z.apZ_mk (by kernel_rfl) ?_)
    all_goals (try (conv => whnf)))
  all_goals try (show Nat.ble _ _ = true; rfl)
  all_goals try (exfalso; rename_i hz; cases hz; done)
  all_goals try (exfalso; (try simp only [LN] at *) <;> omega)
  all_goals first
    | ((first | (with_reducible apply Z.retF2)); (focus (exact rfl)); (repeat' (first | exact trivial | (refine Z.fq_gsl (l := [(⟨s, k, y⟩ : Rcd)]) (f := cR) (g := eR) (sz := 3) (ty := 39) rfl (fun _ => rfl) ?_) | (with_reducible apply Z.frz_one) | (with_reducible apply Z.frz_agg) | (with_reducible apply Z.fq_int) | (exact Z.frz_nil) | exact rfl | apply And.intro)); (all_goals (try exact (fun _ => none))); all_goals (first | (simp; done)))
theorem do_0ze (t w a b : Int) (ins : List Int) (ad : Addr) (cap : Nat) (s k v : Int) (c : Int × Int) (O : List Int) (hi : ins.length ≤ 9223372036854775807) (hO : O.length ≤ 1) (hk : keyOk s k = true) (hr : Ops.doF t w ins a b 0 0 v = (c, O, 0)) (hc : c = (0, 0)) : Con Try.prog 64 [.agg [.v (.int .i64 t), .v (.int .i64 w), .ro false 1 (ins.map Ops.eI), .v (.int .i64 a), .v (.int .i64 b)], .agg [.v (.slice (some ad) 0 cap)], .agg [.v (.int .i64 s), .v (.int .i64 k), .v (.int .i64 v)]] (fun rx rK rt => rx = .tup [.agg [.ro true 4 (([] : List Kc).map eK)], .one (.ro true 3 ((O.map fun x => (⟨s, k, x⟩ : Rcd)).map eR)), .one (.v (.int .i64 0))] ∧ rK = [] ∧ rt = 0) := by
  refine Z.con_ofF tabOk 22 Try.f64 _ Try.func64 (by kernel_rfl) rfl rfl rfl rfl ?_
  have ck := rec_con s k v
  rw [hk] at ck
  simp only [cond_true] at ck
  have cf := find_con [] s k v (by simp) rfl
  rw [show thereR [] s k = false from rfl, show posR [] s k = 0 from rfl] at cf
  have cd := Ops.do_con t w a b 0 0 v ins hi (by decide)
  rw [hr] at cd
  dsimp only at cd
  subst hc
  have cf := con_empagg ad cap cf
  have cw := clonek_1 ad cap
  rcases O with _ | ⟨y, _ | ⟨z, O⟩⟩
  rotate_right 1
  · exact absurd hO (by simp)
  all_goals (
    repeat' ((conv => whnf); first
      | ((with_reducible apply spB_cong); (focus (simp only [beq_self_eq_true, bne_self_eq_false, Bool.true_bne, Bool.false_bne, Bool.bne_true, Bool.bne_false, Bool.true_beq, Bool.false_beq, Bool.not_true, Bool.not_false, Bool.not_not, Int.reduceBEq, Int.reduceBNe, Int.reduceLE, Int.reduceLT, Int.reduceEq, decide_true, decide_false]; rfl)))
      | with_reducible first | refine spB_no (by decide) ?_
      | (with_reducible refine spB_dec ?_ ?_ <;> intro _ <;> (try (exfalso; first | contradiction | omega | (rename_i hz; refine hz ?_; simp; done) | (rename_i hz; simp at hz; done) | (simp only [LN] at *; omega))))
      | with_reducible first | refine Z.loopZ_unroll tabOk 3 ?_
      | ((with_reducible refine posE_pos ?_ ?_); (focus ((try simp only [LN] at *) <;> omega)))
      | ((with_reducible apply rowN_mk); (focus rfl))
      | ((with_reducible apply ixN_lit); (focus (exact rfl)); (focus (exact rfl)))
      | ((with_reducible refine apdN.mk ?_ ?_ ?_ ?_ ?_ ?_); (focus (first | rfl)); (focus (first | exact one_all (by rfl))); (focus ((try simp only [LN] at *) <;> omega)); (focus ((try simp only [LN] at *) <;> omega)); (focus ((try simp only [LN] at *) <;> omega)))
      | with_reducible refine wr_i64 (by first | omega | (simp only [LN] at *; omega)) ?_
      | with_reducible first | refine Z.callZ_in tabOk 38 Try.f101 _ Try.func101 (by kernel_rfl) rfl rfl rfl ?_ | refine Z.callZ_in tabOk 67 Try.f60 _ Try.func60 (by kernel_rfl) rfl rfl rfl ?_
      | ((first | (with_reducible refine Z.callZ_mk ?_ (cd) ?_) | (with_reducible refine Z.callZ_mk ?_ (ck) ?_) | (with_reducible refine Z.callZ_mk ?_ (cf) ?_) | (with_reducible refine Z.callZ_mk ?_ (cw) ?_)); (focus ((repeat' (first | exact trivial | exact rfl | apply And.intro)); done)))
      | ((with_reducible apply ex_and); exact rfl)
      | with_reducible first | refine Z.drawZ_rule tabOk mixOk ?_ | refine Z.apZ_mk (by kernel_rfl) ?_)
    all_goals (try (conv => whnf)))
  all_goals try (show Nat.ble _ _ = true; rfl)
  all_goals try (exfalso; rename_i hz; cases hz; done)
  all_goals try (exfalso; (try simp only [LN] at *) <;> omega)
  all_goals first
    | ((first | (with_reducible apply Z.retF2)); (focus (exact rfl)); (repeat' (first | exact trivial | (refine Z.fq_gsl (l := [(⟨s, k, y⟩ : Rcd)]) (f := cR) (g := eR) (sz := 3) (ty := 39) rfl (fun _ => rfl) ?_) | (with_reducible apply Z.frz_one) | (with_reducible apply Z.frz_agg) | (with_reducible apply Z.fq_int) | (exact Z.frz_nil) | (exact Z.frz_osl0 rfl rfl rfl) | exact rfl | apply And.intro)); (all_goals (try exact (fun _ => none))); all_goals (first | (simp; done)))
end Go.Proofs.Ytehhmkdghgabaaa
namespace Go.Proofs.Ytehhmkdghgabaaa
open Go Go.RowKit Wx
set_option linter.unusedVariables false
set_option linter.unusedSimpArgs false
set_option maxHeartbeats 4000000
theorem do_0cn (t w a b : Int) (ins : List Int) (s k v : Int) (c : Int × Int) (O : List Int) (hi : ins.length ≤ 9223372036854775807) (hO : O.length ≤ 1) (hk : keyOk s k = true) (hr : Ops.doF t w ins a b 0 0 v = (c, O, 0)) (hc : 0 < c.1) : Con Try.prog 64 [.agg [.v (.int .i64 t), .v (.int .i64 w), .ro false 1 (ins.map Ops.eI), .v (.int .i64 a), .v (.int .i64 b)], .agg [.v (.slice none 0 0)], .agg [.v (.int .i64 s), .v (.int .i64 k), .v (.int .i64 v)]] (fun rx rK rt => rx = .tup [.agg [.ro true 4 ([(⟨s, k, c.1, c.2⟩ : Kc)].map eK)], .one (.ro true 3 ((O.map fun x => (⟨s, k, x⟩ : Rcd)).map eR)), .one (.v (.int .i64 0))] ∧ rK = [] ∧ rt = 0) := by
  refine Z.con_ofF tabOk 22 Try.f64 _ Try.func64 (by kernel_rfl) rfl rfl rfl rfl ?_
  have ck := rec_con s k v
  rw [hk] at ck
  simp only [cond_true] at ck
  have cf := find_con [] s k v (by simp) rfl
  rw [show thereR [] s k = false from rfl, show posR [] s k = 0 from rfl] at cf
  have cd := Ops.do_con t w a b 0 0 v ins hi (by decide)
  rw [hr] at cd
  dsimp only at cd
  have hcz : (c.1 == 0 && (c.2 == 0 && true)) = false := by rw [show (c.1 == 0) = false by simp; omega]; rfl
  have cw := clonek_0
  rcases O with _ | ⟨y, _ | ⟨z, O⟩⟩
  rotate_right 1
  · exact absurd hO (by simp)
  all_goals (
    repeat' ((conv => whnf); first
      | with_reducible first | refine spB_t ?_
      | ((with_reducible apply spB_cong); (focus (simp only [beq_self_eq_true, bne_self_eq_false, Bool.true_bne, Bool.false_bne, Bool.bne_true, Bool.bne_false, Bool.true_beq, Bool.false_beq, Bool.not_true, Bool.not_false, Bool.not_not, Int.reduceBEq, Int.reduceBNe, Int.reduceLE, Int.reduceLT, Int.reduceEq, decide_true, decide_false]; rfl)))
      | with_reducible first | refine spB_no (by decide) ?_ | refine spB_not ?_ | refine spB_no (by assumption) ?_
      | (with_reducible refine spB_dec ?_ ?_ <;> intro _ <;> (try (exfalso; first | contradiction | omega | (rename_i hz; refine hz ?_; simp; done) | (rename_i hz; simp at hz; done) | (simp only [LN] at *; omega) | (rename_i hz; exact absurd (hcz.symm.trans hz) Bool.false_ne_true))))
      | with_reducible first | refine Z.loopZ_unroll tabOk 3 ?_
      | ((with_reducible refine Z.slN_lo 0 ?_ ?_ ?_); (focus rfl); (focus ((try simp only [LN] at *) <;> omega)))
      | ((with_reducible refine posE_pos ?_ ?_); (focus ((try simp only [LN] at *) <;> omega)))
      | ((with_reducible apply rowN_mk); (focus rfl))
      | ((with_reducible apply ixN_lit); (focus (exact rfl)); (focus (exact rfl)))
      | ((with_reducible refine apdN.mk ?_ ?_ ?_ ?_ ?_ ?_); (focus (first | rfl)); (focus (first | exact one_all (by rfl))); (focus ((try simp only [LN] at *) <;> omega)); (focus ((try simp only [LN] at *) <;> omega)); (focus ((try simp only [LN] at *) <;> omega)))
      | with_reducible refine wr_i64 (by first | omega | (simp only [LN] at *; omega)) ?_
      | with_reducible first | refine Z.callZ_in tabOk 38 Try.f101 _ Try.func101 (by kernel_rfl) rfl rfl rfl ?_ | refine Z.callZ_in tabOk 67 Try.f60 _ Try.func60 (by kernel_rfl) rfl rfl rfl ?_ | refine Z.callZ_in tabOk 95 Try.f100 _ Try.func100 (by kernel_rfl) rfl rfl rfl ?_
      | ((first | (with_reducible refine Z.callZ_mk ?_ (cd) ?_) | (with_reducible refine Z.callZ_mk ?_ (ck) ?_) | (with_reducible refine Z.callZ_mk ?_ (cf) ?_) | (with_reducible refine Z.callZ_mk ?_ (cw) ?_)); (focus ((repeat' (first | exact trivial | exact rfl | exact Z.low_nil | exact .inl rfl | apply And.intro)); done)))
      | ((with_reducible apply ex_and); exact rfl)
      | with_reducible first | refine Z.drawZ_rule tabOk mixOk ?_ | refine Z.apZ_mk (by kernel_rfl) ?_)
    all_goals (try (conv => whnf)))
  all_goals try (show Nat.ble _ _ = true; rfl)
  all_goals try (exfalso; rename_i hz; cases hz; done)
  all_goals try (exfalso; (try simp only [LN] at *) <;> omega)
  all_goals first
    | ((first | (with_reducible apply Z.retF2)); (focus (exact rfl)); (repeat' (first | exact trivial | (refine Z.fq_gsl (l := [(⟨s, k, y⟩ : Rcd)]) (f := cR) (g := eR) (sz := 3) (ty := 39) rfl (fun _ => rfl) ?_) | (refine Z.fq_gsl (l := [(⟨s, k, c.1, c.2⟩ : Kc)]) (f := cK) (g := eK) (sz := 4) (ty := 74) rfl (fun _ => rfl) ?_) | (with_reducible apply Z.frz_one) | (with_reducible apply Z.frz_agg) | (with_reducible apply Z.fq_int) | (exact Z.frz_nil) | exact rfl | apply And.intro)); (all_goals (try exact (fun _ => none))); all_goals (first | (simp; done)))
theorem do_0ce (t w a b : Int) (ins : List Int) (ad : Addr) (cap : Nat) (s k v : Int) (c : Int × Int) (O : List Int) (hi : ins.length ≤ 9223372036854775807) (hO : O.length ≤ 1) (hk : keyOk s k = true) (hr : Ops.doF t w ins a b 0 0 v = (c, O, 0)) (hc : 0 < c.1) : Con Try.prog 64 [.agg [.v (.int .i64 t), .v (.int .i64 w), .ro false 1 (ins.map Ops.eI), .v (.int .i64 a), .v (.int .i64 b)], .agg [.v (.slice (some ad) 0 cap)], .agg [.v (.int .i64 s), .v (.int .i64 k), .v (.int .i64 v)]] (fun rx rK rt => rx = .tup [.agg [.ro true 4 ([(⟨s, k, c.1, c.2⟩ : Kc)].map eK)], .one (.ro true 3 ((O.map fun x => (⟨s, k, x⟩ : Rcd)).map eR)), .one (.v (.int .i64 0))] ∧ rK = [] ∧ rt = 0) := by
  refine Z.con_ofF tabOk 22 Try.f64 _ Try.func64 (by kernel_rfl) rfl rfl rfl rfl ?_
  have ck := rec_con s k v
  rw [hk] at ck
  simp only [cond_true] at ck
  have cf := find_con [] s k v (by simp) rfl
  rw [show thereR [] s k = false from rfl, show posR [] s k = 0 from rfl] at cf
  have cd := Ops.do_con t w a b 0 0 v ins hi (by decide)
  rw [hr] at cd
  dsimp only at cd
  have hcz : (c.1 == 0 && (c.2 == 0 && true)) = false := by rw [show (c.1 == 0) = false by simp; omega]; rfl
  have cf := con_empagg ad cap cf
  have cw := clonek_1 ad cap
  rcases O with _ | ⟨y, _ | ⟨z, O⟩⟩
  rotate_right 1
  · exact absurd hO (by simp)
  all_goals (
    repeat' ((conv => whnf); first
      | with_reducible first | refine spB_t ?_
      | ((with_reducible apply spB_cong); (focus (simp only [beq_self_eq_true, bne_self_eq_false, Bool.true_bne, Bool.false_bne, Bool.bne_true, Bool.bne_false, Bool.true_beq, Bool.false_beq, Bool.not_true, Bool.not_false, Bool.not_not, Int.reduceBEq, Int.reduceBNe, Int.reduceLE, Int.reduceLT, Int.reduceEq, decide_true, decide_false]; rfl)))
      | with_reducible first | refine spB_no (by decide) ?_ | refine spB_not ?_ | refine spB_no (by assumption) ?_
      | (with_reducible refine spB_dec ?_ ?_ <;> intro _ <;> (try (exfalso; first | contradiction | omega | (rename_i hz; refine hz ?_; simp; done) | (rename_i hz; simp at hz; done) | (simp only [LN] at *; omega) | (rename_i hz; exact absurd (hcz.symm.trans hz) Bool.false_ne_true))))
      | with_reducible first | refine Z.loopZ_unroll tabOk 3 ?_
      | ((with_reducible refine Z.slN_lo 0 ?_ ?_ ?_); (focus rfl); (focus ((try simp only [LN] at *) <;> omega)))
      | ((with_reducible refine apdE_n ?_); (with_reducible refine apdN.mk ?_ ?_ ?_ ?_ ?_ ?_); (focus rfl); (focus (exact one_all (by rfl))); (focus (simp; done)); (focus ((try simp only [LN] at *) <;> omega)); (focus ((try simp only [LN] at *) <;> omega)))
      | ((with_reducible refine posE_pos ?_ ?_); (focus ((try simp only [LN] at *) <;> omega)))
      | ((with_reducible apply rowN_mk); (focus rfl))
      | ((with_reducible apply ixN_lit); (focus (exact rfl)); (focus (exact rfl)))
      | ((with_reducible refine slE_b ?_ ?_); (focus ((try simp only [LN] at *) <;> omega)))
      | ((with_reducible refine apdN.mk ?_ ?_ ?_ ?_ ?_ ?_); (focus (first | rfl)); (focus (first | exact one_all (by rfl))); (focus ((try simp only [LN] at *) <;> omega)); (focus ((try simp only [LN] at *) <;> omega)); (focus ((try simp only [LN] at *) <;> omega)))
      | with_reducible refine wr_i64 (by first | omega | (simp only [LN] at *; omega)) ?_
      | with_reducible first | refine Z.callZ_in tabOk 38 Try.f101 _ Try.func101 (by kernel_rfl) rfl rfl rfl ?_ | refine Z.callZ_in tabOk 67 Try.f60 _ Try.func60 (by kernel_rfl) rfl rfl rfl ?_ | refine Z.callZ_in tabOk 95 Try.f100 _ Try.func100 (by kernel_rfl) rfl rfl rfl ?_
      | ((first | (with_reducible refine Z.callZ_mk ?_ (cd) ?_) | (with_reducible refine Z.callZ_mk ?_ (ck) ?_) | (with_reducible refine Z.callZ_mk ?_ (cf) ?_) | (with_reducible refine Z.callZ_mk ?_ (cw) ?_)); (focus ((repeat' (first | exact trivial | exact rfl | apply And.intro)); done)))
      | ((with_reducible apply ex_and); exact rfl)
      | with_reducible first | refine Z.drawZ_rule tabOk mixOk ?_ | refine Z.apZ_mk (by kernel_rfl) ?_)
    all_goals (try (conv => whnf)))
  all_goals try (show Nat.ble _ _ = true; rfl)
  all_goals try (exfalso; rename_i hz; cases hz; done)
  all_goals try (exfalso; (try simp only [LN] at *) <;> omega)
  all_goals first
    | ((first | (with_reducible apply Z.retF2)); (focus (exact rfl)); (repeat' (first | exact trivial | (refine Z.fq_gsl (l := [(⟨s, k, y⟩ : Rcd)]) (f := cR) (g := eR) (sz := 3) (ty := 39) rfl (fun _ => rfl) ?_) | (refine Z.frz_osl (l := [(⟨s, k, c.1, c.2⟩ : Kc)]) (f := cK) (ty := 74) (bx := false) (by rfl) (by simp) (fun _ => rfl)) | (with_reducible apply Z.frz_one) | (with_reducible apply Z.frz_agg) | (with_reducible apply Z.fq_int) | (exact Z.frz_nil) | exact rfl | apply And.intro)); (all_goals (try exact (fun _ => none))); all_goals (first | (simp; done)))
end Go.Proofs.Ytehhmkdghgabaaa
namespace Go.Proofs.Ytehhmkdghgabaaa
open Go Go.RowKit Wx
set_option linter.unusedVariables false
set_option linter.unusedSimpArgs false
set_option maxHeartbeats 4000000
theorem do_bad1 (t w a b : Int) (ins : List Int) (l : List Kc) (s k v : Int) (hl : l.length ≤ 1000) (hk : keyOk s k = false) : Con Try.prog 64 [.agg [.v (.int .i64 t), .v (.int .i64 w), .ro false 1 (ins.map Ops.eI), .v (.int .i64 a), .v (.int .i64 b)], .agg [.ro false 4 (l.map eK)], .agg [.v (.int .i64 s), .v (.int .i64 k), .v (.int .i64 v)]] (fun rx rK rt => rx = .tup [.agg [.ro true 4 (([] : List Kc).map eK)], .one (.ro true 3 (([] : List Rcd).map eR)), .one (.v (.int .i64 150))] ∧ rK = [] ∧ rt = 0) := by
  refine Z.con_ofF tabOk 22 Try.f64 _ Try.func64 (by kernel_rfl) rfl rfl rfl rfl ?_
  have ck := rec_con s k v
  rw [hk] at ck
  simp only [cond_false] at ck
  repeat' ((conv => whnf); first
    | with_reducible first | refine spB_t ?_
    | ((with_reducible apply spB_cong); (focus (simp only [beq_self_eq_true, bne_self_eq_false, Bool.true_bne, Bool.false_bne, Bool.bne_true, Bool.bne_false, Bool.true_beq, Bool.false_beq, Bool.not_true, Bool.not_false, Bool.not_not, Int.reduceBEq, Int.reduceBNe, Int.reduceLE, Int.reduceLT, Int.reduceEq, decide_true, decide_false]; rfl)))
    | with_reducible first | refine Z.callZ_in tabOk 67 Try.f60 _ Try.func60 (by kernel_rfl) rfl rfl rfl ?_
    | ((first | (with_reducible refine Z.callZ_mk ?_ (ck) ?_)); (focus ((repeat' (first | exact trivial | exact rfl | apply And.intro)); done)))
    | ((with_reducible apply ex_and); exact rfl)
    | with_reducible first | refine Z.drawZ_rule tabOk mixOk ?_ | refine Z.apZ_mk (by kernel_rfl) ?_)
  all_goals (try (conv => whnf))
  all_goals try (show Nat.ble _ _ = true; rfl)
  all_goals try (exfalso; rename_i hz; cases hz; done)
  all_goals try (exfalso; (try simp only [LN] at *) <;> omega)
  all_goals first
    | ((first | (with_reducible apply Z.retF2)); (focus (exact rfl)); (repeat' (first | exact trivial | (with_reducible apply Z.frz_one) | (with_reducible apply Z.frz_agg) | (exact Z.frz_nil) | exact rfl | apply And.intro)); (all_goals (try exact (fun _ => none))); all_goals (first | (simp; done)))
theorem do_bad2 (t w a b : Int) (ins : List Int) (l : List Kc) (s k v : Int) (e : Int) (p : Nat) (hi : ins.length ≤ 9223372036854775807) (hl : l.length ≤ 1000) (ht : tabR l = true) (hk : keyOk s k = true) (hth : thereR l s k = false) (hp : posR l s k = p) (hr : Ops.doF t w ins a b 0 0 v = ((0, 0), [], e)) (he : e ≠ 0) : Con Try.prog 64 [.agg [.v (.int .i64 t), .v (.int .i64 w), .ro false 1 (ins.map Ops.eI), .v (.int .i64 a), .v (.int .i64 b)], .agg [.ro false 4 (l.map eK)], .agg [.v (.int .i64 s), .v (.int .i64 k), .v (.int .i64 v)]] (fun rx rK rt => rx = .tup [.agg [.ro true 4 (([] : List Kc).map eK)], .one (.ro true 3 (([] : List Rcd).map eR)), .one (.v (.int .i64 e))] ∧ rK = [] ∧ rt = 0) := by
  refine Z.con_ofF tabOk 22 Try.f64 _ Try.func64 (by kernel_rfl) rfl rfl rfl rfl ?_
  have ck := rec_con s k v
  rw [hk] at ck
  simp only [cond_true, cond_false] at ck
  have cf := find_con l s k v hl ht
  rw [hth, hp] at cf
  have cd := Ops.do_con t w a b 0 0 v ins hi (by decide)
  rw [hr] at cd
  dsimp only at cd
  have hez : (e == 0) = false := by simpa using he
  repeat' ((conv => whnf); first
    | ((with_reducible apply spB_cong); (focus (simp only [beq_self_eq_true, bne_self_eq_false, Bool.true_bne, Bool.false_bne, Bool.bne_true, Bool.bne_false, Bool.true_beq, Bool.false_beq, Bool.not_true, Bool.not_false, Bool.not_not, Int.reduceBEq, Int.reduceBNe, Int.reduceLE, Int.reduceLT, Int.reduceEq, decide_true, decide_false]; rfl)))
    | with_reducible first | refine spB_no (by decide) ?_
    | (with_reducible refine spB_bne ?_ ?_ <;> intro _ <;> (try (exfalso; first | contradiction | omega | (rename_i hz; refine hz ?_; simp; done) | (rename_i hz; simp at hz; done) | (simp only [LN] at *; omega) | (simp_all; done))))
    | with_reducible first | refine Z.loopZ_unroll tabOk 3 ?_
    | with_reducible first | refine Z.callZ_in tabOk 38 Try.f101 _ Try.func101 (by kernel_rfl) rfl rfl rfl ?_ | refine Z.callZ_in tabOk 67 Try.f60 _ Try.func60 (by kernel_rfl) rfl rfl rfl ?_
    | ((first | (with_reducible refine Z.callZ_mk ?_ (cd) ?_) | (with_reducible refine Z.callZ_mk ?_ (ck) ?_) | (with_reducible refine Z.callZ_mk ?_ (cf) ?_)); (focus ((repeat' (first | exact trivial | exact rfl | apply And.intro)); done)))
    | ((with_reducible apply ex_and); exact rfl)
    | with_reducible first | refine Z.drawZ_rule tabOk mixOk ?_ | refine Z.apZ_mk (by kernel_rfl) ?_)
  all_goals (try (conv => whnf))
  all_goals try (show Nat.ble _ _ = true; rfl)
  all_goals try (exfalso; rename_i hz; cases hz; done)
  all_goals try (exfalso; (try simp only [LN] at *) <;> omega)
  all_goals first
    | ((first | (with_reducible apply Z.retF2)); (focus (exact rfl)); (repeat' (first | exact trivial | (with_reducible apply Z.frz_one) | (with_reducible apply Z.frz_agg) | (exact Z.frz_nil) | exact rfl | apply And.intro)); (all_goals (try exact (fun _ => none))); all_goals (first | (simp; done)))
theorem do_bad3 (t w a b : Int) (ins : List Int) (l : List Kc) (s k v : Int) (e : Int) (p : Nat) (hi : ins.length ≤ 9223372036854775807) (hl : l.length ≤ 1000) (ht : tabR l = true) (hk : keyOk s k = true) (hth : thereR l s k = true) (hp : posR l s k = p) (x : Kc) (hx : l[p]? = some x) (hpl : p < l.length) (hc0 : x.cnt ≤ 9223372036854775807) (hr : Ops.doF t w ins a b x.cnt x.sum v = ((0, 0), [], e)) (he : e ≠ 0) : Con Try.prog 64 [.agg [.v (.int .i64 t), .v (.int .i64 w), .ro false 1 (ins.map Ops.eI), .v (.int .i64 a), .v (.int .i64 b)], .agg [.ro false 4 (l.map eK)], .agg [.v (.int .i64 s), .v (.int .i64 k), .v (.int .i64 v)]] (fun rx rK rt => rx = .tup [.agg [.ro true 4 (([] : List Kc).map eK)], .one (.ro true 3 (([] : List Rcd).map eR)), .one (.v (.int .i64 e))] ∧ rK = [] ∧ rt = 0) := by
  refine Z.con_ofF tabOk 22 Try.f64 _ Try.func64 (by kernel_rfl) rfl rfl rfl rfl ?_
  have ck := rec_con s k v
  rw [hk] at ck
  simp only [cond_true, cond_false] at ck
  have cf := find_con l s k v hl ht
  rw [hth, hp] at cf
  have cd := Ops.do_con t w a b x.cnt x.sum v ins hi hc0
  rw [hr] at cd
  dsimp only at cd
  have hez : (e == 0) = false := by simpa using he
  repeat' ((conv => whnf); first
    | with_reducible first | refine spB_t ?_
    | ((with_reducible apply spB_cong); (focus (simp only [beq_self_eq_true, bne_self_eq_false, Bool.true_bne, Bool.false_bne, Bool.bne_true, Bool.bne_false, Bool.true_beq, Bool.false_beq, Bool.not_true, Bool.not_false, Bool.not_not, Int.reduceBEq, Int.reduceBNe, Int.reduceLE, Int.reduceLT, Int.reduceEq, decide_true, decide_false]; rfl)))
    | with_reducible first | refine spB_no (by decide) ?_
    | (with_reducible refine spB_bne ?_ ?_ <;> intro _ <;> (try (exfalso; first | contradiction | omega | (rename_i hz; refine hz ?_; simp; done) | (rename_i hz; simp at hz; done) | (simp only [LN] at *; omega) | (simp_all; done))))
    | with_reducible first | refine Z.rowN_known hx ?_
    | ((with_reducible refine ixN_mk (p) ?_ ?_ ?_); (focus (first | rfl)); (focus ((try simp only [LN] at *) <;> omega)))
    | with_reducible first | refine Z.loopZ_unroll tabOk 3 ?_
    | with_reducible first | refine Z.callZ_in tabOk 38 Try.f101 _ Try.func101 (by kernel_rfl) rfl rfl rfl ?_ | refine Z.callZ_in tabOk 67 Try.f60 _ Try.func60 (by kernel_rfl) rfl rfl rfl ?_
    | ((first | (with_reducible refine Z.callZ_mk ?_ (cd) ?_) | (with_reducible refine Z.callZ_mk ?_ (ck) ?_) | (with_reducible refine Z.callZ_mk ?_ (cf) ?_)); (focus ((repeat' (first | exact trivial | exact rfl | apply And.intro)); done)))
    | ((with_reducible apply ex_and); exact rfl)
    | with_reducible first | refine Z.drawZ_rule tabOk mixOk ?_ | refine Z.apZ_mk (by kernel_rfl) ?_)
  all_goals (try (conv => whnf))
  all_goals try (show Nat.ble _ _ = true; rfl)
  all_goals try (exfalso; rename_i hz; cases hz; done)
  all_goals try (exfalso; (try simp only [LN] at *) <;> omega)
  all_goals first
    | ((first | (with_reducible apply Z.retF2)); (focus (exact rfl)); (repeat' (first | exact trivial | (with_reducible apply Z.frz_one) | (with_reducible apply Z.frz_agg) | (exact Z.frz_nil) | exact rfl | apply And.intro)); (all_goals (try exact (fun _ => none))); all_goals (first | (simp; done)))
end Go.Proofs.Ytehhmkdghgabaaa
namespace Go.Proofs.Ytehhmkdghgabaaa
open Go Go.RowKit Wx
set_option linter.unusedVariables false
set_option linter.unusedSimpArgs false
set_option maxHeartbeats 4000000
theorem con_nil2 {P : Program} {g : FuncId} {sz : Nat} {cs : List Ce} {x : A0} {av : List A0} {post : AV → Wx.Kr → Nat → Prop} (h0 : Con P g (x :: .agg (.v (.slice none 0 0) :: cs) :: av) post) (h1 : ∀ ad cap, Con P g (x :: .agg (.v (.slice (some ad) 0 cap) :: cs) :: av) post) : Con P g (x :: .agg (.ro false sz [] :: cs) :: av) post := by
  refine ⟨h0.fn, fun w vs hvs => ?_⟩
  cases vs with
  | nil => exact hvs.elim
  | cons v0 vs =>
    obtain ⟨hv0, hvs⟩ := hvs
    cases vs with
    | nil => exact hvs.elim
    | cons v vs =>
      obtain ⟨⟨us, rfl, hus⟩, hvs⟩ := hvs
      cases us with
      | nil => exact hus.elim
      | cons u us =>
        obtain ⟨hu, hus⟩ := hus
        have hu : Rd _ (.ro sz []) u := hu
        cases hu with
        | nil => exact h0.run w _ ⟨hv0, ⟨_, rfl, rfl, hus⟩, hvs⟩
        | emp _ ad cap => exact (h1 ad cap).run w _ ⟨hv0, ⟨_, rfl, rfl, hus⟩, hvs⟩
        | ro => exact (h1 _ _).run w _ ⟨hv0, ⟨_, rfl, rfl, hus⟩, hvs⟩
abbrev opA (o : Opr) : A0 := .agg [.v (.int .i64 o.t), .v (.int .i64 o.w), .ro false 1 (o.ins.map Ops.eI), .v (.int .i64 o.a), .v (.int .i64 o.b)]
abbrev tabA (l : List Kc) : A0 := .agg [.ro false 4 (l.map eK)]
abbrev recA (r : Rcd) : A0 := .agg [.v (.int .i64 r.src), .v (.int .i64 r.key), .v (.int .i64 r.val)]
abbrev dOut (q : List Kc × List Rcd × Int) : AV := .tup [.agg [.ro true 4 (q.1.map eK)], .one (.ro true 3 (q.2.1.map eR)), .one (.v (.int .i64 q.2.2))]
theorem get_no {l : List Kc} {s k : Int} (ht : tabR l = true) (h : thereR l s k = false) : getR l s k = (0, 0) := by
  rw [get_pos ht, h]; rfl
theorem get_yes {l : List Kc} {s k : Int} {x : Kc} (ht : tabR l = true) (h : thereR l s k = true) (hx : l[posR l s k]? = some x) : getR l s k = (x.cnt, x.sum) := by
  rw [get_pos ht, h, if_pos rfl, hx]
theorem doF_len0 {t w a b c s v : Int} {ins : List Int} : (Ops.doF t w ins a b c s v).2.1.length ≤ 1 := Ops.doF_len
theorem do_con (o : Opr) (l : List Kc) (r : Rcd) (hi : o.ins.length ≤ 9223372036854775807) (hl : l.length ≤ 1000) (ht : tabR l = true) (hcnt : ∀ x ∈ l, x.cnt ≤ 9223372036854775807) : Con Try.prog 64 [opA o, tabA l, recA r] (fun rx rK rt => rx = dOut (dT o l r) ∧ rK = [] ∧ rt = 0) := by
  obtain ⟨t, w, ins, a, b⟩ := o
  obtain ⟨s, k, v⟩ := r
  unfold dT
  dsimp only at *
  by_cases hk : keyOk s k = false
  · rw [if_pos hk]; exact do_bad1 t w a b ins l s k v hl hk
  have hk' : keyOk s k = true := by simpa using hk
  rw [if_neg hk]
  obtain ⟨D, hD⟩ : ∃ D, Ops.doF t w ins a b (getR l s k).1 (getR l s k).2 v = D := ⟨_, rfl⟩
  have hlen := doF_len0 (t := t) (w := w) (a := a) (b := b) (c := (getR l s k).1) (s := (getR l s k).2) (v := v) (ins := ins)
  have herr := doF_err (t := t) (w := w) (a := a) (b := b) (c := (getR l s k).1) (s := (getR l s k).2) (v := v) (ins := ins)
  have hcell := doF_cell (t := t) (w := w) (a := a) (b := b) (c := (getR l s k).1) (s := (getR l s k).2) (v := v) (ins := ins)
  rw [hD] at hlen herr hcell ⊢
  obtain ⟨c, O, e⟩ := D
  dsimp only at *
  by_cases he : e = 0
  rotate_left
  · rw [if_neg he]
    have h2 := herr he
    cases hth : thereR l s k with
    | false =>
      rw [get_no ht hth] at hD
      exact do_bad2 t w a b ins l s k v e _ hi hl ht hk' hth rfl (hD.trans h2) he
    | true =>
      obtain ⟨x, hx, _⟩ := there_at hth
      rw [get_yes ht hth hx] at hD
      exact do_bad3 t w a b ins l s k v e _ hi hl ht hk' hth rfl x hx (List.getElem?_eq_some_iff.1 hx).1 (hcnt x (List.mem_of_getElem? hx)) (hD.trans h2) he
  rw [if_pos he]
  subst he
  have hc := hcell rfl
  cases l with
  | nil =>
    rw [show getR [] s k = (0, 0) from rfl] at hD
    rcases hc with h | h
    · rw [show putR [] s k c = [⟨s, k, c.1, c.2⟩] from (put_new (l := []) rfl rfl h).trans rfl]
      exact con_nil2 (do_0cn t w a b ins s k v c O hi hlen hk' hD h) (fun ad cap => do_0ce t w a b ins ad cap s k v c O hi hlen hk' hD h)
    · rw [show putR [] s k c = [] by rw [h]; rfl]
      exact con_nil2 (do_0zn t w a b ins s k v c O hi hlen hk' hD h) (fun ad cap => do_0ze t w a b ins ad cap s k v c O hi hlen hk' hD h)
  | cons y l =>
    have hne : y :: l ≠ [] := by simp
    generalize y :: l = l at *
    cases hth : thereR l s k with
    | false =>
      rw [get_no ht hth] at hD
      rcases hc with h | h
      · rw [put_new ht hth h]
        by_cases hp : posR l s k < l.length
        · exact do_ni t w a b ins l s k v c O _ hi hlen hl ht hk' hD h hth rfl hne hp
        · have hp2 : posR l s k = l.length := Nat.le_antisymm (pos_le l s k) (Nat.le_of_not_lt hp)
          rw [hp2, List.take_length, List.drop_length]
          exact do_na t w a b ins l s k v c O _ hi hlen hl ht hk' hD h hth hp2 hne rfl
      · rw [h, put_same ht hth]
        rw [h] at hD
        exact do_z0 t w a b ins l s k v (0, 0) O _ hi hlen hl ht hk' hD rfl hth rfl hne
    | true =>
      obtain ⟨x, hx, _⟩ := there_at hth
      have hpl := (List.getElem?_eq_some_iff.1 hx).1
      have hxc := hcnt x (List.mem_of_getElem? hx)
      rw [get_yes ht hth hx] at hD
      rcases hc with h | h
      · rw [put_upd ht hth h]
        by_cases hp : posR l s k + 1 = l.length
        · exact do_sa t w a b ins l s k v c O _ hi hlen hl ht hk' hth rfl hne x hx hxc hD h hpl hp
        · exact do_si t w a b ins l s k v c O _ hi hlen hl ht hk' hth rfl hne x hx hxc hD h hpl (by omega)
      · rw [h, put_del ht hth]
        rw [h] at hD
        by_cases hp : posR l s k + 1 = l.length
        · exact do_za t w a b ins l s k v (0, 0) O _ hi hlen hl ht hk' hth rfl hne x hx hxc hD rfl hpl hp
        · exact do_zi t w a b ins l s k v (0, 0) O _ hi hlen hl ht hk' hth rfl hne x hx hxc hD rfl hpl (by omega)
end Go.Proofs.Ytehhmkdghgabaaa
namespace Go.Proofs.Ytehhmkdghgabaaa
open Go Go.RowKit Wx
set_option linter.unusedVariables false
set_option linter.unusedSimpArgs false
set_option maxHeartbeats 4000000
def okC (l : List Kc) : Prop := ∀ x ∈ l, x.cnt ≤ 9223372036854775807
theorem doF_le {t w : Int} {ins : List Int} {a b c s v : Int} (hc : c ≤ 9223372036854775807) : (Ops.doF t w ins a b c s v).1.1 ≤ 9223372036854775807 := by
  unfold Ops.doF
  split
  · simp
  · split
    · simp
    · split
      · simp
      · unfold Ops.stp
        repeat' split
        all_goals (simp only; omega)
theorem getR_le {l : List Kc} {s k : Int} (h : okC l) : (getR l s k).1 ≤ 9223372036854775807 := by
  unfold getR
  cases hf : l.find? (eqK s k) with
  | none => simp
  | some x => exact h x (List.mem_of_find?_eq_some hf)
theorem dT_ok {o : Opr} {l : List Kc} {r : Rcd} (ht : tabR l = true) (hc : okC l) (he : (dT o l r).2.2 = 0) : tabR (dT o l r).1 = true ∧ okC (dT o l r).1 := by
  unfold dT at *
  split at he
  · cases he
  · rename_i hk
    rw [if_neg hk]
    split at he
    · rename_i h0
      rw [if_pos h0]
      have h1 := doF_cell h0
      have h2 := doF_le (t := o.t) (w := o.w) (ins := o.ins) (a := o.a) (b := o.b) (s := (getR l r.src r.key).2) (v := r.val) (getR_le (s := r.src) (k := r.key) hc)
      refine ⟨put_tab ht (by simpa using hk) h1.symm, fun x hx => ?_⟩
      unfold putR ownK at hx
      dsimp only at hx
      rw [List.mem_append, List.mem_append] at hx
      rcases hx with (hx | hx) | hx
      · exact hc x (List.mem_filter.1 hx).1
      · split at hx
        · cases hx
        · rw [List.mem_singleton.1 hx]; exact h2
      · exact hc x (List.mem_filter.1 hx).1
    · rename_i h0
      exact absurd he h0
theorem dT_len {o : Opr} {l : List Kc} {r : Rcd} : (dT o l r).2.1.length ≤ 1 := by
  unfold dT
  split
  · simp
  · split
    · dsimp only; rw [List.length_map]; exact doF_len0
    · simp
theorem dT_err {o : Opr} {l : List Kc} {r : Rcd} (he : (dT o l r).2.2 ≠ 0) : dT o l r = ([], [], (dT o l r).2.2) := by
  unfold dT at *
  split
  · rfl
  · rename_i hk
    rw [if_neg hk] at he
    split
    · rename_i h0; rw [if_pos h0] at he; exact absurd rfl he
    · rfl
def rT (o : Opr) : List Kc → List Rcd → List Rcd → List Kc × List Rcd × Int
  | l, acc, [] => (l, acc, 0)
  | l, acc, r :: rs => if (dT o l r).2.2 = 0 then rT o (dT o l r).1 (acc ++ (dT o l r).2.1) rs else ([], [], (dT o l r).2.2)
def runT (o : Opr) (l : List Kc) (rs : List Rcd) : List Kc × List Rcd × Int :=
  if tabR l = false then ([], [], 220) else if 40 < rs.length then ([], [], 3) else rT o l [] rs
theorem rT_at {o : Opr} {l : List Kc} {acc rs : List Rcd} {i : Nat} {r : Rcd} (h : rs[i]? = some r) : rT o l acc (rs.drop i) = if (dT o l r).2.2 = 0 then rT o (dT o l r).1 (acc ++ (dT o l r).2.1) (rs.drop (i + 1)) else ([], [], (dT o l r).2.2) := by
  rw [drop_cons h]; rfl
end Go.Proofs.Ytehhmkdghgabaaa
namespace Go.Proofs.Ytehhmkdghgabaaa
open Go Go.RowKit Wx
set_option linter.unusedVariables false
set_option linter.unusedSimpArgs false
set_option maxHeartbeats 4000000
theorem clonef_con_nil   : Con Try.prog 67 [.one (.v (.slice none 0 0))] (fun rx rK rt => rx = .c (.ro true 4 (([] : List Kc).map eK)) ∧ rK = [] ∧ rt = 0) := by
  refine Z.con_ofF tabOk 8 Try.f67 _ Try.func67 (by kernel_rfl) rfl rfl rfl rfl ?_
  repeat' ((conv => whnf); first
    | with_reducible first | refine spB_t ?_)
  all_goals (try (conv => whnf))
  all_goals first
    | ((first | (with_reducible apply Z.retF1)); (focus (exact rfl)); (repeat' (first | exact trivial | (with_reducible apply Z.frz_one) | (exact Z.frz_nil) | apply And.intro)); (all_goals (try exact (fun _ => none))); all_goals (rfl))
theorem clonef_con_emp (ad : Addr) (cap : Nat)  : Con Try.prog 67 [.one (.v (.slice (some ad) 0 cap))] (fun rx rK rt => rx = .c (.ro true 4 (([] : List Kc).map eK)) ∧ rK = [] ∧ rt = 0) := by
  refine Z.con_ofF tabOk 8 Try.f67 _ Try.func67 (by kernel_rfl) rfl rfl rfl rfl ?_
  repeat' ((conv => whnf); first
    | with_reducible first | refine spB_no (by decide) ?_
    | ((with_reducible refine apdE_r ?_); (with_reducible refine aprN.mk ⟨_, rfl, ?_⟩ ?_ ?_ ?_ ?_); (focus ((try simp only [LN] at *) <;> omega)); (focus (first | rfl)); (focus (first | exact one_all (by rfl))); (focus ((try simp only [LN] at *) <;> omega))))
  all_goals (try (conv => whnf))
  all_goals first
    | ((first | (with_reducible apply Z.retF1)); (focus (exact rfl)); (repeat' (first | exact trivial | (with_reducible apply Z.frz_one) | (exact Z.frz_osl0 rfl rfl rfl) | apply And.intro)); (all_goals (try exact (fun _ => none))); all_goals (rfl))
theorem clonef_con_ne (x : Kc) (l : List Kc) (hl : l.length ≤ 1000) : Con Try.prog 67 [.one (.ro false 4 ((x :: l).map eK))] (fun rx rK rt => rx = .c (.ro true 4 ((x :: l).map eK)) ∧ rK = [] ∧ rt = 0) := by
  refine Z.con_ofF tabOk 8 Try.f67 _ Try.func67 (by kernel_rfl) rfl rfl rfl rfl ?_
  repeat' ((conv => whnf); first
    | with_reducible first | refine spB_no (by decide) ?_
    | ((with_reducible refine apdE_k ?_); (with_reducible refine apkN.mk ⟨_, rfl, ?_⟩ ?_); (focus ((try simp only [LN] at *) <;> omega)))
    | ((with_reducible refine apdN.mk ?_ ?_ ?_ ?_ ?_ ?_); (focus (first | (simp; done))); (focus (first | exact one_map2 (fun _ => rfl))); (focus ((try simp only [LN] at *) <;> omega)); (focus ((try simp only [LN] at *) <;> omega)); (focus ((try simp only [LN] at *) <;> omega))))
  all_goals (try (conv => whnf))
  all_goals first
    | ((first | (with_reducible apply Z.retF1)); (focus (exact rfl)); (repeat' (first | exact trivial | (with_reducible apply Z.frz_one) | ((with_reducible apply Z.fq_src); (focus (exact rfl)); (focus (first | (simp only [List.length_map, Nat.zero_add]; done))); (focus (exact fun _ => rfl))) | exact rfl | apply And.intro)); (all_goals (try exact (fun _ => none))); all_goals (rfl))
theorem clonef_con (l : List Kc) (hl : l.length ≤ 1000) : Con Try.prog 67 [.one (.ro false 4 (l.map eK))] (fun rx rK rt => rx = .c (.ro true 4 (l.map eK)) ∧ rK = [] ∧ rt = 0) := by
  cases l with
  | nil => exact Z.con_nilcases (fun _ => clonef_con_nil) (fun _ ad cap => clonef_con_emp ad cap) (fun r rs h => by cases h)
  | cons x l => exact clonef_con_ne x l (by simp only [List.length_cons] at hl; omega)
theorem trun_con (o : Opr) (l : List Kc) (rs : List Rcd) (hi : o.ins.length ≤ 9223372036854775807) (hl : l.length ≤ 1000) (hcnt : okC l) (hrs : rs.length ≤ 9223372036854775807) : Con Try.prog 31 [.agg [.v (.int .i64 o.t), .v (.int .i64 o.w), .ro false 1 (o.ins.map Ops.eI), .v (.int .i64 o.a), .v (.int .i64 o.b)], .agg [.ro false 4 (l.map eK)], .one (.ro false 3 (rs.map eR))] (fun rx rK rt => rx = .tup [.agg [.ro true 4 ((runT o l rs).1.map eK)], .one (.ro true 3 ((runT o l rs).2.1.map eR)), .one (.v (.int .i64 (runT o l rs).2.2))] ∧ rK = [] ∧ rt = 0) := by
  refine Z.con_ofF tabOk 54 Try.f31 _ Try.func31 (by kernel_rfl) rfl rfl rfl rfl ?_
  have cc := check_con l (by omega)
  unfold runT
  cases hok : tabR l
  all_goals rw [hok] at cc
  all_goals simp only [cond_true, cond_false] at cc
  · simp only [if_true]
    repeat' ((conv => whnf); first
      | with_reducible first | refine spB_t ?_
      | ((with_reducible apply spB_cong); (focus (simp only [beq_self_eq_true, bne_self_eq_false, Bool.true_bne, Bool.false_bne, Bool.bne_true, Bool.bne_false, Bool.true_beq, Bool.false_beq, Bool.not_true, Bool.not_false, Bool.not_not, Int.reduceBEq, Int.reduceBNe, Int.reduceLE, Int.reduceLT, Int.reduceEq, decide_true, decide_false]; rfl)))
      | ((first | (with_reducible refine Z.callZ_mk ?_ (cc) ?_)); (focus ((repeat' (first | exact trivial | exact rfl | apply And.intro)); done))))
    all_goals (try (conv => whnf))
    all_goals try (show Nat.ble _ _ = true; rfl)
    all_goals try (exfalso; rename_i hz; cases hz; done)
    all_goals try (exfalso; (try simp only [LN] at *) <;> omega)
    all_goals first
      | ((first | (with_reducible apply Z.retF2)); (focus (exact rfl)); (repeat' (first | exact trivial | (with_reducible apply Z.frz_one) | (with_reducible apply Z.frz_agg) | (exact Z.frz_nil) | exact rfl | apply And.intro)); (all_goals (try exact (fun _ => none))); all_goals (first | (simp; done)))
  simp only [Bool.true_eq_false, if_false]
  have hl2 := tab_len hok
  by_cases h40 : 40 < rs.length
  · rw [if_pos h40]
    repeat' ((conv => whnf); first
      | ((with_reducible apply spB_cong); (focus (simp only [beq_self_eq_true, bne_self_eq_false, Bool.true_bne, Bool.false_bne, Bool.bne_true, Bool.bne_false, Bool.true_beq, Bool.false_beq, Bool.not_true, Bool.not_false, Bool.not_not, Int.reduceBEq, Int.reduceBNe, Int.reduceLE, Int.reduceLT, Int.reduceEq, decide_true, decide_false]; rfl)))
      | with_reducible first | refine spB_no (by decide) ?_
      | (with_reducible refine spB_dec ?_ ?_ <;> intro _ <;> (try (exfalso; first | contradiction | omega | (rename_i hz; refine hz ?_; simp; done) | (rename_i hz; simp at hz; done) | (simp only [LN] at *; omega))))
      | ((first | (with_reducible refine Z.callZ_mk ?_ (cc) ?_)); (focus ((repeat' (first | exact trivial | exact rfl | apply And.intro)); done))))
    all_goals (try (conv => whnf))
    all_goals try (show Nat.ble _ _ = true; rfl)
    all_goals try (exfalso; rename_i hz; cases hz; done)
    all_goals try (exfalso; (try simp only [LN] at *) <;> omega)
    all_goals first
      | ((first | (with_reducible apply Z.retF2)); (focus (exact rfl)); (repeat' (first | exact trivial | (with_reducible apply Z.frz_one) | (with_reducible apply Z.frz_agg) | (with_reducible apply Z.fq_int) | (exact Z.frz_nil) | exact rfl | apply And.intro)); (all_goals (try exact (fun _ => none))); all_goals (first | (simp; done)))
  rw [if_neg h40]
  repeat' ((conv => whnf); first
    | ((with_reducible apply spB_cong); (focus (simp only [beq_self_eq_true, bne_self_eq_false, Bool.true_bne, Bool.false_bne, Bool.bne_true, Bool.bne_false, Bool.true_beq, Bool.false_beq, Bool.not_true, Bool.not_false, Bool.not_not, Int.reduceBEq, Int.reduceBNe, Int.reduceLE, Int.reduceLT, Int.reduceEq, decide_true, decide_false]; rfl)))
    | with_reducible first | refine spB_no (by decide) ?_
    | (with_reducible refine spB_dec ?_ ?_ <;> intro _ <;> (try (exfalso; first | contradiction | omega | (rename_i hz; refine hz ?_; simp; done) | (rename_i hz; simp at hz; done) | (simp only [LN] at *; omega))))
    | ((first | (with_reducible refine Z.callZ_mk ?_ (cc) ?_)); (focus ((repeat' (first | exact trivial | exact rfl | apply And.intro)); done)))
    | ((first | (with_reducible apply Z.callZ_mk ?_ (clonef_con _ ?_) ?_)); (rotate_left 1); (focus ((repeat' (first | exact trivial | exact rfl | apply And.intro)); done)); (iterate 1 (focus (first | assumption)))))
  all_goals (try (conv => whnf))
  all_goals try (show Nat.ble _ _ = true; rfl)
  all_goals try (exfalso; rename_i hz; cases hz; done)
  all_goals try (exfalso; (try simp only [LN] at *) <;> omega)
  refine Z.loopK tabOk (fun zq : Nat × List Kc × List Rcd => [(32, .val (.int .i64 (zq.1 : Int))), (11, .c (.gsl 4 (zq.2.2.map cR)))]) (fun zq : Nat × List Kc × List Rcd => ([(3, some (Z.Ob.b ⟨[[.ro true 4 (zq.2.1.map eK)]], 1, 30, true⟩)), (4, (gB 3 39 (zq.2.2.map cR)).map Z.Ob.b)] : Z.Kr)) (fun zq => zq.1 ≤ rs.length ∧ zq.2.2.length ≤ zq.1 ∧ (tabR zq.2.1 = true ∧ okC zq.2.1) ∧ rT o l [] rs = rT o zq.2.1 zq.2.2 (rs.drop zq.1)) (fun zq => rs.length - zq.1) (0, l, []) 5 [(3, _), (6, _), (10, _), (30, _), (31, _)] ⟨rfl, rfl, rfl, rfl, rfl, trivial⟩ [(0, some _), (1, some _), (2, some _)] ⟨rfl, rfl, rfl, trivial⟩ ?_ ?_ rfl rfl ⟨Nat.zero_le _, Nat.zero_le _, ⟨hok, hcnt⟩, rfl⟩ ?_
  · repeat' (first | exact trivial | apply And.intro | exact ⟨_, rfl, Z.Imp.refl _⟩ | exact ⟨_, rfl, Z.Imp.nilg _⟩)
  · repeat' (first | exact trivial | (intro b hb; cases hb; done) | exact (fun b hb => ⟨b, hb, Z.ImpO.refl b⟩) | apply And.intro)
  rintro ⟨i, nx, acc⟩ HINV
  (try dsimp only at HINV); (try dsimp only)
  obtain ⟨HI, HA, ⟨HT, HC⟩, HR⟩ := HINV
  have hnl := tab_len HT
  by_cases hi2 : i < rs.length
  · obtain ⟨x, hx⟩ := getElem?_some' (xs := rs) (i := i) hi2
    have cd := do_con o nx x hi (by omega) HT HC
    have hat := rT_at (o := o) (l := nx) (acc := acc) hx
    have hdl := dT_len (o := o) (l := nx) (r := x)
    have hde := dT_err (o := o) (l := nx) (r := x)
    have hdo := dT_ok (o := o) (r := x) HT HC
    generalize dT o nx x = D at *
    obtain ⟨n2, O, e⟩ := D
    dsimp only [dOut] at cd hat hdl hde hdo
    by_cases he : e = 0
    rotate_left
    · rw [if_neg he] at hat
      have h9 := hde he
      simp only [Prod.mk.injEq, and_true] at h9
      obtain ⟨rfl, rfl⟩ := h9
      rw [HR, hat]
      repeat' ((conv => whnf); first
        | (with_reducible refine spB_dec ?_ ?_ <;> intro _ <;> (try (exfalso; first | contradiction | omega | (rename_i hz; refine hz ?_; simp; done) | (rename_i hz; simp at hz; done) | (simp only [LN] at *; omega))))
        | (with_reducible refine spB_bne ?_ ?_ <;> intro _ <;> (try (exfalso; first | contradiction | omega | (rename_i hz; refine hz ?_; simp; done) | (rename_i hz; simp at hz; done) | (simp only [LN] at *; omega))))
        | with_reducible first | refine Z.rowN_known hx ?_
        | ((with_reducible apply ixN_litp); (focus (exact rfl)); (focus ((try simp only [LN] at *) <;> omega)))
        | ((first | (with_reducible refine Z.callZ_mk ?_ (cd) ?_)); (focus ((repeat' (first | exact trivial | exact rfl | apply And.intro)); done))))
      all_goals (try (conv => whnf))
      all_goals try (show Nat.ble _ _ = true; rfl)
      all_goals try (exfalso; rename_i hz; cases hz; done)
      all_goals try (exfalso; (try simp only [LN] at *) <;> omega)
      all_goals first
        | ((first | (with_reducible apply Z.retF2)); (focus (exact rfl)); (repeat' (first | exact trivial | (with_reducible apply Z.frz_one) | (with_reducible apply Z.frz_agg) | (exact Z.frz_nil) | exact rfl | apply And.intro)); (all_goals (try exact (fun _ => none))); all_goals (first | (simp; done)))
    subst he
    rw [if_pos rfl] at hat
    rcases O with _ | ⟨y, _ | ⟨z, O⟩⟩
    rotate_right 1
    · exact absurd hdl (by simp)
    all_goals (
      repeat' ((conv => whnf); first
        | ((with_reducible apply spB_cong); (focus (simp only [beq_self_eq_true, bne_self_eq_false, Bool.true_bne, Bool.false_bne, Bool.bne_true, Bool.bne_false, Bool.true_beq, Bool.false_beq, Bool.not_true, Bool.not_false, Bool.not_not, Int.reduceBEq, Int.reduceBNe, Int.reduceLE, Int.reduceLT, Int.reduceEq, decide_true, decide_false]; rfl)))
        | with_reducible first | refine spB_no (by decide) ?_
        | (with_reducible refine spB_dec ?_ ?_ <;> intro _ <;> (try (exfalso; first | contradiction | omega | (rename_i hz; refine hz ?_; simp; done) | (rename_i hz; simp at hz; done) | (simp only [LN] at *; omega))))
        | with_reducible first | refine Z.rowN_known hx ?_
        | ((with_reducible refine posE_pos ?_ ?_); (focus ((try simp only [LN] at *) <;> omega)))
        | ((with_reducible refine posE_nil ?_ ?_); (focus rfl))
        | ((with_reducible apply ixN_litp); (focus (exact rfl)); (focus ((try simp only [LN] at *) <;> omega)))
        | ((with_reducible refine apdN.mk ?_ ?_ ?_ ?_ ?_ ?_); (focus (first | rfl)); (focus (first | exact one_all (by rfl))); (focus ((try simp only [LN] at *) <;> omega)); (focus ((try simp only [LN] at *) <;> omega)); (focus ((try simp only [LN] at *) <;> omega)))
        | with_reducible refine wr_i64 (by first | omega | (simp only [LN] at *; omega)) ?_
        | ((first | (with_reducible refine Z.callZ_mk ?_ (cd) ?_)); (focus ((repeat' (first | exact trivial | exact rfl | apply And.intro)); done)))
        | ((with_reducible refine eqN_mk2 ?_ ?_); (focus (exact Z.kb_some rfl))))
      all_goals (try (conv => whnf)))
    all_goals try (show Nat.ble _ _ = true; rfl)
    all_goals try (exfalso; rename_i hz; cases hz; done)
    all_goals try (exfalso; (try simp only [LN] at *) <;> omega)
    all_goals first
      | ((refine Z.rndK ((i + 1, n2, acc)) (fun s => [0, 1, 2, 3, s.idAt 11]) rfl rfl rfl rfl ?_ ?_ ?_ ?_); (focus (repeat' (first | exact trivial | exact rfl | apply And.intro))); (focus (repeat' (first | exact trivial | (intro b hb; cases hb; rfl) | exact Z.gB_sub rfl rfl (ren_map fun _ => rfl) | apply And.intro))); (focus (refine ⟨by (try dsimp only); omega, by (try dsimp only); (try simp only [List.length_append, List.length_singleton]); omega, hdo rfl, by (try dsimp only); rw [HR, hat]; simp⟩)); ((try dsimp only); omega))
      | ((refine Z.rndK ((i + 1, n2, acc ++ [y])) (fun s => [0, 1, 2, 3, s.idAt 11]) rfl rfl rfl rfl ?_ ?_ ?_ ?_); (focus (repeat' (first | exact trivial | exact rfl | (rw [List.map_append (f := cR)]; exact rfl) | apply And.intro))); (focus (repeat' (first | exact trivial | (intro b hb; cases hb; rfl) | exact Z.gB_sub' rfl (by first | rfl | (rw [List.map_append]; rfl) | simp only [List.map_append, List.map_cons, List.map_nil]) (ren_map fun _ => rfl) | apply And.intro))); (focus (refine ⟨by (try dsimp only); omega, by (try dsimp only); (try simp only [List.length_append, List.length_singleton]); omega, hdo rfl, by (try dsimp only); rw [HR, hat]⟩)); ((try dsimp only); omega))
  have hil : i = rs.length := by omega
  subst hil
  rw [HR, List.drop_length]
  simp only [rT]
  repeat' ((conv => whnf); first
    | (with_reducible refine spB_dec ?_ ?_ <;> intro _ <;> (try (exfalso; first | contradiction | omega | (rename_i hz; refine hz ?_; simp; done) | (rename_i hz; simp at hz; done) | (simp only [LN] at *; omega)))))
  all_goals (try (conv => whnf))
  all_goals try (show Nat.ble _ _ = true; rfl)
  all_goals try (exfalso; rename_i hz; cases hz; done)
  all_goals try (exfalso; (try simp only [LN] at *) <;> omega)
  all_goals first
    | ((first | (with_reducible apply Z.retF2)); (focus (exact rfl)); (repeat' (first | exact trivial | (with_reducible apply Z.frz_one) | (with_reducible apply Z.frz_agg) | (with_reducible apply Z.fq_int) | (with_reducible apply Z.fq_ro) | ((with_reducible apply Z.fq_gsl); (focus (first | exact Z.isB_map _)); (focus (exact fun _ => rfl))) | exact rfl | apply And.intro)); (all_goals (try exact (fun _ => none))); all_goals (first | (simp; done)))
end Go.Proofs.Ytehhmkdghgabaaa
