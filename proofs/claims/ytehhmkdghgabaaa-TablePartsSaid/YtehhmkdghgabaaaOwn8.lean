import Derived.Test.YtehhmkdghgabaaaOwn7
import Derived.Test.YtehhmkdghgabaaaLib5
import Derived.Test.YtehhmkdghgabaaaOwn6
import Derived.Test.YtehhmkdghgabaaaRows
namespace Go.Proofs.Ytehhmkdghgabaaa
open Go Go.RowKit Wx
set_option linter.unusedVariables false
set_option linter.unusedSimpArgs false
set_option maxHeartbeats 4000000
def decR : List Ce → Option Rcd
  | [.v (.int .i64 a), .v (.int .i64 b), .v (.int .i64 c)] => some ⟨a, b, c⟩
  | _ => none
theorem decR_ok (r : List Ce) (x : Rcd) (h : decR r = some x) : r.map RT.of = (eR x).map some := by
  unfold decR at h
  split at h
  · simp only [Option.some.injEq] at h; subst h; rfl
  · cases h
def orc : Y.CallFn := fun c avs K top => match c, avs with
  | .fn g [], [.pl (.agg [.v (.int .i64 t), .v (.int .i64 w), ci, .v (.int .i64 a), .v (.int .i64 b)]), .pl (.agg [.v (.slice none 0 0)]), .pl (.one cr)] => match Nat.beq g 31, Y.rowsD 1 1000 Y.decI64 K.get ci, Y.rowsD 3 1000 decR K.get cr with
    | true, some ins, some rs => some ⟨dOut (runT ⟨t, w, ins, a, b⟩ [] rs), K, top, []⟩
    | _, _, _ => none
  | _, _ => none
theorem orc_sound : Y.CallsOk Try.prog orc := by
  intro c avs K top r h
  unfold orc at h
  split at h
  · rename_i g t w ci a b cr
    split at h
    · have hg : Nat.beq g 31 = true := by assumption
      rename_i ins rs _ h1 h2
      simp only [Option.some.injEq] at h
      subst h
      obtain ⟨g1, g2⟩ := Y.rowsD_low (en := Ops.eI) Y.decI64_ok h1
      obtain ⟨g3, g4⟩ := Y.rowsD_low (en := eR) decR_ok h2
      have := Nat.eq_of_beq_eq_true hg
      subst this
      exact ⟨Y.con_callE (args := [.agg [.v (.int .i64 t), .v (.int .i64 w), .ro false 1 (ins.map Ops.eI), .v (.int .i64 a), .v (.int .i64 b)], .agg [.ro false 4 (([] : List Kc).map eK)], .one (.ro false 3 (rs.map eR))]) ⟨⟨rfl, rfl, g1, rfl, rfl, trivial⟩, ⟨.inr ⟨4, rfl⟩, trivial⟩, g3, trivial⟩ (trun_con ⟨t, w, ins, a, b⟩ [] rs (by dsimp only; omega) (by simp) (fun _ h => nomatch h) (by omega)) rfl, fun _ _ => rfl⟩
    · cases h
  · cases h
theorem wakes_con : Con Try.prog 12 [] (fun x K t => x = .val (.bool true) ∧ K = [] ∧ t = 0) := Y.con_runO ftabOk tabOk mixOk orc_sound 40 12 (by kernel_rfl) (by kernel_rfl)
end Go.Proofs.Ytehhmkdghgabaaa
namespace Go.Proofs.Ytehhmkdghgabaaa
open Go Go.RowKit Wx
set_option linter.unusedVariables false
set_option linter.unusedSimpArgs false
set_option maxHeartbeats 4000000
theorem loopQ3 {P : Program} {n m : Nat} {rd : Option Nat} {s : Z.S} {c : Code} {Q : Exit → Z.S → Prop} {s9 : Z.S} (h : ∀ Q0 : Exit → Z.S → Prop, Q0 (.exit 0) s9 → Z.LoopZ P n m rd c s Q0) (k : Q (.exit 0) s9) : Z.LoopZ P n m rd c s Q := h Q k
end Go.Proofs.Ytehhmkdghgabaaa
namespace Go.Proofs.Ytehhmkdghgabaaa
open Go Go.RowKit Wx
set_option linter.unusedVariables false
set_option linter.unusedSimpArgs false
set_option maxHeartbeats 4000000
end Go.Proofs.Ytehhmkdghgabaaa
namespace Go.Proofs.Ytehhmkdghgabaaa
open Go Go.RowKit Wx
set_option linter.unusedVariables false
set_option linter.unusedSimpArgs false
set_option maxHeartbeats 4000000
structure Shr where
  ix : Int
  w : Int
deriving DecidableEq
abbrev eS (x : Shr) : List RT := [RT.v (.int .i64 x.ix), RT.v (.int .i64 x.w)]
theorem tableparts_con (x y : List Kc) (l : List Shr) (hx : x.length ≤ 9223372036854775807) (hy : y.length ≤ 9223372036854775807) (hl : l.length ≤ 9223372036854775807) : Con Try.prog 6 [.agg [.ro false 4 (x.map eK)], .agg [.ro false 4 (y.map eK)], .one (.ro false 2 (l.map eS))] (fun rx rK rt => rx = .val (.bool true) ∧ rK = [] ∧ rt = 0) := by
  refine Z.con_ofF tabOk 99 Try.f6 _ Try.func6 (by kernel_rfl) rfl rfl rfl rfl ?_
  have csx := short_con x hx
  have csy := short_con y hy
  have hX9 : (x.take 257).length ≤ 257 := by rw [List.length_take]; exact Nat.min_le_left _ _
  have hY9 : (y.take 257).length ≤ 257 := by rw [List.length_take]; exact Nat.min_le_left _ _
  generalize x.take 257 = X at *
  generalize y.take 257 = Y at *
  have m2 := rsame_con X X (by omega)
  rw [decide_eq_true (rfl : X = X)] at m2
  have m3 := rsame_con Y Y (by omega)
  rw [decide_eq_true (rfl : Y = Y)] at m3
  repeat' ((conv => whnf); first
    | ((with_reducible apply spB_cong); (focus (simp only [beq_self_eq_true, bne_self_eq_false, Bool.true_bne, Bool.false_bne, Bool.bne_true, Bool.bne_false, Bool.true_beq, Bool.false_beq, Bool.not_true, Bool.not_false, Bool.not_not, Int.reduceBEq, Int.reduceBNe, Int.reduceLE, Int.reduceLT, Int.reduceEq, decide_true, decide_false]; rfl)))
    | with_reducible first | refine spB_no (by decide) ?_
    | ((first | (with_reducible refine Z.callZ_mk ?_ (wakes_con) ?_)); (focus ((repeat' (first | exact trivial)); done)))
    | ((first | (with_reducible refine Z.conZ_mz ?_ (csx) ?_)); (focus ((repeat' (first | exact trivial | exact rfl | apply And.intro)); done)))
    | ((first | (with_reducible refine Z.conZ_mz ?_ (csy) ?_)); (focus ((repeat' (first | exact trivial | exact rfl | apply And.intro)); done)))
    | with_reducible first | refine Z.drawZ_rule tabOk mixOk ?_ | refine Z.apZ_mk (by kernel_rfl) ?_
    | fail)
  all_goals (try (conv => whnf))
  all_goals try (show Nat.ble _ _ = true; rfl)
  all_goals try (exfalso; rename_i hz; cases hz; done)
  all_goals try (exfalso; (try simp only [LN] at *) <;> omega)
  refine Z.loopK tabOk (fun zq : Nat => [(27, .val (.int .i64 (zq : Int)))]) (fun zq : Nat => ([(0, some (Z.Ob.b ⟨[[.ro false 4 (x.map eK)]], 1, 30, true⟩)), (1, some (Z.Ob.b ⟨[[.ro false 4 (y.map eK)]], 1, 30, true⟩)), (2, some (Z.Ob.b ⟨[[.ro true 4 (X.map eK)]], 1, 30, true⟩)), (3, some (Z.Ob.b ⟨[[.ro true 4 (Y.map eK)]], 1, 30, true⟩))] : Z.Kr)) (fun zq => zq ≤ l.length) (fun zq => l.length - zq) 0 4 [(3, _), (4, _), (7, _), (8, _), (25, _), (26, _)] ⟨rfl, rfl, rfl, rfl, rfl, rfl, trivial⟩ [] trivial ?_ ?_ rfl rfl (Nat.zero_le _) ?_
  · repeat' (first | exact trivial | apply And.intro | exact ⟨_, rfl, Z.Imp.refl _⟩)
  · repeat' (first | exact trivial | exact (fun b hb => ⟨b, hb, Z.ImpO.refl b⟩) | apply And.intro)
  rintro i HINV
  (try dsimp only at HINV); (try dsimp only)
  by_cases hi2 : i < l.length ∧ i ≠ 10
  · obtain ⟨hi2, hi10⟩ := hi2
    obtain ⟨s, hs⟩ := getElem?_some' (xs := l) (i := i) hi2
    have cpa := tpart_con X s.ix s.w (by omega)
    have cpo := tpart_own X s.ix s.w (by omega)
    have crp := rpart_con X s.ix s.w (by omega)
    have h7 := partT_len (a := s.ix) (w := s.w) (show X.length ≤ 1000 by omega)
    have h9 := partT_err (l := X) (a := s.ix) (w := s.w)
    generalize partT X s.ix s.w = Dd at *
    obtain ⟨R, e⟩ := Dd
    dsimp only at cpa cpo crp h7 h9
    have m1 := rsame_con R R (by omega)
    rw [decide_eq_true (rfl : R = R)] at m1
    by_cases hR : R = []
    · clear cpo
      subst hR
      repeat' ((conv => whnf); first
        | ((with_reducible apply spB_cong); (focus (simp only [beq_self_eq_true, bne_self_eq_false, Bool.true_bne, Bool.false_bne, Bool.bne_true, Bool.bne_false, Bool.true_beq, Bool.false_beq, Bool.not_true, Bool.not_false, Bool.not_not, Int.reduceBEq, Int.reduceBNe, Int.reduceLE, Int.reduceLT, Int.reduceEq, decide_true, decide_false]; rfl)))
        | with_reducible first | refine spB_no (by decide) ?_
        | (with_reducible refine spB_dec ?_ ?_ <;> intro _ <;> (try (exfalso; first | contradiction | omega | (rename_i hz; refine hz ?_; simp; done) | (rename_i hz; simp at hz; done) | (simp only [LN] at *; omega))))
        | (with_reducible refine spB_beq ?_ ?_ <;> intro _ <;> (try (exfalso; first | contradiction | omega | (rename_i hz; refine hz ?_; simp; done) | (rename_i hz; simp at hz; done) | (simp only [LN] at *; omega))))
        | with_reducible first | refine Z.rowN_known hs ?_ | refine Z.loopZ_unroll tabOk 1 ?_
        | ((with_reducible apply ixN_litp); (focus (exact rfl)); (focus ((try simp only [LN] at *) <;> omega)))
        | with_reducible refine wr_i64 (by first | omega | (simp only [LN] at *; omega)) ?_
        | with_reducible first | refine Z.callZ_in tabOk 16 Try.f26 _ Try.func26 (by kernel_rfl) rfl rfl rfl ?_
        | ((first | (with_reducible refine Z.callZ_mk ?_ (m1) ?_) | (with_reducible refine Z.callZ_mk ?_ (cpa) ?_) | (with_reducible refine Z.callZ_mk ?_ (crp) ?_)); (focus ((repeat' (first | exact trivial | exact rfl | apply And.intro)); done)))
        | ((with_reducible apply ex_and); exact rfl)
        | fail)
      all_goals (try (conv => whnf))
      all_goals try (show Nat.ble _ _ = true; rfl)
      all_goals try (exfalso; rename_i hz; cases hz; done)
      all_goals try (exfalso; (try simp only [LN] at *) <;> omega)
      all_goals first
        | ((refine Z.rndK ((i + 1)) (fun s => [0, 1, 2, 3]) rfl rfl rfl rfl ?_ ?_ ?_ ?_); (focus (repeat' (first | exact trivial | exact rfl | apply And.intro))); (focus (repeat' (first | exact trivial | (intro b hb; cases hb; rfl) | apply And.intro))); (focus (((try dsimp only); omega))); ((try dsimp only); omega))
        | fail
    have he : e = 0 := Decidable.byContradiction fun h => hR (h9 h)
    subst he
    have cpo := cpo rfl hR
    clear cpa
    repeat' ((conv => whnf); first
      | ((with_reducible apply spB_cong); (focus (simp only [beq_self_eq_true, bne_self_eq_false, Bool.true_bne, Bool.false_bne, Bool.bne_true, Bool.bne_false, Bool.true_beq, Bool.false_beq, Bool.not_true, Bool.not_false, Bool.not_not, Int.reduceBEq, Int.reduceBNe, Int.reduceLE, Int.reduceLT, Int.reduceEq, decide_true, decide_false]; rfl)))
      | with_reducible first | refine spB_no (by decide) ?_
      | (with_reducible refine spB_dec ?_ ?_ <;> intro _ <;> (try (exfalso; first | contradiction | omega | (rename_i hz; refine hz ?_; simp; done) | (rename_i hz; simp at hz; done) | (simp only [LN] at *; omega))))
      | (with_reducible refine spB_beq ?_ ?_ <;> intro _ <;> (try (exfalso; first | contradiction | omega | (rename_i hz; refine hz ?_; simp; done) | (rename_i hz; simp at hz; done) | (simp only [LN] at *; omega))))
      | with_reducible first | refine Z.rowN_known hs ?_
      | ((with_reducible refine Z.callZ_con ?_ (cpo) ?_); (focus ((repeat' (first | exact trivial | exact rfl | apply And.intro)); done)); (rintro _ _ _ ⟨cap, tl, rfl, rfl, rfl⟩))
      | ((with_reducible apply ixN_litp); (focus (exact rfl)); (focus ((try simp only [LN] at *) <;> omega)))
      | with_reducible first | refine Z.callZ_in tabOk 16 Try.f26 _ Try.func26 (by kernel_rfl) rfl rfl rfl ?_
      | ((first | (with_reducible refine Z.callZ_mk ?_ (m1) ?_) | (with_reducible refine Z.callZ_mk ?_ (crp) ?_)); (focus ((repeat' (first | exact trivial | exact low_tlK (tl := tl) rfl (by first | rfl | exact ren_cK | exact ren_cK.trans ren_cK) rfl | exact rfl | apply And.intro)); done)))
      | fail)
    all_goals (try (conv => whnf))
    all_goals try (show Nat.ble _ _ = true; rfl)
    all_goals try (exfalso; rename_i hz; cases hz; done)
    all_goals try (exfalso; (try simp only [LN] at *) <;> omega)
    apply loopQ3
    · intro Q1 hq8
      refine Z.loopK tabOk (fun zq : Nat => [(6, .val (.int .i64 (zq : Int)))]) (fun zq : Nat => ([(2, some (Z.Ob.b ⟨[[.ro true 4 (X.map eK)]], 1, 30, true⟩)), (3, some (Z.Ob.b ⟨[[.ro true 4 (Y.map eK)]], 1, 30, true⟩)), (0, some (Z.Ob.b ⟨[[.ro false 4 (x.map eK)]], 1, 30, true⟩)), (1, some (Z.Ob.b ⟨[[.ro false 4 (y.map eK)]], 1, 30, true⟩)), (5, some (Z.Ob.b ⟨(spR R zq ++ tl).map cK, 4, 74, false⟩)), (8, some (Z.Ob.b ⟨[[.osl 5 0 R.length cap]], 1, 30, true⟩))] : Z.Kr)) (fun zq => zq ≤ R.length) (fun zq => R.length - zq) 0 9 [(1, _), (5, _)] ⟨rfl, rfl, trivial⟩ [] trivial ?_ ?_ rfl rfl (Nat.zero_le _) ?_
      · repeat' (first | exact trivial | apply And.intro | exact ⟨_, rfl, Z.Imp.refl _⟩)
      · repeat' (first | exact trivial | exact (fun b hb => ⟨b, hb, Z.ImpO.refl b⟩) | (intro b hb; cases hb; refine ⟨_, rfl, ⟨rfl, rfl, rfl⟩, Z.imp_eq ?_⟩; first | rfl | exact ren_cK | exact ren_cK.trans ren_cK | (rw [spR_zero]; first | rfl | exact ren_cK | exact ren_cK.trans ren_cK); done) | apply And.intro)
      rintro j HINV
      (try dsimp only at HINV); (try dsimp only)
      by_cases hj : j < R.length
      · obtain ⟨z, hz⟩ := getElem?_some' (xs := R) (i := j) hj
        repeat' ((conv => whnf); first
          | (with_reducible refine spB_dec ?_ ?_ <;> intro _ <;> (try (exfalso; first | contradiction | omega | (rename_i hz; refine hz ?_; simp; done) | (rename_i hz; simp at hz; done) | (simp only [LN] at *; omega))))
          | ((with_reducible refine rowN_mk (cK z) ?_ ?_); (focus (exact spR_get hz)))
          | ((with_reducible apply ixN_litp); (focus (exact rfl)); (focus ((try simp only [LN] at *) <;> omega)))
          | with_reducible refine wr_i64 (by first | omega | (simp only [LN] at *; omega)) ?_
          | fail)
        all_goals (try (conv => whnf))
        all_goals try (show Nat.ble _ _ = true; rfl)
        all_goals try (exfalso; rename_i hz; cases hz; done)
        all_goals try (exfalso; (try simp only [LN] at *) <;> omega)
        all_goals first
          | ((refine Z.rnd_rw 5 ((spR R (j + 1) ++ tl).map cK) rfl rfl ?_ ?_); (focus (exact spR_set hz)); ((refine Z.rndK ((j + 1)) (fun s => [0, 1, 2, 3, 4, 5, 6, 7, 8]) rfl rfl rfl rfl ?_ ?_ ?_ ?_); (focus (repeat' (first | exact trivial | exact rfl | apply And.intro))); (focus (repeat' (first | exact trivial | (intro b hb; cases hb; rfl) | exact Z.blk_sub rfl rfl (ren_map fun _ => rfl) | apply And.intro))); (focus (((try dsimp only); omega))); ((try dsimp only); omega)))
          | fail
      have hjl : j = R.length := by omega
      subst hjl
      repeat' ((conv => whnf); first
        | (with_reducible refine spB_dec ?_ ?_ <;> intro _ <;> (try (exfalso; first | contradiction | omega | (rename_i hz; refine hz ?_; simp; done) | (rename_i hz; simp at hz; done) | (simp only [LN] at *; omega))))
        | fail)
      all_goals (try (conv => whnf))
      exact hq8
    repeat' ((conv => whnf); first
      | with_reducible refine wr_i64 (by first | omega | (simp only [LN] at *; omega)) ?_
      | ((with_reducible apply ex_and); exact rfl)
      | fail)
    all_goals (try (conv => whnf))
    all_goals try (show Nat.ble _ _ = true; rfl)
    all_goals try (exfalso; rename_i hz; cases hz; done)
    all_goals try (exfalso; (try simp only [LN] at *) <;> omega)
    all_goals first
      | ((refine Z.rndK ((i + 1)) (fun s => [0, 1, 2, 3]) rfl rfl rfl rfl ?_ ?_ ?_ ?_); (focus (repeat' (first | exact trivial | exact rfl | apply And.intro))); (focus (repeat' (first | exact trivial | (intro b hb; cases hb; rfl) | apply And.intro))); (focus (((try dsimp only); omega))); ((try dsimp only); omega))
      | fail
  have cj := tjoin_con X Y (by omega) (by omega)
  have cjo := tjoin_own X Y (by omega) (by omega)
  have crj := rjoin_con X Y (by omega) (by omega)
  have h7 := @join_len X Y
  have h9 := @join_err X Y
  generalize joinT X Y = Dd at *
  obtain ⟨R, e⟩ := Dd
  dsimp only at cj cjo crj h7 h9
  have m1 := rsame_con R R (by omega)
  rw [decide_eq_true (rfl : R = R)] at m1
  have hx6 : (i = 10 ∧ i < l.length) ∨ i = l.length := by omega
  by_cases hR : R = []
  · clear cjo
    subst hR
    rcases hx6 with ⟨rfl, h6⟩ | rfl
    · obtain ⟨s, hs⟩ := getElem?_some' (xs := l) (i := 10) h6
      repeat' ((conv => whnf); first
        | with_reducible first | refine spB_t ?_
        | ((with_reducible apply spB_cong); (focus (simp only [beq_self_eq_true, bne_self_eq_false, Bool.true_bne, Bool.false_bne, Bool.bne_true, Bool.bne_false, Bool.true_beq, Bool.false_beq, Bool.not_true, Bool.not_false, Bool.not_not, Int.reduceBEq, Int.reduceBNe, Int.reduceLE, Int.reduceLT, Int.reduceEq, decide_true, decide_false]; rfl)))
        | with_reducible first | refine spB_yes (by decide) ?_ | refine spB_no (by decide) ?_
        | (with_reducible refine spB_dec ?_ ?_ <;> intro _ <;> (try (exfalso; first | contradiction | omega | (rename_i hz; refine hz ?_; simp; done) | (rename_i hz; simp at hz; done) | (simp only [LN] at *; omega))))
        | with_reducible first | refine Z.rowN_known hs ?_ | refine Z.loopZ_unroll tabOk 1 ?_
        | ((with_reducible apply ixN_litp); (focus (exact rfl)); (focus ((try simp only [LN] at *) <;> omega)))
        | with_reducible first | refine Z.callZ_in tabOk 16 Try.f26 _ Try.func26 (by kernel_rfl) rfl rfl rfl ?_
        | ((first | (with_reducible refine Z.callZ_mk ?_ (cj) ?_) | (with_reducible refine Z.conZ_mz ?_ (crj) ?_)); (focus ((repeat' (first | exact trivial | exact rfl | apply And.intro)); done)))
        | ((first | (with_reducible refine Z.conZ_mz ?_ (csx) ?_)); (focus ((repeat' (first | exact trivial | exact rfl | apply And.intro)); done)))
        | ((first | (with_reducible refine Z.conZ_mz ?_ (csy) ?_)); (focus ((repeat' (first | exact trivial | exact rfl | apply And.intro)); done)))
        | ((first | (with_reducible refine Z.conZ_mz ?_ (m1) ?_) | (with_reducible refine Z.callZ_mk ?_ (m1) ?_)); (focus ((repeat' (first | exact trivial | exact rfl | apply And.intro)); done)))
        | ((first | (with_reducible refine Z.conZ_mz ?_ (m2) ?_)); (focus ((repeat' (first | exact trivial | exact rfl | apply And.intro)); done)))
        | ((first | (with_reducible refine Z.conZ_mz ?_ (m3) ?_)); (focus ((repeat' (first | exact trivial | exact rfl | apply And.intro)); done)))
        | ((with_reducible apply ex_and); exact rfl)
        | with_reducible first | refine Z.drawZ_rule tabOk mixOk ?_ | refine Z.apZ_mk (by kernel_rfl) ?_
        | fail)
      all_goals (try (conv => whnf))
      all_goals try (show Nat.ble _ _ = true; rfl)
      all_goals try (exfalso; rename_i hz; cases hz; done)
      all_goals try (exfalso; (try simp only [LN] at *) <;> omega)
      all_goals first
        | ((first | (with_reducible apply Z.retF1)); (focus (exact rfl)); (repeat' (first | exact trivial | exact rfl | apply And.intro)); (all_goals (try exact (fun _ => none))); all_goals (first | (simp; done)))
        | fail
    · skip
      repeat' ((conv => whnf); first
        | with_reducible first | refine spB_t ?_
        | ((with_reducible apply spB_cong); (focus (simp only [beq_self_eq_true, bne_self_eq_false, Bool.true_bne, Bool.false_bne, Bool.bne_true, Bool.bne_false, Bool.true_beq, Bool.false_beq, Bool.not_true, Bool.not_false, Bool.not_not, Int.reduceBEq, Int.reduceBNe, Int.reduceLE, Int.reduceLT, Int.reduceEq, decide_true, decide_false]; rfl)))
        | with_reducible first | refine spB_no (by decide) ?_
        | (with_reducible refine spB_dec ?_ ?_ <;> intro _ <;> (try (exfalso; first | contradiction | omega | (rename_i hz; refine hz ?_; simp; done) | (rename_i hz; simp at hz; done) | (simp only [LN] at *; omega))))
        | with_reducible first | refine Z.loopZ_unroll tabOk 1 ?_
        | with_reducible first | refine Z.callZ_in tabOk 16 Try.f26 _ Try.func26 (by kernel_rfl) rfl rfl rfl ?_
        | ((first | (with_reducible refine Z.callZ_mk ?_ (cj) ?_) | (with_reducible refine Z.conZ_mz ?_ (crj) ?_)); (focus ((repeat' (first | exact trivial | exact rfl | apply And.intro)); done)))
        | ((first | (with_reducible refine Z.conZ_mz ?_ (csx) ?_)); (focus ((repeat' (first | exact trivial | exact rfl | apply And.intro)); done)))
        | ((first | (with_reducible refine Z.conZ_mz ?_ (csy) ?_)); (focus ((repeat' (first | exact trivial | exact rfl | apply And.intro)); done)))
        | ((first | (with_reducible refine Z.conZ_mz ?_ (m1) ?_) | (with_reducible refine Z.callZ_mk ?_ (m1) ?_)); (focus ((repeat' (first | exact trivial | exact rfl | apply And.intro)); done)))
        | ((first | (with_reducible refine Z.conZ_mz ?_ (m2) ?_)); (focus ((repeat' (first | exact trivial | exact rfl | apply And.intro)); done)))
        | ((first | (with_reducible refine Z.conZ_mz ?_ (m3) ?_)); (focus ((repeat' (first | exact trivial | exact rfl | apply And.intro)); done)))
        | ((with_reducible apply ex_and); exact rfl)
        | with_reducible first | refine Z.drawZ_rule tabOk mixOk ?_ | refine Z.apZ_mk (by kernel_rfl) ?_
        | fail)
      all_goals (try (conv => whnf))
      all_goals try (show Nat.ble _ _ = true; rfl)
      all_goals try (exfalso; rename_i hz; cases hz; done)
      all_goals try (exfalso; (try simp only [LN] at *) <;> omega)
      all_goals first
        | ((first | (with_reducible apply Z.retF1)); (focus (exact rfl)); (repeat' (first | exact trivial | exact rfl | apply And.intro)); (all_goals (try exact (fun _ => none))); all_goals (first | (simp; done)))
        | fail
  have he : e = 0 := Decidable.byContradiction fun h => hR (h9 h)
  subst he
  have cjo := cjo rfl hR
  clear cj
  rcases hx6 with ⟨rfl, h6⟩ | rfl
  · obtain ⟨s, hs⟩ := getElem?_some' (xs := l) (i := 10) h6
    repeat' ((conv => whnf); first
      | ((with_reducible apply spB_cong); (focus (simp only [beq_self_eq_true, bne_self_eq_false, Bool.true_bne, Bool.false_bne, Bool.bne_true, Bool.bne_false, Bool.true_beq, Bool.false_beq, Bool.not_true, Bool.not_false, Bool.not_not, Int.reduceBEq, Int.reduceBNe, Int.reduceLE, Int.reduceLT, Int.reduceEq, decide_true, decide_false]; rfl)))
      | with_reducible first | refine spB_yes (by decide) ?_ | refine spB_no (by decide) ?_
      | (with_reducible refine spB_dec ?_ ?_ <;> intro _ <;> (try (exfalso; first | contradiction | omega | (rename_i hz; refine hz ?_; simp; done) | (rename_i hz; simp at hz; done) | (simp only [LN] at *; omega))))
      | with_reducible first | refine Z.rowN_known hs ?_
      | ((with_reducible refine Z.callZ_con ?_ (cjo) ?_); (focus ((repeat' (first | exact trivial | exact rfl | apply And.intro)); done)); (rintro _ _ _ ⟨cap, tl, rfl, rfl, rfl⟩))
      | ((with_reducible apply ixN_litp); (focus (exact rfl)); (focus ((try simp only [LN] at *) <;> omega)))
      | with_reducible first | refine Z.callZ_in tabOk 16 Try.f26 _ Try.func26 (by kernel_rfl) rfl rfl rfl ?_
      | ((first | (with_reducible refine Z.conZ_mz ?_ (crj) ?_)); (focus ((repeat' (first | exact trivial | exact rfl | apply And.intro)); done)))
      | ((first | (with_reducible refine Z.conZ_mz ?_ (csx) ?_)); (focus ((repeat' (first | exact trivial | exact rfl | apply And.intro)); done)))
      | ((first | (with_reducible refine Z.conZ_mz ?_ (csy) ?_)); (focus ((repeat' (first | exact trivial | exact rfl | apply And.intro)); done)))
      | ((first | (with_reducible refine Z.callZ_mk ?_ (m1) ?_)); (focus ((repeat' (first | exact trivial | exact low_tlK (tl := tl) rfl (by first | rfl | exact ren_cK | exact ren_cK.trans ren_cK) rfl | exact rfl | apply And.intro)); done)))
      | with_reducible first | refine Z.drawZ_rule tabOk mixOk ?_ | refine Z.apZ_mk (by kernel_rfl) ?_
      | fail)
    all_goals (try (conv => whnf))
    all_goals try (show Nat.ble _ _ = true; rfl)
    all_goals try (exfalso; rename_i hz; cases hz; done)
    all_goals try (exfalso; (try simp only [LN] at *) <;> omega)
    apply loopQ3
    · intro Q1 hq8
      refine Z.loopK tabOk (fun zq : Nat => [(6, .val (.int .i64 (zq : Int)))]) (fun zq : Nat => ([(0, some (Z.Ob.b ⟨[[.ro false 4 (x.map eK)]], 1, 30, true⟩)), (1, some (Z.Ob.b ⟨[[.ro false 4 (y.map eK)]], 1, 30, true⟩)), (2, some (Z.Ob.b ⟨[[.ro true 4 (X.map eK)]], 1, 30, true⟩)), (3, some (Z.Ob.b ⟨[[.ro true 4 (Y.map eK)]], 1, 30, true⟩)), (5, some (Z.Ob.b ⟨(spR R zq ++ tl).map cK, 4, 74, false⟩)), (8, some (Z.Ob.b ⟨[[.osl 5 0 R.length cap]], 1, 30, true⟩))] : Z.Kr)) (fun zq => zq ≤ R.length) (fun zq => R.length - zq) 0 9 [(1, _), (5, _)] ⟨rfl, rfl, trivial⟩ [] trivial ?_ ?_ rfl rfl (Nat.zero_le _) ?_
      · repeat' (first | exact trivial | apply And.intro | exact ⟨_, rfl, Z.Imp.refl _⟩)
      · repeat' (first | exact trivial | exact (fun b hb => ⟨b, hb, Z.ImpO.refl b⟩) | (intro b hb; cases hb; refine ⟨_, rfl, ⟨rfl, rfl, rfl⟩, Z.imp_eq ?_⟩; first | rfl | exact ren_cK | exact ren_cK.trans ren_cK | (rw [spR_zero]; first | rfl | exact ren_cK | exact ren_cK.trans ren_cK); done) | apply And.intro)
      rintro j HINV
      (try dsimp only at HINV); (try dsimp only)
      by_cases hj : j < R.length
      · obtain ⟨z, hz⟩ := getElem?_some' (xs := R) (i := j) hj
        repeat' ((conv => whnf); first
          | (with_reducible refine spB_dec ?_ ?_ <;> intro _ <;> (try (exfalso; first | contradiction | omega | (rename_i hz; refine hz ?_; simp; done) | (rename_i hz; simp at hz; done) | (simp only [LN] at *; omega))))
          | ((with_reducible refine rowN_mk (cK z) ?_ ?_); (focus (exact spR_get hz)))
          | ((with_reducible apply ixN_litp); (focus (exact rfl)); (focus ((try simp only [LN] at *) <;> omega)))
          | with_reducible refine wr_i64 (by first | omega | (simp only [LN] at *; omega)) ?_
          | fail)
        all_goals (try (conv => whnf))
        all_goals try (show Nat.ble _ _ = true; rfl)
        all_goals try (exfalso; rename_i hz; cases hz; done)
        all_goals try (exfalso; (try simp only [LN] at *) <;> omega)
        all_goals first
          | ((refine Z.rnd_rw 5 ((spR R (j + 1) ++ tl).map cK) rfl rfl ?_ ?_); (focus (exact spR_set hz)); ((refine Z.rndK ((j + 1)) (fun s => [0, 1, 2, 3, 4, 5, 6, 7, 8]) rfl rfl rfl rfl ?_ ?_ ?_ ?_); (focus (repeat' (first | exact trivial | exact rfl | apply And.intro))); (focus (repeat' (first | exact trivial | (intro b hb; cases hb; rfl) | exact Z.blk_sub rfl rfl (ren_map fun _ => rfl) | apply And.intro))); (focus (((try dsimp only); omega))); ((try dsimp only); omega)))
          | fail
      have hjl : j = R.length := by omega
      subst hjl
      repeat' ((conv => whnf); first
        | (with_reducible refine spB_dec ?_ ?_ <;> intro _ <;> (try (exfalso; first | contradiction | omega | (rename_i hz; refine hz ?_; simp; done) | (rename_i hz; simp at hz; done) | (simp only [LN] at *; omega))))
        | fail)
      all_goals (try (conv => whnf))
      exact hq8
    repeat' ((conv => whnf); first
      | with_reducible first | refine spB_t ?_
      | ((first | (with_reducible refine Z.conZ_mz ?_ (csx) ?_)); (focus ((repeat' (first | exact trivial | exact rfl | apply And.intro)); done)))
      | ((first | (with_reducible refine Z.conZ_mz ?_ (csy) ?_)); (focus ((repeat' (first | exact trivial | exact rfl | apply And.intro)); done)))
      | ((first | (with_reducible refine Z.conZ_mz ?_ (m2) ?_)); (focus ((repeat' (first | exact trivial | exact rfl | apply And.intro)); done)))
      | ((first | (with_reducible refine Z.conZ_mz ?_ (m3) ?_)); (focus ((repeat' (first | exact trivial | exact rfl | apply And.intro)); done)))
      | ((with_reducible apply ex_and); exact rfl)
      | with_reducible first | refine Z.drawZ_rule tabOk mixOk ?_ | refine Z.apZ_mk (by kernel_rfl) ?_
      | fail)
    all_goals (try (conv => whnf))
    all_goals try (show Nat.ble _ _ = true; rfl)
    all_goals try (exfalso; rename_i hz; cases hz; done)
    all_goals try (exfalso; (try simp only [LN] at *) <;> omega)
    all_goals first
      | ((first | (with_reducible apply Z.retF1)); (focus (exact rfl)); (repeat' (first | exact trivial | exact rfl | apply And.intro)); (all_goals (try exact (fun _ => none))); all_goals (first | (simp; done)))
      | fail
  · skip
    repeat' ((conv => whnf); first
      | ((with_reducible apply spB_cong); (focus (simp only [beq_self_eq_true, bne_self_eq_false, Bool.true_bne, Bool.false_bne, Bool.bne_true, Bool.bne_false, Bool.true_beq, Bool.false_beq, Bool.not_true, Bool.not_false, Bool.not_not, Int.reduceBEq, Int.reduceBNe, Int.reduceLE, Int.reduceLT, Int.reduceEq, decide_true, decide_false]; rfl)))
      | with_reducible first | refine spB_no (by decide) ?_
      | (with_reducible refine spB_dec ?_ ?_ <;> intro _ <;> (try (exfalso; first | contradiction | omega | (rename_i hz; refine hz ?_; simp; done) | (rename_i hz; simp at hz; done) | (simp only [LN] at *; omega))))
      | ((with_reducible refine Z.callZ_con ?_ (cjo) ?_); (focus ((repeat' (first | exact trivial | exact rfl | apply And.intro)); done)); (rintro _ _ _ ⟨cap, tl, rfl, rfl, rfl⟩))
      | with_reducible first | refine Z.callZ_in tabOk 16 Try.f26 _ Try.func26 (by kernel_rfl) rfl rfl rfl ?_
      | ((first | (with_reducible refine Z.conZ_mz ?_ (crj) ?_)); (focus ((repeat' (first | exact trivial | exact rfl | apply And.intro)); done)))
      | ((first | (with_reducible refine Z.conZ_mz ?_ (csx) ?_)); (focus ((repeat' (first | exact trivial | exact rfl | apply And.intro)); done)))
      | ((first | (with_reducible refine Z.conZ_mz ?_ (csy) ?_)); (focus ((repeat' (first | exact trivial | exact rfl | apply And.intro)); done)))
      | ((first | (with_reducible refine Z.callZ_mk ?_ (m1) ?_)); (focus ((repeat' (first | exact trivial | exact low_tlK (tl := tl) rfl (by first | rfl | exact ren_cK | exact ren_cK.trans ren_cK) rfl | exact rfl | apply And.intro)); done)))
      | with_reducible first | refine Z.drawZ_rule tabOk mixOk ?_ | refine Z.apZ_mk (by kernel_rfl) ?_
      | fail)
    all_goals (try (conv => whnf))
    all_goals try (show Nat.ble _ _ = true; rfl)
    all_goals try (exfalso; rename_i hz; cases hz; done)
    all_goals try (exfalso; (try simp only [LN] at *) <;> omega)
    apply loopQ3
    · intro Q1 hq8
      refine Z.loopK tabOk (fun zq : Nat => [(6, .val (.int .i64 (zq : Int)))]) (fun zq : Nat => ([(0, some (Z.Ob.b ⟨[[.ro false 4 (x.map eK)]], 1, 30, true⟩)), (1, some (Z.Ob.b ⟨[[.ro false 4 (y.map eK)]], 1, 30, true⟩)), (2, some (Z.Ob.b ⟨[[.ro true 4 (X.map eK)]], 1, 30, true⟩)), (3, some (Z.Ob.b ⟨[[.ro true 4 (Y.map eK)]], 1, 30, true⟩)), (4, some (Z.Ob.b ⟨(spR R zq ++ tl).map cK, 4, 74, false⟩)), (7, some (Z.Ob.b ⟨[[.osl 4 0 R.length cap]], 1, 30, true⟩))] : Z.Kr)) (fun zq => zq ≤ R.length) (fun zq => R.length - zq) 0 8 [(1, _), (5, _)] ⟨rfl, rfl, trivial⟩ [] trivial ?_ ?_ rfl rfl (Nat.zero_le _) ?_
      · repeat' (first | exact trivial | apply And.intro | exact ⟨_, rfl, Z.Imp.refl _⟩)
      · repeat' (first | exact trivial | exact (fun b hb => ⟨b, hb, Z.ImpO.refl b⟩) | (intro b hb; cases hb; refine ⟨_, rfl, ⟨rfl, rfl, rfl⟩, Z.imp_eq ?_⟩; first | rfl | exact ren_cK | exact ren_cK.trans ren_cK | (rw [spR_zero]; first | rfl | exact ren_cK | exact ren_cK.trans ren_cK); done) | apply And.intro)
      rintro j HINV
      (try dsimp only at HINV); (try dsimp only)
      by_cases hj : j < R.length
      · obtain ⟨z, hz⟩ := getElem?_some' (xs := R) (i := j) hj
        repeat' ((conv => whnf); first
          | (with_reducible refine spB_dec ?_ ?_ <;> intro _ <;> (try (exfalso; first | contradiction | omega | (rename_i hz; refine hz ?_; simp; done) | (rename_i hz; simp at hz; done) | (simp only [LN] at *; omega))))
          | ((with_reducible refine rowN_mk (cK z) ?_ ?_); (focus (exact spR_get hz)))
          | ((with_reducible apply ixN_litp); (focus (exact rfl)); (focus ((try simp only [LN] at *) <;> omega)))
          | with_reducible refine wr_i64 (by first | omega | (simp only [LN] at *; omega)) ?_
          | fail)
        all_goals (try (conv => whnf))
        all_goals try (show Nat.ble _ _ = true; rfl)
        all_goals try (exfalso; rename_i hz; cases hz; done)
        all_goals try (exfalso; (try simp only [LN] at *) <;> omega)
        all_goals first
          | ((refine Z.rnd_rw 4 ((spR R (j + 1) ++ tl).map cK) rfl rfl ?_ ?_); (focus (exact spR_set hz)); ((refine Z.rndK ((j + 1)) (fun s => [0, 1, 2, 3, 4, 5, 6, 7]) rfl rfl rfl rfl ?_ ?_ ?_ ?_); (focus (repeat' (first | exact trivial | exact rfl | apply And.intro))); (focus (repeat' (first | exact trivial | (intro b hb; cases hb; rfl) | exact Z.blk_sub rfl rfl (ren_map fun _ => rfl) | apply And.intro))); (focus (((try dsimp only); omega))); ((try dsimp only); omega)))
          | fail
      have hjl : j = R.length := by omega
      subst hjl
      repeat' ((conv => whnf); first
        | (with_reducible refine spB_dec ?_ ?_ <;> intro _ <;> (try (exfalso; first | contradiction | omega | (rename_i hz; refine hz ?_; simp; done) | (rename_i hz; simp at hz; done) | (simp only [LN] at *; omega))))
        | fail)
      all_goals (try (conv => whnf))
      exact hq8
    repeat' ((conv => whnf); first
      | with_reducible first | refine spB_t ?_
      | ((first | (with_reducible refine Z.conZ_mz ?_ (csx) ?_)); (focus ((repeat' (first | exact trivial | exact rfl | apply And.intro)); done)))
      | ((first | (with_reducible refine Z.conZ_mz ?_ (csy) ?_)); (focus ((repeat' (first | exact trivial | exact rfl | apply And.intro)); done)))
      | ((first | (with_reducible refine Z.conZ_mz ?_ (m2) ?_)); (focus ((repeat' (first | exact trivial | exact rfl | apply And.intro)); done)))
      | ((first | (with_reducible refine Z.conZ_mz ?_ (m3) ?_)); (focus ((repeat' (first | exact trivial | exact rfl | apply And.intro)); done)))
      | ((with_reducible apply ex_and); exact rfl)
      | with_reducible first | refine Z.drawZ_rule tabOk mixOk ?_ | refine Z.apZ_mk (by kernel_rfl) ?_
      | fail)
    all_goals (try (conv => whnf))
    all_goals try (show Nat.ble _ _ = true; rfl)
    all_goals try (exfalso; rename_i hz; cases hz; done)
    all_goals try (exfalso; (try simp only [LN] at *) <;> omega)
    all_goals first
      | ((first | (with_reducible apply Z.retF1)); (focus (exact rfl)); (repeat' (first | exact trivial | exact rfl | apply And.intro)); (all_goals (try exact (fun _ => none))); all_goals (first | (simp; done)))
      | fail
end Go.Proofs.Ytehhmkdghgabaaa
namespace Go.Proofs.Ytehhmkdghgabaaa
open Go Go.RowKit Wx
set_option linter.unusedVariables false
set_option linter.unusedSimpArgs false
set_option maxHeartbeats 4000000
end Go.Proofs.Ytehhmkdghgabaaa
namespace Go.Proofs.Ytehhmkdghgabaaa
open Go Go.RowKit Wx
set_option linter.unusedVariables false
set_option linter.unusedSimpArgs false
set_option maxHeartbeats 4000000
end Go.Proofs.Ytehhmkdghgabaaa
namespace Go.Proofs.Ytehhmkdghgabaaa
open Go Go.RowKit Wx
set_option linter.unusedVariables false
set_option linter.unusedSimpArgs false
set_option maxHeartbeats 40000000
end Go.Proofs.Ytehhmkdghgabaaa
namespace Go.Proofs.Ytehhmkdghgabaaa
open Go Go.RowKit Wx
set_option linter.unusedVariables false
set_option linter.unusedSimpArgs false
set_option maxHeartbeats 40000000
end Go.Proofs.Ytehhmkdghgabaaa
namespace Go.Proofs.Ytehhmkdghgabaaa
open Go Go.RowKit Wx
set_option linter.unusedVariables false
set_option linter.unusedSimpArgs false
set_option maxHeartbeats 40000000
end Go.Proofs.Ytehhmkdghgabaaa
namespace Go.Proofs.Ytehhmkdghgabaaa
open Go Go.RowKit Wx
set_option linter.unusedVariables false
set_option linter.unusedSimpArgs false
set_option maxHeartbeats 40000000
end Go.Proofs.Ytehhmkdghgabaaa
namespace Go.Proofs.Ytehhmkdghgabaaa
open Go Go.RowKit Wx
set_option linter.unusedVariables false
set_option linter.unusedSimpArgs false
set_option maxHeartbeats 40000000
end Go.Proofs.Ytehhmkdghgabaaa
namespace Go.Proofs.Ytehhmkdghgabaaa
open Go Go.RowKit Wx
set_option linter.unusedVariables false
set_option linter.unusedSimpArgs false
set_option maxHeartbeats 4000000
end Go.Proofs.Ytehhmkdghgabaaa
namespace Go.Proofs.Ytehhmkdghgabaaa
open Go Go.RowKit Wx
set_option linter.unusedVariables false
set_option linter.unusedSimpArgs false
set_option maxHeartbeats 4000000
end Go.Proofs.Ytehhmkdghgabaaa
namespace Go.Proofs.Ytehhmkdghgabaaa
open Go Go.RowKit Wx
set_option linter.unusedVariables false
set_option linter.unusedSimpArgs false
set_option maxHeartbeats 4000000
end Go.Proofs.Ytehhmkdghgabaaa
namespace Go.Proofs.Ytehhmkdghgabaaa
open Go Go.RowKit Wx
set_option linter.unusedVariables false
set_option linter.unusedSimpArgs false
set_option maxHeartbeats 4000000
end Go.Proofs.Ytehhmkdghgabaaa
namespace Go.Proofs.Ytehhmkdghgabaaa
open Go Go.RowKit Wx
set_option linter.unusedVariables false
set_option linter.unusedSimpArgs false
set_option maxHeartbeats 4000000
end Go.Proofs.Ytehhmkdghgabaaa
namespace Go.Proofs.Ytehhmkdghgabaaa
open Go Go.RowKit Wx
set_option linter.unusedVariables false
set_option linter.unusedSimpArgs false
set_option maxHeartbeats 4000000
end Go.Proofs.Ytehhmkdghgabaaa
namespace Go.Proofs.Ytehhmkdghgabaaa
open Go Go.RowKit Wx
set_option linter.unusedVariables false
set_option linter.unusedSimpArgs false
set_option maxHeartbeats 4000000
def okKw (x : Kc) : Prop := (Lit.int .i64 x.src).wf = true ∧ (Lit.int .i64 x.key).wf = true ∧ (Lit.int .i64 x.cnt).wf = true ∧ (Lit.int .i64 x.sum).wf = true
theorem rowKc (row : List RT) (h : RowF (.st (.cons 3 1 (.int .i64) (.cons 3 1 (.int .i64) (.cons 41 2 (.st (.cons 2 1 (.int .i64) (.cons 2 1 (.int .i64) .nil))) .nil)))) row) : ∃ x, row = eK x ∧ okKw x := by
  obtain ⟨a0, r0, rfl, _, ⟨z0, rfl, w0⟩, a1, r1, rfl, _, ⟨z1, rfl, w1⟩, a2, r2, rfl, _, ⟨a3, r3, rfl, _, ⟨z2, rfl, w2⟩, a4, r4, rfl, _, ⟨z3, rfl, w3⟩, rfl⟩, rfl⟩ := h
  exact ⟨⟨z0, z1, z2, z3⟩, rfl, w0, w1, w2, w3⟩
structure Tb where
  rows : List Kc
abbrev eTb (x : Tb) : List RT := [RT.ro 4 (x.rows.map eK)]
def okTb (x : Tb) : Prop := (x.rows.length ≤ maxLen ∧ ∀ z ∈ x.rows, okKw z) ∧ True
theorem rowTb (row : List RT) (h : RowF (.st (.cons 28 1 (.sl (.st (.cons 3 1 (.int .i64) (.cons 3 1 (.int .i64) (.cons 41 2 (.st (.cons 2 1 (.int .i64) (.cons 2 1 (.int .i64) .nil))) .nil)))) 74 4) .nil)) row) : ∃ x, row = eTb x ∧ okTb x := by
  obtain ⟨a0, r0, rfl, _, ⟨rows0, rfl, l0, h0⟩, rfl⟩ := h
  obtain ⟨z0, rfl, k0⟩ := rows_map eK (fun z => okKw z) rowKc rows0 h0
  exact ⟨⟨z0⟩, rfl, ⟨by simpa using l0, k0⟩, trivial⟩
namespace tableBack
end tableBack
end Go.Proofs.Ytehhmkdghgabaaa
namespace Go.Proofs.Ytehhmkdghgabaaa
open Go Go.RowKit Wx
set_option linter.unusedVariables false
set_option linter.unusedSimpArgs false
set_option maxHeartbeats 4000000
def okShr (x : Shr) : Prop := (Lit.int .i64 x.ix).wf = true ∧ (Lit.int .i64 x.w).wf = true
theorem rowShr (row : List RT) (h : RowF (.st (.cons 3 1 (.int .i64) (.cons 3 1 (.int .i64) .nil))) row) : ∃ x, row = eS x ∧ okShr x := by
  obtain ⟨a0, r0, rfl, _, ⟨z0, rfl, w0⟩, a1, r1, rfl, _, ⟨z1, rfl, w1⟩, rfl⟩ := h
  exact ⟨⟨z0, z1⟩, rfl, w0, w1⟩
namespace tableParts
theorem main (avs : List A0) (h : All2 FitA [(.st (.cons 28 1 (.sl (.st (.cons 3 1 (.int .i64) (.cons 3 1 (.int .i64) (.cons 41 2 (.st (.cons 2 1 (.int .i64) (.cons 2 1 (.int .i64) .nil))) .nil)))) 74 4) .nil)), (.st (.cons 28 1 (.sl (.st (.cons 3 1 (.int .i64) (.cons 3 1 (.int .i64) (.cons 41 2 (.st (.cons 2 1 (.int .i64) (.cons 2 1 (.int .i64) .nil))) .nil)))) 74 4) .nil)), (.sl (.st (.cons 3 1 (.int .i64) (.cons 3 1 (.int .i64) .nil))) 59 2)] avs) : Con Try.prog 6 avs (fun x K t => x = .val (.bool true) ∧ K = [] ∧ t = 0) := by
  obtain ⟨x0, x1, x2, rfl, h0, h1, h2⟩ : ∃ x0 x1 x2, avs = [x0, x1, x2] ∧ FitA (.st (.cons 28 1 (.sl (.st (.cons 3 1 (.int .i64) (.cons 3 1 (.int .i64) (.cons 41 2 (.st (.cons 2 1 (.int .i64) (.cons 2 1 (.int .i64) .nil))) .nil)))) 74 4) .nil)) x0 ∧ FitA (.st (.cons 28 1 (.sl (.st (.cons 3 1 (.int .i64) (.cons 3 1 (.int .i64) (.cons 41 2 (.st (.cons 2 1 (.int .i64) (.cons 2 1 (.int .i64) .nil))) .nil)))) 74 4) .nil)) x1 ∧ FitA (.sl (.st (.cons 3 1 (.int .i64) (.cons 3 1 (.int .i64) .nil))) 59 2) x2 := by
    cases avs with
    | nil => exact h.elim
    | cons x0 r => cases r with
      | nil => exact h.2.elim
      | cons x1 r => cases r with
        | nil => exact h.2.2.elim
        | cons x2 r => cases r with
          | nil => exact ⟨x0, x1, x2, rfl, h.1, h.2.1, h.2.2.1⟩
          | cons => exact h.2.2.2.elim
  clear h
  obtain ⟨row0, hrow0, rfl⟩ := h0
  obtain ⟨x, rfl, kx⟩ := rowTb row0 hrow0
  obtain ⟨row1, hrow1, rfl⟩ := h1
  obtain ⟨y, rfl, ky⟩ := rowTb row1 hrow1
  obtain ⟨r2, ⟨rows2, hr2, ll, hrows2⟩, rfl⟩ := h2
  simp only [List.cons.injEq, and_true] at hr2
  subst hr2
  obtain ⟨l, rfl, kl⟩ := rows_map eS (okShr) rowShr rows2 hrows2
  rw [List.length_map] at ll
  exact tableparts_con x.rows y.rows l (by have := kx.1.1; simpa [maxLen] using this) (by have := ky.1.1; simpa [maxLen] using this) (by simpa [maxLen] using ll)
end tableParts
end Go.Proofs.Ytehhmkdghgabaaa
