import Derived.Test.YtopieffkpdlpbaaOwn8
import Derived.Test.YtopieffkpdlpbaaOwn6
import Derived.Test.YtopieffkpdlpbaaRows
set_option linter.unusedVariables false
set_option linter.unusedSimpArgs false
namespace Go.Proofs.Ytopieffkpdlpbaa
open Go Go.RowKit Wx
set_option maxHeartbeats 4000000
theorem spoil0_con   : Con Try.prog 17 [.agg [.v (.int .i64 0), .v (.int .i64 0), .v (.int .i64 0), .v (.bool false), .ro false 4 (([] : List Tab.Kc).map Tab.eK), .v (.int .i64 0), .v (.int .i64 0), .v (.int .i64 0), .v (.int .i64 0), .v (.int .i64 0), .v (.int .i64 0), .v (.int .i64 0), .v (.int .i64 0), .ro false 3 (([] : List Nm).map eN)]] (fun rx rK rt => rx = .tup [] ∧ rK = [] ∧ rt = 0) := by
 refine Z.con_ofF tabOk 31 Try.f17 _ Try.func17 (by kernel_rfl) rfl rfl rfl rfl ?_
 repeat' ((conv => whnf); first
  | with_reducible first | refine spB_no (by decide) ?_
  | with_reducible first | refine Z.loopZ_unroll tabOk 1 ?_
  | fail)
 all_goals (try (conv => whnf))
 all_goals try first | (show Nat.ble _ _ = true; rfl) | (exfalso; rename_i hz; cases hz; done) | (exfalso; (try simp only [LN] at *) <;> omega)
 all_goals first
  | ((first | (with_reducible apply Z.retF0)); (focus rfl); (repeat' (first | exact trivial)); (all_goals (try exact (fun _ => none))); all_goals (first | (simp; done)))
  | fail
abbrev eI (z : Int) : List RT := [RT.v (.int .i64 z)]
theorem snapwhole_con (x : List Sn) (ws : List Int) (hx : ∀ y ∈ x, y.rows.length ≤ 9223372036854775807 ∧ y.txs.length ≤ 9223372036854775807) (hl : x.length ≤ 9223372036854775807) (hws : ws.length ≤ 9223372036854775807) : Con Try.prog 4 [.one (.ro false 14 ((x : List Sn).map eSn)), .one (.ro false 1 (ws.map eI))] (fun rx rK rt => rx = .val (.bool true) ∧ rK = [] ∧ rt = 0) := by
 refine Z.con_ofF tabOk 91 Try.f4 _ Try.func4 (by kernel_rfl) rfl rfl rfl rfl ?_
 have csx := shorts_con x hx hl
 obtain ⟨hLl, hLx⟩ := shortsS_len (l := x)
 generalize shortsS x = L at *
 have hLa : ∀ y ∈ L, y.rows.length ≤ 1000 ∧ y.txs.length ≤ 1000 := fun y hy => by have := hLx y hy; omega
 have ca := all_con L hLa (by omega)
 have cr := srwhole_con L hLa (by omega)
 by_cases he : (wholeE L).2 = 0
 rotate_left
 ·have c1 := swhole_con L hLa (by omega)
  have hz := wholeE_bad he
  rw [hz] at c1 cr
  generalize (wholeE L).2 = e at *
  have m1 := rsame_con zeroS zeroS (by exact Nat.zero_le _) (by exact Nat.zero_le _)
  rw [decide_eq_true rfl] at m1
  dsimp only [zeroS] at m1 c1 cr
  repeat' ((conv => whnf); first
   | ((with_reducible apply spB_cong); (focus (simp only [splQ, Int.reduceBEq, Int.reduceBNe, Int.reduceLE, Int.reduceLT, Int.reduceEq]; rfl)))
   | with_reducible first | refine spB_no (by decide) ?_
   | ((first | (with_reducible refine Z.callZ_mk ?_ (wakes_con) ?_) | (with_reducible refine Z.callZ_mk ?_ (m1) ?_) | (with_reducible refine Z.callZ_mk ?_ (csx) ?_) | (with_reducible refine Z.callZ_mk ?_ (c1) ?_) | (with_reducible refine Z.callZ_mk ?_ (cr) ?_) | (with_reducible refine Z.callZ_mk ?_ (ca) ?_) | (with_reducible refine Z.callZ_mk ?_ (spoil0_con) ?_)); (focus ((repeat' (first | exact trivial | exact rfl | apply And.intro)); done)))
   | fail)
  all_goals (try (conv => whnf))
  all_goals try first | (show Nat.ble _ _ = true; rfl) | (exfalso; rename_i hz; cases hz; done) | (exfalso; (try simp only [LN] at *) <;> omega)
  refine Z.loopK tabOk (fun zq : Nat => [(56, .val (.int .i64 (zq : Int)))]) (fun zq : Nat => ([] : Z.Kr)) (fun zq => zq ≤ ws.length) (fun zq => ws.length - zq) 0 2 [(5, _), (6, _), (54, _), (55, _)] ⟨rfl, rfl, rfl, rfl, trivial⟩ [] trivial ?_ ?_ rfl rfl (Nat.zero_le _) ?_
  ·repeat' (first | exact trivial | apply And.intro | exact ⟨_, rfl, Z.Imp.refl _⟩)
  ·repeat' (first | exact trivial)
  rintro i HINV
  (try dsimp only at HINV); (try dsimp only)
  by_cases hi : i < ws.length ∧ i ≠ 5
  rotate_left
  ·by_cases hil : i < ws.length
   ·have hi5 : i = 5 := by omega
    subst hi5
    obtain ⟨n, hn⟩ := getElem?_some' (xs := ws) (i := 5) hil
    repeat' ((conv => whnf); first
     | with_reducible first | refine spB_yes (by decide) ?_
     | (with_reducible refine spB_dec ?_ ?_ <;> intro _ <;> (try (exfalso; (first | (simp only [LN] at *; omega)))))
     | with_reducible first | refine Z.rowN_known hn ?_
     | ((with_reducible apply ixN_litp); (focus rfl); (focus ((try simp only [LN] at *) <;> omega)))
     | fail)
    all_goals (try (conv => whnf))
    all_goals try first | (show Nat.ble _ _ = true; rfl) | (exfalso; rename_i hz; cases hz; done) | (exfalso; (try simp only [LN] at *) <;> omega)
    all_goals first
     | ((first | (with_reducible apply Z.retF1)); (focus rfl); (repeat' (first | exact trivial | (with_reducible apply Z.frz_one) | (with_reducible apply Z.fq_bool) | exact rfl | apply And.intro)); (all_goals (try exact (fun _ => none))); all_goals (first | (simp; done)))
     | fail
   have hil2 : i = ws.length := by omega
   subst hil2
   repeat' ((conv => whnf); first
    | (with_reducible refine spB_dec ?_ ?_ <;> intro _ <;> (try (exfalso; (first | (rename_i hz; simp at hz; done)))))
    | fail)
   all_goals (try (conv => whnf))
   all_goals try first | (show Nat.ble _ _ = true; rfl) | (exfalso; rename_i hz; cases hz; done) | (exfalso; (try simp only [LN] at *) <;> omega)
   all_goals first
    | ((first | (with_reducible apply Z.retF1)); (focus rfl); (repeat' (first | exact trivial | (with_reducible apply Z.frz_one) | (with_reducible apply Z.fq_bool) | exact rfl | apply And.intro)); (all_goals (try exact (fun _ => none))); all_goals (first | (simp; done)))
    | fail
  obtain ⟨hi, hi5⟩ := hi
  obtain ⟨n, hn⟩ := getElem?_some' (xs := ws) (i := i) hi
  have r1 := sresc_con L n hLa (by omega)
  have r2 := srresc_con L n hLa (by omega)
  have hrl := @rescE_lens L n
  generalize rescE L n = Dd at *
  obtain ⟨Pp, e⟩ := Dd
  dsimp only at r1 r2 hrl
  have cb := all_con Pp hrl.1 (by omega)
  repeat' ((conv => whnf); first
   | ((with_reducible apply spB_cong); (focus (simp only [splQ, Int.reduceBEq, Int.reduceBNe, Int.reduceLE, Int.reduceLT, Int.reduceEq]; rfl)))
   | with_reducible first | refine spB_no (by decide) ?_
   | (with_reducible refine spB_dec ?_ ?_ <;> intro _ <;> (try (exfalso; (first | (simp only [LN] at *; omega)))))
   | (with_reducible refine spB_beq ?_ ?_ <;> intro _ <;> (try (exfalso; (first | omega))))
   | with_reducible first | refine Z.rowN_known hn ?_
   | ((with_reducible apply ixN_litp); (focus rfl); (focus ((try simp only [LN] at *) <;> omega)))
   | with_reducible refine wr_i64 (by first | omega | (simp only [LN] at *; omega)) ?_
   | ((first | (with_reducible refine Z.callZ_mk ?_ (r1) ?_) | (with_reducible refine Z.callZ_mk ?_ (r2) ?_)); (focus ((repeat' (first | exact trivial | exact rfl | apply And.intro)); done)))
   | ((first | (with_reducible refine Z.callZ_mk ?_ (ca) ?_)); (focus ((repeat' (first | exact trivial | exact rfl | apply And.intro)); done)))
   | ((first | (with_reducible refine Z.callZ_mk ?_ (cb) ?_)); (focus ((repeat' (first | exact trivial | exact rfl | apply And.intro)); done)))
   | fail)
  all_goals (try (conv => whnf))
  all_goals try first | (show Nat.ble _ _ = true; rfl) | (exfalso; rename_i hz; cases hz; done) | (exfalso; (try simp only [LN] at *) <;> omega)
  all_goals first
   | ((refine Z.rndK ((i + 1)) (fun s => [0, 1]) rfl rfl rfl rfl ?_ ?_ ?_ ?_); (focus (repeat' (first | exact trivial | exact rfl | apply And.intro))); (focus (repeat' (first | exact trivial))); (focus (((try dsimp only); omega))); ((try dsimp only); omega))
   | fail
 obtain ⟨k1, k2, k3, k4⟩ := wholeE_ok he
 have hWl : (wholeS L).rows.length ≤ 256 := gath_len _
 have hWn : (wholeS L).txs.length ≤ 24 := names_len k3
 have m1 := rsame_con (wholeS L) (wholeS L) (by omega) (by omega)
 rw [decide_eq_true rfl] at m1
 have hWi : (wholeS L).ix = 0 := rfl
 have hWw : (wholeS L).w = 1 := rfl
 rw [k4] at cr
 dsimp only at cr
 by_cases hR : (wholeS L).rows = []
 ·skip
  have co := swhole_ownE L hLa he hR
  unfold ownWE at co
  clear k1 k2 k3 k4 he
  generalize wholeS L = WW at *
  obtain ⟨wop, wix, ww, wen, wrows, wo0, wo1, wo2, wo3, wo4, wo5, wo6, wo7, wtxs⟩ := WW
  dsimp only at *
  subst hWi hWw
  subst hR
  repeat' ((conv => whnf); first
   | ((with_reducible apply spB_cong); (focus (simp only [splQ, Int.reduceBEq, Int.reduceBNe, Int.reduceLE, Int.reduceLT, Int.reduceEq]; rfl)))
   | with_reducible first | refine spB_no (by decide) ?_
   | ((with_reducible refine Z.callZ_con ?_ (co) ?_); (focus ((repeat' (first | exact trivial | exact rfl | apply And.intro)); done)); (rintro _ _ _ ⟨rfl, rfl, rfl⟩))
   | with_reducible first | refine Z.callZ_in tabOk 31 Try.f17 _ Try.func17 (by kernel_rfl) rfl rfl rfl ?_
   | ((first | (with_reducible refine Z.callZ_mk ?_ (wakes_con) ?_) | (with_reducible refine Z.callZ_mk ?_ (m1) ?_) | (with_reducible refine Z.callZ_mk ?_ (csx) ?_) | (with_reducible refine Z.callZ_mk ?_ (cr) ?_) | (with_reducible refine Z.callZ_mk ?_ (ca) ?_)); (focus ((repeat' (first | exact trivial | exact low_nm rfl (by first | rfl | exact ren_cN | exact ren_cN.trans ren_cN) rfl | exact rfl | apply And.intro)); done)))
   | fail)
  all_goals (try (conv => whnf))
  all_goals try first | (show Nat.ble _ _ = true; rfl) | (exfalso; rename_i hz; cases hz; done) | (exfalso; (try simp only [LN] at *) <;> omega)
  refine Z.loopZ_unroll tabOk 1 ?_
  repeat' ((conv => whnf); first
   | with_reducible first | refine spB_no (by decide) ?_
   | fail)
  all_goals (try (conv => whnf))
  all_goals try first | (show Nat.ble _ _ = true; rfl) | (exfalso; rename_i hz; cases hz; done) | (exfalso; (try simp only [LN] at *) <;> omega)
  apply loopQn 2
  ·intro Q1 hq8
   refine Z.loopK tabOk (fun zq : Nat => [(22, .val (.int .i64 (zq : Int)))]) (fun zq : Nat => ([(0, some (Z.Ob.b ⟨(spN wtxs zq).map cN, 3, 90, false⟩)), (3, some (Z.Ob.b ⟨[[.v (.int .i64 wop), .v (.int .i64 0), .v (.int .i64 1), .v (.bool wen), .ro true 4 (([] : List Tab.Kc).map Tab.eK), .v (.int .i64 wo0), .v (.int .i64 wo1), .v (.int .i64 wo2), .v (.int .i64 wo3), .v (.int .i64 wo4), .v (.int .i64 wo5), .v (.int .i64 wo6), .v (.int .i64 wo7), .osl 0 0 wtxs.length (some wtxs.length)]], 14, 33, true⟩))] : Z.Kr)) (fun zq => zq ≤ wtxs.length) (fun zq => wtxs.length - zq) 0 4 [(1, _), (21, _)] ⟨rfl, rfl, trivial⟩ [] trivial ?_ ?_ rfl rfl (Nat.zero_le _) ?_
   ·repeat' (first | exact trivial | apply And.intro | exact ⟨_, rfl, Z.Imp.refl _⟩)
   ·repeat' (first | exact trivial | exact (fun b hb => ⟨b, hb, Z.ImpO.refl b⟩) | (intro b hb; cases hb; refine ⟨_, rfl, ⟨rfl, rfl, rfl⟩, Z.imp_eq ?_⟩; first | rfl | exact ren_cN | exact ren_cN.trans ren_cN | (rw [spN_zero]; first | rfl | exact ren_cN | exact ren_cN.trans ren_cN); done) | apply And.intro)
   rintro j HINV
   (try dsimp only at HINV); (try dsimp only)
   by_cases hj : j < wtxs.length
   ·obtain ⟨z, hz⟩ := getElem?_some' (xs := wtxs) (i := j) hj
    repeat' ((conv => whnf); first
     | (with_reducible refine spB_dec ?_ ?_ <;> intro _ <;> (try (exfalso; (first | omega))))
     | ((with_reducible refine rowN_mk (cN z) ?_ ?_); (focus (exact spN_get hz)))
     | ((with_reducible apply ixN_litp); (focus rfl); (focus ((try simp only [LN] at *) <;> omega)))
     | with_reducible refine wr_i64 (by first | omega | (simp only [LN] at *; omega)) ?_
     | fail)
    all_goals (try (conv => whnf))
    all_goals try first | (show Nat.ble _ _ = true; rfl) | (exfalso; rename_i hz; cases hz; done) | (exfalso; (try simp only [LN] at *) <;> omega)
    all_goals first
     | ((refine Z.rnd_rw 0 ((spN wtxs (j + 1)).map cN) rfl rfl ?_ ?_); (focus (exact spN_set hz)); ((refine Z.rndK ((j + 1)) (fun s => [0, 1, 2, 3]) rfl rfl rfl rfl ?_ ?_ ?_ ?_); (focus (repeat' (first | exact trivial | exact rfl | apply And.intro))); (focus (repeat' (first | exact trivial | (intro b hb; cases hb; rfl) | exact Z.blk_sub rfl rfl (ren_map fun _ => rfl) | apply And.intro))); (focus (((try dsimp only); omega))); ((try dsimp only); omega)))
     | fail
   have hjl : j = wtxs.length := by omega
   subst hjl
   repeat' ((conv => whnf); first
    | (with_reducible refine spB_dec ?_ ?_ <;> intro _ <;> (try (exfalso; (first | omega))))
    | fail)
   all_goals (try (conv => whnf))
   exact hq8
  repeat' ((conv => whnf); first
   | ((with_reducible apply spB_cong); (focus (simp only [splQ, Int.reduceBEq, Int.reduceBNe, Int.reduceLE, Int.reduceLT, Int.reduceEq]; rfl)))
   | with_reducible first | refine spB_no (by decide) ?_
   | ((first | (with_reducible refine Z.callZ_mk ?_ (ca) ?_)); (focus ((repeat' (first | exact trivial | exact rfl | apply And.intro)); done)))
   | ((with_reducible apply ex_and); exact rfl)
   | fail)
  all_goals (try (conv => whnf))
  all_goals try first | (show Nat.ble _ _ = true; rfl) | (exfalso; rename_i hz; cases hz; done) | (exfalso; (try simp only [LN] at *) <;> omega)
  refine Z.loopK tabOk (fun zq : Nat => [(56, .val (.int .i64 (zq : Int)))]) (fun zq : Nat => ([] : Z.Kr)) (fun zq => zq ≤ ws.length) (fun zq => ws.length - zq) 0 4 [(5, _), (6, _), (54, _), (55, _)] ⟨rfl, rfl, rfl, rfl, trivial⟩ [] trivial ?_ ?_ rfl rfl (Nat.zero_le _) ?_
  ·repeat' (first | exact trivial | apply And.intro | exact ⟨_, rfl, Z.Imp.refl _⟩)
  ·repeat' (first | exact trivial)
  rintro i HINV
  (try dsimp only at HINV); (try dsimp only)
  by_cases hi : i < ws.length ∧ i ≠ 5
  rotate_left
  ·by_cases hil : i < ws.length
   ·have hi5 : i = 5 := by omega
    subst hi5
    obtain ⟨n, hn⟩ := getElem?_some' (xs := ws) (i := 5) hil
    repeat' ((conv => whnf); first
     | with_reducible first | refine spB_yes (by decide) ?_
     | (with_reducible refine spB_dec ?_ ?_ <;> intro _ <;> (try (exfalso; (first | (simp only [LN] at *; omega)))))
     | with_reducible first | refine Z.rowN_known hn ?_
     | ((with_reducible apply ixN_litp); (focus rfl); (focus ((try simp only [LN] at *) <;> omega)))
     | fail)
    all_goals (try (conv => whnf))
    all_goals try first | (show Nat.ble _ _ = true; rfl) | (exfalso; rename_i hz; cases hz; done) | (exfalso; (try simp only [LN] at *) <;> omega)
    all_goals first
     | ((first | (with_reducible apply Z.retF1)); (focus rfl); (repeat' (first | exact trivial | (with_reducible apply Z.frz_one) | (with_reducible apply Z.fq_bool) | exact rfl | apply And.intro)); (all_goals (try exact (fun _ => none))); all_goals (first | (simp; done)))
     | fail
   have hil2 : i = ws.length := by omega
   subst hil2
   repeat' ((conv => whnf); first
    | (with_reducible refine spB_dec ?_ ?_ <;> intro _ <;> (try (exfalso; (first | (rename_i hz; simp at hz; done)))))
    | fail)
   all_goals (try (conv => whnf))
   all_goals try first | (show Nat.ble _ _ = true; rfl) | (exfalso; rename_i hz; cases hz; done) | (exfalso; (try simp only [LN] at *) <;> omega)
   all_goals first
    | ((first | (with_reducible apply Z.retF1)); (focus rfl); (repeat' (first | exact trivial | (with_reducible apply Z.frz_one) | (with_reducible apply Z.fq_bool) | exact rfl | apply And.intro)); (all_goals (try exact (fun _ => none))); all_goals (first | (simp; done)))
    | fail
  obtain ⟨hi, hi5⟩ := hi
  obtain ⟨n, hn⟩ := getElem?_some' (xs := ws) (i := i) hi
  have r1 := sresc_con L n hLa (by omega)
  have r2 := srresc_con L n hLa (by omega)
  have hrl := @rescE_lens L n
  generalize rescE L n = Dd at *
  obtain ⟨Pp, e⟩ := Dd
  dsimp only at r1 r2 hrl
  have cb := all_con Pp hrl.1 (by omega)
  repeat' ((conv => whnf); first
   | ((with_reducible apply spB_cong); (focus (simp only [splQ, Int.reduceBEq, Int.reduceBNe, Int.reduceLE, Int.reduceLT, Int.reduceEq]; rfl)))
   | with_reducible first | refine spB_no (by decide) ?_
   | (with_reducible refine spB_dec ?_ ?_ <;> intro _ <;> (try (exfalso; (first | (simp only [LN] at *; omega)))))
   | (with_reducible refine spB_beq ?_ ?_ <;> intro _ <;> (try (exfalso; (first | omega))))
   | with_reducible first | refine Z.rowN_known hn ?_
   | ((with_reducible apply ixN_litp); (focus rfl); (focus ((try simp only [LN] at *) <;> omega)))
   | with_reducible refine wr_i64 (by first | omega | (simp only [LN] at *; omega)) ?_
   | ((first | (with_reducible refine Z.callZ_mk ?_ (r1) ?_) | (with_reducible refine Z.callZ_mk ?_ (r2) ?_)); (focus ((repeat' (first | exact trivial | exact rfl | apply And.intro)); done)))
   | ((first | (with_reducible refine Z.callZ_mk ?_ (ca) ?_)); (focus ((repeat' (first | exact trivial | exact rfl | apply And.intro)); done)))
   | ((first | (with_reducible refine Z.callZ_mk ?_ (cb) ?_)); (focus ((repeat' (first | exact trivial | exact rfl | apply And.intro)); done)))
   | fail)
  all_goals (try (conv => whnf))
  all_goals try first | (show Nat.ble _ _ = true; rfl) | (exfalso; rename_i hz; cases hz; done) | (exfalso; (try simp only [LN] at *) <;> omega)
  all_goals first
   | ((refine Z.rndK ((i + 1)) (fun s => [0, 1, 2, 3]) rfl rfl rfl rfl ?_ ?_ ?_ ?_); (focus (repeat' (first | exact trivial | exact rfl | apply And.intro))); (focus (repeat' (first | exact trivial))); (focus (((try dsimp only); omega))); ((try dsimp only); omega))
   | fail
 ·skip
  have co := swhole_ownR L hLa he hR
  unfold ownWR at co
  clear k1 k2 k3 k4 he
  generalize wholeS L = WW at *
  obtain ⟨wop, wix, ww, wen, wrows, wo0, wo1, wo2, wo3, wo4, wo5, wo6, wo7, wtxs⟩ := WW
  dsimp only at *
  subst hWi hWw
  repeat' ((conv => whnf); first
   | ((with_reducible apply spB_cong); (focus (simp only [splQ, Int.reduceBEq, Int.reduceBNe, Int.reduceLE, Int.reduceLT, Int.reduceEq]; rfl)))
   | with_reducible first | refine spB_no (by decide) ?_
   | ((with_reducible refine Z.callZ_con ?_ (co) ?_); (focus ((repeat' (first | exact trivial | exact rfl | apply And.intro)); done)); (rintro _ _ _ ⟨cap, tl, rfl, rfl, rfl⟩))
   | with_reducible first | refine Z.callZ_in tabOk 31 Try.f17 _ Try.func17 (by kernel_rfl) rfl rfl rfl ?_
   | ((first | (with_reducible refine Z.callZ_mk ?_ (wakes_con) ?_) | (with_reducible refine Z.callZ_mk ?_ (m1) ?_) | (with_reducible refine Z.callZ_mk ?_ (csx) ?_) | (with_reducible refine Z.callZ_mk ?_ (cr) ?_) | (with_reducible refine Z.callZ_mk ?_ (ca) ?_)); (focus ((repeat' (first | exact trivial | exact low_nm rfl (by first | rfl | exact ren_cN | exact ren_cN.trans ren_cN) rfl | exact Tab.low_tlK (tl := tl) rfl (by first | rfl | exact Tab.ren_cK | exact Tab.ren_cK.trans Tab.ren_cK) rfl | exact rfl | apply And.intro)); done)))
   | fail)
  all_goals (try (conv => whnf))
  all_goals try first | (show Nat.ble _ _ = true; rfl) | (exfalso; rename_i hz; cases hz; done) | (exfalso; (try simp only [LN] at *) <;> omega)
  apply loopQn 0
  ·intro Q1 hq8
   refine Z.loopK tabOk (fun zq : Nat => [(8, .val (.int .i64 (zq : Int)))]) (fun zq : Nat => ([(0, some (Z.Ob.b ⟨(Tab.spR wrows zq ++ tl).map Tab.cK, 4, 70, false⟩)), (1, some (Z.Ob.b ⟨(wtxs).map cN, 3, 90, false⟩)), (4, some (Z.Ob.b ⟨[[.v (.int .i64 wop), .v (.int .i64 0), .v (.int .i64 1), .v (.bool wen), .osl 0 0 wrows.length cap, .v (.int .i64 wo0), .v (.int .i64 wo1), .v (.int .i64 wo2), .v (.int .i64 wo3), .v (.int .i64 wo4), .v (.int .i64 wo5), .v (.int .i64 wo6), .v (.int .i64 wo7), .osl 1 0 wtxs.length (some wtxs.length)]], 14, 33, true⟩))] : Z.Kr)) (fun zq => zq ≤ wrows.length) (fun zq => wrows.length - zq) 0 5 [(1, _), (7, _)] ⟨rfl, rfl, trivial⟩ [] trivial ?_ ?_ rfl rfl (Nat.zero_le _) ?_
   ·repeat' (first | exact trivial | apply And.intro | exact ⟨_, rfl, Z.Imp.refl _⟩)
   ·repeat' (first | exact trivial | exact (fun b hb => ⟨b, hb, Z.ImpO.refl b⟩) | (intro b hb; cases hb; refine ⟨_, rfl, ⟨rfl, rfl, rfl⟩, Z.imp_eq ?_⟩; first | rfl | exact Tab.ren_cK | exact Tab.ren_cK.trans Tab.ren_cK | exact ren_cN | exact ren_cN.trans ren_cN | (rw [Tab.spR_zero]; first | rfl | exact Tab.ren_cK | exact Tab.ren_cK.trans Tab.ren_cK); done) | apply And.intro)
   rintro j HINV
   (try dsimp only at HINV); (try dsimp only)
   by_cases hj : j < wrows.length
   ·obtain ⟨z, hz⟩ := getElem?_some' (xs := wrows) (i := j) hj
    repeat' ((conv => whnf); first
     | (with_reducible refine spB_dec ?_ ?_ <;> intro _ <;> (try (exfalso; (first | omega))))
     | ((with_reducible refine rowN_mk (Tab.cK z) ?_ ?_); (focus (exact Tab.spR_get hz)))
     | ((with_reducible apply ixN_litp); (focus rfl); (focus ((try simp only [LN] at *) <;> omega)))
     | with_reducible refine wr_i64 (by first | omega | (simp only [LN] at *; omega)) ?_
     | fail)
    all_goals (try (conv => whnf))
    all_goals try first | (show Nat.ble _ _ = true; rfl) | (exfalso; rename_i hz; cases hz; done) | (exfalso; (try simp only [LN] at *) <;> omega)
    all_goals first
     | ((refine Z.rnd_rw 0 ((Tab.spR wrows (j + 1) ++ tl).map Tab.cK) rfl rfl ?_ ?_); (focus (exact Tab.spR_set hz)); ((refine Z.rndK ((j + 1)) (fun s => [0, 1, 2, 3, 4]) rfl rfl rfl rfl ?_ ?_ ?_ ?_); (focus (repeat' (first | exact trivial | exact rfl | apply And.intro))); (focus (repeat' (first | exact trivial | (intro b hb; cases hb; rfl) | exact Z.blk_sub rfl rfl (ren_map fun _ => rfl) | apply And.intro))); (focus (((try dsimp only); omega))); ((try dsimp only); omega)))
     | fail
   have hjl : j = wrows.length := by omega
   subst hjl
   repeat' ((conv => whnf); first
    | (with_reducible refine spB_dec ?_ ?_ <;> intro _ <;> (try (exfalso; (first | omega))))
    | fail)
   all_goals (try (conv => whnf))
   exact hq8
  repeat' ((conv => whnf); first
   | with_reducible first | refine spB_t ?_
   | fail)
  all_goals (try (conv => whnf))
  all_goals try first | (show Nat.ble _ _ = true; rfl) | (exfalso; rename_i hz; cases hz; done) | (exfalso; (try simp only [LN] at *) <;> omega)
  apply loopQn 2
  ·intro Q1 hq8
   refine Z.loopK tabOk (fun zq : Nat => [(22, .val (.int .i64 (zq : Int)))]) (fun zq : Nat => ([(1, some (Z.Ob.b ⟨(spN wtxs zq).map cN, 3, 90, false⟩)), (4, some (Z.Ob.b ⟨[[.v (.int .i64 wop), .v (.int .i64 0), .v (.int .i64 1), .v (.bool wen), .osl 0 0 wrows.length cap, .v (.int .i64 wo0), .v (.int .i64 wo1), .v (.int .i64 wo2), .v (.int .i64 wo3), .v (.int .i64 wo4), .v (.int .i64 wo5), .v (.int .i64 wo6), .v (.int .i64 wo7), .osl 1 0 wtxs.length (some wtxs.length)]], 14, 33, true⟩)), (0, some (Z.Ob.b ⟨(Tab.spR wrows wrows.length ++ tl).map Tab.cK, 4, 70, false⟩))] : Z.Kr)) (fun zq => zq ≤ wtxs.length) (fun zq => wtxs.length - zq) 0 5 [(1, _), (21, _)] ⟨rfl, rfl, trivial⟩ [] trivial ?_ ?_ rfl rfl (Nat.zero_le _) ?_
   ·repeat' (first | exact trivial | apply And.intro | exact ⟨_, rfl, Z.Imp.refl _⟩)
   ·repeat' (first | exact trivial | exact (fun b hb => ⟨b, hb, Z.ImpO.refl b⟩) | apply And.intro)
   rintro j HINV
   (try dsimp only at HINV); (try dsimp only)
   by_cases hj : j < wtxs.length
   ·obtain ⟨z, hz⟩ := getElem?_some' (xs := wtxs) (i := j) hj
    repeat' ((conv => whnf); first
     | (with_reducible refine spB_dec ?_ ?_ <;> intro _ <;> (try (exfalso; (first | omega))))
     | ((with_reducible refine rowN_mk (cN z) ?_ ?_); (focus (exact spN_get hz)))
     | ((with_reducible apply ixN_litp); (focus rfl); (focus ((try simp only [LN] at *) <;> omega)))
     | with_reducible refine wr_i64 (by first | omega | (simp only [LN] at *; omega)) ?_
     | fail)
    all_goals (try (conv => whnf))
    all_goals try first | (show Nat.ble _ _ = true; rfl) | (exfalso; rename_i hz; cases hz; done) | (exfalso; (try simp only [LN] at *) <;> omega)
    all_goals first
     | ((refine Z.rnd_rw 1 ((spN wtxs (j + 1)).map cN) rfl rfl ?_ ?_); (focus (exact spN_set hz)); ((refine Z.rndK ((j + 1)) (fun s => [0, 1, 2, 3, 4]) rfl rfl rfl rfl ?_ ?_ ?_ ?_); (focus (repeat' (first | exact trivial | exact rfl | apply And.intro))); (focus (repeat' (first | exact trivial | (intro b hb; cases hb; rfl) | exact Z.blk_sub rfl rfl (ren_map fun _ => rfl) | apply And.intro))); (focus (((try dsimp only); omega))); ((try dsimp only); omega)))
     | fail
   have hjl : j = wtxs.length := by omega
   subst hjl
   repeat' ((conv => whnf); first
    | (with_reducible refine spB_dec ?_ ?_ <;> intro _ <;> (try (exfalso; (first | omega))))
    | fail)
   all_goals (try (conv => whnf))
   exact hq8
  repeat' ((conv => whnf); first
   | ((with_reducible apply spB_cong); (focus (simp only [splQ, Int.reduceBEq, Int.reduceBNe, Int.reduceLE, Int.reduceLT, Int.reduceEq]; rfl)))
   | with_reducible first | refine spB_no (by decide) ?_
   | ((first | (with_reducible refine Z.callZ_mk ?_ (ca) ?_)); (focus ((repeat' (first | exact trivial | exact rfl | apply And.intro)); done)))
   | ((with_reducible apply ex_and); exact rfl)
   | fail)
  all_goals (try (conv => whnf))
  all_goals try first | (show Nat.ble _ _ = true; rfl) | (exfalso; rename_i hz; cases hz; done) | (exfalso; (try simp only [LN] at *) <;> omega)
  refine Z.loopK tabOk (fun zq : Nat => [(56, .val (.int .i64 (zq : Int)))]) (fun zq : Nat => ([] : Z.Kr)) (fun zq => zq ≤ ws.length) (fun zq => ws.length - zq) 0 5 [(5, _), (6, _), (54, _), (55, _)] ⟨rfl, rfl, rfl, rfl, trivial⟩ [] trivial ?_ ?_ rfl rfl (Nat.zero_le _) ?_
  ·repeat' (first | exact trivial | apply And.intro | exact ⟨_, rfl, Z.Imp.refl _⟩)
  ·repeat' (first | exact trivial)
  rintro i HINV
  (try dsimp only at HINV); (try dsimp only)
  by_cases hi : i < ws.length ∧ i ≠ 5
  rotate_left
  ·by_cases hil : i < ws.length
   ·have hi5 : i = 5 := by omega
    subst hi5
    obtain ⟨n, hn⟩ := getElem?_some' (xs := ws) (i := 5) hil
    repeat' ((conv => whnf); first
     | with_reducible first | refine spB_yes (by decide) ?_
     | (with_reducible refine spB_dec ?_ ?_ <;> intro _ <;> (try (exfalso; (first | (simp only [LN] at *; omega)))))
     | with_reducible first | refine Z.rowN_known hn ?_
     | ((with_reducible apply ixN_litp); (focus rfl); (focus ((try simp only [LN] at *) <;> omega)))
     | fail)
    all_goals (try (conv => whnf))
    all_goals try first | (show Nat.ble _ _ = true; rfl) | (exfalso; rename_i hz; cases hz; done) | (exfalso; (try simp only [LN] at *) <;> omega)
    all_goals first
     | ((first | (with_reducible apply Z.retF1)); (focus rfl); (repeat' (first | exact trivial | (with_reducible apply Z.frz_one) | (with_reducible apply Z.fq_bool) | exact rfl | apply And.intro)); (all_goals (try exact (fun _ => none))); all_goals (first | (simp; done)))
     | fail
   have hil2 : i = ws.length := by omega
   subst hil2
   repeat' ((conv => whnf); first
    | (with_reducible refine spB_dec ?_ ?_ <;> intro _ <;> (try (exfalso; (first | (rename_i hz; simp at hz; done)))))
    | fail)
   all_goals (try (conv => whnf))
   all_goals try first | (show Nat.ble _ _ = true; rfl) | (exfalso; rename_i hz; cases hz; done) | (exfalso; (try simp only [LN] at *) <;> omega)
   all_goals first
    | ((first | (with_reducible apply Z.retF1)); (focus rfl); (repeat' (first | exact trivial | (with_reducible apply Z.frz_one) | (with_reducible apply Z.fq_bool) | exact rfl | apply And.intro)); (all_goals (try exact (fun _ => none))); all_goals (first | (simp; done)))
    | fail
  obtain ⟨hi, hi5⟩ := hi
  obtain ⟨n, hn⟩ := getElem?_some' (xs := ws) (i := i) hi
  have r1 := sresc_con L n hLa (by omega)
  have r2 := srresc_con L n hLa (by omega)
  have hrl := @rescE_lens L n
  generalize rescE L n = Dd at *
  obtain ⟨Pp, e⟩ := Dd
  dsimp only at r1 r2 hrl
  have cb := all_con Pp hrl.1 (by omega)
  repeat' ((conv => whnf); first
   | ((with_reducible apply spB_cong); (focus (simp only [splQ, Int.reduceBEq, Int.reduceBNe, Int.reduceLE, Int.reduceLT, Int.reduceEq]; rfl)))
   | with_reducible first | refine spB_no (by decide) ?_
   | (with_reducible refine spB_dec ?_ ?_ <;> intro _ <;> (try (exfalso; (first | (simp only [LN] at *; omega)))))
   | (with_reducible refine spB_beq ?_ ?_ <;> intro _ <;> (try (exfalso; (first | omega))))
   | with_reducible first | refine Z.rowN_known hn ?_
   | ((with_reducible apply ixN_litp); (focus rfl); (focus ((try simp only [LN] at *) <;> omega)))
   | with_reducible refine wr_i64 (by first | omega | (simp only [LN] at *; omega)) ?_
   | ((first | (with_reducible refine Z.callZ_mk ?_ (r1) ?_) | (with_reducible refine Z.callZ_mk ?_ (r2) ?_)); (focus ((repeat' (first | exact trivial | exact rfl | apply And.intro)); done)))
   | ((first | (with_reducible refine Z.callZ_mk ?_ (ca) ?_)); (focus ((repeat' (first | exact trivial | exact rfl | apply And.intro)); done)))
   | ((first | (with_reducible refine Z.callZ_mk ?_ (cb) ?_)); (focus ((repeat' (first | exact trivial | exact rfl | apply And.intro)); done)))
   | fail)
  all_goals (try (conv => whnf))
  all_goals try first | (show Nat.ble _ _ = true; rfl) | (exfalso; rename_i hz; cases hz; done) | (exfalso; (try simp only [LN] at *) <;> omega)
  all_goals first
   | ((refine Z.rndK ((i + 1)) (fun s => [0, 1, 2, 3, 4]) rfl rfl rfl rfl ?_ ?_ ?_ ?_); (focus (repeat' (first | exact trivial | exact rfl | apply And.intro))); (focus (repeat' (first | exact trivial))); (focus (((try dsimp only); omega))); ((try dsimp only); omega))
   | fail
end Go.Proofs.Ytopieffkpdlpbaa
namespace Go.Proofs.Ytopieffkpdlpbaa
open Go Go.RowKit Wx
set_option maxHeartbeats 4000000
def okKw (x : Tab.Kc) : Prop := (Lit.int .i64 x.src).wf = true ∧ (Lit.int .i64 x.key).wf = true ∧ (Lit.int .i64 x.cnt).wf = true ∧ (Lit.int .i64 x.sum).wf = true
theorem rowKc (row : List RT) (h : RowF (.st (.cons 3 1 (.int .i64) (.cons 3 1 (.int .i64) (.cons 65 2 (.st (.cons 2 1 (.int .i64) (.cons 2 1 (.int .i64) .nil))) .nil)))) row) : ∃ x, row = Tab.eK x ∧ okKw x := by
 obtain ⟨a0, r0, rfl, _, ⟨z0, rfl, w0⟩, a1, r1, rfl, _, ⟨z1, rfl, w1⟩, a2, r2, rfl, _, ⟨a3, r3, rfl, _, ⟨z2, rfl, w2⟩, a4, r4, rfl, _, ⟨z3, rfl, w3⟩, rfl⟩, rfl⟩ := h
 exact ⟨⟨z0, z1, z2, z3⟩, rfl, w0, w1, w2, w3⟩
def okNm (x : Nm) : Prop := (Lit.int .i64 x.s).wf = true ∧ (Lit.int .i64 x.a).wf = true ∧ (Lit.int .i64 x.n).wf = true
theorem rowNm (row : List RT) (h : RowF (.st (.cons 3 1 (.int .i64) (.cons 3 1 (.int .i64) (.cons 3 1 (.int .i64) .nil)))) row) : ∃ x, row = eN x ∧ okNm x := by
 obtain ⟨a0, r0, rfl, _, ⟨z0, rfl, w0⟩, a1, r1, rfl, _, ⟨z1, rfl, w1⟩, a2, r2, rfl, _, ⟨z2, rfl, w2⟩, rfl⟩ := h
 exact ⟨⟨z0, z1, z2⟩, rfl, w0, w1, w2⟩
theorem row_arr {rows : List (List RT)} (h : ∀ row ∈ rows, RowF (.int .i64) row ∧ row.length = 1) : ∃ zs : List Int, rows.flatten = zs.map (fun z => RT.v (.int .i64 z)) ∧ zs.length = rows.length ∧ ∀ z ∈ zs, (Lit.int .i64 z).wf = true := by
 induction rows with
 | nil => exact ⟨[], rfl, rfl, fun z h => nomatch h⟩
 | cons r rs ih =>
  obtain ⟨zs, e, l, w⟩ := ih fun row hr => h row (by simp [hr])
  obtain ⟨⟨z, rfl, w0⟩, _⟩ := h r (by simp)
  exact ⟨z :: zs, by simp [e], by simp [l], fun y hy => by
   rcases List.mem_cons.1 hy with rfl | h2
   ·exact w0
   ·exact w y h2⟩
theorem list8 {zs : List Int} (h : zs.length = 8) : ∃ p0 p1 p2 p3 p4 p5 p6 p7, zs = [p0, p1, p2, p3, p4, p5, p6, p7] := by
 match zs, h with
 | [p0, p1, p2, p3, p4, p5, p6, p7], _ => exact ⟨p0, p1, p2, p3, p4, p5, p6, p7, rfl⟩
def wI (z : Int) : Prop := (Lit.int .i64 z).wf = true
def okSn (x : Sn) : Prop := ((wI x.op ∧ wI x.ix ∧ wI x.w) ∧ (wI x.o0 ∧ wI x.o1 ∧ wI x.o2 ∧ wI x.o3 ∧ wI x.o4 ∧ wI x.o5 ∧ wI x.o6 ∧ wI x.o7)) ∧ (x.rows.length ≤ maxLen ∧ ∀ z ∈ x.rows, okKw z) ∧ x.txs.length ≤ maxLen ∧ ∀ z ∈ x.txs, okNm z
theorem rowSn (row : List RT) (h : RowF (.st (.cons 3 1 (.int .i64) (.cons 3 1 (.int .i64) (.cons 3 1 (.int .i64) (.cons 4 1 .bool (.cons 28 1 (.st (.cons 26 1 (.sl (.st (.cons 3 1 (.int .i64) (.cons 3 1 (.int .i64) (.cons 65 2 (.st (.cons 2 1 (.int .i64) (.cons 2 1 (.int .i64) .nil))) .nil)))) 70 4) .nil)) (.cons 30 8 (.arr 8 (.int .i64) 3 1) (.cons 31 1 (.sl (.st (.cons 3 1 (.int .i64) (.cons 3 1 (.int .i64) (.cons 3 1 (.int .i64) .nil)))) 90 3) .nil)))))))) row) : ∃ x, row = eSn x ∧ okSn x := by
 obtain ⟨a0, r0, rfl, _, ⟨z0, rfl, w0⟩, a1, r1, rfl, _, ⟨z1, rfl, w1⟩, a2, r2, rfl, _, ⟨z2, rfl, w2⟩, a3, r3, rfl, _, ⟨z3, rfl⟩, a4, r4, rfl, _, ⟨a5, r5, rfl, _, ⟨rows5, rfl, l5, h5⟩, rfl⟩, a6, r6, rfl, _, ⟨rows6, rfl, l6, h6⟩, a7, r7, rfl, _, ⟨rows7, rfl, l7, h7⟩, rfl⟩ := h
 obtain ⟨z5, rfl, k5⟩ := rows_map Tab.eK okKw rowKc rows5 h5
 obtain ⟨z7, rfl, k7⟩ := rows_map eN okNm rowNm rows7 h7
 obtain ⟨zs, e6, ln6, w6⟩ := row_arr h6
 obtain ⟨p0, p1, p2, p3, p4, p5, p6, p7, rfl⟩ := list8 (ln6.trans l6)
 rw [e6]
 exact ⟨⟨z0, z1, z2, z3, z5, p0, p1, p2, p3, p4, p5, p6, p7, z7⟩, rfl, ⟨⟨w0, w1, w2⟩, w6 p0 (by simp), w6 p1 (by simp), w6 p2 (by simp), w6 p3 (by simp), w6 p4 (by simp), w6 p5 (by simp), w6 p6 (by simp), w6 p7 (by simp)⟩, ⟨by simpa using l5, k5⟩, by simpa using l7, k7⟩
end Go.Proofs.Ytopieffkpdlpbaa
namespace Go.Proofs.Ytopieffkpdlpbaa
open Go Go.RowKit Wx
set_option maxHeartbeats 4000000
namespace snapWhole
theorem main (avs : List A0) (h : All2 FitA [(.sl (.st (.cons 3 1 (.int .i64) (.cons 3 1 (.int .i64) (.cons 3 1 (.int .i64) (.cons 4 1 .bool (.cons 28 1 (.st (.cons 26 1 (.sl (.st (.cons 3 1 (.int .i64) (.cons 3 1 (.int .i64) (.cons 65 2 (.st (.cons 2 1 (.int .i64) (.cons 2 1 (.int .i64) .nil))) .nil)))) 70 4) .nil)) (.cons 30 8 (.arr 8 (.int .i64) 3 1) (.cons 31 1 (.sl (.st (.cons 3 1 (.int .i64) (.cons 3 1 (.int .i64) (.cons 3 1 (.int .i64) .nil)))) 90 3) .nil)))))))) 33 14), (.sl (.int .i64) 3 1)] avs) : Con Try.prog 4 avs (fun x K t => x = .val (.bool true) ∧ K = [] ∧ t = 0) := by
 obtain ⟨x0, x1, rfl, h0, h1⟩ : ∃ x0 x1, avs = [x0, x1] ∧ FitA (.sl (.st (.cons 3 1 (.int .i64) (.cons 3 1 (.int .i64) (.cons 3 1 (.int .i64) (.cons 4 1 .bool (.cons 28 1 (.st (.cons 26 1 (.sl (.st (.cons 3 1 (.int .i64) (.cons 3 1 (.int .i64) (.cons 65 2 (.st (.cons 2 1 (.int .i64) (.cons 2 1 (.int .i64) .nil))) .nil)))) 70 4) .nil)) (.cons 30 8 (.arr 8 (.int .i64) 3 1) (.cons 31 1 (.sl (.st (.cons 3 1 (.int .i64) (.cons 3 1 (.int .i64) (.cons 3 1 (.int .i64) .nil)))) 90 3) .nil)))))))) 33 14) x0 ∧ FitA (.sl (.int .i64) 3 1) x1 := by
  cases avs with
  | nil => exact h.elim
  | cons x0 r => cases r with
   | nil => exact h.2.elim
   | cons x1 r => cases r with
    | nil => exact ⟨x0, x1, rfl, h.1, h.2.1⟩
    | cons => exact h.2.2.elim
 clear h
 obtain ⟨r0, ⟨rows0, hr0, lx, hrows0⟩, rfl⟩ := h0
 simp only [List.cons.injEq, and_true] at hr0
 subst hr0
 obtain ⟨x, rfl, kx⟩ := rows_map eSn (okSn) rowSn rows0 hrows0
 rw [List.length_map] at lx
 obtain ⟨ws, rfl, lws, wws⟩ := fit_ints h1
 exact snapwhole_con x ws (fun y hy => ⟨by have := (kx y hy).2.1.1; simpa [maxLen] using this, by have := (kx y hy).2.2.1; simpa [maxLen] using this⟩) (by simpa [maxLen] using lx) (by simpa [maxLen] using lws)
end snapWhole
end Go.Proofs.Ytopieffkpdlpbaa
