import Derived.Test.YtjjdfiapcpbapaaOwn6
import Derived.Test.YtjjdfiapcpbapaaRows
namespace Go.Proofs.Ytjjdfiapcpbapaa
open Go Go.RowKit Wx
set_option linter.unusedVariables false
set_option linter.unusedSimpArgs false
set_option maxHeartbeats 4000000
theorem rcheck_con (ops : List Op) (hins : ∀ o ∈ ops, o.ins.length ≤ 1000) (hol : ops.length ≤ 1000) : Con Try.prog 12 [.agg [.ro false 5 (ops.map eO)]] (fun rx rK rt => rx = .tup [.one (.v (.int .i64 (chkR ops).1)), .one (.v (.int .i64 (chkR ops).2))] ∧ rK = [] ∧ rt = 0) := by
  refine Z.con_ofF tabOk 52 Try.f12 _ Try.func12 (by kernel_rfl) rfl rfl rfl rfl ?_
  by_cases hbad : ops.length = 0 ∨ 8 < ops.length
  · have e1 : chkR ops = (0, 160) := by unfold chkR; rw [if_pos hbad]
    rw [e1]
    repeat' ((conv => whnf); first
      | with_reducible first | refine spB_t ?_
      | with_reducible first | refine spB_no (by decide) ?_
      | (with_reducible refine spB_dec ?_ ?_ <;> intro _ <;> (try (exfalso; first | contradiction | omega | (rename_i hz; refine hz ?_; simp; done) | (rename_i hz; simp at hz; done) | (simp only [LN] at *; omega)))))
    all_goals (try (conv => whnf))
    all_goals try (show Nat.ble _ _ = true; rfl)
    all_goals try (exfalso; rename_i hz; cases hz; done)
    all_goals try (exfalso; (try simp only [LN] at *) <;> omega)
    all_goals first
      | ((first | (with_reducible apply Z.retF2)); (focus (exact rfl)); (repeat' (first | exact trivial | (with_reducible apply Z.frz_one) | (with_reducible apply Z.fq_int) | exact rfl | apply And.intro)); (all_goals (try exact (fun _ => none))); all_goals (rfl))
  have hlen : 0 < ops.length ∧ ops.length ≤ 8 := by omega
  have e1 : chkR ops = match chkF ops ops.length 0 with | some r => r | none => match unrF ops ops 0 with | some i => (i, 162) | none => (0, 0) := by unfold chkR; rw [if_neg hbad]; (first | done | rfl)
  clear hbad
  repeat' ((conv => whnf); first
    | with_reducible first | refine spB_no (by decide) ?_
    | (with_reducible refine spB_dec ?_ ?_ <;> intro _ <;> (try (exfalso; first | contradiction | omega | (rename_i hz; refine hz ?_; simp; done) | (rename_i hz; simp at hz; done) | (simp only [LN] at *; omega)))))
  all_goals (try (conv => whnf))
  all_goals try (show Nat.ble _ _ = true; rfl)
  all_goals try (exfalso; rename_i hz; cases hz; done)
  all_goals try (exfalso; (try simp only [LN] at *) <;> omega)
  refine Z.loopK tabOk (fun zq : Nat => [(21, .val (.int .i64 (zq : Int)))]) (fun zq : Nat => ([] : Z.Kr)) (fun zq => zq ≤ ops.length ∧ Good ops zq ∧ chkF ops ops.length 0 = chkF ops (ops.length - zq) zq) (fun zq => ops.length - zq) 0 1 [(1, _), (20, _)] ⟨rfl, rfl, trivial⟩ [(0, some _)] ⟨rfl, trivial⟩ ?_ ?_ rfl rfl ⟨Nat.zero_le _, fun j o hj => absurd hj (Nat.not_lt_zero _), rfl⟩ ?_
  · repeat' (first | exact trivial | apply And.intro | exact ⟨_, rfl, Z.Imp.refl _⟩)
  · repeat' (first | exact trivial)
  rintro k HINV
  (try dsimp only at HINV); (try dsimp only)
  obtain ⟨HI, HG, HC⟩ := HINV
  by_cases hi : k < ops.length
  · obtain ⟨x, hx⟩ := getElem?_some' (xs := ops) (i := k) hi
    have hxl : x.ins.length ≤ 1000 := hins x (List.mem_of_getElem? hx)
    have cw := wrong_con ops x k (by omega) hx HG hi hxl
    by_cases he : faultR ops k = 0
    · rw [chkF_at hi he] at HC
      rw [he] at cw
      repeat' ((conv => whnf); first
        | ((with_reducible apply spB_cong); (focus (simp only [beq_self_eq_true, bne_self_eq_false, Bool.true_bne, Bool.false_bne, Bool.bne_true, Bool.bne_false, Bool.true_beq, Bool.false_beq, Bool.not_true, Bool.not_false, Bool.not_not, Int.reduceBEq, Int.reduceBNe, Int.reduceLE, Int.reduceLT, Int.reduceEq, decide_true, decide_false]; rfl)))
        | with_reducible first | refine spB_no (by decide) ?_
        | (with_reducible refine spB_dec ?_ ?_ <;> intro _ <;> (try (exfalso; first | contradiction | omega | (rename_i hz; refine hz ?_; simp; done) | (rename_i hz; simp at hz; done) | (simp only [LN] at *; omega))))
        | with_reducible refine wr_i64 (by first | omega | (simp only [LN] at *; omega)) ?_
        | ((first | (with_reducible refine Z.callZ_mk ?_ (cw) ?_)); (focus ((repeat' (first | exact trivial | exact rfl | apply And.intro)); done))))
      all_goals (try (conv => whnf))
      all_goals try (show Nat.ble _ _ = true; rfl)
      all_goals try (exfalso; rename_i hz; cases hz; done)
      all_goals try (exfalso; (try simp only [LN] at *) <;> omega)
      all_goals first
        | ((refine Z.rndK ((k + 1)) (fun s => [0]) rfl rfl rfl rfl ?_ ?_ ?_ ?_); (focus (repeat' (first | exact trivial | exact rfl | apply And.intro))); (focus (repeat' (first | exact trivial | (intro b hb; cases hb; rfl) | apply And.intro))); (focus (exact ⟨by (try dsimp only); omega, fault_good HG hx he, HC⟩)); ((try dsimp only); omega))
    · have hres : chkR ops = ((k : Int), faultR ops k) := by rw [e1, HC, chkF_hit hi he]
      rw [hres]
      repeat' ((conv => whnf); first
        | (with_reducible refine spB_dec ?_ ?_ <;> intro _ <;> (try (exfalso; first | contradiction | omega | (rename_i hz; refine hz ?_; simp; done) | (rename_i hz; simp at hz; done) | (simp only [LN] at *; omega))))
        | (with_reducible refine spB_bne ?_ ?_ <;> intro _ <;> (try (exfalso; first | contradiction | omega | (rename_i hz; refine hz ?_; simp; done) | (rename_i hz; simp at hz; done) | (simp only [LN] at *; omega))))
        | ((first | (with_reducible refine Z.callZ_mk ?_ (cw) ?_)); (focus ((repeat' (first | exact trivial | exact rfl | apply And.intro)); done))))
      all_goals (try (conv => whnf))
      all_goals try (show Nat.ble _ _ = true; rfl)
      all_goals try (exfalso; rename_i hz; cases hz; done)
      all_goals try (exfalso; (try simp only [LN] at *) <;> omega)
      all_goals first
        | ((first | (with_reducible apply Z.retF2)); (focus (exact rfl)); (repeat' (first | exact trivial | (with_reducible apply Z.frz_one) | (with_reducible apply Z.fq_int) | exact rfl | apply And.intro)); (all_goals (try exact (fun _ => none))); all_goals (rfl))
  have hil : k = ops.length := by omega
  subst hil
  rw [Nat.sub_self] at HC
  have e2 : chkR ops = match unrF ops ops 0 with | some i => (i, 162) | none => (0, 0) := by rw [e1, HC]; rfl
  clear HC e1
  repeat' ((conv => whnf); first
    | (with_reducible refine spB_dec ?_ ?_ <;> intro _ <;> (try (exfalso; first | contradiction | omega | (rename_i hz; refine hz ?_; simp; done) | (rename_i hz; simp at hz; done) | (simp only [LN] at *; omega)))))
  all_goals (try (conv => whnf))
  all_goals try (show Nat.ble _ _ = true; rfl)
  all_goals try (exfalso; rename_i hz; cases hz; done)
  all_goals try (exfalso; (try simp only [LN] at *) <;> omega)
  refine Z.loopK tabOk (fun zq : Nat => [(35, .val (.int .i64 (zq : Int)))]) (fun zq : Nat => ([] : Z.Kr)) (fun zq => zq ≤ ops.length ∧ unrF ops ops 0 = unrF ops (ops.drop zq) zq) (fun zq => ops.length - zq) 0 1 [(1, _), (33, _), (34, _)] ⟨rfl, rfl, rfl, trivial⟩ [(0, some _)] ⟨rfl, trivial⟩ ?_ ?_ rfl rfl ⟨Nat.zero_le _, rfl⟩ ?_
  · repeat' (first | exact trivial | apply And.intro | exact ⟨_, rfl, Z.Imp.refl _⟩)
  · repeat' (first | exact trivial)
  rintro k HINV
  (try dsimp only at HINV); (try dsimp only)
  obtain ⟨HI, HU⟩ := HINV
  by_cases hi : k < ops.length
  · obtain ⟨x, hx⟩ := getElem?_some' (xs := ops) (i := k) hi
    have cr := readers_con ops (k : Int) (by omega) hins
    have hrd := rdF_nil (i := (k : Int)) ops 0
    have hrl := rdF_len (i := (k : Int)) ops 0
    generalize rdF (k : Int) ops 0 = W at *
    have hrd2 : W.length = 0 ↔ readB ops (k : Int) = false := hrd
    by_cases hc : x.tag ≠ 7 ∧ readB ops (k : Int) = false
    · have hres : chkR ops = ((k : Int), 162) := by rw [e2, HU, unrF_hit hx hc]
      rw [hres]
      have hw0 := hrd2.2 hc.2
      obtain ⟨hc1, hc2⟩ := hc
      repeat' ((conv => whnf); first
        | with_reducible first | refine spB_t ?_
        | (with_reducible refine spB_dec ?_ ?_ <;> intro _ <;> (try (exfalso; first | contradiction | omega | (rename_i hz; refine hz ?_; simp; done) | (rename_i hz; simp at hz; done) | (simp only [LN] at *; omega))))
        | (with_reducible refine spB_beq ?_ ?_ <;> intro _ <;> (try (exfalso; first | contradiction | omega | (rename_i hz; refine hz ?_; simp; done) | (rename_i hz; simp at hz; done) | (simp only [LN] at *; omega))))
        | (with_reducible refine spB_bne ?_ ?_ <;> intro _ <;> (try (exfalso; first | contradiction | omega | (rename_i hz; refine hz ?_; simp; done) | (rename_i hz; simp at hz; done) | (simp only [LN] at *; omega))))
        | ((with_reducible refine ixN_mk (k) ?_ ?_ ?_); (focus (first | rfl)); (focus ((try simp only [LN] at *) <;> omega)))
        | with_reducible first | refine Z.rowN_known hx ?_
        | ((first | (with_reducible refine Z.callZ_mk ?_ (cr) ?_)); (focus ((repeat' (first | exact trivial | exact rfl | apply And.intro)); done))))
      all_goals (try (conv => whnf))
      all_goals try (show Nat.ble _ _ = true; rfl)
      all_goals try (exfalso; rename_i hz; cases hz; done)
      all_goals try (exfalso; (try simp only [LN] at *) <;> omega)
      all_goals first
        | ((first | (with_reducible apply Z.retF2)); (focus (exact rfl)); (repeat' (first | exact trivial | (with_reducible apply Z.frz_one) | (with_reducible apply Z.fq_int) | exact rfl | apply And.intro)); (all_goals (try exact (fun _ => none))); all_goals (rfl))
    · rw [unrF_at hx hc] at HU
      have hc2 : x.tag = 7 ∨ W.length ≠ 0 := by
        by_cases h7 : x.tag = 7
        · exact .inl h7
        · right; intro h; exact hc ⟨h7, hrd2.1 h⟩
      repeat' ((conv => whnf); first
        | with_reducible first | refine spB_t ?_
        | with_reducible first | refine spB_no (by decide) ?_
        | (with_reducible refine spB_dec ?_ ?_ <;> intro _ <;> (try (exfalso; first | contradiction | omega | (rename_i hz; refine hz ?_; simp; done) | (rename_i hz; simp at hz; done) | (simp only [LN] at *; omega))))
        | (with_reducible refine spB_beq ?_ ?_ <;> intro _ <;> (try (exfalso; first | contradiction | omega | (rename_i hz; refine hz ?_; simp; done) | (rename_i hz; simp at hz; done) | (simp only [LN] at *; omega))))
        | (with_reducible refine spB_bne ?_ ?_ <;> intro _ <;> (try (exfalso; first | contradiction | omega | (rename_i hz; refine hz ?_; simp; done) | (rename_i hz; simp at hz; done) | (simp only [LN] at *; omega))))
        | ((with_reducible refine ixN_mk (k) ?_ ?_ ?_); (focus (first | rfl)); (focus ((try simp only [LN] at *) <;> omega)))
        | with_reducible first | refine Z.rowN_known hx ?_
        | with_reducible refine wr_i64 (by first | omega | (simp only [LN] at *; omega)) ?_
        | ((first | (with_reducible refine Z.callZ_mk ?_ (cr) ?_)); (focus ((repeat' (first | exact trivial | exact rfl | apply And.intro)); done))))
      all_goals (try (conv => whnf))
      all_goals try (show Nat.ble _ _ = true; rfl)
      all_goals try (exfalso; rename_i hz; cases hz; done)
      all_goals try (exfalso; (try simp only [LN] at *) <;> omega)
      all_goals first
        | ((refine Z.rndK ((k + 1)) (fun s => [0]) rfl rfl rfl rfl ?_ ?_ ?_ ?_); (focus (repeat' (first | exact trivial | exact rfl | apply And.intro))); (focus (repeat' (first | exact trivial | (intro b hb; cases hb; rfl) | apply And.intro))); (focus (exact ⟨by (try dsimp only); omega, HU⟩)); ((try dsimp only); omega))
  have hil4 : k = ops.length := by omega
  subst hil4
  rw [List.drop_length] at HU
  have hres : chkR ops = (0, 0) := by rw [e2, HU]; rfl
  rw [hres]
  repeat' ((conv => whnf); first
    | (with_reducible refine spB_dec ?_ ?_ <;> intro _ <;> (try (exfalso; first | contradiction | omega | (rename_i hz; refine hz ?_; simp; done) | (rename_i hz; simp at hz; done) | (simp only [LN] at *; omega)))))
  all_goals (try (conv => whnf))
  all_goals try (show Nat.ble _ _ = true; rfl)
  all_goals try (exfalso; rename_i hz; cases hz; done)
  all_goals try (exfalso; (try simp only [LN] at *) <;> omega)
  all_goals first
    | ((first | (with_reducible apply Z.retF2)); (focus (exact rfl)); (repeat' (first | exact trivial | (with_reducible apply Z.frz_one) | (with_reducible apply Z.fq_int) | exact rfl | apply And.intro)); (all_goals (try exact (fun _ => none))); all_goals (rfl))

end Go.Proofs.Ytjjdfiapcpbapaa
namespace Go.Proofs.Ytjjdfiapcpbapaa
open Go Go.RowKit Wx
set_option linter.unusedVariables false
set_option linter.unusedSimpArgs false
set_option maxHeartbeats 4000000
theorem wakes_con : Con Try.prog 9 [] (fun x K t => x = .val (.bool true) ∧ K = [] ∧ t = 0) := Y.con_run ftabOk tabOk mixOk 40 12 (by kernel_rfl) (by kernel_rfl)
end Go.Proofs.Ytjjdfiapcpbapaa
namespace Go.Proofs.Ytjjdfiapcpbapaa
open Go Go.RowKit Wx
set_option linter.unusedVariables false
set_option linter.unusedSimpArgs false
set_option maxHeartbeats 4000000
theorem one_cut {l : List Int} {q n : Nat} {fl : Bool} : ∀ r ∈ (((l.map eI).drop q).take n).map (List.map (RT.ce fl)), ∀ c ∈ r, c.single = true := fun r hr c hc => by
  obtain ⟨t, ht, rfl⟩ := List.mem_map.1 hr
  obtain ⟨z, _, rfl⟩ := List.mem_map.1 (List.mem_of_mem_drop (List.mem_of_mem_take ht))
  simp only [List.map_cons, List.map_nil, List.mem_singleton] at hc
  subst hc
  rfl
abbrev cO (x : Op) : List Ce := [Ce.v (.int .i64 x.tag), Ce.v (.int .i64 x.wid), Ce.ro true 1 (x.ins.map eI), Ce.v (.int .i64 x.a), Ce.v (.int .i64 x.b)]
def cutO (x : Op) : Op := ⟨x.tag, x.wid, x.ins.take 10, x.a, x.b⟩
theorem cut_rows (l : List Int) : List.map (List.map (RT.ce false)) (List.take ((l.take 10).length - 0) (List.drop 0 (l.map eI))) = (l.take 10).map cI := by
  have e : List.take ((l.take 10).length) l = l.take 10 := List.take_eq_take_iff.2 (by rw [List.length_take]; omega)
  rw [Nat.sub_zero, List.drop_zero, ← List.map_take, List.map_map, e]
  rfl
/-- A graph that can be played in time. -/
def shR (l : List Op) : List Op := (l.take 9).map cutO
theorem shR_snoc {l : List Op} {i : Nat} {x : Op} (h : (l.take 9)[i]? = some x) : ((l.take 9).take (i + 1)).map cutO = ((l.take 9).take i).map cutO ++ [cutO x] := by rw [take_snoc h, List.map_append]; rfl
theorem shR_len (l : List Op) : (shR l).length ≤ 9 := by unfold shR; rw [List.length_map, List.length_take]; exact Nat.min_le_left _ _
theorem shR_ins {l : List Op} : ∀ o ∈ shR l, o.ins.length ≤ 10 := fun o ho => by
  obtain ⟨x, _, rfl⟩ := List.mem_map.1 ho
  simp only [cutO, List.length_take]
  exact Nat.min_le_left _ _
theorem short_con (ops : List Op) (hol : ops.length ≤ 9223372036854775807) (hins : ∀ o ∈ ops, o.ins.length ≤ 9223372036854775807) : Con Try.prog 10 [.agg [.ro false 5 (ops.map eO)]] (fun rx rK rt => rx = .pl (.agg [.ro true 5 ((shR ops).map eO)]) ∧ rK = [] ∧ rt = 0) := by
  refine Z.con_ofF tabOk 34 Try.f10 _ Try.func10 (by kernel_rfl) rfl rfl rfl rfl ?_
  repeat' ((conv => whnf); first
    | with_reducible first | refine spB_t ?_)
  all_goals (try (conv => whnf))
  all_goals try (show Nat.ble _ _ = true; rfl)
  all_goals try (exfalso; rename_i hz; cases hz; done)
  all_goals try (exfalso; (try simp only [LN] at *) <;> omega)
  refine Z.loopK tabOk (fun zq : Nat × List Op => [(9, .val (.int .i64 (zq.1 : Int)))]) (fun zq : Nat × List Op => ([(0, some (Z.Ob.b ⟨[[.ro false 5 (ops.map eO)]], 1, 26, true⟩)), (2, some (Z.Ob.b ⟨[[.gsl 3 (zq.2.map cO)]], 1, 26, true⟩)), (3, (gB 5 34 (zq.2.map cO)).map Z.Ob.b)] : Z.Kr)) (fun zq => zq.1 ≤ ops.length ∧ zq.2 = ((ops.take 9).take zq.1).map cutO) (fun zq => ops.length - zq.1) (0, []) 4 [(2, _), (3, _), (7, _), (8, _)] ⟨rfl, rfl, rfl, rfl, trivial⟩ [(1, some _)] ⟨rfl, trivial⟩ ?_ ?_ rfl rfl ⟨Nat.zero_le _, rfl⟩ ?_
  · repeat' (first | exact trivial | apply And.intro | exact ⟨_, rfl, Z.Imp.refl _⟩)
  · repeat' (first | exact trivial | (intro b hb; cases hb; done) | exact (fun b hb => ⟨b, hb, Z.ImpO.refl b⟩) | (intro b hb; cases hb; refine ⟨_, rfl, ⟨rfl, rfl, rfl⟩, ?_⟩; (repeat' (first | exact trivial | apply And.intro | exact Z.Imp.nilg _)); done) | apply And.intro)
  rintro ⟨i, acc⟩ HINV
  (try dsimp only at HINV); (try dsimp only)
  obtain ⟨HI, HA⟩ := HINV
  have hl9 : (ops.take 9).length ≤ 9 := by rw [List.length_take]; exact Nat.min_le_left _ _
  have hal : acc.length ≤ 9 := by rw [HA, List.length_map, List.length_take]; omega
  by_cases hi : i < ops.length
  · obtain ⟨x, hx⟩ := getElem?_some' (xs := ops) (i := i) hi
    have hxl := hins x (List.mem_of_getElem? hx)
    by_cases h8 : i ≤ 8
    · have hx9 : (ops.take 9)[i]? = some x := by rw [List.getElem?_take, if_pos (by omega)]; exact hx
      have hsn := shR_snoc hx9
      have htl : (x.ins.take 10).length ≤ 10 := by rw [List.length_take]; exact Nat.min_le_left _ _
      have htl2 : (x.ins.take 10).length = min 10 x.ins.length := List.length_take
      have HC := cut_rows x.ins
      repeat' ((conv => whnf); first
        | (with_reducible refine spB_dec ?_ ?_ <;> intro _ <;> (try (exfalso; first | contradiction | omega | (rename_i hz; refine hz ?_; simp; done) | (rename_i hz; simp at hz; done) | (simp only [LN] at *; omega))))
        | ((with_reducible refine ixN_mk (i) ?_ ?_ ?_); (focus (first | rfl)); (focus ((try simp only [LN] at *) <;> omega)))
        | with_reducible first | refine Z.rowN_known hx ?_
        | ((with_reducible refine slN_hi ((x.ins.take 10).length) ?_ ?_ ?_); (focus (rw [htl2, List.length_map]; omega)); (focus (rw [htl2, List.length_map]; omega)))
        | ((with_reducible refine apdE_n ?_); (with_reducible refine apdN.mk ?_ ?_ ?_ ?_ ?_ ?_); (focus (first | ((try simp only [LN]) <;> omega))); (focus (first | exact one_cut)); (focus (first | exact Nat.zero_le _)); (iterate 2 (focus ((try simp only [LN] at *) <;> omega))))
        | ((with_reducible refine posE_pos ?_ ?_); (focus ((try simp only [LN] at *) <;> omega)))
        | ((with_reducible refine apdN.mk ?_ ?_ ?_ ?_ ?_ ?_); (focus (first | rfl)); (focus (first | exact one_all (by rfl))); (focus ((try simp only [LN] at *) <;> omega)); (focus ((try simp only [LN] at *) <;> omega)); (focus ((try simp only [LN] at *) <;> omega)))
        | with_reducible refine wr_i64 (by first | omega | (simp only [LN] at *; omega)) ?_
        | ((with_reducible refine eqN_mk2 ?_ ?_); (focus (exact Z.kb_some rfl))))
      all_goals (try (conv => whnf))
      all_goals try (show Nat.ble _ _ = true; rfl)
      all_goals try (exfalso; rename_i hz; cases hz; done)
      all_goals try (exfalso; (try simp only [LN] at *) <;> omega)
      all_goals first
        | ((refine Z.rnd_fzb 24 2 0 ((acc ++ [cutO x]).map cO) rfl rfl rfl rfl rfl rfl (Z.rows_snoc ⟨?_, ?_, ?_, ?_, ?_, trivial⟩) ?_); (focus (first | exact Z.fzC.refl _)); (focus (first | exact Z.fzC.refl _)); (focus (first | (refine Z.fzC.ogsl (l := x.ins.take 10) (f := cI) (ty := 3) (bx := false) ?_ ?_ (fun _ => rfl); (focus (exact congrArg (fun r => some (⟨r, 1, 3, false⟩ : Blk)) HC)); (focus ((try simp only [LN] at *) <;> omega))))); (focus (first | exact Z.fzC.refl _)); (focus (first | exact Z.fzC.refl _)); ((refine Z.rndK ((i + 1, acc ++ [cutO x])) (fun s => [0, 1, 2, s.idIn 2 0]) rfl rfl rfl rfl ?_ ?_ ?_ ?_); (focus (repeat' (first | exact trivial | exact rfl | apply And.intro))); (focus (repeat' (first | exact trivial | (intro b hb; cases hb; rfl) | exact Z.gB_sub' rfl (by first | rfl | (rw [List.map_append]; rfl) | simp only [List.map_append, List.map_cons, List.map_nil]) (ren_map fun _ => rfl) | apply And.intro))); (focus (exact ⟨by (try dsimp only); omega, by (try dsimp only); rw [hsn, HA]⟩)); ((try dsimp only); omega)))
    · have ht1 : (ops.take 9).take (i + 1) = ops.take 9 := List.take_of_length_le (by omega)
      have ht2 : (ops.take 9).take i = ops.take 9 := List.take_of_length_le (by omega)
      have hsn : ((ops.take 9).take (i + 1)).map cutO = acc := by rw [HA, ht1, ht2]
      repeat' ((conv => whnf); first
        | (with_reducible refine spB_dec ?_ ?_ <;> intro _ <;> (try (exfalso; first | contradiction | omega | (rename_i hz; refine hz ?_; simp; done) | (rename_i hz; simp at hz; done) | (simp only [LN] at *; omega))))
        | ((with_reducible refine ixN_mk (i) ?_ ?_ ?_); (focus (first | rfl)); (focus ((try simp only [LN] at *) <;> omega)))
        | with_reducible first | refine Z.rowN_known hx ?_
        | with_reducible refine wr_i64 (by first | omega | (simp only [LN] at *; omega)) ?_)
      all_goals (try (conv => whnf))
      all_goals try (show Nat.ble _ _ = true; rfl)
      all_goals try (exfalso; rename_i hz; cases hz; done)
      all_goals try (exfalso; (try simp only [LN] at *) <;> omega)
      all_goals first
        | ((refine Z.rndK ((i + 1, acc)) (fun s => [0, 1, 2, s.idIn 2 0]) rfl rfl rfl rfl ?_ ?_ ?_ ?_); (focus (repeat' (first | exact trivial | exact rfl | apply And.intro))); (focus (repeat' (first | exact trivial | (intro b hb; cases hb; rfl) | exact Z.gB_sub rfl rfl (ren_map fun _ => rfl) | apply And.intro))); (focus (exact ⟨by (try dsimp only); omega, hsn.symm⟩)); ((try dsimp only); omega))
  have hil : i = ops.length := by omega
  have htk : (ops.take 9).take i = ops.take 9 := List.take_of_length_le (by rw [List.length_take]; omega)
  have hsh : acc = shR ops := by rw [HA, htk]; rfl
  subst hsh
  repeat' ((conv => whnf); first
    | (with_reducible refine spB_dec ?_ ?_ <;> intro _ <;> (try (exfalso; first | contradiction | omega | (rename_i hz; refine hz ?_; simp; done) | (rename_i hz; simp at hz; done) | (simp only [LN] at *; omega)))))
  all_goals (try (conv => whnf))
  all_goals try (show Nat.ble _ _ = true; rfl)
  all_goals try (exfalso; rename_i hz; cases hz; done)
  all_goals try (exfalso; (try simp only [LN] at *) <;> omega)
  all_goals first
    | ((first | (with_reducible apply Z.retF1)); (focus (exact rfl)); (repeat' (first | exact trivial | (with_reducible apply Z.frz_agg) | ((with_reducible apply Z.fq_gsl); (focus (first | exact Z.isB_map _)); (focus (exact fun _ => rfl))) | exact rfl | apply And.intro)); (all_goals (try exact (fun _ => none))); all_goals (rfl))

end Go.Proofs.Ytjjdfiapcpbapaa
namespace Go.Proofs.Ytjjdfiapcpbapaa
open Go Go.RowKit Wx
set_option linter.unusedVariables false
set_option linter.unusedSimpArgs false
set_option maxHeartbeats 4000000
abbrev eG (l : List Op) : List RT := [RT.ro 5 (l.map eO)]
theorem graphencodes_con (gs : List (List Op)) (hgl : gs.length ≤ 9223372036854775807) (hg1 : ∀ g ∈ gs, g.length ≤ 9223372036854775807) (hg2 : ∀ g ∈ gs, ∀ o ∈ g, o.ins.length ≤ 9223372036854775807) : Con Try.prog 5 [.one (.ro false 1 (gs.map eG))] (fun rx rK rt => rx = .val (.bool true) ∧ rK = [] ∧ rt = 0) := by
  refine Z.con_ofF tabOk 57 Try.f5 _ Try.func5 (by kernel_rfl) rfl rfl rfl rfl ?_
  repeat' ((conv => whnf); first
    | ((with_reducible apply spB_cong); (focus (simp only [beq_self_eq_true, bne_self_eq_false, Bool.true_bne, Bool.false_bne, Bool.bne_true, Bool.bne_false, Bool.true_beq, Bool.false_beq, Bool.not_true, Bool.not_false, Bool.not_not, Int.reduceBEq, Int.reduceBNe, Int.reduceLE, Int.reduceLT, Int.reduceEq, decide_true, decide_false]; rfl)))
    | with_reducible first | refine spB_no (by decide) ?_
    | ((first | (with_reducible refine Z.callZ_mk ?_ (wakes_con) ?_)); (focus ((repeat' (first | exact trivial)); done))))
  all_goals (try (conv => whnf))
  all_goals try (show Nat.ble _ _ = true; rfl)
  all_goals try (exfalso; rename_i hz; cases hz; done)
  all_goals try (exfalso; (try simp only [LN] at *) <;> omega)
  refine Z.loopK tabOk (fun zq : Nat => [(14, .val (.int .i64 (zq : Int)))]) (fun zq : Nat => ([] : Z.Kr)) (fun zq => zq ≤ gs.length) (fun zq => gs.length - zq) 0 0 [(12, _), (13, _)] ⟨rfl, rfl, trivial⟩ [] trivial ?_ ?_ rfl rfl (Nat.zero_le _) ?_
  · repeat' (first | exact trivial | apply And.intro | exact ⟨_, rfl, Z.Imp.refl _⟩)
  · repeat' (first | exact trivial)
  rintro i HINV
  (try dsimp only at HINV); (try dsimp only)
  by_cases hi : i < gs.length
  rotate_left
  · have hil : i = gs.length := by omega
    subst hil
    repeat' ((conv => whnf); first
      | (with_reducible refine spB_dec ?_ ?_ <;> intro _ <;> (try (exfalso; first | contradiction | omega | (rename_i hz; refine hz ?_; simp; done) | (rename_i hz; simp at hz; done) | (simp only [LN] at *; omega)))))
    all_goals (try (conv => whnf))
    all_goals try (show Nat.ble _ _ = true; rfl)
    all_goals try (exfalso; rename_i hz; cases hz; done)
    all_goals try (exfalso; (try simp only [LN] at *) <;> omega)
    all_goals first
      | ((first | (with_reducible apply Z.retF1)); (focus (exact rfl)); (repeat' (first | exact trivial | (with_reducible apply Z.frz_one) | (with_reducible apply Z.fq_bool) | exact rfl | apply And.intro)); (all_goals (try exact (fun _ => none))); all_goals (rfl))
  obtain ⟨g, hg⟩ := getElem?_some' (xs := gs) (i := i) hi
  have hm := List.mem_of_getElem? hg
  have csx := short_con g (hg1 g hm) (hg2 g hm)
  have hL9 := shR_len g
  have hLi : ∀ p ∈ shR g, p.ins.length ≤ 1000 := fun p hp => by have := shR_ins p hp; omega
  generalize shR g = L at *
  have ce := encode_con L hLi (by omega)
  have cr := rcheck_con L hLi (by omega)
  by_cases hok : (chkR L).2 = 0
  · have e1 : encR L = (encG L, 0) := by unfold encR; rw [if_pos hok]
    rw [e1] at ce
    rw [hok] at cr
    have cb := rbytes_con L hLi (by omega)
    have hbl : (encG L).length ≤ 1000000 := by have := encs_len hLi ((L.length : Int) % 256) L.length; rw [List.take_length] at this; unfold encG; omega
    have cq := bq_con (encG L) (by omega)
    dsimp only at ce
    generalize encG L = B at *
    repeat' ((conv => whnf); first
      | with_reducible first | refine spB_t ?_
      | ((with_reducible apply spB_cong); (focus (simp only [beq_self_eq_true, bne_self_eq_false, Bool.true_bne, Bool.false_bne, Bool.bne_true, Bool.bne_false, Bool.true_beq, Bool.false_beq, Bool.not_true, Bool.not_false, Bool.not_not, Int.reduceBEq, Int.reduceBNe, Int.reduceLE, Int.reduceLT, Int.reduceEq, decide_true, decide_false]; rfl)))
      | with_reducible first | refine spB_no (by decide) ?_
      | (with_reducible refine spB_dec ?_ ?_ <;> intro _ <;> (try (exfalso; first | contradiction | omega | (rename_i hz; refine hz ?_; simp; done) | (rename_i hz; simp at hz; done) | (simp only [LN] at *; omega))))
      | (with_reducible refine spB_beq ?_ ?_ <;> intro _ <;> (try (exfalso; first | contradiction | omega | (rename_i hz; refine hz ?_; simp; done) | (rename_i hz; simp at hz; done) | (simp only [LN] at *; omega))))
      | with_reducible first | refine Z.rowN_known hg ?_
      | ((with_reducible apply ixN_litp); (focus (exact rfl)); (focus ((try simp only [LN] at *) <;> omega)))
      | with_reducible refine wr_i64 (by first | omega | (simp only [LN] at *; omega)) ?_
      | ((first | (with_reducible refine Z.callZ_mk ?_ (csx) ?_) | (with_reducible refine Z.callZ_mk ?_ (cr) ?_) | (with_reducible refine Z.callZ_mk ?_ (ce) ?_) | (with_reducible refine Z.callZ_mk ?_ (cq) ?_) | (with_reducible refine Z.callZ_mk ?_ (cb) ?_)); (focus ((repeat' (first | exact trivial | exact rfl | apply And.intro)); done))))
    all_goals (try (conv => whnf))
    all_goals try (show Nat.ble _ _ = true; rfl)
    all_goals try (exfalso; rename_i hz; cases hz; done)
    all_goals try (exfalso; (try simp only [LN] at *) <;> omega)
    all_goals first
      | ((refine Z.rndK ((i + 1)) (fun s => []) rfl rfl rfl rfl ?_ ?_ ?_ ?_); (focus (repeat' (first | exact trivial | exact rfl | apply And.intro))); (focus (repeat' (first | exact trivial))); (focus ((try dsimp only); omega)); ((try dsimp only); omega))
      | ((first | (with_reducible apply Z.retF1)); (focus (exact rfl)); (repeat' (first | exact trivial | (with_reducible apply Z.frz_one) | (with_reducible apply Z.fq_bool) | exact rfl | apply And.intro)); (all_goals (try exact (fun _ => none))); all_goals (rfl))
  have e1 : encR L = ([], (chkR L).2) := by unfold encR; rw [if_neg hok]
  rw [e1] at ce
  dsimp only at ce
  generalize chkR L = C at *
  repeat' ((conv => whnf); first
    | with_reducible first | refine spB_t ?_
    | ((with_reducible apply spB_cong); (focus (simp only [beq_self_eq_true, bne_self_eq_false, Bool.true_bne, Bool.false_bne, Bool.bne_true, Bool.bne_false, Bool.true_beq, Bool.false_beq, Bool.not_true, Bool.not_false, Bool.not_not, Int.reduceBEq, Int.reduceBNe, Int.reduceLE, Int.reduceLT, Int.reduceEq, decide_true, decide_false]; rfl)))
    | with_reducible first | refine spB_no (by decide) ?_
    | (with_reducible refine spB_dec ?_ ?_ <;> intro _ <;> (try (exfalso; first | contradiction | omega | (rename_i hz; refine hz ?_; simp; done) | (rename_i hz; simp at hz; done) | (simp only [LN] at *; omega))))
    | (with_reducible refine spB_beq ?_ ?_ <;> intro _ <;> (try (exfalso; first | contradiction | omega | (rename_i hz; refine hz ?_; simp; done) | (rename_i hz; simp at hz; done) | (simp only [LN] at *; omega))))
    | (with_reducible refine spB_bne ?_ ?_ <;> intro _ <;> (try (exfalso; first | contradiction | omega | (rename_i hz; refine hz ?_; simp; done) | (rename_i hz; simp at hz; done) | (simp only [LN] at *; omega))))
    | with_reducible first | refine Z.rowN_known hg ?_
    | ((with_reducible apply ixN_litp); (focus (exact rfl)); (focus ((try simp only [LN] at *) <;> omega)))
    | with_reducible refine wr_i64 (by first | omega | (simp only [LN] at *; omega)) ?_
    | ((first | (with_reducible refine Z.callZ_mk ?_ (csx) ?_) | (with_reducible refine Z.callZ_mk ?_ (cr) ?_) | (with_reducible refine Z.callZ_mk ?_ (ce) ?_)); (focus ((repeat' (first | exact trivial | exact rfl | apply And.intro)); done))))
  all_goals (try (conv => whnf))
  all_goals try (show Nat.ble _ _ = true; rfl)
  all_goals try (exfalso; rename_i hz; cases hz; done)
  all_goals try (exfalso; (try simp only [LN] at *) <;> omega)
  all_goals first
    | ((refine Z.rndK ((i + 1)) (fun s => []) rfl rfl rfl rfl ?_ ?_ ?_ ?_); (focus (repeat' (first | exact trivial | exact rfl | apply And.intro))); (focus (repeat' (first | exact trivial))); (focus ((try dsimp only); omega)); ((try dsimp only); omega))
    | ((first | (with_reducible apply Z.retF1)); (focus (exact rfl)); (repeat' (first | exact trivial | (with_reducible apply Z.frz_one) | (with_reducible apply Z.fq_bool) | exact rfl | apply And.intro)); (all_goals (try exact (fun _ => none))); all_goals (rfl))

end Go.Proofs.Ytjjdfiapcpbapaa
namespace Go.Proofs.Ytjjdfiapcpbapaa
open Go Go.RowKit Wx
set_option linter.unusedVariables false
set_option linter.unusedSimpArgs false
set_option maxHeartbeats 4000000
structure Gr where
  ops : List Op
abbrev eGr (x : Gr) : List RT := [RT.ro 5 (x.ops.map eO)]
theorem rowNi64 (row : List RT) (h : RowF (.int .i64) row) : ∃ z, row = eI z ∧ (Lit.int .i64 z).wf = true := by
  obtain ⟨z, rfl, w⟩ := h
  exact ⟨z, rfl, w⟩
def okOp (x : Op) : Prop := (Lit.int .i64 x.tag).wf = true ∧ (Lit.int .i64 x.wid).wf = true ∧ (x.ins.length ≤ maxLen ∧ ∀ z ∈ x.ins, (Lit.int .i64 z).wf = true) ∧ (Lit.int .i64 x.a).wf = true ∧ (Lit.int .i64 x.b).wf = true ∧ True
theorem rowOp (row : List RT) (h : RowF (.st (.cons 3 1 (.int .i64) (.cons 3 1 (.int .i64) (.cons 32 1 (.sl (.int .i64) 3 1) (.cons 2 1 (.int .i64) (.cons 2 1 (.int .i64) .nil)))))) row) : ∃ x, row = eO x ∧ okOp x := by
  obtain ⟨a0, r0, rfl, _, ⟨z0, rfl, w0⟩, a1, r1, rfl, _, ⟨z1, rfl, w1⟩, a2, r2, rfl, _, ⟨rows2, rfl, l2, h2⟩, a3, r3, rfl, _, ⟨z3, rfl, w3⟩, a4, r4, rfl, _, ⟨z4, rfl, w4⟩, rfl⟩ := h
  obtain ⟨z2, rfl, k2⟩ := rows_map eI (fun z => (Lit.int .i64 z).wf = true) rowNi64 rows2 h2
  exact ⟨⟨z0, z1, z2, z3, z4⟩, rfl, w0, w1, ⟨by simpa using l2, k2⟩, w3, w4, trivial⟩
def okGr (x : Gr) : Prop := (x.ops.length ≤ maxLen ∧ ∀ z ∈ x.ops, okOp z) ∧ True
theorem rowGr (row : List RT) (h : RowF (.st (.cons 24 1 (.sl (.st (.cons 3 1 (.int .i64) (.cons 3 1 (.int .i64) (.cons 32 1 (.sl (.int .i64) 3 1) (.cons 2 1 (.int .i64) (.cons 2 1 (.int .i64) .nil)))))) 34 5) .nil)) row) : ∃ x, row = eGr x ∧ okGr x := by
  obtain ⟨a0, r0, rfl, _, ⟨rows0, rfl, l0, h0⟩, rfl⟩ := h
  obtain ⟨z0, rfl, k0⟩ := rows_map eO (fun z => okOp z) rowOp rows0 h0
  exact ⟨⟨z0⟩, rfl, ⟨by simpa using l0, k0⟩, trivial⟩
namespace graphEncodes
theorem main (avs : List A0) (h : All2 FitA [(.sl (.st (.cons 24 1 (.sl (.st (.cons 3 1 (.int .i64) (.cons 3 1 (.int .i64) (.cons 32 1 (.sl (.int .i64) 3 1) (.cons 2 1 (.int .i64) (.cons 2 1 (.int .i64) .nil)))))) 34 5) .nil)) 26 1)] avs) : Con Try.prog 5 avs (fun x K t => x = .val (.bool true) ∧ K = [] ∧ t = 0) := by
  obtain ⟨x0, rfl, h0⟩ : ∃ x0, avs = [x0] ∧ FitA (.sl (.st (.cons 24 1 (.sl (.st (.cons 3 1 (.int .i64) (.cons 3 1 (.int .i64) (.cons 32 1 (.sl (.int .i64) 3 1) (.cons 2 1 (.int .i64) (.cons 2 1 (.int .i64) .nil)))))) 34 5) .nil)) 26 1) x0 := by
    cases avs with
    | nil => exact h.elim
    | cons x0 r => cases r with
      | nil => exact ⟨x0, rfl, h.1⟩
      | cons => exact h.2.elim
  clear h
  obtain ⟨r0, ⟨rows0, hr0, ll, hrows0⟩, rfl⟩ := h0
  simp only [List.cons.injEq, and_true] at hr0
  subst hr0
  obtain ⟨l, rfl, kl⟩ := rows_map eGr (okGr) rowGr rows0 hrows0
  rw [List.length_map] at ll
  exact (by rw [show l.map eGr = (l.map Gr.ops).map eG by rw [List.map_map]; rfl]; exact graphencodes_con (l.map Gr.ops) (by simpa [maxLen] using ll) (fun g hg => by obtain ⟨x, hx, rfl⟩ := List.mem_map.1 hg; have := (kl x hx).1.1; simpa [maxLen] using this) (fun g hg o ho => by obtain ⟨x, hx, rfl⟩ := List.mem_map.1 hg; have := ((kl x hx).1.2 o ho).2.2.1.1; simpa [maxLen] using this))
end graphEncodes
end Go.Proofs.Ytjjdfiapcpbapaa
