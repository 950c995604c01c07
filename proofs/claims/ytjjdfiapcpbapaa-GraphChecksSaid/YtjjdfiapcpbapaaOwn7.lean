import Derived.Test.YtjjdfiapcpbapaaOwn6
import Derived.Test.YtjjdfiapcpbapaaRows
namespace Go.Proofs.Ytjjdfiapcpbapaa
open Go Go.RowKit Wx
set_option linter.unusedVariables false
set_option linter.unusedSimpArgs false
set_option maxHeartbeats 4000000
abbrev eG (l : List Op) : List RT := [RT.ro 5 (l.map eO)]
theorem graphchecks_con (gs : List (List Op)) (hgl : gs.length ≤ 9223372036854775807) (hg1 : ∀ g ∈ gs, g.length ≤ 9223372036854775807) (hg2 : ∀ g ∈ gs, ∀ o ∈ g, o.ins.length ≤ 9223372036854775807) : Con Try.prog 3 [.one (.ro false 1 (gs.map eG))] (fun rx rK rt => rx = .val (.bool true) ∧ rK = [] ∧ rt = 0) := by
  refine Z.con_ofF tabOk 89 Try.f3 _ Try.func3 (by kernel_rfl) rfl rfl rfl rfl ?_
  repeat' ((conv => whnf); first
    | ((with_reducible apply spB_cong); (focus (simp only [beq_self_eq_true, bne_self_eq_false, Bool.true_bne, Bool.false_bne, Bool.bne_true, Bool.bne_false, Bool.true_beq, Bool.false_beq, Bool.not_true, Bool.not_false, Bool.not_not, Int.reduceBEq, Int.reduceBNe, Int.reduceLE, Int.reduceLT, Int.reduceEq, decide_true, decide_false]; rfl)))
    | with_reducible first | refine spB_no (by decide) ?_
    | ((first | (with_reducible refine Z.callZ_mk ?_ (wakes_con) ?_)); (focus ((repeat' (first | exact trivial)); done))))
  all_goals (try (conv => whnf))
  all_goals try (show Nat.ble _ _ = true; rfl)
  all_goals try (exfalso; rename_i hz; cases hz; done)
  all_goals try (exfalso; (try simp only [LN] at *) <;> omega)
  refine Z.loopK tabOk (fun zq : Nat => [(18, .val (.int .i64 (zq : Int)))]) (fun zq : Nat => ([] : Z.Kr)) (fun zq => zq ≤ gs.length) (fun zq => gs.length - zq) 0 0 [(0, _), (16, _), (17, _)] ⟨rfl, rfl, rfl, trivial⟩ [] trivial ?_ ?_ rfl rfl (Nat.zero_le _) ?_
  · repeat' (first | exact trivial | apply And.intro | exact ⟨_, rfl, Z.Imp.refl _⟩)
  · repeat' (first | exact trivial)
  rintro i HINV
  (try dsimp only at HINV); (try dsimp only)
  by_cases hi : i < gs.length
  rotate_left
  · have hil : i = gs.length := by omega
    subst hil
    repeat' ((conv => whnf); first
      | (with_reducible refine spB_dec ?_ ?_ <;> intro _ <;> (try (exfalso; first | contradiction | omega | (rename_i hz; refine hz ?_; simp; done) | (rename_i hz; simp at hz; done) | (simp only [LN] at *; omega)))))
    all_goals (try (conv => whnf))
    all_goals try (show Nat.ble _ _ = true; rfl)
    all_goals try (exfalso; rename_i hz; cases hz; done)
    all_goals try (exfalso; (try simp only [LN] at *) <;> omega)
    all_goals first
      | ((first | (with_reducible apply Z.retF1)); (focus (exact rfl)); (repeat' (first | exact trivial | (with_reducible apply Z.frz_one) | (with_reducible apply Z.fq_bool) | exact rfl | apply And.intro)); (all_goals (try exact (fun _ => none))); all_goals (rfl))
  obtain ⟨g, hg⟩ := getElem?_some' (xs := gs) (i := i) hi
  obtain ⟨g0, hg0⟩ := getElem?_some' (xs := gs) (i := 0) (by omega)
  have hm := List.mem_of_getElem? hg
  have hm0 := List.mem_of_getElem? hg0
  have csx := short_con g (hg1 g hm) (hg2 g hm)
  have cs0 := short_con g0 (hg1 g0 hm0) (hg2 g0 hm0)
  have hL9 := shR_len g
  have hLi : ∀ p ∈ shR g, p.ins.length ≤ 1000 := fun p hp => by have := shR_ins p hp; omega
  have hLj : ∀ p ∈ shR g, p.ins.length ≤ 9223372036854775807 := fun p hp => by have := shR_ins p hp; omega
  generalize shR g = L at *
  generalize shR g0 = L0 at *
  have cc := check_con L hLi (by omega)
  have cr := rcheck_con L hLi (by omega)
  have cg0 := gsame_con L L0 (by omega) hLj
  have cgx := gsame_con L L (by omega) hLj
  have crx := rsame_con L L (by omega) hLj
  have cr0 := rsame_con L L0 (by omega) hLj
  rw [decide_eq_true rfl] at cgx crx
  generalize decide (L = L0) = q0 at *
  generalize chkR L = C at *
  repeat' ((conv => whnf); first
    | ((with_reducible apply spB_cong); (focus (simp only [beq_self_eq_true, bne_self_eq_false, Bool.true_bne, Bool.false_bne, Bool.bne_true, Bool.bne_false, Bool.true_beq, Bool.false_beq, Bool.not_true, Bool.not_false, Bool.not_not, Int.reduceBEq, Int.reduceBNe, Int.reduceLE, Int.reduceLT, Int.reduceEq, decide_true, decide_false]; rfl)))
    | with_reducible first | refine spB_no (by decide) ?_
    | (with_reducible refine spB_dec ?_ ?_ <;> intro _ <;> (try (exfalso; first | contradiction | omega | (rename_i hz; refine hz ?_; simp; done) | (rename_i hz; simp at hz; done) | (simp only [LN] at *; omega))))
    | (with_reducible refine spB_beq ?_ ?_ <;> intro _ <;> (try (exfalso; first | contradiction | omega | (rename_i hz; refine hz ?_; simp; done) | (rename_i hz; simp at hz; done) | (simp only [LN] at *; omega))))
    | with_reducible first | refine Z.rowN_known hg ?_ | refine Z.rowN_known hg0 ?_
    | ((with_reducible apply ixN_litp); (focus (exact rfl)); (focus ((try simp only [LN] at *) <;> omega)))
    | ((first | (with_reducible refine Z.callZ_mk ?_ (cc) ?_) | (with_reducible refine Z.callZ_mk ?_ (cr) ?_)); (focus ((repeat' (first | exact trivial | exact rfl | apply And.intro)); done)))
    | ((first | (with_reducible refine Z.conZ_mz ?_ (csx) ?_)); (focus ((repeat' (first | exact trivial | exact rfl | apply And.intro)); done)))
    | ((first | (with_reducible refine Z.conZ_mz ?_ (cs0) ?_)); (focus ((repeat' (first | exact trivial | exact rfl | apply And.intro)); done)))
    | ((first | (with_reducible refine Z.conZ_mz ?_ (crx) ?_)); (focus ((repeat' (first | exact trivial | exact rfl | apply And.intro)); done)))
    | ((first | (with_reducible refine Z.conZ_mz ?_ (cr0) ?_)); (focus ((repeat' (first | exact trivial | exact rfl | apply And.intro)); done)))
    | ((first | (with_reducible refine Z.conZ_mz ?_ (cg0) ?_)); (focus ((repeat' (first | exact trivial | exact rfl | apply And.intro)); done)))
    | ((first | (with_reducible refine Z.conZ_mz ?_ (cgx) ?_)); (focus ((repeat' (first | exact trivial | exact rfl | apply And.intro)); done)))
    | with_reducible first | refine Z.drawZ_rule tabOk mixOk ?_ | refine Z.apZ_mk (by kernel_rfl) ?_)
  all_goals (try (conv => whnf))
  all_goals try (show Nat.ble _ _ = true; rfl)
  all_goals try (exfalso; rename_i hz; cases hz; done)
  all_goals try (exfalso; (try simp only [LN] at *) <;> omega)
  · ((first | (with_reducible apply Z.retF1)); (focus (exact rfl)); (repeat' (first | exact trivial | (with_reducible apply Z.frz_one) | (with_reducible apply Z.fq_bool) | exact rfl | apply And.intro)); (all_goals (try exact (fun _ => none))); all_goals (rfl))
  refine Z.loopK tabOk (fun zq : Nat => [(75, .val (.int .i64 (zq : Int)))]) (fun zq : Nat => ([] : Z.Kr)) (fun zq => zq ≤ L.length) (fun zq => L.length - zq) 0 4 [(0, _), (16, _), (17, _), (18, _), (73, _), (74, _)] ⟨rfl, rfl, rfl, rfl, rfl, rfl, trivial⟩ [(0, some _), (1, some _), (2, some _), (3, some _)] ⟨rfl, rfl, rfl, rfl, trivial⟩ ?_ ?_ rfl rfl (Nat.zero_le _) ?_
  · repeat' (first | exact trivial | apply And.intro | exact ⟨_, rfl, Z.Imp.refl _⟩)
  · repeat' (first | exact trivial)
  rintro k HINV
  (try dsimp only at HINV); (try dsimp only)
  by_cases hk : k < L.length
  · obtain ⟨o, ho⟩ := getElem?_some' (xs := L) (i := k) hk
    have hol := hLi o (List.mem_of_getElem? ho)
    have ca := alone_con o (k : Int) (by omega) (by omega)
    have cb := ralone_con o (k : Int) (by omega)
    generalize aloneR o (k : Int) = q1 at *
    repeat' ((conv => whnf); first
      | ((with_reducible apply spB_cong); (focus (simp only [beq_self_eq_true, bne_self_eq_false, Bool.true_bne, Bool.false_bne, Bool.bne_true, Bool.bne_false, Bool.true_beq, Bool.false_beq, Bool.not_true, Bool.not_false, Bool.not_not, Int.reduceBEq, Int.reduceBNe, Int.reduceLE, Int.reduceLT, Int.reduceEq, decide_true, decide_false]; rfl)))
      | with_reducible first | refine spB_no (by decide) ?_
      | (with_reducible refine spB_dec ?_ ?_ <;> intro _ <;> (try (exfalso; first | contradiction | omega | (rename_i hz; refine hz ?_; simp; done) | (rename_i hz; simp at hz; done) | (simp only [LN] at *; omega))))
      | ((with_reducible refine ixN_mk (k) ?_ ?_ ?_); (focus (first | rfl)); (focus ((try simp only [LN] at *) <;> omega)))
      | with_reducible first | refine Z.rowN_known ho ?_
      | with_reducible refine wr_i64 (by first | omega | (simp only [LN] at *; omega)) ?_
      | ((first | (with_reducible refine Z.conZ_mz ?_ (ca) ?_) | (with_reducible refine Z.conZ_mz ?_ (cb) ?_)); (focus ((repeat' (first | exact trivial | exact rfl | apply And.intro)); done)))
      | with_reducible first | refine Z.drawZ_rule tabOk mixOk ?_ | refine Z.apZ_mk (by kernel_rfl) ?_)
    all_goals (try (conv => whnf))
    all_goals try (show Nat.ble _ _ = true; rfl)
    all_goals try (exfalso; rename_i hz; cases hz; done)
    all_goals try (exfalso; (try simp only [LN] at *) <;> omega)
    all_goals first
      | ((refine Z.rndK ((k + 1)) (fun s => [0, 1, 2, 3]) rfl rfl rfl rfl ?_ ?_ ?_ ?_); (focus (repeat' (first | exact trivial | exact rfl | apply And.intro))); (focus (repeat' (first | exact trivial | (intro b hb; cases hb; rfl) | apply And.intro))); (focus ((try dsimp only); omega)); ((try dsimp only); omega))
  repeat' ((conv => whnf); first
    | (with_reducible refine spB_dec ?_ ?_ <;> intro _ <;> (try (exfalso; first | contradiction | omega | (rename_i hz; refine hz ?_; simp; done) | (rename_i hz; simp at hz; done) | (simp only [LN] at *; omega))))
    | with_reducible refine wr_i64 (by first | omega | (simp only [LN] at *; omega)) ?_)
  all_goals (try (conv => whnf))
  all_goals try (show Nat.ble _ _ = true; rfl)
  all_goals try (exfalso; rename_i hz; cases hz; done)
  all_goals try (exfalso; (try simp only [LN] at *) <;> omega)
  all_goals first
    | ((refine Z.rndK ((i + 1)) (fun s => []) rfl rfl rfl rfl ?_ ?_ ?_ ?_); (focus (repeat' (first | exact trivial | exact rfl | apply And.intro))); (focus (repeat' (first | exact trivial))); (focus ((try dsimp only); omega)); ((try dsimp only); omega))

end Go.Proofs.Ytjjdfiapcpbapaa
namespace Go.Proofs.Ytjjdfiapcpbapaa
open Go Go.RowKit Wx
set_option linter.unusedVariables false
set_option linter.unusedSimpArgs false
set_option maxHeartbeats 4000000
structure Gr where
  ops : List Op
abbrev eGr (x : Gr) : List RT := [RT.ro 5 (x.ops.map eO)]
theorem rowNi64 (row : List RT) (h : RowF (.int .i64) row) : ∃ z, row = eI z ∧ (Lit.int .i64 z).wf = true := by
  obtain ⟨z, rfl, w⟩ := h
  exact ⟨z, rfl, w⟩
def okOp (x : Op) : Prop := (Lit.int .i64 x.tag).wf = true ∧ (Lit.int .i64 x.wid).wf = true ∧ (x.ins.length ≤ maxLen ∧ ∀ z ∈ x.ins, (Lit.int .i64 z).wf = true) ∧ (Lit.int .i64 x.a).wf = true ∧ (Lit.int .i64 x.b).wf = true ∧ True
theorem rowOp (row : List RT) (h : RowF (.st (.cons 3 1 (.int .i64) (.cons 3 1 (.int .i64) (.cons 32 1 (.sl (.int .i64) 3 1) (.cons 2 1 (.int .i64) (.cons 2 1 (.int .i64) .nil)))))) row) : ∃ x, row = eO x ∧ okOp x := by
  obtain ⟨a0, r0, rfl, _, ⟨z0, rfl, w0⟩, a1, r1, rfl, _, ⟨z1, rfl, w1⟩, a2, r2, rfl, _, ⟨rows2, rfl, l2, h2⟩, a3, r3, rfl, _, ⟨z3, rfl, w3⟩, a4, r4, rfl, _, ⟨z4, rfl, w4⟩, rfl⟩ := h
  obtain ⟨z2, rfl, k2⟩ := rows_map eI (fun z => (Lit.int .i64 z).wf = true) rowNi64 rows2 h2
  exact ⟨⟨z0, z1, z2, z3, z4⟩, rfl, w0, w1, ⟨by simpa using l2, k2⟩, w3, w4, trivial⟩
def okGr (x : Gr) : Prop := (x.ops.length ≤ maxLen ∧ ∀ z ∈ x.ops, okOp z) ∧ True
theorem rowGr (row : List RT) (h : RowF (.st (.cons 24 1 (.sl (.st (.cons 3 1 (.int .i64) (.cons 3 1 (.int .i64) (.cons 32 1 (.sl (.int .i64) 3 1) (.cons 2 1 (.int .i64) (.cons 2 1 (.int .i64) .nil)))))) 34 5) .nil)) row) : ∃ x, row = eGr x ∧ okGr x := by
  obtain ⟨a0, r0, rfl, _, ⟨rows0, rfl, l0, h0⟩, rfl⟩ := h
  obtain ⟨z0, rfl, k0⟩ := rows_map eO (fun z => okOp z) rowOp rows0 h0
  exact ⟨⟨z0⟩, rfl, ⟨by simpa using l0, k0⟩, trivial⟩
namespace graphChecks
theorem main (avs : List A0) (h : All2 FitA [(.sl (.st (.cons 24 1 (.sl (.st (.cons 3 1 (.int .i64) (.cons 3 1 (.int .i64) (.cons 32 1 (.sl (.int .i64) 3 1) (.cons 2 1 (.int .i64) (.cons 2 1 (.int .i64) .nil)))))) 34 5) .nil)) 26 1)] avs) : Con Try.prog 3 avs (fun x K t => x = .val (.bool true) ∧ K = [] ∧ t = 0) := by
  obtain ⟨x0, rfl, h0⟩ : ∃ x0, avs = [x0] ∧ FitA (.sl (.st (.cons 24 1 (.sl (.st (.cons 3 1 (.int .i64) (.cons 3 1 (.int .i64) (.cons 32 1 (.sl (.int .i64) 3 1) (.cons 2 1 (.int .i64) (.cons 2 1 (.int .i64) .nil)))))) 34 5) .nil)) 26 1) x0 := by
    cases avs with
    | nil => exact h.elim
    | cons x0 r => cases r with
      | nil => exact ⟨x0, rfl, h.1⟩
      | cons => exact h.2.elim
  clear h
  obtain ⟨r0, ⟨rows0, hr0, ll, hrows0⟩, rfl⟩ := h0
  simp only [List.cons.injEq, and_true] at hr0
  subst hr0
  obtain ⟨l, rfl, kl⟩ := rows_map eGr (okGr) rowGr rows0 hrows0
  rw [List.length_map] at ll
  exact (by rw [show l.map eGr = (l.map Gr.ops).map eG by rw [List.map_map]; rfl]; exact graphchecks_con (l.map Gr.ops) (by simpa [maxLen] using ll) (fun g hg => by obtain ⟨x, hx, rfl⟩ := List.mem_map.1 hg; have := (kl x hx).1.1; simpa [maxLen] using this) (fun g hg o ho => by obtain ⟨x, hx, rfl⟩ := List.mem_map.1 hg; have := ((kl x hx).1.2 o ho).2.2.1.1; simpa [maxLen] using this))
end graphChecks
end Go.Proofs.Ytjjdfiapcpbapaa
