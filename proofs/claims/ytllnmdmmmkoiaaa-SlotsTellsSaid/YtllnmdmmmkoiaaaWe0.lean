/-
  Arrays: built, an element.
-/
import Derived.Test.YtllnmdmmmkoiaaaWn
namespace Go.Proofs.Ytllnmdmmmkoiaaa.Wx
open Go Go.RowKit
set_option linter.unusedVariables false
section
variable {P : Program} {o : Oper} {F0 : Nat → Option AV} {K0 : Nat → Option Blk}
theorem part_cut {I : IM} {R : RM} {w : World} {e : TypeId} {de : TypeDesc} {inf : TypeInfo} {sz : Nat} (hd : P.underlying e = some de) (hi : P.info? e = some inf) (hs : inf.size = sz) {off : Nat} {cs : List Ce} {vs : List Value} (h : All2 (Ce.rel I R) cs vs) {v : A0} (hv : cut de.isRow off sz cs = some v) : ∃ u, (part e vs.toArray off).run P w = .ok u w ∧ v.rel I R u := by
  unfold cut at hv
  cases hrow : de.isRow with
  | true =>
    rw [hrow] at hv
    simp only at hv
    split at hv
    · rename_i hle
      simp only [Option.some.injEq] at hv
      subst hv
      have hagg : (isAgg e).run P w = .ok true w := by
        unfold isAgg
        rw [Sem.run_bind, run_underlying hd w]
        cases de <;> simp_all
      refine ⟨.agg ((vs.drop off).take sz).toArray, ?_, _, rfl, (h.drop off).take sz⟩
      unfold part
      rw [Sem.run_bind, hagg]
      simp [sizeOf, typeInfo, hi, hs]
    · cases hv
  | false =>
    rw [hrow] at hv
    simp only at hv
    split at hv
    · rename_i c hcc
      simp only [Option.some.injEq] at hv
      subst hv
      obtain ⟨u, g1, g2⟩ := h.get hcc
      have hagg : (isAgg e).run P w = .ok false w := by
        unfold isAgg
        rw [Sem.run_bind, run_underlying hd w]
        cases de <;> simp_all
      refine ⟨u, ?_, g2⟩
      unfold part
      rw [Sem.run_bind, hagg]
      simp [g1]
    · cases hv
theorem y_indexv (t : TypeId) (x y : Operand) (ho : o.op = .index t x y) (ti : TI) (ht : tiOf P t = some ti) (m s : Nat) (r : Bool) (hel : ti.arr = some (m, s, r)) (cs : List Ce) (hx : evf F0 x = some (.pl (.agg cs)))
    (k : IntKind) (j : Int) (hy : evf F0 y = some (.val (.int k j))) (j' : Nat) (hj : j = (j' : Int)) (hlt : j' < m) (v : A0) (hv : cut r (j' * s) s cs = some v) : Yv P o F0 K0 [] (.pl v) := by
  obtain ⟨e, de, inf, hu, hinf, hde, hs1, hr⟩ := tiOf_arr ht hel
  subst hj hr
  intro n W F K I R a w hs hxx hk
  have hm : ∀ z ∈ [x, y], evf F z = evf F0 z := fun z hz => hxx z (by simpa [ho, Op.operands] using hz)
  have hx' := hs.ev ((hm x (by simp)).trans hx)
  have hy' := ev_plain hs ((hm y (by simp)).trans hy)
  simp only [AV.rel, A0.rel] at hx'
  obtain ⟨vs, e1, e2⟩ := hx'
  obtain ⟨u, g1, g2⟩ := part_cut (w := w) hde hinf hs1 e2 hv
  refine ⟨u, ?_, g2⟩
  simp only [execOp, ho, e1, hy']
  have hrun : (Instr.index t (.agg vs.toArray) (.int k (j' : Int))).run P w = .ok u w := by
    unfold Instr.index
    simp only [asIntOf, Sem.run_bind, Sem.run_pure, Result.andThen_ok, run_underlying hu w]
    rw [if_pos ⟨by omega, by omega⟩]
    simp only [sizeOf, typeInfo, Sem.run_bind]
    simp [hinf, hs1, g1]
  rw [Sem.run_bind, hrun]
  rfl
theorem y_builda (t : TypeId) (ps : Array (Nat × Operand)) (ho : o.op = .build t ps) (ti : TI) (ht : tiOf P t = some ti) (m s : Nat) (r : Bool) (hel : ti.arr = some (m, s, r)) (avs : List (Nat × A0)) (hx : evb F0 ps.toList = some avs) (out : List Ce) (hout : fillC ((List.range m).map fun i => (i * s, s, r)) (ti.zero.map .v) avs = some out) :
    Yv P o F0 K0 [] (.pl (.agg out)) := by
  obtain ⟨d, inf, z, hud, hinf, hz, _, hisz, hzc⟩ := tiOf_load ht
  obtain ⟨e, de, inf', hu, hinf', hde, hs1, hr⟩ := tiOf_arr ht hel
  intro n W F K I R a w hs hxx hk
  have e := hs.evb (fun q hq => hxx q.2 (by simp [ho, Op.operands]; exact ⟨q.1, by simpa using hq⟩)) hx
  obtain ⟨arr, h1, h2⟩ := fill_rel (I := I) (R := R) (place := fun i => some (i * s, s)) (by
      intro i off sz r hi
      simp only [List.getElem?_map, Option.map_eq_some_iff] at hi
      obtain ⟨j, hj, he⟩ := hi
      have hj' := List.getElem?_eq_some_iff.1 hj
      obtain ⟨hlt, hj'⟩ := hj'
      simp only [List.getElem_range] at hj'
      simp only [Prod.mk.injEq] at he
      obtain ⟨e1, e2, _⟩ := he
      rw [← e1, ← e2, hj']) (us := z.cells) (cs := ti.zero.map Ce.v) (by
      rw [hzc]; exact All2.map _ (All2.of_get rfl fun i a b h1 h2 => by rw [h1] at h2; cases h2; rfl)) e hout
  refine ⟨.agg arr, ?_, arr.toList, by simp, h2⟩
  simp only [execOp, ho]
  have hb : (Instr.build t (ps.map fun (i, x) => (i, a.eval x))).run P w = .ok (.agg arr) w := by
    have hzv : (zeroValue t).run P w = .ok z w := by simp [zeroValue, typeInfo, hinf, hz]
    have hp : (ps.map fun (i, x) => (i, a.eval x)).toList = ps.toList.map fun q => (q.1, a.eval q.2) := by simp
    simp only [Instr.build]
    rw [Sem.run_bind, hzv]
    simp only [Result.andThen_ok]
    rw [Sem.run_bind, run_underlying hu]
    simp only [Result.andThen_ok]
    rw [Sem.run_bind, show (sizeOf _).run P w = .ok s w by simp [sizeOf, typeInfo, hinf', hs1]]
    simp only [Result.andThen_ok, hp, h1, Sem.run_pure]
  rw [Sem.run_bind, hb]
  rfl
end
end Go.Proofs.Ytllnmdmmmkoiaaa.Wx
