/-
  More operations: arrays built, an element of an array.
-/
import Derived.Test.YtgdkhdooekmfgaaWs
namespace Go.Proofs.Ytgdkhdooekmfgaa.Wx
open Go Go.RowKit
set_option linter.unusedVariables false
def bitOp (op : BinOp) (k : IntKind) (p q : Int) : Option Int :=
  match op with
  | .and => some (k.wrap (BitVec.ofInt k.bits p &&& BitVec.ofInt k.bits q).toNat)
  | .or => some (k.wrap (BitVec.ofInt k.bits p ||| BitVec.ofInt k.bits q).toNat)
  | .xor => some (k.wrap (BitVec.ofInt k.bits p ^^^ BitVec.ofInt k.bits q).toNat)
  | .andNot => some (k.wrap (BitVec.ofInt k.bits p &&& ~~~BitVec.ofInt k.bits q).toNat)
  | _ => none
section
variable {P : Program} {o : Oper} {F0 : Nat → Option AV} {K0 : Nat → Option Blk}
theorem y_bits (op : BinOp) (t : TypeId) (x y : Operand) (yt : TypeId) (ho : o.op = .binOp op t x y yt) (k : IntKind) (p q : Int) (hx : evf F0 x = some (.val (.int k p))) (hy : evf F0 y = some (.val (.int k q))) (r : Int) (hr : bitOp op k p q = some r) :
    Yv P o F0 K0 [] (.val (.int k r)) := by
  intro n W F K I R a w hs hxx hk
  have hm : ∀ z ∈ [x, y], evf F z = evf F0 z := fun z hz => hxx z (by simpa [ho, Op.operands] using hz)
  have e1 := ev_plain hs ((hm x (by simp)).trans hx)
  have e2 := ev_plain hs ((hm y (by simp)).trans hy)
  refine ⟨_, ?_, rfl⟩
  simp only [execOp, ho, e1, e2]
  rw [Sem.run_bind, Sem.run_bind, eqGuard_at_int]
  simp only [Sem.run_pure, Result.andThen_ok]
  cases op <;> simp only [bitOp, Option.some.injEq, reduceCtorEq] at hr <;> subst hr <;> simp [binOp, Op.intBits]
theorem y_neg (t : TypeId) (x : Operand) (ho : o.op = .unOp .neg t x) (k : IntKind) (p : Int) (hx : evf F0 x = some (.val (.int k p))) : Yv P o F0 K0 [] (.val (.int k (k.wrap (0 - p)))) := by
  intro n W F K I R a w hs hxx hk
  have e1 := ev_plain hs ((hxx x (by simp [ho, Op.operands])).trans hx)
  simp only [execOp, ho, e1]
  rw [Sem.run_bind]
  exact ⟨_, by simp [Op.unary, Op.intArith], rfl⟩
theorem run_equalP {P : Program} {w : World} (d : Nat) (t e : TypeId) (a : Option Addr) (h : P.underlying t = some (.pointer e)) : (Op.equalIn (d + 1) t (.pointer a) (.pointer none)).run P w = .ok a.isNone w := by
  cases a <;> simp [Op.equalIn, run_underlying h]
/-- Is a pointer nil? -/
def ptrNil : Ce → Option Bool
  | .own _ _ _ => some false
  | .rp _ _ _ => some false
  | .v (.pointer none) => some true
  | _ => none
theorem y_eqP (t : TypeId) (x y : Operand) (yt : TypeId) (op : BinOp) (ho : o.op = .binOp op t x y yt) (ti : TI) (ht : tiOf P t = some ti) (hkd : ti.kd = 4) (c : Ce) (hx : evf F0 x = some (.c c)) (hy : evf F0 y = some (.val (.pointer none))) (r : Bool) (hr : ptrNil c = some r) (z : Bool)
    (hz : (op = .eql ∧ z = r) ∨ (op = .neq ∧ z = !r)) : Yv P o F0 K0 [] (.val (.bool z)) := by
  obtain ⟨d, hd, hk⟩ := tiOf_kd ht
  obtain ⟨e, rfl⟩ := kdOf_ptr (hk.trans hkd)
  intro n W F K I R a w hs hxx hk
  have hm : ∀ z ∈ [x, y], evf F z = evf F0 z := fun z hz => hxx z (by simpa [ho, Op.operands] using hz)
  have e1 := hs.ev ((hm x (by simp)).trans hx)
  have e2 := ev_plain hs ((hm y (by simp)).trans hy)
  obtain ⟨ad, v1, v2⟩ : ∃ ad : Option Addr, a.eval x = .pointer ad ∧ ad.isNone = r := by
    generalize a.eval x = u at *
    cases c with
    | own i q k => simp only [ptrNil, Option.some.injEq] at hr; subst hr; obtain ⟨p, _, h⟩ := e1; exact ⟨_, h, rfl⟩
    | rp fl row k => simp only [ptrNil, Option.some.injEq] at hr; subst hr; obtain ⟨b, o', h, _⟩ := e1; exact ⟨_, h, rfl⟩
    | v y =>
      cases y <;> simp [ptrNil] at hr
      rename_i ad
      cases ad <;> simp at hr
      subst hr
      exact ⟨none, e1, rfl⟩
    | _ => cases hr
  have hg : (eqGuard op t x y (.pointer ad) (.pointer none)).run P w = .ok () w := by
    unfold eqGuard
    rcases hz with ⟨rfl, _⟩ | ⟨rfl, _⟩ <;> rfl
  refine ⟨_, ?_, rfl⟩
  simp only [execOp, ho, v1, e2]
  rw [Sem.run_bind, Sem.run_bind, hg]
  simp only [Result.andThen_ok]
  rcases hz with ⟨rfl, rfl⟩ | ⟨rfl, rfl⟩
  · simp only [binOp, Op.equal, Op.maxDepth, Sem.run_bind]
    rw [run_equalP 9999 t e ad hd, v2]; rfl
  · simp only [binOp, Op.equal, Op.maxDepth, Sem.run_bind]
    rw [run_equalP 9999 t e ad hd, v2]; rfl
end
/-- More operations. -/
def opX (T : Tab) (o : Oper) (F : Nat → Option AV) (K : Nat → Option Blk) (top : Nat) : Option Eff :=
  match o.op with
  | .build t ps => match tyGet T t with
    | some ti => match ti.arr, evb F ps.toList with
      | some (m, s, r), some avs => match fillC ((List.range m).map fun i => (i * s, s, r)) (ti.zero.map .v) avs with
        | some out => some ⟨.pl (.agg out), [], [], top⟩
        | none => none
      | _, _ => none
    | none => none
  | .index t x y => match tyGet T t, evf F x, evf F y with
    | some ti, some (.pl (.agg cs)), some (.pl (.one (.v (.int k j)))) => match ti.arr, natOf j with
      | some (m, s, r), some j' => match Nat.blt j' m, cut r (j' * s) s cs with
        | true, some v => some ⟨.pl v, [], [], top⟩
        | _, _ => none
      | _, _ => none
    | _, _, _ => none
  | .unOp .neg _ x => match evf F x with
    | some (.pl (.one (.v (.int k p)))) => some ⟨.val (.int k (k.wrap (0 - p))), [], [], top⟩
    | _ => none
  | .binOp op t x y _ => match evf F x, evf F y with
    | some (.pl (.one (.v (.int kx p)))), some (.pl (.one (.v (.int ky q)))) => match decide (kx = ky), bitOp op kx p q with
      | true, some r => some ⟨.val (.int kx r), [], [], top⟩
      | _, _ => none
    | some (.pl (.one c)), some (.pl (.one (.v (.pointer none)))) => match tyGet T t, ptrNil c, op with
      | some ti, some r, .eql => match Nat.beq ti.kd 4 with
        | true => some ⟨.val (.bool r), [], [], top⟩
        | false => none
      | some ti, some r, .neq => match Nat.beq ti.kd 4 with
        | true => some ⟨.val (.bool (!r)), [], [], top⟩
        | false => none
      | _, _, _ => none
    | _, _ => none
  | _ => none
theorem opX_sound {P : Program} {T : Tab} {o : Oper} {F : Nat → Option AV} {K : Nat → Option Blk} {top : Nat} {e : Eff} (hT : TabOk P T) (h : opX T o F K top = some e) : OpEff P o F K top e ∧ ∀ c, o.op ≠ .defer c := by
  obtain ⟨dst, op, ty, pos, after, guard⟩ := o
  unfold opX at h
  dsimp only at h
  split at h
  · refine ⟨?_, fun c hc => by cases hc⟩
    split at h
    · rename_i ti ht
      split at h
      · rename_i m s r avs hel hx
        split at h
        · rename_i out hout; cases h; exact (y_builda _ _ rfl ti (hT _ _ ht) m s r hel avs hx out hout).eff
        · cases h
      · cases h
    · cases h
  · refine ⟨?_, fun c hc => by cases hc⟩
    split at h
    · rename_i ti cs k j ht hx hy
      split at h
      · rename_i m s r j' hel hj
        split at h
        · rename_i v hlt hv; cases h; exact (y_indexv _ _ _ rfl ti (hT _ _ ht) m s r hel cs hx k j hy j' (natOf_spec hj) (by simpa [Nat.blt_eq] using hlt) v hv).eff
        · cases h
      · cases h
    · cases h
  · refine ⟨?_, fun c hc => by cases hc⟩
    split at h
    · rename_i k p hx; cases h; exact (y_neg _ _ rfl k p hx).eff
    · cases h
  · refine ⟨?_, fun c hc => by cases hc⟩
    rename_i op t x y yt
    split at h
    · rename_i kx p ky q hx hy
      split at h
      · rename_i r hd hr
        have := of_decide_eq_true hd
        subst this
        cases h; exact (y_bits _ _ _ _ _ rfl _ _ _ hx hy r hr).eff
      · cases h
    · rename_i c hx hy
      split at h
      · rename_i ti r ht hr
        split at h
        · rename_i hk; cases h; exact (y_eqP _ _ _ _ _ rfl ti (hT _ _ ht) (Nat.eq_of_beq_eq_true hk) c hx hy r hr _ (.inl ⟨rfl, rfl⟩)).eff
        · cases h
      · rename_i ti r ht hr
        split at h
        · rename_i hk; cases h; exact (y_eqP _ _ _ _ _ rfl ti (hT _ _ ht) (Nat.eq_of_beq_eq_true hk) c hx hy r hr _ (.inr ⟨rfl, rfl⟩)).eff
        · cases h
      · cases h
    · cases h
  · cases h
end Go.Proofs.Ytgdkhdooekmfgaa.Wx
