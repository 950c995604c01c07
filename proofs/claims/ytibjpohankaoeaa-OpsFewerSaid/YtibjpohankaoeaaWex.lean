/-
  More operations: arrays built, an element of an array.
-/
import Derived.Test.YtibjpohankaoeaaWs
namespace Go.Proofs.Ytibjpohankaoeaa.Wx
open Go Go.RowKit
set_option linter.unusedVariables false
def bitOp (op : BinOp) (k : IntKind) (p q : Int) : Option Int :=
  match op with
  | .and => some (k.wrap (BitVec.ofInt k.bits p &&& BitVec.ofInt k.bits q).toNat)
  | .or => some (k.wrap (BitVec.ofInt k.bits p ||| BitVec.ofInt k.bits q).toNat)
  | .xor => some (k.wrap (BitVec.ofInt k.bits p ^^^ BitVec.ofInt k.bits q).toNat)
  | .andNot => some (k.wrap (BitVec.ofInt k.bits p &&& ~~~BitVec.ofInt k.bits q).toNat)
  | _ => none
section
variable {P : Program} {o : Oper} {F0 : Nat → Option AV} {K0 : Nat → Option Blk}
theorem y_bits (op : BinOp) (t : TypeId) (x y : Operand) (yt : TypeId) (ho : o.op = .binOp op t x y yt) (k : IntKind) (p q : Int) (hx : evf F0 x = some (.val (.int k p))) (hy : evf F0 y = some (.val (.int k q))) (r : Int) (hr : bitOp op k p q = some r) :
    Yv P o F0 K0 [] (.val (.int k r)) := by
  intro n W F K I R a w hs hxx hk
  have hm : ∀ z ∈ [x, y], evf F z = evf F0 z := fun z hz => hxx z (by simpa [ho, Op.operands] using hz)
  have e1 := ev_plain hs ((hm x (by simp)).trans hx)
  have e2 := ev_plain hs ((hm y (by simp)).trans hy)
  refine ⟨_, ?_, rfl⟩
  simp only [execOp, ho, e1, e2]
  rw [Sem.run_bind, Sem.run_bind, eqGuard_at_int]
  simp only [Sem.run_pure, Result.andThen_ok]
  cases op <;> simp only [bitOp, Option.some.injEq, reduceCtorEq] at hr <;> subst hr <;> simp [binOp, Op.intBits]
theorem y_neg (t : TypeId) (x : Operand) (ho : o.op = .unOp .neg t x) (k : IntKind) (p : Int) (hx : evf F0 x = some (.val (.int k p))) : Yv P o F0 K0 [] (.val (.int k (k.wrap (0 - p)))) := by
  intro n W F K I R a w hs hxx hk
  have e1 := ev_plain hs ((hxx x (by simp [ho, Op.operands])).trans hx)
  simp only [execOp, ho, e1]
  rw [Sem.run_bind]
  exact ⟨_, by simp [Op.unary, Op.intArith], rfl⟩
theorem run_equalP {P : Program} {w : World} (d : Nat) (t e : TypeId) (a : Option Addr) (h : P.underlying t = some (.pointer e)) : (Op.equalIn (d + 1) t (.pointer a) (.pointer none)).run P w = .ok a.isNone w := by
  cases a <;> simp [Op.equalIn, run_underlying h]
theorem y_meth (f : FuncId) (fst : Array Operand) (ho : o.op = .makeFunc (.func f) fst #[]) (ps : List Pt) (hp : All2 (fun x p => evf F0 x = some p.asV) fst.toList ps) : Yv P o F0 K0 [] (.c (.mf f ps)) := by
  intro n W F K I R a w hs hxx hk
  refine ⟨.func (.func f) (fst.map a.eval) #[], ?_, fst.toList.map a.eval, ?_, ?_⟩
  · simp only [execOp, ho]; simp [Instr.makeFunc]
  · have hm : ∀ z ∈ fst.toList, evf F z = evf F0 z := fun z hz => hxx z (by simpa [ho, Op.operands] using hz)
    generalize fst.toList = l at hp hm
    induction l generalizing ps with
    | nil => cases ps with
      | nil => trivial
      | cons => exact hp.elim
    | cons z r ih => cases ps with
      | nil => exact hp.elim
      | cons p ps =>
        refine ⟨?_, ih _ hp.2 (fun y hy => hm y (List.mem_cons_of_mem _ hy))⟩
        have := hs.ev ((hm z List.mem_cons_self).trans hp.1)
        cases p with
        | ag l => obtain ⟨vs, g1, g2⟩ := this; exact ⟨vs, g1, pa_all.1 g2⟩
        | _ => exact this
  · congr 1; apply Array.ext'; simp
/-- Is a pointer nil? -/
def ptrNil : Ce → Option Bool
  | .own _ _ _ => some false
  | .rp _ _ _ => some false
  | .v (.pointer none) => some true
  | _ => none
theorem y_eqP (t : TypeId) (x y : Operand) (yt : TypeId) (op : BinOp) (ho : o.op = .binOp op t x y yt) (ti : TI) (ht : tiOf P t = some ti) (hkd : ti.kd = 4) (c : Ce) (hx : evf F0 x = some (.c c)) (hy : evf F0 y = some (.val (.pointer none))) (r : Bool) (hr : ptrNil c = some r) (z : Bool)
    (hz : (op = .eql ∧ z = r) ∨ (op = .neq ∧ z = !r)) : Yv P o F0 K0 [] (.val (.bool z)) := by
  obtain ⟨d, hd, hk⟩ := tiOf_kd ht
  obtain ⟨e, rfl⟩ := kdOf_ptr (hk.trans hkd)
  intro n W F K I R a w hs hxx hk
  have hm : ∀ z ∈ [x, y], evf F z = evf F0 z := fun z hz => hxx z (by simpa [ho, Op.operands] using hz)
  have e1 := hs.ev ((hm x (by simp)).trans hx)
  have e2 := ev_plain hs ((hm y (by simp)).trans hy)
  obtain ⟨ad, v1, v2⟩ : ∃ ad : Option Addr, a.eval x = .pointer ad ∧ ad.isNone = r := by
    generalize a.eval x = u at *
    cases c with
    | own i q k => simp only [ptrNil, Option.some.injEq] at hr; subst hr; obtain ⟨p, _, h⟩ := e1; exact ⟨_, h, rfl⟩
    | rp fl row k => simp only [ptrNil, Option.some.injEq] at hr; subst hr; obtain ⟨b, o', h, _⟩ := e1; exact ⟨_, h, rfl⟩
    | v y =>
      cases y <;> simp [ptrNil] at hr
      rename_i ad
      cases ad <;> simp at hr
      subst hr
      exact ⟨none, e1, rfl⟩
    | _ => cases hr
  have hg : (eqGuard op t x y (.pointer ad) (.pointer none)).run P w = .ok () w := by
    unfold eqGuard
    rcases hz with ⟨rfl, _⟩ | ⟨rfl, _⟩ <;> rfl
  refine ⟨_, ?_, rfl⟩
  simp only [execOp, ho, v1, e2]
  rw [Sem.run_bind, Sem.run_bind, hg]
  simp only [Result.andThen_ok]
  rcases hz with ⟨rfl, rfl⟩ | ⟨rfl, rfl⟩
  · simp only [binOp, Op.equal, Op.maxDepth, Sem.run_bind]
    rw [run_equalP 9999 t e ad hd, v2]; rfl
  · simp only [binOp, Op.equal, Op.maxDepth, Sem.run_bind]
    rw [run_equalP 9999 t e ad hd, v2]; rfl
theorem slice3_run {t e : TypeId} {ti : TI} (ht : tiOf P t = some ti) {s bt : Nat} (hel : ti.elem = some (e, s, bt)) {w : World} (ad : Option Addr) (len cap : Nat) (lo : Option Value) (kh km : IntKind) (l h m : Nat)
    (hlo : (match lo with | some x => ∃ k, x = .int k (l : Int) | none => l = 0)) (hlh : l ≤ h) (hhm : h ≤ m) (hmc : m ≤ cap) :
    (Instr.sliceAt t (.slice ad len cap) lo (some (.int kh h)) (some (.int km m))).run P w = .ok (.slice (if m = l then ad else ad.map (·.add (l * s))) (h - l) (m - l)) w := by
  obtain ⟨hu, inf, z, hinf, hz, hs1, hs2, hs3⟩ := tiOf_elem ht hel
  have hu' : P.underlying t = some (.slice (P.elem t)) := by
    have : P.elem t = e := by simp [Program.elem, hu]
    rw [this]; exact hu
  have hsz : (sizeOf (P.elem t)).run P w = .ok s w := by
    have : P.elem t = e := by simp [Program.elem, hu]
    rw [this]; simp [sizeOf, typeInfo, hinf, hs1]
  rw [run_sliceAt_slice w t _ lo _ _ hu']
  cases lo with
  | none =>
    simp only at hlo
    subst hlo
    rw [run_slice_hm w t ad len cap hu' kh km h m (by omega) (by omega) (by omega), hsz]; simp [Result.andThen, sliced]
  | some x =>
    obtain ⟨k, rfl⟩ := hlo
    rw [run_slice_lhm w t ad len cap hu' k kh km l h m (by omega) (by omega) (by omega) (by omega), hsz]; simp [Result.andThen, sliced]
theorem y_sl3 (t : TypeId) (x : Operand) (lo : Option Operand) (hi mx : Operand) (ho : o.op = .slice t x lo (some hi) (some mx)) (ti : TI) (ht : tiOf P t = some ti) (e s bt : Nat) (hel : ti.elem = some (e, s, bt)) (i q m : Nat) (c : Option Nat) (hx : evf F0 x = some (.c (.osl i q m c))) (b : Blk) (hb : K0 i = some b) (hs : Nat.beq b.sz s = true) (l h mm : Nat)
    (hlo : bndo F0 lo l 0) (kh km : IntKind) (hhi : evf F0 hi = some (.val (.int kh (h : Int)))) (hmx : evf F0 mx = some (.val (.int km (mm : Int)))) (hlh : l ≤ h) (hhm : h ≤ mm) (hmc : mm ≤ m ∨ ∃ c0, c = some c0 ∧ mm ≤ c0) :
    Yv P o F0 K0 [i] (.c (.osl i (if mm = l then q else q + l) (h - l) (some (mm - l)))) := by
  intro n W F K I R a w hst hxx hk
  have hop : ∀ z, (z = x ∨ lo = some z ∨ hi = z ∨ mx = z) → evf F z = evf F0 z := fun z hz => hxx z (by
    simp only [ho, Op.operands]
    rcases hz with rfl | rfl | rfl | rfl <;> simp)
  obtain ⟨p, c', hp, hu, h1, h2, h3⟩ : ∃ p c', I i = some p ∧ a.eval x = .slice (some ⟨p.b, q * p.sz, none⟩) m c' ∧ m ≤ c' ∧ q + c' ≤ p.tot ∧ ∀ c0, c = some c0 → c' = c0 := hst.ev ((hop x (.inl rfl)).trans hx)
  obtain ⟨p', hp', hbk⟩ := hst.wd.blk i b ((hk i (by simp)).trans hb)
  rw [hp] at hp'; cases hp'
  have hps : p.sz = s := hbk.sz.trans (Nat.eq_of_beq_eq_true hs)
  have hmc' : mm ≤ c' := by
    rcases hmc with hmc | ⟨c0, h4, h5⟩
    · omega
    · rw [h3 c0 h4]; exact h5
  have e1 := ev_plain hst ((hop hi (.inr (.inr (.inl rfl)))).trans hhi)
  have e2 := ev_plain hst ((hop mx (.inr (.inr (.inr rfl)))).trans hmx)
  have hrun := slice3_run ht hel (w := w) (some ⟨p.b, q * p.sz, none⟩) m c' (lo.map a.eval) kh km l h mm (by
      cases lo with
      | none => exact hlo
      | some y => obtain ⟨k, hy⟩ := hlo; exact ⟨k, ev_plain hst ((hop y (.inr (.inl rfl))).trans hy)⟩) hlh hhm hmc'
  refine ⟨_, ?_, p, mm - l, hp, rfl, by omega, by split <;> omega, fun c0 hc0 => by cases hc0; rfl⟩
  simp only [execOp, ho, hu, Option.map_some, e1, e2]
  rw [Sem.run_bind, hrun]
  simp only [Result.andThen_ok, Sem.run_pure, hps]
  congr 3
  split
  · rfl
  · simp only [Option.map_some, Addr.add_mid, Nat.add_mul]
end
def loB (F : Nat → Option AV) : Option Operand → Option Nat
  | none => some 0
  | some y => match evf F y with
    | some (.pl (.one (.v (.int _ j)))) => natOf j
    | _ => none
theorem loB_spec {F : Nat → Option AV} {lo : Option Operand} {l : Nat} (h : loB F lo = some l) : bndo F lo l 0 := by
  cases lo with
  | none => simp only [loB, Option.some.injEq] at h; exact h.symm
  | some y =>
    simp only [loB] at h
    split at h
    · rename_i k j hy; exact ⟨k, by rw [hy, natOf_spec h]⟩
    · cases h
/-- More operations. -/
def opX (T : Tab) (o : Oper) (F : Nat → Option AV) (K : Nat → Option Blk) (top : Nat) : Option Eff :=
  match o.op with
  | .build t ps => match tyGet T t with
    | some ti => match ti.arr, evb F ps.toList with
      | some (m, s, r), some avs => match fillC ((List.range m).map fun i => (i * s, s, r)) (ti.zero.map .v) avs with
        | some out => some ⟨.pl (.agg out), [], [], top⟩
        | none => none
      | _, _ => none
    | none => none
  | .index t x y => match tyGet T t, evf F x, evf F y with
    | some ti, some (.pl (.agg cs)), some (.pl (.one (.v (.int k j)))) => match ti.arr, natOf j with
      | some (m, s, r), some j' => match Nat.blt j' m, cut r (j' * s) s cs with
        | true, some v => some ⟨.pl v, [], [], top⟩
        | _, _ => none
      | _, _ => none
    | _, _, _ => none
  | .slice t x lo (some hi) (some mx) => match tyGet T t, evf F x, loB F lo, evf F hi, evf F mx with
    | some ti, some (.pl (.one (.osl i q m c))), some l, some (.pl (.one (.v (.int _ h)))), some (.pl (.one (.v (.int _ mm)))) => match ti.elem, K i, natOf h, natOf mm with
      | some (_, s, _), some b, some h', some mm' => match Nat.beq b.sz s, Nat.ble l h', Nat.ble h' mm', (Nat.ble mm' m || (match c with | some c0 => Nat.ble mm' c0 | none => false)) with
        | true, true, true, true => some ⟨.c (.osl i (if mm' = l then q else q + l) (h' - l) (some (mm' - l))), [i], [], top⟩
        | _, _, _, _ => none
      | _, _, _, _ => none
    | _, _, _, _, _ => none
  | .makeFunc (.func f) fst caps => match caps.toList, ptsOf F fst.toList with
    | [], some ps => some ⟨.c (.mf f ps), [], [], top⟩
    | _, _ => none
  | .unOp .neg _ x => match evf F x with
    | some (.pl (.one (.v (.int k p)))) => some ⟨.val (.int k (k.wrap (0 - p))), [], [], top⟩
    | _ => none
  | .binOp op t x y _ => match evf F x, evf F y with
    | some (.pl (.one (.v (.int kx p)))), some (.pl (.one (.v (.int ky q)))) => match decide (kx = ky), bitOp op kx p q with
      | true, some r => some ⟨.val (.int kx r), [], [], top⟩
      | _, _ => none
    | some (.pl (.one c)), some (.pl (.one (.v (.pointer none)))) => match tyGet T t, ptrNil c, op with
      | some ti, some r, .eql => match Nat.beq ti.kd 4 with
        | true => some ⟨.val (.bool r), [], [], top⟩
        | false => none
      | some ti, some r, .neq => match Nat.beq ti.kd 4 with
        | true => some ⟨.val (.bool (!r)), [], [], top⟩
        | false => none
      | _, _, _ => none
    | _, _ => none
  | _ => none
theorem opX_sound {P : Program} {T : Tab} {o : Oper} {F : Nat → Option AV} {K : Nat → Option Blk} {top : Nat} {e : Eff} (hT : TabOk P T) (h : opX T o F K top = some e) : OpEff P o F K top e ∧ ∀ c, o.op ≠ .defer c := by
  obtain ⟨dst, op, ty, pos, after, guard⟩ := o
  unfold opX at h
  dsimp only at h
  split at h
  · refine ⟨?_, fun c hc => by cases hc⟩
    split at h
    · rename_i ti ht
      split at h
      · rename_i m s r avs hel hx
        split at h
        · rename_i out hout; cases h; exact (y_builda _ _ rfl ti (hT _ _ ht) m s r hel avs hx out hout).eff
        · cases h
      · cases h
    · cases h
  · refine ⟨?_, fun c hc => by cases hc⟩
    split at h
    · rename_i ti cs k j ht hx hy
      split at h
      · rename_i m s r j' hel hj
        split at h
        · rename_i v hlt hv; cases h; exact (y_indexv _ _ _ rfl ti (hT _ _ ht) m s r hel cs hx k j hy j' (natOf_spec hj) (by simpa [Nat.blt_eq] using hlt) v hv).eff
        · cases h
      · cases h
    · cases h
  · refine ⟨?_, fun c hc => by cases hc⟩
    rename_i t x lo hi mx
    split at h
    · rename_i ti i q m c l kh hh km mm ht hx hlo hhi hmx
      split at h
      · rename_i e s bt b h' mm' hel hb hh' hmm'
        split at h
        · rename_i g1 g2 g3 g4
          cases h
          have e1 := natOf_spec hh'
          have e2 := natOf_spec hmm'
          subst e1 e2
          refine (y_sl3 _ _ _ _ _ rfl ti (hT _ _ ht) e s bt hel i q m c hx b hb g1 l h' mm' (loB_spec hlo) kh km hhi hmx (Nat.le_of_ble_eq_true g2) (Nat.le_of_ble_eq_true g3) ?_).eff
          rcases (Bool.or_eq_true _ _).mp g4 with g4 | g4
          · exact .inl (Nat.le_of_ble_eq_true g4)
          · split at g4
            · exact .inr ⟨_, rfl, Nat.le_of_ble_eq_true g4⟩
            · cases g4
        · cases h
      · cases h
    · cases h
  · refine ⟨?_, fun c hc => by cases hc⟩
    rename_i f fst caps
    obtain ⟨caps⟩ := caps
    dsimp only at h
    split at h
    · rename_i ps hps; cases h; exact (y_meth _ _ rfl ps (ptsOf_all hps)).eff
    · cases h
  · refine ⟨?_, fun c hc => by cases hc⟩
    split at h
    · rename_i k p hx; cases h; exact (y_neg _ _ rfl k p hx).eff
    · cases h
  · refine ⟨?_, fun c hc => by cases hc⟩
    rename_i op t x y yt
    split at h
    · rename_i kx p ky q hx hy
      split at h
      · rename_i r hd hr
        have := of_decide_eq_true hd
        subst this
        cases h; exact (y_bits _ _ _ _ _ rfl _ _ _ hx hy r hr).eff
      · cases h
    · rename_i c hx hy
      split at h
      · rename_i ti r ht hr
        split at h
        · rename_i hk; cases h; exact (y_eqP _ _ _ _ _ rfl ti (hT _ _ ht) (Nat.eq_of_beq_eq_true hk) c hx hy r hr _ (.inl ⟨rfl, rfl⟩)).eff
        · cases h
      · rename_i ti r ht hr
        split at h
        · rename_i hk; cases h; exact (y_eqP _ _ _ _ _ rfl ti (hT _ _ ht) (Nat.eq_of_beq_eq_true hk) c hx hy r hr _ (.inr ⟨rfl, rfl⟩)).eff
        · cases h
      · cases h
    · cases h
  · cases h
end Go.Proofs.Ytibjpohankaoeaa.Wx
