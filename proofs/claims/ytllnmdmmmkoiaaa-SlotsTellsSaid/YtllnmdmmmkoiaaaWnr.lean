/-
  More laws: capacities, appends in room, clear, nil pointers, bits.
-/
import Derived.Test.YtllnmdmmmkoiaaaWns
namespace Go.Proofs.Ytllnmdmmmkoiaaa.Wx
open Go Go.RowKit
set_option linter.unusedVariables false
def bitOp (op : BinOp) (k : IntKind) (p q : Int) : Option Int :=
  match op with
  | .and => some (k.wrap (BitVec.ofInt k.bits p &&& BitVec.ofInt k.bits q).toNat)
  | .or => some (k.wrap (BitVec.ofInt k.bits p ||| BitVec.ofInt k.bits q).toNat)
  | .xor => some (k.wrap (BitVec.ofInt k.bits p ^^^ BitVec.ofInt k.bits q).toNat)
  | .andNot => some (k.wrap (BitVec.ofInt k.bits p &&& ~~~BitVec.ofInt k.bits q).toNat)
  | _ => none
theorem y_sl0 {P : Program} {o : Oper} {F0 : Nat → Option AV} {K0 : Nat → Option Blk} (t : TypeId) (x : Operand) (lo hi : Option Operand) (ho : o.op = .slice t x lo hi none) (ti : TI) (ht : tiOf P t = some ti) (e s bt : Nat) (hel : ti.elem = some (e, s, bt)) (hx : evf F0 x = some (.val (.slice none 0 0))) (l h : Nat)
    (hlo : bndo F0 lo l 0) (hhi : bndo F0 hi h 0) (hlh : l ≤ h) (hhc : h ≤ 0) :
    Yv P o F0 K0 [] (.val (.slice none 0 0)) := by
  intro n W F K I R a w hst hxx hk
  have hop : ∀ z, (z = x ∨ lo = some z ∨ hi = some z) → evf F z = evf F0 z := fun z hz => hxx z (by
    simp only [ho, Op.operands]
    rcases hz with rfl | rfl | rfl <;> simp)
  have hu := ev_plain hst ((hop x (.inl rfl)).trans hx)
  have h0 : h = 0 := by omega
  have l0 : l = 0 := by omega
  subst h0 l0
  have hlo' : (match lo.map a.eval with | some x => ∃ k, x = Value.int k ((0 : Nat) : Int) | none => (0 : Nat) = 0) := by
    cases lo with
    | none => exact hlo
    | some y => obtain ⟨k, hy⟩ := hlo; exact ⟨k, ev_plain hst ((hop y (.inr (.inl rfl))).trans hy)⟩
  have hhi' : (match hi.map a.eval with | some x => ∃ k, x = Value.int k ((0 : Nat) : Int) | none => (0 : Nat) = 0) := by
    cases hi with
    | none => exact hhi
    | some y => obtain ⟨k, hy⟩ := hhi; exact ⟨k, ev_plain hst ((hop y (.inr (.inr rfl))).trans hy)⟩
  refine ⟨.slice none 0 0, ?_, rfl⟩
  simp only [execOp, ho, hu]
  rw [Sem.run_bind, Option.map_none, slice_run ht hel (w := w) none 0 0 _ _ 0 0 hlo' hhi' (Nat.le_refl _) (Nat.le_refl _) (Nat.le_refl _)]
  rfl
section
variable {P : Program} {o : Oper} {F0 : Nat → Option AV} {K0 : Nat → Option Blk}
theorem y_bits (op : BinOp) (t : TypeId) (x y : Operand) (yt : TypeId) (ho : o.op = .binOp op t x y yt) (k : IntKind) (p q : Int) (hx : evf F0 x = some (.val (.int k p))) (hy : evf F0 y = some (.val (.int k q))) (r : Int) (hr : bitOp op k p q = some r) :
    Yv P o F0 K0 [] (.val (.int k r)) := by
  intro n W F K I R a w hs hxx hk
  have hm : ∀ z ∈ [x, y], evf F z = evf F0 z := fun z hz => hxx z (by simpa [ho, Op.operands] using hz)
  have e1 := ev_plain hs ((hm x (by simp)).trans hx)
  have e2 := ev_plain hs ((hm y (by simp)).trans hy)
  refine ⟨_, ?_, rfl⟩
  simp only [execOp, ho, e1, e2]
  rw [Sem.run_bind, Sem.run_bind, eqGuard_at_int]
  simp only [Sem.run_pure, Result.andThen_ok]
  cases op <;> simp only [bitOp, Option.some.injEq, reduceCtorEq] at hr <;> subst hr <;> simp [binOp, Op.intBits]
theorem y_neg (t : TypeId) (x : Operand) (ho : o.op = .unOp .neg t x) (k : IntKind) (p : Int) (hx : evf F0 x = some (.val (.int k p))) : Yv P o F0 K0 [] (.val (.int k (k.wrap (0 - p)))) := by
  intro n W F K I R a w hs hxx hk
  have e1 := ev_plain hs ((hxx x (by simp [ho, Op.operands])).trans hx)
  simp only [execOp, ho, e1]
  rw [Sem.run_bind]
  exact ⟨_, by simp [Op.unary, Op.intArith], rfl⟩
theorem run_equalP {P : Program} {w : World} (d : Nat) (t e : TypeId) (a : Option Addr) (h : P.underlying t = some (.pointer e)) : (Op.equalIn (d + 1) t (.pointer a) (.pointer none)).run P w = .ok a.isNone w := by
  cases a <;> simp [Op.equalIn, run_underlying h]
theorem y_meth (f : FuncId) (fst : Array Operand) (ho : o.op = .makeFunc (.func f) fst #[]) (ps : List Pt) (hp : All2 (fun x p => evf F0 x = some p.asV) fst.toList ps) : Yv P o F0 K0 [] (.c (.mf f ps)) := by
  intro n W F K I R a w hs hxx hk
  refine ⟨.func (.func f) (fst.map a.eval) #[], ?_, fst.toList.map a.eval, ?_, ?_⟩
  · simp only [execOp, ho]; simp [Instr.makeFunc]
  · have hm : ∀ z ∈ fst.toList, evf F z = evf F0 z := fun z hz => hxx z (by simpa [ho, Op.operands] using hz)
    generalize fst.toList = l at hp hm
    induction l generalizing ps with
    | nil => cases ps with
      | nil => trivial
      | cons => exact hp.elim
    | cons z r ih => cases ps with
      | nil => exact hp.elim
      | cons p ps =>
        refine ⟨?_, ih _ hp.2 (fun y hy => hm y (List.mem_cons_of_mem _ hy))⟩
        have := hs.ev ((hm z List.mem_cons_self).trans hp.1)
        cases p with
        | ag l => obtain ⟨vs, g1, g2⟩ := this; exact ⟨vs, g1, pa_all.1 g2⟩
        | _ => exact this
  · congr 1; apply Array.ext'; simp
/-- Is a pointer nil? -/
def ptrNil : Ce → Option Bool
  | .own _ _ _ => some false
  | .rp _ _ _ => some false
  | .v (.pointer none) => some true
  | _ => none
theorem y_eqP (t : TypeId) (x y : Operand) (yt : TypeId) (op : BinOp) (ho : o.op = .binOp op t x y yt) (ti : TI) (ht : tiOf P t = some ti) (hkd : ti.kd = 4) (c : Ce) (hx : evf F0 x = some (.c c)) (hy : evf F0 y = some (.val (.pointer none))) (r : Bool) (hr : ptrNil c = some r) (z : Bool)
    (hz : (op = .eql ∧ z = r) ∨ (op = .neq ∧ z = !r)) : Yv P o F0 K0 [] (.val (.bool z)) := by
  obtain ⟨d, hd, hk⟩ := tiOf_kd ht
  obtain ⟨e, rfl⟩ := kdOf_ptr (hk.trans hkd)
  intro n W F K I R a w hs hxx hk
  have hm : ∀ z ∈ [x, y], evf F z = evf F0 z := fun z hz => hxx z (by simpa [ho, Op.operands] using hz)
  have e1 := hs.ev ((hm x (by simp)).trans hx)
  have e2 := ev_plain hs ((hm y (by simp)).trans hy)
  obtain ⟨ad, v1, v2⟩ : ∃ ad : Option Addr, a.eval x = .pointer ad ∧ ad.isNone = r := by
    generalize a.eval x = u at *
    cases c with
    | own i q k => simp only [ptrNil, Option.some.injEq] at hr; subst hr; obtain ⟨p, _, h⟩ := e1; exact ⟨_, h, rfl⟩
    | rp fl row k => simp only [ptrNil, Option.some.injEq] at hr; subst hr; obtain ⟨b, o', h, _⟩ := e1; exact ⟨_, h, rfl⟩
    | v y =>
      cases y <;> simp [ptrNil] at hr
      rename_i ad
      cases ad <;> simp at hr
      subst hr
      exact ⟨none, e1, rfl⟩
    | _ => cases hr
  have hg : (eqGuard op t x y (.pointer ad) (.pointer none)).run P w = .ok () w := by
    unfold eqGuard
    rcases hz with ⟨rfl, _⟩ | ⟨rfl, _⟩ <;> rfl
  refine ⟨_, ?_, rfl⟩
  simp only [execOp, ho, v1, e2]
  rw [Sem.run_bind, Sem.run_bind, hg]
  simp only [Result.andThen_ok]
  rcases hz with ⟨rfl, rfl⟩ | ⟨rfl, rfl⟩
  · simp only [binOp, Op.equal, Op.maxDepth, Sem.run_bind]
    rw [run_equalP 9999 t e ad hd, v2]; rfl
  · simp only [binOp, Op.equal, Op.maxDepth, Sem.run_bind]
    rw [run_equalP 9999 t e ad hd, v2]; rfl
theorem slice3_run {t e : TypeId} {ti : TI} (ht : tiOf P t = some ti) {s bt : Nat} (hel : ti.elem = some (e, s, bt)) {w : World} (ad : Option Addr) (len cap : Nat) (lo : Option Value) (kh km : IntKind) (l h m : Nat)
    (hlo : (match lo with | some x => ∃ k, x = .int k (l : Int) | none => l = 0)) (hlh : l ≤ h) (hhm : h ≤ m) (hmc : m ≤ cap) :
    (Instr.sliceAt t (.slice ad len cap) lo (some (.int kh h)) (some (.int km m))).run P w = .ok (.slice (if m = l then ad else ad.map (·.add (l * s))) (h - l) (m - l)) w := by
  obtain ⟨hu, inf, z, hinf, hz, hs1, hs2, hs3⟩ := tiOf_elem ht hel
  have hu' : P.underlying t = some (.slice (P.elem t)) := by
    have : P.elem t = e := by simp [Program.elem, hu]
    rw [this]; exact hu
  have hsz : (sizeOf (P.elem t)).run P w = .ok s w := by
    have : P.elem t = e := by simp [Program.elem, hu]
    rw [this]; simp [sizeOf, typeInfo, hinf, hs1]
  rw [run_sliceAt_slice w t _ lo _ _ hu']
  cases lo with
  | none =>
    simp only at hlo
    subst hlo
    rw [run_slice_hm w t ad len cap hu' kh km h m (by omega) (by omega) (by omega), hsz]; simp [Result.andThen, sliced]
  | some x =>
    obtain ⟨k, rfl⟩ := hlo
    rw [run_slice_lhm w t ad len cap hu' k kh km l h m (by omega) (by omega) (by omega) (by omega), hsz]; simp [Result.andThen, sliced]
theorem y_sl3 (t : TypeId) (x : Operand) (lo : Option Operand) (hi mx : Operand) (ho : o.op = .slice t x lo (some hi) (some mx)) (ti : TI) (ht : tiOf P t = some ti) (e s bt : Nat) (hel : ti.elem = some (e, s, bt)) (i q m : Nat) (c : Option Nat) (hx : evf F0 x = some (.c (.osl i q m c))) (b : Blk) (hb : K0 i = some b) (hs : Nat.beq b.sz s = true) (l h mm : Nat)
    (hlo : bndo F0 lo l 0) (kh km : IntKind) (hhi : evf F0 hi = some (.val (.int kh (h : Int)))) (hmx : evf F0 mx = some (.val (.int km (mm : Int)))) (hlh : l ≤ h) (hhm : h ≤ mm) (hmc : mm ≤ m ∨ ∃ c0, c = some c0 ∧ mm ≤ c0) :
    Yv P o F0 K0 [i] (.c (.osl i (if mm = l then q else q + l) (h - l) (some (mm - l)))) := by
  intro n W F K I R a w hst hxx hk
  have hop : ∀ z, (z = x ∨ lo = some z ∨ hi = z ∨ mx = z) → evf F z = evf F0 z := fun z hz => hxx z (by
    simp only [ho, Op.operands]
    rcases hz with rfl | rfl | rfl | rfl <;> simp)
  obtain ⟨p, c', hp, hu, h1, h2, h3⟩ : ∃ p c', I i = some p ∧ a.eval x = .slice (some ⟨p.b, q * p.sz, none⟩) m c' ∧ m ≤ c' ∧ q + c' ≤ p.tot ∧ ∀ c0, c = some c0 → c' = c0 := hst.ev ((hop x (.inl rfl)).trans hx)
  obtain ⟨p', hp', hbk⟩ := hst.wd.blk i b ((hk i (by simp)).trans hb)
  rw [hp] at hp'; cases hp'
  have hps : p.sz = s := hbk.sz.trans (Nat.eq_of_beq_eq_true hs)
  have hmc' : mm ≤ c' := by
    rcases hmc with hmc | ⟨c0, h4, h5⟩
    · omega
    · rw [h3 c0 h4]; exact h5
  have e1 := ev_plain hst ((hop hi (.inr (.inr (.inl rfl)))).trans hhi)
  have e2 := ev_plain hst ((hop mx (.inr (.inr (.inr rfl)))).trans hmx)
  have hrun := slice3_run ht hel (w := w) (some ⟨p.b, q * p.sz, none⟩) m c' (lo.map a.eval) kh km l h mm (by
      cases lo with
      | none => exact hlo
      | some y => obtain ⟨k, hy⟩ := hlo; exact ⟨k, ev_plain hst ((hop y (.inr (.inl rfl))).trans hy)⟩) hlh hhm hmc'
  refine ⟨_, ?_, p, mm - l, hp, rfl, by omega, by split <;> omega, fun c0 hc0 => by cases hc0; rfl⟩
  simp only [execOp, ho, hu, Option.map_some, e1, e2]
  rw [Sem.run_bind, hrun]
  simp only [Result.andThen_ok, Sem.run_pure, hps]
  congr 3
  split
  · rfl
  · simp only [Option.map_some, Addr.add_mid, Nat.add_mul]
end
/-- Of an own block, of nothing. -/
theorem y_sle {P : Program} {o : Oper} {F0 : Nat → Option AV} {K0 : Nat → Option Blk} (t : TypeId) (x : Operand) (lo hi : Option Operand) (ho : o.op = .slice t x lo hi none) (ti : TI) (ht : tiOf P t = some ti) (e s bt : Nat) (hel : ti.elem = some (e, s, bt)) (i q m : Nat) (c : Option Nat) (hx : evf F0 x = some (.c (.osl i q m c))) (b : Blk) (hb : K0 i = some b) (hs : Nat.beq b.sz s = true) (l h : Nat)
    (hlo : bndo F0 lo l 0) (hhi : bndo F0 hi h m) (hlh : l ≤ h) (hhc : h ≤ m ∨ ∃ c0, c = some c0 ∧ h ≤ c0) (he : l = h) :
    Yv P o F0 K0 [i] (.c (.ro true s [])) := by
  intro n W F K I R a w hst hxx hk
  have hop : ∀ z, (z = x ∨ lo = some z ∨ hi = some z) → evf F z = evf F0 z := fun z hz => hxx z (by
    simp only [ho, Op.operands]
    rcases hz with rfl | rfl | rfl <;> simp)
  obtain ⟨p, c', hp, hu, h1, h2, h3⟩ : ∃ p c', I i = some p ∧ a.eval x = .slice (some ⟨p.b, q * p.sz, none⟩) m c' ∧ m ≤ c' ∧ q + c' ≤ p.tot ∧ ∀ c0, c = some c0 → c' = c0 := hst.ev ((hop x (.inl rfl)).trans hx)
  have hhc' : h ≤ c' := by
    rcases hhc with hhc | ⟨c0, h4, h5⟩
    · omega
    · rw [h3 c0 h4]; exact h5
  have hrun := slice_run ht hel (w := w) (some ⟨p.b, q * p.sz, none⟩) m c' (lo.map a.eval) (hi.map a.eval) l h (by
      cases lo with
      | none => exact hlo
      | some y => obtain ⟨k, hy⟩ := hlo; exact ⟨k, ev_plain hst ((hop y (.inr (.inl rfl))).trans hy)⟩) (by
      cases hi with
      | none => exact hhi
      | some y => obtain ⟨k, hy⟩ := hhi; exact ⟨k, ev_plain hst ((hop y (.inr (.inr rfl))).trans hy)⟩) hlh hhc' h1
  have key : ∀ off, (Ce.ro true s []).rel I R (.slice (some ⟨p.b, off, none⟩) (h - l) (c' - l)) := fun off => by
    have := Rd.ro (R := R true) s [] p.b off (c' - l) (fun _ _ => undef) (by simp) (by simp) (fun q row k t hq => by simp at hq) (fun q row k t hq => by simp at hq)
    rw [show h - l = 0 by omega]
    exact this
  refine ⟨.slice (if c' = l then some ⟨p.b, q * p.sz, none⟩ else (some (⟨p.b, q * p.sz, none⟩ : Addr)).map (·.add (l * s))) (h - l) (c' - l), ?_, ?_⟩
  · simp only [execOp, ho, hu]
    rw [Sem.run_bind, Option.map_none, hrun]
    rfl
  · split
    · exact key _
    · simp only [Option.map_some, Addr.add_mid]; exact key _
theorem run_append_roomC {P : Program} {w : World} {t ty e : TypeId} {inf : TypeInfo} (hu : P.underlying t = some (.slice e)) (hi : P.info? e = some inf) (g m0 c : Nat) (ad : Option Addr) (m cj : Nat) (cs : List Value) (hn : cs.length = m * inf.size)
    (hsrc : ∀ x, ad = some x → ∀ j v, cs[j]? = some v → w.cell? (x.add j) = some v) (hnone : ad = none → m = 0) (hc : ∀ j, j < cs.length → (w.cell? ⟨g, m0 * inf.size + j, none⟩).isSome = true) (hf : ∀ j, j < cs.length → w.frozen? ⟨g, m0 * inf.size + j, none⟩ = false) (h1 : ∀ v ∈ cs, v.oneCell' = true) (hroom : m0 + m ≤ c) :
    (Builtin.append_ #[t, t] ty #[.slice (some ⟨g, 0, none⟩) m0 c, .slice ad m cj]).run P w = .ok (.slice (some ⟨g, 0, none⟩) (m0 + m) c) (w.setCells g (m0 * inf.size) cs) := by
  have hst := run_storeCells_cells (P := P) g (m0 * inf.size) cs 0 w (by simpa using hc) (by simpa using hf) h1
  simp only [Nat.add_zero] at hst
  cases ad with
  | none =>
    have h0 := hnone rfl
    subst h0
    have : cs = [] := List.eq_nil_of_length_eq_zero (by rw [hn, Nat.zero_mul])
    subst this
    have hm0 : m0 ≤ c := by omega
    simp [Builtin.append_, run_underlying hu, sizeOf, typeInfo, hi, Builtin.lenOf, Builtin.firstCells, hm0, storeCells, World.setCells]
  | some x =>
    have hfc := run_firstCells_some (P := P) w inf.size m x m cj cs hn (hsrc x rfl)
    simp [Builtin.append_, run_underlying hu, sizeOf, typeInfo, hi, Builtin.lenOf, hroom, hfc, Addr.add_lit, hst]
section
variable {P : Program} {o : Oper} {F0 : Nat → Option AV} {K0 : Nat → Option Blk} {top : Nat}
/-- What an append in room asks. -/
structure aprN (m0 m L : Nat) (cp : Option Nat) (src : List (List Ce)) (A : Prop) : Prop where
  h : ∃ c, cp = some c ∧ m0 + m ≤ c
  len : src.length = m
  one : ∀ r ∈ src, ∀ c ∈ r, c.single = true
  fit : m0 + m ≤ L
  k : A
theorem e_appendr (x y : Operand) (t : TypeId) (ho : o.op = .call ⟨.builtin .append, #[x, y], #[t, t]⟩) (ti : TI) (ht : tiOf P t = some ti) (e s bt : Nat) (hel : ti.elem = some (e, s, bt)) (i m0 : Nat) (cp : Option Nat) (hx : evf F0 x = some (.c (.osl i 0 m0 cp))) (b : Blk) (hb : K0 i = some b) (hs : Nat.beq b.sz s = true)
    (cy : Ce) (hy : evf F0 y = some (.c cy)) (src : List (List Ce)) (m : Nat) (rd : List Nat) (hsrc : srcOf K0 s cy = some (src, m, rd)) (hn : aprN m0 m b.rows.length cp src True) :
    OpEff P o F0 K0 top ⟨.c (.osl i 0 (m0 + m) cp), i :: rd, [(i, some ⟨lay b.rows m0 src, b.sz, b.ty, b.bx⟩)], top⟩ := by
  obtain ⟨hu, inf, z, hinf, hz, hs1, hs2, hs3⟩ := tiOf_elem ht hel
  intro n W F K I R a w hst hxx hk hf hd next Q hnext
  have hm : ∀ z ∈ [x, y], evf F z = evf F0 z := fun z hz => hxx z (by simpa [ho, Op.operands, Call.operands] using hz)
  have hbK : K i = some b := (hk i (by simp)).trans hb
  have hbs := Nat.eq_of_beq_eq_true hs
  obtain ⟨p, c', hp, hux, hc1, hc2, hc3⟩ := hst.ev ((hm x (by simp)).trans hx)
  have hvy := hst.ev ((hm y (by simp)).trans hy)
  have hlen := hn.len
  obtain ⟨c0, hcp, hroom⟩ := hn.h
  have hcc := hc3 c0 hcp
  subst hcc
  obtain ⟨ad, cj, news, huy, hnl, hrows, hrel, hcells, hnone⟩ := src_spec hst.wd (srcOf_agree (fun j hj => hk j (List.mem_cons_of_mem _ hj)) hsrc) hlen hvy
  have hq : m0 + src.length ≤ b.rows.length := by rw [hlen]; exact hn.fit
  have hw' := hst.wd.lay hbK hp hq (fun r hr => by rw [hbs]; exact hrows r hr) (by rw [hnl, hlen, hbs]) hrel
  obtain ⟨p', hp', hbk⟩ := hst.wd.blk i b hbK
  rw [hp] at hp'; cases hp'
  obtain ⟨cs, hmem, hsz, hcs⟩ := hbk.mem
  have hps : p.sz = s := hbk.sz.trans hbs
  have hfit : m0 * p.sz + news.length ≤ cs.size := by
    rw [hsz, hnl, hps, ← Nat.add_mul]
    exact Nat.mul_le_mul_right _ (by have := hbk.fit; have := hn.fit; omega)
  have hone : ∀ v ∈ news, v.oneCell' = true := fun v hv => by
    obtain ⟨c, hc, hcr⟩ := hrel.mem hv
    obtain ⟨r, hr, hcr'⟩ := List.mem_flatten.1 hc
    exact Ce.single_val (hn.one r hr c hcr') hcr
  have hrun := run_append_roomC (P := P) (w := w) (ty := o.type) hu hinf p.b m0 c' ad m cj news (by rw [hnl, hs1]) hcells hnone (fun j hj => by
      rw [hs1, ← hps, cell_of_row w p.b _ _ _ _ hmem]
      have : m0 * p.sz + j < cs.size := by omega
      simp [this]) (fun j hj => frozen_of_row w p.b _ _ _ hmem) hone hroom
  rw [Nat.zero_mul] at hux
  unfold Oper.wp
  rw [builtin_append' o x y t t ho a.eval w (by rw [hux, huy]; exact hrun)]
  rw [hs1, ← hps]
  exact hnext I R _ _ (hst.put (.refl _) (.refl _) hw' hd ⟨p, c', hp, by simp, hroom, hc2, hc3⟩) (.refl _) (fun _ _ => rfl) (.refl _)
/-- What a slice's slice asks that may be of nothing. -/
structure slE (l h : Nat) (A B : Prop) : Prop where
  h : ((l = 0 ∨ l < h) ∧ A) ∨ (l = h ∧ B)
theorem slE_a {l h : Nat} {A B : Prop} (h1 : l = 0 ∨ l < h) (k : A) : slE l h A B := ⟨.inl ⟨h1, k⟩⟩
theorem slE_b {l h : Nat} {A B : Prop} (h1 : l = h) (k : B) : slE l h A B := ⟨.inr ⟨h1, k⟩⟩
theorem slE_split {l h : Nat} {A B : Prop} (hle : l ≤ h) (k1 : l < h → A) (k2 : l = h → B) : slE l h A B := by
  rcases Nat.lt_or_ge l h with h1 | h1
  · exact slE_a (.inr h1) (k1 h1)
  · exact slE_b (by omega) (k2 (by omega))
/-- An append, in room, or not, or surely not. -/
structure apdE (A B C : Prop) : Prop where
  h : A ∨ B ∨ C
theorem apdE_r {A B C : Prop} (h : A) : apdE A B C := ⟨.inl h⟩
theorem apdE_n {A B C : Prop} (h : B) : apdE A B C := ⟨.inr (.inl h)⟩
theorem apdE_k {A B C : Prop} (h : C) : apdE A B C := ⟨.inr (.inr h)⟩
/-- The same of noughts. -/
structure apzE (A B : Prop) : Prop where
  h : A ∨ B
theorem apzE_n {A B : Prop} (h : A) : apzE A B := ⟨.inl h⟩
theorem apzE_k {A B : Prop} (h : B) : apzE A B := ⟨.inr h⟩
structure apzK (cp : Option Nat) (j : Int) (m0 L bt : Nat) (one : Bool) (A : Nat → Prop) : Prop where
  h : ∃ m c : Nat, cp = some c ∧ c < m0 + m ∧ j = (m : Int) ∧ m0 ≤ L ∧ m0 + m ≤ maxLen ∧ (m0 + m) * bt ≤ 140737488355328 ∧ one = true ∧ A m
theorem apzK_mk {cp : Option Nat} {j : Int} {m0 L bt : Nat} {one : Bool} {A : Nat → Prop} (m : Nat) (h1 : ∃ c, cp = some c ∧ c < m0 + m) (h2 : j = (m : Int)) (h3 : m0 ≤ L) (h4 : m0 + m ≤ maxLen) (h5 : (m0 + m) * bt ≤ 140737488355328) (h6 : one = true) (k : A m) : apzK cp j m0 L bt one A := by
  obtain ⟨c, h7, h8⟩ := h1
  exact ⟨m, c, h7, h8, h2, h3, h4, h5, h6, k⟩
structure apkN (cp : Option Nat) (n : Nat) (A : Prop) : Prop where
  h : ∃ c, cp = some c ∧ c < n
  k : A
/-- What a slice with a capacity asks. -/
structure sl3N (lo : Option Int) (h mm : Int) (m : Nat) (cap : Option Nat) (A : Nat → Nat → Nat → Prop) : Prop where
  h : ∃ l h' mm' : Nat, bnd lo l 0 ∧ h = (h' : Int) ∧ mm = (mm' : Int) ∧ l ≤ h' ∧ h' ≤ mm' ∧ (mm' ≤ m ∨ ∃ c, cap = some c ∧ mm' ≤ c) ∧ (l = 0 ∨ l < mm') ∧ A l h' mm'
theorem sl3N_mk {lo : Option Int} {h mm : Int} {m : Nat} {cap : Option Nat} {A : Nat → Nat → Nat → Prop} (l h' mm' : Nat) (h1 : bnd lo l 0) (h2 : h = (h' : Int)) (h3 : mm = (mm' : Int)) (h4 : l ≤ h') (h5 : h' ≤ mm') (h6 : mm' ≤ m) (h7 : l = 0 ∨ l < mm') (k : A l h' mm') : sl3N lo h mm m cap A :=
  ⟨l, h', mm', h1, h2, h3, h4, h5, .inl h6, h7, k⟩
theorem y_sl3' (t : TypeId) (x : Operand) (lo : Option Operand) (hi mx : Operand) (ho : o.op = .slice t x lo (some hi) (some mx)) (ti : TI) (ht : tiOf P t = some ti) (e s bt : Nat) (hel : ti.elem = some (e, s, bt)) (i q m : Nat) (c : Option Nat) (hx : evf F0 x = some (.c (.osl i q m c))) (b : Blk) (hb : K0 i = some b) (hs : Nat.beq b.sz s = true) (l h mm : Nat)
    (hlo : bndo F0 lo l 0) (kh km : IntKind) (hhi : evf F0 hi = some (.val (.int kh (h : Int)))) (hmx : evf F0 mx = some (.val (.int km (mm : Int)))) (hlh : l ≤ h) (hhm : h ≤ mm) (hmc : mm ≤ m ∨ ∃ c0, c = some c0 ∧ mm ≤ c0) (hl : l = 0 ∨ l < mm) :
    Yv P o F0 K0 [i] (.c (.osl i (q + l) (h - l) (some (mm - l)))) := by
  have := y_sl3 (P := P) (o := o) (F0 := F0) (K0 := K0) t x lo hi mx ho ti ht e s bt hel i q m c hx b hb hs l h mm hlo kh km hhi hmx hlh hhm hmc
  rw [show (if mm = l then q else q + l) = q + l by split <;> omega] at this
  exact this
/-- What a clear asks. -/
structure clrN (q n L : Nat) (one : Bool) (A : Prop) : Prop where
  fit : q + n ≤ L
  one : one = true
  k : A
theorem clrN_mk {q n L : Nat} {one : Bool} {A : Prop} (h1 : q + n ≤ L) (h2 : one = true) (k : A) : clrN q n L one A := ⟨h1, h2, k⟩
theorem zc_one {z : Value} (h1 : ∀ v ∈ z.cells, v.oneCell' = true) (m : Nat) : ∀ v ∈ (Builtin.zeroCells z.cells m).toList, v.oneCell' = true := fun v hv => by
  simp only [Builtin.zeroCells, Array.toList_map, List.mem_map] at hv
  obtain ⟨j, hj, rfl⟩ := hv
  simp only [Array.toList_range, List.mem_range] at hj
  have hpos : 0 < z.cells.size := by
    rcases Nat.eq_zero_or_pos z.cells.size with h | h
    · rw [h] at hj; simp at hj
    · exact h
  have hlt := Nat.mod_lt j hpos
  rw [getElem!_pos z.cells _ hlt]
  exact h1 _ (Array.getElem_mem hlt)
theorem e_clear (x : Operand) (t : TypeId) (ho : o.op = .call ⟨.builtin .clear, #[x], #[t]⟩) (ti : TI) (ht : tiOf P t = some ti) (e s bt : Nat) (hel : ti.elem = some (e, s, bt)) (te : TI) (hte : tiOf P e = some te) (i q m0 : Nat) (cp : Option Nat) (hx : evf F0 x = some (.c (.osl i q m0 cp))) (b : Blk) (hb : K0 i = some b) (hs : Nat.beq b.sz s = true)
    (hfit0 : q + m0 ≤ b.rows.length) (hone : (te.zero.all fun v => v.oneCell') = true) :
    OpEff P o F0 K0 top ⟨.tup [], [i], [(i, some ⟨lay b.rows q (List.replicate m0 (te.zero.map .v)), b.sz, b.ty, b.bx⟩)], top⟩ := by
  obtain ⟨hu, inf, z, hinf, hz, hs1, hs2, hs3⟩ := tiOf_elem ht hel
  obtain ⟨_, inf', z', _, hinf', hz', _, _, hzc⟩ := tiOf_load hte
  rw [hinf] at hinf'; cases hinf'
  rw [hz] at hz'; cases hz'
  intro n W F K I R a w hst hxx hk hf hd next Q hnext
  have hm : ∀ z ∈ [x], evf F z = evf F0 z := fun z hz => hxx z (by simpa [ho, Op.operands, Call.operands] using hz)
  have hbK : K i = some b := (hk i (by simp)).trans hb
  have hbs := Nat.eq_of_beq_eq_true hs
  obtain ⟨p, c', hp, hux, hc1, hc2, hc3⟩ := hst.ev ((hm x (by simp)).trans hx)
  have hs3 : z.cells.size = inf.size := by rw [hs1]; simpa using hs3
  have hzl : te.zero.length = s := by rw [← hzc, ← hs1]; simpa using hs3
  have hz1 : ∀ v ∈ z.cells, v.oneCell' = true := fun v hv => List.all_eq_true.1 hone v (by rw [← hzc]; simpa using hv)
  have hzrow : ∀ r ∈ List.replicate m0 (te.zero.map Ce.v), r.length = b.sz := fun r hr => by rw [List.eq_of_mem_replicate hr, hbs]; simpa using hzl
  have hznl : (Builtin.zeroCells z.cells m0).toList.length = m0 * inf.size := by simp [size_zeroCells, hs3]
  have hzr : All2 (Ce.rel I R) (List.replicate m0 (te.zero.map Ce.v)).flatten (Builtin.zeroCells z.cells m0).toList := all2_flat hzrow (by rw [hznl, hs1, hbs] <;> simp) fun q r k cc hq hkk => by
    have hql := (List.getElem?_eq_some_iff.1 hq).1
    simp only [List.length_replicate] at hql
    have hrr := List.eq_of_mem_replicate (List.mem_of_getElem? hq)
    subst hrr
    have hkl := (List.getElem?_eq_some_iff.1 hkk).1
    simp only [List.length_map, hzl] at hkl
    simp only [List.getElem?_map, Option.map_eq_some_iff] at hkk
    obtain ⟨v, hv, rfl⟩ := hkk
    have h3 := Nat.mul_le_mul_right s (show q + 1 ≤ m0 by omega)
    rw [Nat.add_mul] at h3
    refine ⟨v, ?_, rfl⟩
    rw [← hzc] at hv
    simp only [Builtin.zeroCells, Array.getElem?_toList, Array.getElem?_map, Array.getElem?_range, hs3, hs1, hbs]
    rw [if_pos (by omega)]
    simp only [Option.map_some]
    rw [show (q * s + k) % s = k by rw [Nat.mul_comm, Nat.mul_add_mod, Nat.mod_eq_of_lt hkl]]
    simp only [Array.getElem?_toList] at hv
    simp [getElem!_def, hv]
  have hw' := hst.wd.lay hbK hp (by simpa using hfit0) hzrow (by rw [hznl, hs1, hbs]; simp) hzr
  obtain ⟨p', hp', hbk⟩ := hst.wd.blk i b hbK
  rw [hp] at hp'; cases hp'
  obtain ⟨cs, hmem, hsz, hcs⟩ := hbk.mem
  have hps : p.sz = s := hbk.sz.trans hbs
  have hfit : q * p.sz + (Builtin.zeroCells z.cells m0).toList.length ≤ cs.size := by
    rw [hsz, hznl, hs1, hps, ← Nat.add_mul]
    exact Nat.mul_le_mul_right _ (by have := hbk.fit; omega)
  have hsto := run_storeCells_cells (P := P) p.b (q * p.sz) (Builtin.zeroCells z.cells m0).toList 0 w (fun j hj => by
      rw [Nat.add_zero, cell_of_row w p.b _ _ _ _ hmem]
      have : q * p.sz + j < cs.size := by omega
      simp [this]) (fun j hj => frozen_of_row w p.b _ _ _ hmem) (zc_one hz1 m0)
  simp only [Nat.add_zero] at hsto
  have hrun : (Builtin.clear_ #[t] o.type #[.slice (some ⟨p.b, q * p.sz, none⟩) m0 c']).run P w = .ok (.tuple #[]) (w.setCells p.b (q * p.sz) (Builtin.zeroCells z.cells m0).toList) := by
    rcases Nat.eq_zero_or_pos m0 with h0 | h0
    · subst h0
      have : (Builtin.zeroCells z.cells 0).toList = [] := List.eq_nil_of_length_eq_zero (by rw [hznl, Nat.zero_mul])
      rw [this]
      simp [Builtin.clear_, run_underlying hu, World.setCells]
    · obtain ⟨m1, rfl⟩ : ∃ m1, m0 = m1 + 1 := ⟨m0 - 1, by omega⟩
      simp [Builtin.clear_, run_underlying hu, zeroValue, typeInfo, hinf, hz, hsto]
  unfold Oper.wp
  have hex : (execOp a.eval o).run P w = .ok (.value (.tuple #[])) (w.setCells p.b (q * p.sz) (Builtin.zeroCells z.cells m0).toList) := by
    obtain ⟨dst, op, ty, pos, af, gd⟩ := o
    simp only at ho
    subst ho
    simp only [execOp, resolve]
    rw [Sem.run_bind]
    simp only [Sem.run_pure, Result.andThen_ok, invoke, builtin]
    rw [Sem.run_bind]
    simp only [List.map_toArray, List.map_cons, List.map_nil, hux]
    simp only at hrun
    rw [hrun]
    rfl
  rw [hex]
  exact hnext I R _ _ (hst.put (.refl _) (.refl _) hw' hd ⟨[], rfl, trivial⟩) (.refl _) (fun _ _ => rfl) (.refl _)
end
/-- An append behind what there is room for: into a block of its own; the old one abides. -/
theorem e_append_new {P : Program} {o : Oper} {F0 : Nat → Option AV} {K0 : Nat → Option Blk} {top : Nat} (x y : Operand) (t : TypeId) (ho : o.op = .call ⟨.builtin .append, #[x, y], #[t, t]⟩) (ti : TI) (ht : tiOf P t = some ti) (e s bt : Nat) (hel : ti.elem = some (e, s, bt)) (i m0 c0 : Nat) (hx : evf F0 x = some (.c (.osl i 0 m0 (some c0)))) (b : Blk) (hb : K0 i = some b) (hs : Nat.beq b.sz s = true)
    (cy : Ce) (hy : evf F0 y = some (.c cy)) (src : List (List Ce)) (m : Nat) (rd : List Nat) (hsrc : srcOf K0 s cy = some (src, m, rd)) (hn : apdN m0 b.rows.length m src bt True) (hgt : c0 < m0 + m) :
    OpEff P o F0 K0 top ⟨.c (.osl top 0 (m0 + m) none), i :: rd, [(top, some ⟨b.rows.take m0 ++ src, s, e, false⟩)], top + 1⟩ := by
  obtain ⟨hu, inf, z, hinf, hz, hs1, hs2, hs3⟩ := tiOf_elem ht hel
  subst hs1 hs2
  intro n W F K I R a w hst hxx hk hf hd next Q hnext
  have hm : ∀ z ∈ [x, y], evf F z = evf F0 z := fun z hz => hxx z (by simpa [ho, Op.operands, Call.operands] using hz)
  have hbK : K i = some b := (hk i (by simp)).trans hb
  have hsrc' := srcOf_agree (fun j hj => hk j (List.mem_cons_of_mem _ hj)) hsrc
  obtain ⟨p, c', hp, hux, hc1, hc2, hc3⟩ := hst.ev ((hm x (by simp)).trans hx)
  have hcc := hc3 c0 rfl
  subst hcc
  have hvy := hst.ev ((hm y (by simp)).trans hy)
  have htop := hf top (Nat.le_refl _) (by simp)
  obtain ⟨ad, cj, news, huy, hnl, hrows, hrel, hcells, hnone⟩ := src_spec hst.wd hsrc' hn.len hvy
  obtain ⟨p', hp', hbk⟩ := hst.wd.blk i b hbK
  rw [hp] at hp'; cases hp'
  obtain ⟨cs, hmem, hsz, hcs⟩ := hbk.mem
  have hbs := Nat.eq_of_beq_eq_true hs
  have hps : p.sz = inf.size := hbk.sz.trans hbs
  rw [hps] at hsz hcs
  have hlen := hn.len
  have hmax := hn.max
  have hle := hn.le
  have hbrow : ∀ r ∈ b.rows.take m0, r.length = inf.size := fun r hr => by rw [← hbs]; exact hbk.row r (List.mem_of_mem_take hr)
  have hfit : m0 * inf.size ≤ cs.size := by rw [hsz]; exact Nat.mul_le_mul_right _ (by have := hbk.fit; omega)
  have hxl : (cs.toList.take (m0 * inf.size)).length = m0 * inf.size := by simp; omega
  have hxr : All2 (Ce.rel I R) (b.rows.take m0).flatten (cs.toList.take (m0 * inf.size)) := all2_flat hbrow (by rw [hxl, List.length_take]; congr 1; omega) fun q r k c hq hkk => by
    rw [List.getElem?_take] at hq
    split at hq
    · rename_i hlt
      obtain ⟨v, hv, hr⟩ := hcs q r k c hq hkk
      have hks : k < inf.size := by
        have h1 := (List.getElem?_eq_some_iff.1 hkk).1
        rw [hbk.row r (List.mem_of_getElem? hq), hbs] at h1; exact h1
      have h3 := Nat.mul_le_mul_right inf.size (show q + 1 ≤ m0 from hlt)
      rw [Nat.add_mul] at h3
      exact ⟨v, by rw [List.getElem?_take, if_pos (by omega)]; simpa using hv, hr⟩
    · cases hq
  have hall : All2 (Ce.rel I R) (b.rows.take m0 ++ src).flatten (cs.toList.take (m0 * inf.size) ++ news) := by rw [List.flatten_append]; exact hxr.append hrel
  have hrow' : ∀ r ∈ b.rows.take m0 ++ src, r.length = inf.size := fun r hr => by
    rcases List.mem_append.1 hr with h | h
    · exact hbrow r h
    · exact hrows r h
  have hlen' : (b.rows.take m0 ++ src).length = m0 + m := by simp [hlen]; omega
  have hmx : m0 + m ≤ 9223372036854775807 := by simp only [maxLen] at hmax; omega
  have hxsl : (cs.toList.take (m0 * inf.size) ++ news).length = (m0 + m) * inf.size := by rw [List.length_append, hxl, hnl, Nat.add_mul]
  cases ad with
  | none => have := hnone rfl; omega
  | some x' =>
    have holds : ∀ j v, (cs.toList.take (m0 * inf.size))[j]? = some v → w.cell? ((⟨p.b, 0, none⟩ : Addr).add j) = some v := fun j v hj => by
      rw [Addr.add_mid, cell_of_row w p.b _ _ _ _ hmem]
      rw [List.getElem?_take] at hj
      split at hj
      · simpa using hj
      · cases hj
    have hr := run_append_grow (P := P) w t o.type e inf z hu hinf hz ⟨p.b, 0, none⟩ m0 c' _ hxl holds x' m cj news hnl (hcells x' rfl) (by omega) (by omega) (growslice_fits (by omega) hn.room)
    have hge := grownCap_ge w (m0 + m) c' e
    have hw' := hst.wd.new htop.1 htop.2 ⟨b.rows.take m0 ++ src, inf.size, e, false⟩ hrow' (grownCap w (m0 + m) c' e) (by simp only [hlen']; exact hge) (grownCap_le_maxLen w (m0 + m) c' e hn.max)
      (w' := w.drew.alloc (.cells ((cs.toList.take (m0 * inf.size) ++ news) ++ (Builtin.zeroCells z.cells (grownCap w (m0 + m) c' e - (m0 + m))).toList).toArray e)) (g := w.heap.size) (((Below.refl _ _).drew).alloc (Nat.le_refl _) _) (Nat.le_refl _) _ (by
      rw [show w.heap.size = w.drew.heap.size from rfl, heap_alloc_new w.drew _]) (by
      simp only [List.size_toArray, List.length_append, hxl, hnl, Array.length_toList, size_zeroCells, hs3]
      rw [← Nat.add_mul, ← Nat.add_mul]
      congr 1
      omega) (fun q r k c hq hkk => by
        obtain ⟨v, hv, hr⟩ := flat_at hrow' hall hq hkk
        have hlt := (List.getElem?_eq_some_iff.1 hv).1
        refine ⟨v, ?_, hr⟩
        simp only [List.getElem?_toArray]
        rw [List.getElem?_append_left hlt]
        exact hv)
    rw [Nat.zero_mul] at hux
    unfold Oper.wp
    have hrun : (Builtin.append_ #[t, t] o.type #[a.eval x, a.eval y]).run P w = .ok (.slice (some ⟨w.heap.size, 0, none⟩) (m0 + m) (grownCap w (m0 + m) c' e)) (w.drew.alloc (.cells ((cs.toList.take (m0 * inf.size) ++ news) ++ (Builtin.zeroCells z.cells (grownCap w (m0 + m) c' e - (m0 + m))).toList).toArray e)) := by
      rw [hux, huy, hr]
      congr 3
      apply Array.ext'
      simp
    rw [builtin_append o x y t ho a.eval w hrun]
    exact hnext _ _ _ _ (hst.put (.ext htop.1) (.refl _) hw' hd ⟨⟨w.heap.size, inf.size, grownCap w (m0 + m) c' e⟩, _, by simp [Wx.ext], by simp, hge, by simp, fun _ h => (by cases h)⟩) (.ext htop.1) dom_ext (.refl _)
/-- The same of noughts. -/
theorem e_appendz_new {P : Program} {o : Oper} {F0 : Nat → Option AV} {K0 : Nat → Option Blk} {top : Nat} (x y : Operand) (t tn : TypeId) (ho : o.op = .call ⟨.builtin .append, #[x, y], #[t, tn]⟩) (ti : TI) (ht : tiOf P t = some ti) (tj : TI) (htn : tiOf P tn = some tj) (kk : IntKind) (hkk : tj.ikind = some kk) (e s bt : Nat) (hel : ti.elem = some (e, s, bt)) (te : TI) (hte : tiOf P e = some te)
    (i m0 c0 : Nat) (hx : evf F0 x = some (.c (.osl i 0 m0 (some c0)))) (b : Blk) (hb : K0 i = some b) (hs : Nat.beq b.sz s = true) (k : IntKind) (j : Int) (hy : evf F0 y = some (.val (.int k j))) (m : Nat) (hj : j = (m : Int)) (hm0 : m0 ≤ b.rows.length) (hmax : m0 + m ≤ maxLen) (hroom : (m0 + m) * bt ≤ 140737488355328) (hone : (te.zero.all fun v => v.oneCell') = true) (hgt : c0 < m0 + m) :
    OpEff P o F0 K0 top ⟨.c (.osl top 0 (m0 + m) none), [i], [(top, some ⟨b.rows.take m0 ++ List.replicate m (te.zero.map .v), s, e, false⟩)], top + 1⟩ := by
  obtain ⟨hu, inf, z, hinf, hz, hs1, hs2, hs3⟩ := tiOf_elem ht hel
  obtain ⟨_, inf', z', _, hinf', hz', _, _, hzc⟩ := tiOf_load hte
  rw [hinf] at hinf'; cases hinf'
  rw [hz] at hz'; cases hz'
  have hti := tiOf_int htn hkk
  subst hs1 hs2 hj
  intro n W F K I R a w hst hxx hk hf hd next Q hnext
  have hm : ∀ z ∈ [x, y], evf F z = evf F0 z := fun z hz => hxx z (by simpa [ho, Op.operands, Call.operands] using hz)
  have hbK : K i = some b := (hk i (by simp)).trans hb
  obtain ⟨p, c', hp, hux, hc1, hc2, hc3⟩ := hst.ev ((hm x (by simp)).trans hx)
  have hcc := hc3 c0 rfl
  subst hcc
  have huy := ev_plain hst ((hm y (by simp)).trans hy)
  have htop := hf top (Nat.le_refl _) (by simp)
  obtain ⟨p', hp', hbk⟩ := hst.wd.blk i b hbK
  rw [hp] at hp'; cases hp'
  obtain ⟨cs, hmem, hsz, hcs⟩ := hbk.mem
  have hbs := Nat.eq_of_beq_eq_true hs
  have hps : p.sz = inf.size := hbk.sz.trans hbs
  rw [hps] at hsz hcs
  have hzl : te.zero.length = inf.size := by rw [← hzc]; simpa using hs3
  have hbrow : ∀ r ∈ b.rows.take m0, r.length = inf.size := fun r hr => by rw [← hbs]; exact hbk.row r (List.mem_of_mem_take hr)
  have hzrow : ∀ r ∈ List.replicate m (te.zero.map Ce.v), r.length = inf.size := fun r hr => by rw [List.eq_of_mem_replicate hr]; simpa using hzl
  have hrow' : ∀ r ∈ b.rows.take m0 ++ List.replicate m (te.zero.map Ce.v), r.length = inf.size := fun r hr => by
    rcases List.mem_append.1 hr with h | h
    · exact hbrow r h
    · exact hzrow r h
  have hfit : m0 * inf.size ≤ cs.size := by rw [hsz]; exact Nat.mul_le_mul_right _ (by have := hbk.fit; omega)
  have hxl : (cs.toList.take (m0 * inf.size)).length = m0 * inf.size := by simp; omega
  have hznl : (Builtin.zeroCells z.cells m).toList.length = m * inf.size := by simp [size_zeroCells, hs3]
  have hxr : All2 (Ce.rel I R) (b.rows.take m0).flatten (cs.toList.take (m0 * inf.size)) := all2_flat hbrow (by rw [hxl, List.length_take]; congr 1; omega) fun q r k c hq hkk => by
    rw [List.getElem?_take] at hq
    split at hq
    · rename_i hlt
      obtain ⟨v, hv, hr⟩ := hcs q r k c hq hkk
      have hks : k < inf.size := by
        have h1 := (List.getElem?_eq_some_iff.1 hkk).1
        rw [hbk.row r (List.mem_of_getElem? hq), hbs] at h1; exact h1
      have h3 := Nat.mul_le_mul_right inf.size (show q + 1 ≤ m0 from hlt)
      rw [Nat.add_mul] at h3
      exact ⟨v, by rw [List.getElem?_take, if_pos (by omega)]; simpa using hv, hr⟩
    · cases hq
  have hzr : All2 (Ce.rel I R) (List.replicate m (te.zero.map Ce.v)).flatten (Builtin.zeroCells z.cells m).toList := all2_flat hzrow (by rw [hznl]; simp) fun q r k cc hq hkk => by
    have hql := (List.getElem?_eq_some_iff.1 hq).1
    simp only [List.length_replicate] at hql
    have hrr := List.eq_of_mem_replicate (List.mem_of_getElem? hq)
    subst hrr
    have hkl := (List.getElem?_eq_some_iff.1 hkk).1
    simp only [List.length_map, hzl] at hkl
    simp only [List.getElem?_map, Option.map_eq_some_iff] at hkk
    obtain ⟨v, hv, rfl⟩ := hkk
    have h3 := Nat.mul_le_mul_right inf.size (show q + 1 ≤ m by omega)
    rw [Nat.add_mul] at h3
    refine ⟨v, ?_, rfl⟩
    rw [← hzc] at hv
    simp only [Builtin.zeroCells, Array.getElem?_toList, Array.getElem?_map, Array.getElem?_range, hs3]
    rw [if_pos (by omega)]
    simp only [Option.map_some]
    rw [show (q * inf.size + k) % inf.size = k by rw [Nat.mul_comm, Nat.mul_add_mod, Nat.mod_eq_of_lt hkl]]
    simp only [Array.getElem?_toList] at hv
    simp [getElem!_def, hv]
  have hall : All2 (Ce.rel I R) (b.rows.take m0 ++ List.replicate m (te.zero.map Ce.v)).flatten (cs.toList.take (m0 * inf.size) ++ (Builtin.zeroCells z.cells m).toList) := by
    rw [List.flatten_append]; exact hxr.append hzr
  have hlen' : (b.rows.take m0 ++ List.replicate m (te.zero.map Ce.v)).length = m0 + m := by simp; omega
  have hmx : m0 + m ≤ 9223372036854775807 := by simp only [maxLen] at hmax; omega
  have holds : ∀ j v, (cs.toList.take (m0 * inf.size))[j]? = some v → w.cell? ((⟨p.b, 0, none⟩ : Addr).add j) = some v := fun j v hj => by
    rw [Addr.add_mid, cell_of_row w p.b _ _ _ _ hmem]
    rw [List.getElem?_take] at hj
    split at hj
    · simpa using hj
    · cases hj
  have hr := run_append_zgrow (P := P) (w := w) (ty := o.type) hu hinf hz hs3 hti ⟨p.b, 0, none⟩ m0 c' m k _ hxl holds (by omega) (by omega) hroom
  have hge := grownCap_ge w (m0 + m) c' e
  have hw' := hst.wd.new htop.1 htop.2 ⟨b.rows.take m0 ++ List.replicate m (te.zero.map .v), inf.size, e, false⟩ hrow' (grownCap w (m0 + m) c' e) (by simp only [hlen']; exact hge) (grownCap_le_maxLen w (m0 + m) c' e hmax)
    (w' := w.drew.alloc (.cells ((cs.toList.take (m0 * inf.size) ++ (Builtin.zeroCells z.cells m).toList) ++ (Builtin.zeroCells z.cells (grownCap w (m0 + m) c' e - (m0 + m))).toList).toArray e)) (g := w.heap.size) (((Below.refl _ _).drew).alloc (Nat.le_refl _) _) (Nat.le_refl _) _ (by
    rw [show w.heap.size = w.drew.heap.size from rfl, heap_alloc_new w.drew _]) (by
    simp only [List.size_toArray, List.length_append, hxl, hznl, Array.length_toList, size_zeroCells, hs3]
    rw [← Nat.add_mul, ← Nat.add_mul]
    congr 1
    omega) (fun q r k c hq hkk => by
      obtain ⟨v, hv, hr⟩ := flat_at hrow' hall hq hkk
      have hlt := (List.getElem?_eq_some_iff.1 hv).1
      refine ⟨v, ?_, hr⟩
      simp only [List.getElem?_toArray]
      rw [List.getElem?_append_left hlt]
      exact hv)
  rw [Nat.zero_mul] at hux
  unfold Oper.wp
  have hrun : (Builtin.append_ #[t, tn] o.type #[a.eval x, a.eval y]).run P w = .ok (.slice (some ⟨w.heap.size, 0, none⟩) (m0 + m) (grownCap w (m0 + m) c' e)) (w.drew.alloc (.cells ((cs.toList.take (m0 * inf.size) ++ (Builtin.zeroCells z.cells m).toList) ++ (Builtin.zeroCells z.cells (grownCap w (m0 + m) c' e - (m0 + m))).toList).toArray e)) := by
    rw [hux, huy, hr]
    congr 3
    apply Array.ext'
    simp
  rw [builtin_append' o x y t tn ho a.eval w hrun]
  exact hnext _ _ _ _ (hst.put (.ext htop.1) (.refl _) hw' hd ⟨⟨w.heap.size, inf.size, grownCap w (m0 + m) c' e⟩, _, by simp [Wx.ext], by simp, hge, by simp, fun _ h => (by cases h)⟩) (.ext htop.1) dom_ext (.refl _)
end Go.Proofs.Ytllnmdmmmkoiaaa.Wx
