/-
  A walk by computation: what each operation comes to.
-/
import Derived.Test.YtllnmdmmmkoiaaaWa
import Derived.Laws.StructEq
import Derived.Laws.CopyOwn
namespace Go.Proofs.Ytllnmdmmmkoiaaa.Wx
open Go Go.RowKit
set_option linter.unusedVariables false

/-- What is asked of a type, read off the program once. -/
def Pa.ce : Pa → Ce
  | .v x => .v x
  | .own i q k => .own i q k
def Pt.asV : Pt → AV
  | .v x => .val x
  | .own i q k => .c (.own i q k)
  | .ag l => .pl (.agg (l.map Pa.ce))
theorem pa_all {I : IM} {R : RM} : ∀ {l : List Pa} {vs : List Value}, All2 (Ce.rel I R) (l.map Pa.ce) vs ↔ All2 (Pa.rel I) l vs
  | [], [] => Iff.rfl
  | .v _ :: l, _ :: _ => and_congr Iff.rfl pa_all
  | .own _ _ _ :: l, _ :: _ => and_congr Iff.rfl pa_all
  | [], _ :: _ => Iff.rfl
  | .v _ :: _, [] => Iff.rfl
  | .own _ _ _ :: _, [] => Iff.rfl
structure TI where
  row : Bool
  size : Nat
  zero : List Value
  offs : List (Nat × Nat × Bool)
  ikind : Option IntKind
  elem : Option (TypeId × Nat × Nat)
  arr : Option (Nat × Nat × Bool)
  eqk : Option (List (Option IntKind))
  isB : Bool
  mp : Option (TypeId × TypeId × IntKind × Value)
  kd : Nat
/-- Outer forms, by number. -/
def kdOf : TypeDesc → Nat
  | .bool => 1
  | .int _ => 2
  | .string => 3
  | .pointer _ => 4
  | .slice _ => 5
  | .map _ _ => 6
  | .struct _ => 7
  | .array _ _ => 8
  | _ => 0
def kindOf (P : Program) (t : TypeId) : Option (Option IntKind) :=
  match P.underlying t with
  | some (.int k) => some (some k)
  | some .bool => some none
  | _ => none
def kindsOf (P : Program) : Nat → List Field → Option (List (Option IntKind))
  | _, [] => some []
  | n, f :: r => match kindOf P f.type, kindsOf P (n + 1) r with
    | some k, some l => if f.offset == n && f.name != "_" then some (k :: l) else none
    | _, _ => none
def szB (P : Program) (t : TypeId) (n : Nat) : Bool := match P.info? t with | some i => i.size == n | none => false
/-- The kinds of all cells, nested structs opened. -/
def flatFs (P : Program) (g : TypeId → Option (List (Option IntKind))) : Nat → List Field → Option (List (Option IntKind))
  | _, [] => some []
  | n, f :: r => match g f.type with
    | some kf => match flatFs P g (n + kf.length) r with
      | some l => if f.offset == n && f.name != "_" && szB P f.type kf.length then some (kf ++ l) else none
      | none => none
    | none => none
def flatOf (P : Program) : Nat → TypeId → Option (List (Option IntKind))
  | 0, _ => none
  | d + 1, t => match P.underlying t with
    | some (.int k) => some [some k]
    | some .bool => some [none]
    | some (.struct fs) => if P.stoodInHeld t then none else flatFs P (flatOf P d) 0 fs.toList
    | _ => none
def fsz (P : Program) (t : TypeId) : Nat := match P.underlying t with | some _ => P.cellsOf t | none => 0
theorem fsz_spec {P : Program} {t : TypeId} {s : Nat} (h : fsz P t = s) (hz : 0 < s) : ∃ d inf, P.underlying t = some d ∧ P.info? t = some inf ∧ inf.size = s := by
  unfold fsz at h
  split at h
  · rename_i d hd
    cases hq : P.info? t with
    | none => simp [Program.cellsOf, hq] at h; omega
    | some inf => simp [Program.cellsOf, hq] at h; exact ⟨d, inf, hd, rfl, h⟩
  · omega
def tiOf (P : Program) (t : TypeId) : Option TI :=
  match P.underlying t, P.info? t with
  | some d, some inf => match inf.zero with
    | some z => some {
        row := d.isRow
        size := inf.size
        zero := z.cells.toList
        offs := match d with
          | .struct fs => fs.toList.map fun f => (f.offset, fsz P f.type, (match P.underlying f.type with | some d => d.isRow | none => false))
          | _ => []
        ikind := match d with | .int k => some k | _ => none
        elem := match d with
          | .slice e => match P.info? e with
            | some i => match i.zero with
              | some z => if z.cells.size == i.size then some (e, i.size, i.bytes) else none
              | none => none
            | none => none
          | _ => none
        arr := match d with
          | .array n e => match P.info? e, P.underlying e with
            | some i, some de => some (n, i.size, de.isRow)
            | _, _ => none
          | _ => none
        eqk := match d with
          | .struct fs => if P.stoodInHeld t || P.eqGuardType P.depth t then none else flatFs P (flatOf P 4) 0 fs.toList
          | .array n e => match P.info? e, kindOf P e with
            | some i, some kd => if P.eqGuardType P.depth t || i.size != 1 then none else some (List.replicate n kd)
            | _, _ => none
          | _ => none
        isB := match d with | .bool => true | _ => false
        mp := match d with
          | .map k e => match P.underlying k with
            | some (.int q) => match P.info? e with
              | some i => match i.zero with
                | some z => some (k, e, q, z)
                | none => none
              | none => none
            | _ => none
          | _ => none
        kd := kdOf d }
    | none => none
  | _, _ => none
abbrev Tab := List (Nat × TI)
def tyGet : Tab → Nat → Option TI
  | [], _ => none
  | (k, x) :: r, t => match Nat.beq k t with
    | true => some x
    | false => tyGet r t
def TabOk (P : Program) (T : Tab) : Prop := ∀ t i, tyGet T t = some i → tiOf P t = some i
theorem TabOk.nil {P : Program} : TabOk P [] := fun _ _ h => by simp [tyGet] at h
theorem TabOk.cons {P : Program} {T : Tab} {t : Nat} {i : TI} (h : tiOf P t = some i) (hT : TabOk P T) : TabOk P ((t, i) :: T) := fun u j hj => by
  simp only [tyGet] at hj
  cases hb : Nat.beq t u with
  | true => simp only [hb, Option.some.injEq] at hj; subst hj; rw [← Nat.eq_of_beq_eq_true hb]; exact h
  | false => simp only [hb] at hj; exact hT u j hj
theorem tiOf_load {P : Program} {t : TypeId} {i : TI} (h : tiOf P t = some i) : ∃ d inf z, P.underlying t = some d ∧ P.info? t = some inf ∧ inf.zero = some z ∧ d.isRow = i.row ∧ inf.size = i.size ∧ z.cells.toList = i.zero := by
  unfold tiOf at h
  split at h
  · rename_i d inf hd hi
    split at h
    · rename_i z hz
      simp only [Option.some.injEq] at h
      subst h
      exact ⟨d, inf, z, hd, hi, hz, rfl, rfl, rfl⟩
    · cases h
  · cases h
theorem tiOf_int {P : Program} {t : TypeId} {i : TI} {k : IntKind} (h : tiOf P t = some i) (hk : i.ikind = some k) : P.underlying t = some (.int k) := by
  unfold tiOf at h
  split at h
  · rename_i d inf hd hi
    split at h
    · simp only [Option.some.injEq] at h
      subst h
      cases d <;> simp at hk
      subst hk
      exact hd
    · cases h
  · cases h
theorem tiOf_bool {P : Program} {t : TypeId} {i : TI} (h : tiOf P t = some i) (hk : i.isB = true) : P.underlying t = some .bool := by
  unfold tiOf at h
  split at h
  · rename_i d inf hd hi
    split at h
    · simp only [Option.some.injEq] at h
      subst h
      cases d <;> simp at hk
      exact hd
    · cases h
  · cases h
theorem tiOf_mp {P : Program} {t k e : TypeId} {i : TI} {q : IntKind} {z : Value} (h : tiOf P t = some i) (hk : i.mp = some (k, e, q, z)) : P.underlying t = some (.map k e) ∧ P.underlying k = some (.int q) ∧ ∃ inf, P.info? e = some inf ∧ inf.zero = some z := by
  unfold tiOf at h
  split at h
  · rename_i d inf hd hi
    split at h
    · simp only [Option.some.injEq] at h
      subst h
      cases d <;> simp at hk
      rename_i k' e'
      split at hk
      · rename_i q' hq
        split at hk
        · rename_i inf' hi'
          split at hk
          · rename_i z' hz'
            simp only [Option.some.injEq, Prod.mk.injEq] at hk
            obtain ⟨rfl, rfl, rfl, rfl⟩ := hk
            exact ⟨hd, hq, inf', hi', hz'⟩
          · cases hk
        · cases hk
      · cases hk
    · cases h
  · cases h
theorem tiOf_kd {P : Program} {t : TypeId} {i : TI} (h : tiOf P t = some i) : ∃ d, P.underlying t = some d ∧ kdOf d = i.kd := by
  unfold tiOf at h
  split at h
  · rename_i d inf hd hi
    split at h
    · simp only [Option.some.injEq] at h
      subst h
      exact ⟨d, hd, rfl⟩
    · cases h
  · cases h
theorem kdOf_ptr {d : TypeDesc} (h : kdOf d = 4) : ∃ e, d = .pointer e := by
  cases d <;> simp [kdOf] at h
  exact ⟨_, rfl⟩
theorem kdOf_str {d : TypeDesc} (h : kdOf d = 3) : d = .string := by
  cases d <;> simp [kdOf] at h
  rfl
theorem tiOf_elem {P : Program} {t e : TypeId} {i : TI} {s b : Nat} (h : tiOf P t = some i) (hk : i.elem = some (e, s, b)) :
    P.underlying t = some (.slice e) ∧ ∃ inf z, P.info? e = some inf ∧ inf.zero = some z ∧ inf.size = s ∧ inf.bytes = b ∧ z.cells.size = s := by
  unfold tiOf at h
  split at h
  · rename_i d inf hd hi
    split at h
    · simp only [Option.some.injEq] at h
      subst h
      cases d <;> simp only [reduceCtorEq] at hk
      rename_i e'
      split at hk
      · rename_i i' hi'
        split at hk
        · rename_i z' hz'
          split at hk
          · rename_i hs
            simp only [Option.some.injEq, Prod.mk.injEq] at hk
            obtain ⟨rfl, rfl, rfl⟩ := hk
            exact ⟨hd, i', z', hi', hz', rfl, rfl, by simpa using hs⟩
          · cases hk
        · cases hk
      · cases hk
    · cases h
  · cases h
theorem tiOf_field {P : Program} {t : TypeId} {i : TI} {f off sz : Nat} {r : Bool} (h : tiOf P t = some i) (hk : i.offs[f]? = some (off, sz, r)) :
    ∃ fs fd, P.underlying t = some (.struct fs) ∧ fs[f]? = some fd ∧ fd.offset = off ∧ fsz P fd.type = sz ∧ (match P.underlying fd.type with | some d => d.isRow | none => false) = r := by
  unfold tiOf at h
  split at h
  · rename_i d inf hd hi
    split at h
    · simp only [Option.some.injEq] at h
      subst h
      cases d <;> simp at hk
      rename_i fs
      obtain ⟨fd, h1, h2, h3, h4⟩ := hk
      exact ⟨fs, fd, hd, h1, h2, h3, h4⟩
    · cases h
  · cases h
theorem tiOf_arr {P : Program} {t : TypeId} {i : TI} {n s : Nat} {r : Bool} (h : tiOf P t = some i) (hk : i.arr = some (n, s, r)) :
    ∃ e de inf, P.underlying t = some (.array n e) ∧ P.info? e = some inf ∧ P.underlying e = some de ∧ inf.size = s ∧ de.isRow = r := by
  unfold tiOf at h
  split at h
  · rename_i d inf hd hi
    split at h
    · simp only [Option.some.injEq] at h
      subst h
      cases d <;> simp only [reduceCtorEq] at hk
      rename_i n' e
      split at hk
      · rename_i i' de hi' hde
        simp only [Option.some.injEq, Prod.mk.injEq] at hk
        obtain ⟨rfl, rfl, rfl⟩ := hk
        exact ⟨e, de, i', hd, hi', hde, rfl, rfl⟩
      · cases hk
    · cases h
  · cases h

/-- What an operation does: its value, the own blocks whose rows it looks at, how blocks change, the first name that is free behind it. -/
structure Eff where
  av : AV
  rd : List Nat
  kw : Kr
  top : Nat
/-- The operation comes to that wherever its operands and the blocks that it looks at are as in F0, K0. -/
def OpEff (P : Program) (o : Oper) (F0 : Nat → Option AV) (K0 : Nat → Option Blk) (top : Nat) (e : Eff) : Prop :=
  ∀ (n : Nat) (W : Wo) (F : Nat → Option AV) (K : Nat → Option Blk) (I : IM) (R : RM) (a : Act) (w : World), St n W F K I R a w →
    (∀ x ∈ o.op.operands.toList, evf F x = evf F0 x) → (∀ i ∈ e.rd, K i = K0 i) → (∀ j, top ≤ j → j < e.top → I j = none ∧ K j = none) → dstB n o.dst = true →
    ∀ (next : Act → World → Prop) (Q : Exit → Act → World → Prop),
      (∀ I' R' a' w', St n W (fput F o.dst e.av) (kup K e.kw) I' R' a' w' → IExt I I' → (∀ j, ¬ (top ≤ j ∧ j < e.top) → I' j = I j) → RExt R R' → next a' w') → o.wp P a w next Q
/-- A value, and the world stands. -/
def Yv (P : Program) (o : Oper) (F0 : Nat → Option AV) (K0 : Nat → Option Blk) (rd : List Nat) (av : AV) : Prop :=
  ∀ (n : Nat) (W : Wo) (F : Nat → Option AV) (K : Nat → Option Blk) (I : IM) (R : RM) (a : Act) (w : World), St n W F K I R a w →
    (∀ x ∈ o.op.operands.toList, evf F x = evf F0 x) → (∀ i ∈ rd, K i = K0 i) → ∃ u, (execOp a.eval o).run P w = .ok (.value u) w ∧ av.rel I R u
section
variable {P : Program} {o : Oper} {F0 : Nat → Option AV} {K0 : Nat → Option Blk} {rd : List Nat} {av : AV} {top : Nat} {T : Tab}
theorem Yv.eff (h : Yv P o F0 K0 rd av) : OpEff P o F0 K0 top ⟨av, rd, [], top⟩ := by
  intro n W F K I R a w hs hx hk hf hd next Q hn
  obtain ⟨u, hr, hu⟩ := h n W F K I R a w hs hx hk
  unfold Oper.wp
  rw [hr]
  exact hn I R _ w (hs.put (.refl _) (.refl _) hs.wd hd hu) (.refl _) (fun _ _ => rfl) (.refl _)
theorem y_move (x : Operand) (ho : o.op = .move x ∨ o.op = .assign x) (v : AV) (hx : evf F0 x = some v) : Yv P o F0 K0 [] v := by
  intro n W F K I R a w hs hxx hk
  refine ⟨a.eval x, ?_, hs.ev ((hxx x (by rcases ho with ho | ho <;> simp [ho, Op.operands])).trans hx)⟩
  rcases ho with ho | ho <;> simp only [execOp, ho] <;> rfl
theorem ev_plain {n : Nat} {W : Wo} {F : Nat → Option AV} {K : Nat → Option Blk} {I : IM} {R : RM} {a : Act} {w : World} (hs : St n W F K I R a w) {x : Operand} {v : Value} (hx : evf F x = some (.val v)) : a.eval x = v := hs.ev hx
theorem y_pick (c x y : Operand) (ho : o.op = .pick c x y) (b : Bool) (hc : evf F0 c = some (.val (.bool b))) (v : AV) (hx : b = true → evf F0 x = some v) (hy : b = false → evf F0 y = some v) : Yv P o F0 K0 [] v := by
  intro n W F K I R a w hs hxx hk
  have hm : ∀ z ∈ [c, x, y], evf F z = evf F0 z := fun z hz => hxx z (by simpa [ho, Op.operands] using hz)
  have e1 := ev_plain hs ((hm c (by simp)).trans hc)
  simp only [execOp, ho, e1]
  rw [Sem.run_bind]
  simp only [asBool, Sem.run_pure, Result.andThen_ok]
  cases b with
  | true => exact ⟨_, rfl, hs.ev ((hm x (by simp)).trans (hx rfl))⟩
  | false => exact ⟨_, rfl, hs.ev ((hm y (by simp)).trans (hy rfl))⟩
theorem y_not (t : TypeId) (x : Operand) (ho : o.op = .unOp .not t x) (b : Bool) (hx : evf F0 x = some (.val (.bool b))) : Yv P o F0 K0 [] (.val (.bool (!b))) := by
  intro n W F K I R a w hs hxx hk
  have e1 := ev_plain hs ((hxx x (by simp [ho, Op.operands])).trans hx)
  simp only [execOp, ho, e1]
  rw [Sem.run_bind]
  exact ⟨_, by simp [Op.unary], rfl⟩
def intOp (op : BinOp) (k : IntKind) (a b : Int) : Option Int :=
  match op with
  | .add => some (k.wrap (a + b))
  | .sub => some (k.wrap (a - b))
  | .mul => some (k.wrap (a * b))
  | _ => none
def cmpOp (op : BinOp) (a b : Int) : Option Bool :=
  match op with
  | .eql => some (a == b)
  | .neq => some (a != b)
  | .lss => some (decide (a < b))
  | .leq => some (decide (a ≤ b))
  | .gtr => some (decide (a > b))
  | .geq => some (decide (a ≥ b))
  | _ => none
theorem y_int (op : BinOp) (t : TypeId) (x y : Operand) (yt : TypeId) (ho : o.op = .binOp op t x y yt) (k : IntKind) (p q : Int) (hx : evf F0 x = some (.val (.int k p))) (hy : evf F0 y = some (.val (.int k q))) (r : Int) (hr : intOp op k p q = some r) :
    Yv P o F0 K0 [] (.val (.int k r)) := by
  intro n W F K I R a w hs hxx hk
  have hm : ∀ z ∈ [x, y], evf F z = evf F0 z := fun z hz => hxx z (by simpa [ho, Op.operands] using hz)
  have e1 := ev_plain hs ((hm x (by simp)).trans hx)
  have e2 := ev_plain hs ((hm y (by simp)).trans hy)
  refine ⟨_, ?_, rfl⟩
  simp only [execOp, ho, e1, e2]
  rw [Sem.run_bind, Sem.run_bind, eqGuard_at_int]
  simp only [Sem.run_pure, Result.andThen_ok]
  cases op <;> simp only [intOp, Option.some.injEq, reduceCtorEq] at hr <;> subst hr <;> simp [binOp, Op.intArith]
theorem y_cmp (op : BinOp) (t : TypeId) (x y : Operand) (yt : TypeId) (ho : o.op = .binOp op t x y yt) (k : IntKind) (p q : Int) (hx : evf F0 x = some (.val (.int k p))) (hy : evf F0 y = some (.val (.int k q))) (r : Bool) (hr : cmpOp op p q = some r) :
    Yv P o F0 K0 [] (.val (.bool r)) := by
  intro n W F K I R a w hs hxx hk
  have hm : ∀ z ∈ [x, y], evf F z = evf F0 z := fun z hz => hxx z (by simpa [ho, Op.operands] using hz)
  have e1 := ev_plain hs ((hm x (by simp)).trans hx)
  have e2 := ev_plain hs ((hm y (by simp)).trans hy)
  refine ⟨_, ?_, rfl⟩
  simp only [execOp, ho, e1, e2]
  rw [Sem.run_bind, Sem.run_bind, eqGuard_at_int]
  simp only [Sem.run_pure, Result.andThen_ok]
  cases op <;> simp only [cmpOp, Option.some.injEq, reduceCtorEq] at hr <;> subst hr <;> simp [binOp, Op.intCmp]
/-- Division by what is not nought. -/
theorem y_div (op : BinOp) (t : TypeId) (x y : Operand) (yt : TypeId) (ho : o.op = .binOp op t x y yt) (k : IntKind) (p q : Int) (hx : evf F0 x = some (.val (.int k p))) (hy : evf F0 y = some (.val (.int k q))) (hq : q ≠ 0) (r : Int)
    (hr : (op = .quo ∧ r = k.wrap (p.tdiv q)) ∨ (op = .rem ∧ r = p.tmod q)) : Yv P o F0 K0 [] (.val (.int k r)) := by
  intro n W F K I R a w hs hxx hk
  have hm : ∀ z ∈ [x, y], evf F z = evf F0 z := fun z hz => hxx z (by simpa [ho, Op.operands] using hz)
  have e1 := ev_plain hs ((hm x (by simp)).trans hx)
  have e2 := ev_plain hs ((hm y (by simp)).trans hy)
  refine ⟨_, ?_, rfl⟩
  simp only [execOp, ho, e1, e2]
  rw [Sem.run_bind, Sem.run_bind, eqGuard_at_int]
  simp only [Sem.run_pure, Result.andThen_ok]
  rcases hr with ⟨rfl, rfl⟩ | ⟨rfl, rfl⟩ <;> simp [binOp, Op.intDiv, hq]
/-- Shifts. -/
theorem y_shift (op : BinOp) (t : TypeId) (x y : Operand) (yt : TypeId) (ho : o.op = .binOp op t x y yt) (k ky : IntKind) (p q : Int) (hx : evf F0 x = some (.val (.int k p))) (hy : evf F0 y = some (.val (.int ky q))) (hq : 0 ≤ q) (r : Int)
    (hr : (op = .shl ∧ r = k.wrap (p * 2 ^ (min q.toNat k.bits))) ∨ (op = .shr ∧ r = p.fdiv (2 ^ (min q.toNat k.bits)))) : Yv P o F0 K0 [] (.val (.int k r)) := by
  intro n W F K I R a w hs hxx hk
  have hm : ∀ z ∈ [x, y], evf F z = evf F0 z := fun z hz => hxx z (by simpa [ho, Op.operands] using hz)
  have e1 := ev_plain hs ((hm x (by simp)).trans hx)
  have e2 := ev_plain hs ((hm y (by simp)).trans hy)
  refine ⟨_, ?_, rfl⟩
  simp only [execOp, ho, e1, e2]
  rw [Sem.run_bind, Sem.run_bind, eqGuard_at_int]
  simp only [Sem.run_pure, Result.andThen_ok]
  have hq' : ¬ q < 0 := by omega
  rcases hr with ⟨rfl, rfl⟩ | ⟨rfl, rfl⟩ <;> simp [binOp, Op.shift, hq']
theorem y_conv (s d : TypeId) (x : Operand) (ho : o.op = .convert s d x) (i j : TI) (k k' : IntKind) (hs' : tiOf P s = some i) (hd' : tiOf P d = some j) (hi : i.ikind = some k') (hj : j.ikind = some k) (kk : IntKind) (p : Int) (hx : evf F0 x = some (.val (.int kk p))) :
    Yv P o F0 K0 [] (.val (.int k (k.wrap p))) := by
  intro n W F K I R a w hs hxx hk
  have e1 := ev_plain hs ((hxx x (by simp [ho, Op.operands])).trans hx)
  have h1 := tiOf_int hs' hi
  have h2 := tiOf_int hd' hj
  refine ⟨_, ?_, rfl⟩
  simp only [execOp, ho, e1]
  rw [Sem.run_bind]
  simp [convert, run_underlying h1, run_underlying h2, Conv.intToInt]
theorem y_bool (op : BinOp) (t : TypeId) (x y : Operand) (yt : TypeId) (ho : o.op = .binOp op t x y yt) (p q : Bool) (hx : evf F0 x = some (.val (.bool p))) (hy : evf F0 y = some (.val (.bool q))) (ht : P.underlying t = some .bool) (r : Bool)
    (hr : (op = .eql ∧ r = (p == q)) ∨ (op = .neq ∧ r = (p != q))) : Yv P o F0 K0 [] (.val (.bool r)) := by
  intro n W F K I R a w hs hxx hk
  have hm : ∀ z ∈ [x, y], evf F z = evf F0 z := fun z hz => hxx z (by simpa [ho, Op.operands] using hz)
  have e1 := ev_plain hs ((hm x (by simp)).trans hx)
  have e2 := ev_plain hs ((hm y (by simp)).trans hy)
  refine ⟨_, ?_, rfl⟩
  simp only [execOp, ho, e1, e2]
  rw [Sem.run_bind, Sem.run_bind, eqGuard_at_bool]
  simp only [Sem.run_pure, Result.andThen_ok]
  rcases hr with ⟨rfl, rfl⟩ | ⟨rfl, rfl⟩
  · simp only [binOp, Op.equal, Op.maxDepth, Sem.run_bind]
    rw [run_equalIn_bool' _ _ _ _ _ ht]
    rfl
  · simp only [binOp, Op.equal, Op.maxDepth, Sem.run_bind]
    rw [run_equalIn_bool' _ _ _ _ _ ht]
    rfl
theorem y_nilc (x : Operand) (ho : o.op = .nilCheck x) (c : Ce) (hx : evf F0 x = some (.c c)) (hc : (match c with | .own .. => true | .rp .. => true | .fn .. => true | _ => false) = true) : Yv P o F0 K0 [] (.c c) := by
  intro n W F K I R a w hs hxx hk
  have e1 := hs.ev ((hxx x (by simp [ho, Op.operands])).trans hx)
  refine ⟨a.eval x, ?_, e1⟩
  simp only [execOp, ho]
  generalize a.eval x = u at *
  cases c with
  | own i q k => obtain ⟨p, _, rfl⟩ := e1; rfl
  | rp fl row k => obtain ⟨b, o, rfl, _⟩ := e1; rfl
  | fn f cap => obtain ⟨vs, _, rfl⟩ := e1; rfl
  | _ => simp at hc
theorem y_extract (x : Operand) (i : Nat) (ho : o.op = .extract x i) (l : List A0) (hx : evf F0 x = some (.tup l)) (c : A0) (hc : l[i]? = some c) : Yv P o F0 K0 [] (.pl c) := by
  intro n W F K I R a w hs hxx hk
  have h0 := hs.ev ((hxx x (by simp [ho, Op.operands])).trans hx)
  simp only [AV.rel] at h0
  obtain ⟨vs, e1, e2⟩ := h0
  obtain ⟨u, hu, hr⟩ := e2.get hc
  refine ⟨u, ?_, hr⟩
  simp only [execOp, ho, e1]
  rw [Sem.run_bind]
  simp [Instr.extract, hu]
theorem y_func (f : FuncId) (caps : Array Operand) (ho : o.op = .makeFunc (.func f) #[] caps) (ps : List Pt) (hp : All2 (fun x p => evf F0 x = some p.asV) caps.toList ps) : Yv P o F0 K0 [] (.c (.fn f ps)) := by
  intro n W F K I R a w hs hxx hk
  refine ⟨.func (.func f) #[] (caps.map a.eval), ?_, caps.toList.map a.eval, ?_, ?_⟩
  · simp only [execOp, ho]; simp [Instr.makeFunc]
  · have hm : ∀ z ∈ caps.toList, evf F z = evf F0 z := fun z hz => hxx z (by simpa [ho, Op.operands] using hz)
    generalize caps.toList = l at hp hm
    induction l generalizing ps with
    | nil => cases ps with
      | nil => trivial
      | cons => exact hp.elim
    | cons z r ih => cases ps with
      | nil => exact hp.elim
      | cons p ps =>
        refine ⟨?_, ih _ hp.2 (fun y hy => hm y (List.mem_cons_of_mem _ hy))⟩
        have := hs.ev ((hm z List.mem_cons_self).trans hp.1)
        cases p with
        | ag l => obtain ⟨vs, g1, g2⟩ := this; exact ⟨vs, g1, pa_all.1 g2⟩
        | _ => exact this
  · congr 1; apply Array.ext'; simp
theorem y_fieldAddr (s : TypeId) (x : Operand) (f : Nat) (ho : o.op = .fieldAddr s x f) (ti : TI) (ht : tiOf P s = some ti) (off sz : Nat) (r : Bool) (hf : ti.offs[f]? = some (off, sz, r)) (hz : Nat.blt 0 sz = true)
    (c c' : Ce) (hx : evf F0 x = some (.c c)) (hc : (match c with | .own i q k => some (Ce.own i q (k + off)) | .rp fl row k => some (.rp fl row (k + off)) | _ => none) = some c') : Yv P o F0 K0 [] (.c c') := by
  obtain ⟨fs, fd, h1, h2, h3, h4, _⟩ := tiOf_field ht hf
  intro n W F K I R a w hs hxx hk
  have e1 := hs.ev ((hxx x (by simp [ho, Op.operands])).trans hx)
  have hz' : 0 < sz := by simpa [Nat.blt_eq] using hz
  obtain ⟨dd, inf, hdd, hinf, hsz⟩ := fsz_spec h4 hz'
  have hrun : ∀ b o', (Instr.fieldAt s (.pointer (some ⟨b, o', none⟩)) f).run P w = .ok (.pointer (some ⟨b, o' + off, none⟩)) w := by
    intro b o'
    simp only [Instr.fieldAt, Sem.run_bind, run_underlying h1, Result.andThen_ok]
    simp [h2, Instr.sureAddr, fieldPlace, sizeOf, typeInfo, hinf, hsz, Nat.ne_of_gt hz', h3, Addr.add_mid]
  simp only [execOp, ho]
  cases c with
  | own i q k =>
    simp only [Option.some.injEq] at hc
    subst hc
    obtain ⟨p, hp, hu⟩ := e1
    refine ⟨_, ?_, p, hp, rfl⟩
    rw [hu, Sem.run_bind, hrun]
    simp [Nat.add_assoc]
  | rp fl row k =>
    simp only [Option.some.injEq] at hc
    subst hc
    obtain ⟨b, o', hu, hh⟩ := e1
    refine ⟨_, ?_, b, o', rfl, hh⟩
    rw [hu, Sem.run_bind, hrun]
    simp [Nat.add_assoc]
  | _ => simp at hc
theorem St.row {n : Nat} {W : Wo} {F : Nat → Option AV} {K : Nat → Option Blk} {I : IM} {R : RM} {a : Act} {w : World} (hs : St n W F K I R a w) {i : Nat} {b : Blk} (hb : K i = some b) {q : Nat} {r : List Ce} (hr : b.rows[q]? = some r) :
    ∃ p vs, I i = some p ∧ p.sz = b.sz ∧ All2 (Ce.rel I R) r vs ∧ (∀ k u, vs[k]? = some u → w.cell? ⟨p.b, q * p.sz + k, none⟩ = some u) ∧ ∀ k, w.frozen? ⟨p.b, k, none⟩ = false := by
  obtain ⟨p, hp, hk⟩ := hs.wd.blk i b hb
  obtain ⟨cs, hm, hsz, hc⟩ := hk.mem
  have hall : ∃ vs : List Value, All2 (Ce.rel I R) r vs ∧ ∀ k u, vs[k]? = some u → cs[q * p.sz + k]? = some u := by
    have : ∀ (r' : List Ce) (d : Nat), (∀ k c, r'[k]? = some c → ∃ u, cs[q * p.sz + (d + k)]? = some u ∧ c.rel I R u) → ∃ vs : List Value, All2 (Ce.rel I R) r' vs ∧ ∀ k u, vs[k]? = some u → cs[q * p.sz + (d + k)]? = some u := by
      intro r'
      induction r' with
      | nil => intro d _; exact ⟨[], trivial, fun k u h => by simp at h⟩
      | cons c r' ih =>
        intro d h
        obtain ⟨u, hu, hru⟩ := h 0 c rfl
        obtain ⟨vs, h1, h2⟩ := ih (d + 1) (fun k c' hk => by have := h (k + 1) c' (by simpa using hk); simpa [Nat.add_assoc, Nat.add_comm 1 k] using this)
        refine ⟨u :: vs, ⟨hru, h1⟩, fun k x hx => ?_⟩
        cases k with
        | zero => simp at hx; subst hx; simpa using hu
        | succ k => have := h2 k x (by simpa using hx); simpa [Nat.add_assoc, Nat.add_comm 1 k] using this
    obtain ⟨vs, h1, h2⟩ := this r 0 (fun k c hk => by simpa using hc q r k c hr hk)
    exact ⟨vs, h1, fun k u hk => by simpa using h2 k u hk⟩
  obtain ⟨vs, h1, h2⟩ := hall
  exact ⟨p, vs, hp, hk.sz, h1, fun k u hk => by rw [cell_of_row w p.b _ _ _ _ hm]; exact h2 k u hk, fun k => frozen_of_row w p.b k _ _ hm⟩
theorem All2.drop {α β : Type} {r : α → β → Prop} : ∀ {l : List α} {m : List β} (n : Nat), All2 r l m → All2 r (l.drop n) (m.drop n)
  | [], [], n, _ => by simp [All2]
  | a :: l, b :: m, 0, h => h
  | a :: l, b :: m, n + 1, h => by simpa using All2.drop n h.2
  | [], _ :: _, _, hh => hh.elim
  | _ :: _, [], _, hh => hh.elim
theorem All2.take {α β : Type} {r : α → β → Prop} : ∀ {l : List α} {m : List β} (n : Nat), All2 r l m → All2 r (l.take n) (m.take n)
  | [], [], n, _ => by simp [All2]
  | a :: l, b :: m, 0, h => trivial
  | a :: l, b :: m, n + 1, h => ⟨h.1, All2.take n h.2⟩
  | [], _ :: _, _, hh => hh.elim
  | _ :: _, [], _, hh => hh.elim
def RT.ce (fl : Bool) : RT → Ce
  | .v x => .v x
  | .ro sz rows => .ro fl sz rows
theorem RT.ce_rel {I : IM} {R : RM} {fl : Bool} {t : RT} {u : Value} (h : Rd (R fl) t u) : (t.ce fl).rel I R u := by
  cases t with
  | v x => cases h; rfl
  | ro sz rows => exact h
/-- A whole variable: a struct or an array, or one cell. -/
def cut (r : Bool) (k sz : Nat) (row : List Ce) : Option A0 :=
  match r with
  | true => match Nat.ble (k + sz) row.length with
    | true => some (.agg ((row.drop k).take sz))
    | false => none
  | false => match row[k]? with
    | some c => some (.one c)
    | none => none
theorem load_run {w : World} {t : TypeId} {ti : TI} (ht : tiOf P t = some ti) {I : IM} {R : RM} {row : List Ce} {vs : List Value} (hv : All2 (Ce.rel I R) row vs) {b off k : Nat} (hc : ∀ j u, vs[j]? = some u → w.cell? ⟨b, off + j, none⟩ = some u) {x : A0} (hx : cut ti.row k ti.size row = some x) :
    ∃ u, (Instr.loadAt t (.pointer (some ⟨b, off + k, none⟩))).run P w = .ok u w ∧ x.rel I R u := by
  obtain ⟨d, inf, z, hu, hinf, _, hr, hs, _⟩ := tiOf_load ht
  unfold cut at hx
  cases hrow : ti.row with
  | true =>
    rw [hrow] at hx hr
    simp only at hx
    split at hx
    · rename_i hle
      simp only [Option.some.injEq] at hx
      subst hx
      have hle' : k + ti.size ≤ row.length := by simpa [Nat.ble_eq] using hle
      have hlen := hv.length
      refine ⟨.agg ((vs.drop k).take ti.size).toArray, run_loadAt_mid (P := P) w b (off + k) t ((vs.drop k).take ti.size) d (fun j v hj => ?_) hu hr (by rw [hinf, Option.map_some, hs]; congr 1; simp; omega), _, rfl, (hv.drop k).take ti.size⟩
      rw [List.getElem?_take] at hj
      split at hj
      · rw [List.getElem?_drop] at hj
        rw [Nat.add_assoc]; exact hc _ _ hj
      · cases hj
    · cases hx
  | false =>
    rw [hrow] at hx hr
    simp only at hx
    split at hx
    · rename_i c hcc
      simp only [Option.some.injEq] at hx
      subst hx
      obtain ⟨u, h1, h2⟩ := hv.get hcc
      have hcell := hc _ _ h1
      have hagg : (isAgg t).run P w = .ok false w := by
        unfold isAgg
        rw [Sem.run_bind, run_underlying hu w]
        cases d <;> simp_all
      refine ⟨u, ?_, h2⟩
      simp only [Instr.loadAt, Instr.sureAddr, Sem.run_bind, Sem.run_pure, Result.andThen_ok]
      simp [loadVar, hagg, hcell]
    · cases hx
theorem y_load (t : TypeId) (x : Operand) (ho : o.op = .load t x) (ti : TI) (ht : tiOf P t = some ti) (i q k : Nat) (hx : evf F0 x = some (.c (.own i q k))) (b : Blk) (hb : K0 i = some b) (row : List Ce) (hr : b.rows[q]? = some row) (v : A0) (hv : cut ti.row k ti.size row = some v) :
    Yv P o F0 K0 [i] (.pl v) := by
  intro n W F K I R a w hs hxx hk
  obtain ⟨p, hp, hu⟩ := hs.ev ((hxx x (by simp [ho, Op.operands])).trans hx)
  obtain ⟨p', vs, hp', hsz, h1, h2, _⟩ := hs.row ((hk i (by simp)).trans hb) hr
  rw [hp] at hp'; cases hp'
  obtain ⟨u, h3, h4⟩ := load_run ht h1 (b := p.b) (off := q * p.sz) h2 hv
  refine ⟨u, ?_, h4⟩
  simp only [execOp, ho, hu]
  rw [Sem.run_bind, h3]
  rfl
theorem y_loadr (t : TypeId) (x : Operand) (ho : o.op = .load t x) (ti : TI) (ht : tiOf P t = some ti) (fl : Bool) (row : List RT) (k : Nat) (hx : evf F0 x = some (.c (.rp fl row k))) (v : A0) (hv : cut ti.row k ti.size (row.map (RT.ce fl)) = some v) :
    Yv P o F0 K0 [] (.pl v) := by
  intro n W F K I R a w hs hxx hk
  obtain ⟨b, off, hu, hh⟩ := hs.ev ((hxx x (by simp [ho, Op.operands])).trans hx)
  obtain ⟨vs, h1, h2⟩ : ∃ vs : List Value, All2 (Ce.rel I R) (row.map (RT.ce fl)) vs ∧ ∀ j u, vs[j]? = some u → w.cell? ⟨b, off + j, none⟩ = some u := by
    have : ∀ (r : List RT) (d : Nat), (∀ j t, r[j]? = some t → ∃ x, R fl b (off + (d + j)) = some x ∧ Rd (R fl) t x) → ∃ vs : List Value, All2 (Ce.rel I R) (r.map (RT.ce fl)) vs ∧ ∀ j u, vs[j]? = some u → w.cell? ⟨b, off + (d + j), none⟩ = some u := by
      intro r
      induction r with
      | nil => intro d _; exact ⟨[], trivial, fun k u h => by simp at h⟩
      | cons c r ih =>
        intro d h
        obtain ⟨u, hu, hru⟩ := h 0 c rfl
        obtain ⟨vs, h1, h2⟩ := ih (d + 1) (fun k c' hk => by have := h (k + 1) c' (by simpa using hk); simpa [Nat.add_assoc, Nat.add_comm 1 k] using this)
        refine ⟨u :: vs, ⟨RT.ce_rel hru, h1⟩, fun k x hx => ?_⟩
        cases k with
        | zero => simp at hx; subst hx; simpa using hs.wd.ro _ _ _ _ hu
        | succ k => have := h2 k x (by simpa using hx); simpa [Nat.add_assoc, Nat.add_comm 1 k] using this
    obtain ⟨vs, h1, h2⟩ := this row 0 (fun j t hj => by simpa using hh j t hj)
    exact ⟨vs, h1, fun j u hj => by simpa using h2 j u hj⟩
  obtain ⟨u, h3, h4⟩ := load_run ht h1 (b := b) (off := off) h2 hv
  refine ⟨u, ?_, h4⟩
  simp only [execOp, ho, hu]
  rw [Sem.run_bind, h3]
  rfl
end
end Go.Proofs.Ytllnmdmmmkoiaaa.Wx
