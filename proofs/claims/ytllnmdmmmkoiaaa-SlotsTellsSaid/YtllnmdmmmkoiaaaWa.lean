/-
  A walk by computation: what is known of a frame and of memory, as data (slots, the call's own blocks as rows of cells, slices that are only read as trees), and what it says of a world.
-/
import Derived.Orders
import Derived.Below
import Derived.Tactics
import Derived.KernelRfl
import Derived.WalkKit
import Derived.OneCell
import Derived.Deep.MidRow
import Derived.Deep.LoopGhost
import Derived.Laws.AppendOwn
namespace Go.Proofs.Ytllnmdmmmkoiaaa.Wx
open Go Go.RowKit
set_option linter.unusedVariables false

/-- A value that is only read: plain, or a slice by its rows of cells. -/
inductive RT where
  | v (x : Value)
  | ro (sz : Nat) (rows : List (List RT))
inductive Pa where
  | v (x : Value)
  | own (i q k : Nat)
/-- What a function has caught. -/
inductive Pt where
  | v (x : Value)
  | own (i q k : Nat)
  | ag (l : List Pa)
/-- One cell (gsl: a slice that grows: nil, while it has no rows; then the own block i): plain; a pointer into row q, cell k of the own block i; a slice of n rows of it from row q on; a function with what it caught; a slice that is only read; a pointer into a row of such a one. -/
inductive Ce where
  | v (x : Value)
  | own (i q k : Nat)
  | osl (i q n : Nat) (c : Option Nat)
  | fn (f : FuncId) (cap : List Pt)
  | ro (fl : Bool) (sz : Nat) (rows : List (List RT))
  | rp (fl : Bool) (row : List RT) (k : Nat)
  | gsl (i : Nat) (rows : List (List Ce))
  | mpv (i : Nat)
  | yl (i : Nat)
  | mf (f : FuncId) (fst : List Pt)
inductive A0 where
  | one (c : Ce)
  | agg (cs : List Ce)
inductive AV where
  | pl (a : A0)
  | tup (l : List A0)
abbrev AV.c (c : Ce) : AV := .pl (.one c)
abbrev AV.val (x : Value) : AV := .pl (.one (.v x))

/-- Where an own block lies: the block, the cells of a row, the rows that it has room for. -/
structure Loc where
  b : Nat
  sz : Nat
  tot : Nat
abbrev IM := Nat → Option Loc
/-- What is known of memory that nobody writes; at 'true': of what was made since the call began. -/
abbrev RM := Bool → Nat → Nat → Option Value

def All2 {α β : Type} (r : α → β → Prop) : List α → List β → Prop
  | [], [] => True
  | a :: l, b :: m => r a b ∧ All2 r l m
  | _, _ => False
theorem All2.mono {α β : Type} {r s : α → β → Prop} (h : ∀ a b, r a b → s a b) : ∀ {l : List α} {m : List β}, All2 r l m → All2 s l m
  | [], [], _ => trivial
  | a :: l, b :: m, hh => ⟨h _ _ hh.1, All2.mono h hh.2⟩
  | [], _ :: _, hh => hh.elim
  | _ :: _, [], hh => hh.elim
theorem All2.length {α β : Type} {r : α → β → Prop} : ∀ {l : List α} {m : List β}, All2 r l m → l.length = m.length
  | [], [], _ => rfl
  | a :: l, b :: m, hh => by simp [All2.length hh.2]
  | [], _ :: _, hh => hh.elim
  | _ :: _, [], hh => hh.elim
theorem All2.get {α β : Type} {r : α → β → Prop} : ∀ {l : List α} {m : List β} {i : Nat} {a : α}, All2 r l m → l[i]? = some a → ∃ b, m[i]? = some b ∧ r a b
  | [], [], i, a, _, h => by simp at h
  | x :: l, y :: m, 0, a, hh, h => by simp at h; subst h; exact ⟨y, rfl, hh.1⟩
  | x :: l, y :: m, i + 1, a, hh, h => by simpa using All2.get (i := i) hh.2 (by simpa using h)
  | [], _ :: _, _, _, hh, _ => hh.elim
  | _ :: _, [], _, _, hh, _ => hh.elim
theorem All2.of_get {α β : Type} {r : α → β → Prop} : ∀ {l : List α} {m : List β}, l.length = m.length → (∀ (i : Nat) (a : α) (b : β), l[i]? = some a → m[i]? = some b → r a b) → All2 r l m
  | [], [], _, _ => trivial
  | x :: l, y :: m, hl, h => ⟨h 0 x y rfl rfl, All2.of_get (by simpa using hl) fun i a b h1 h2 => h (i + 1) a b (by simpa using h1) (by simpa using h2)⟩
  | [], _ :: _, hl, _ => by simp at hl
  | _ :: _, [], hl, _ => by simp at hl
theorem All2.mem {α β : Type} {r : α → β → Prop} : ∀ {l : List α} {m : List β} {b : β}, All2 r l m → b ∈ m → ∃ a ∈ l, r a b
  | [], [], b, _, h => by simp at h
  | x :: l, y :: m, b, hh, h => by
    rcases List.mem_cons.1 h with rfl | h
    · exact ⟨x, List.mem_cons_self, hh.1⟩
    · obtain ⟨a, ha, hr⟩ := All2.mem hh.2 h; exact ⟨a, List.mem_cons_of_mem _ ha, hr⟩
  | [], _ :: _, _, hh, _ => hh.elim
  | _ :: _, [], _, hh, _ => hh.elim
theorem All2.map {α β γ : Type} {r : γ → β → Prop} (f : α → γ) : ∀ {l : List α} {m : List β}, All2 (fun a b => r (f a) b) l m → All2 r (l.map f) m
  | [], [], _ => trivial
  | a :: l, b :: m, hh => ⟨hh.1, All2.map f hh.2⟩
  | [], _ :: _, hh => hh.elim
  | _ :: _, [], hh => hh.elim
theorem All2.append {α β : Type} {r : α → β → Prop} : ∀ {l : List α} {m : List β} {l' : List α} {m' : List β}, All2 r l m → All2 r l' m' → All2 r (l ++ l') (m ++ m')
  | [], [], _, _, _, h => h
  | a :: l, b :: m, _, _, hh, h => ⟨hh.1, All2.append hh.2 h⟩
  | [], _ :: _, _, _, hh, _ => hh.elim
  | _ :: _, [], _, _, hh, _ => hh.elim

/-- A read-only tree, told by known cells. -/
inductive Rd (R : Nat → Nat → Option Value) : RT → Value → Prop
  | v (x : Value) : Rd R (.v x) x
  | nil (sz : Nat) : Rd R (.ro sz []) (.slice none 0 0)
  | emp (sz : Nat) (ad : Addr) (cap : Nat) : Rd R (.ro sz []) (.slice (some ad) 0 cap)
  | ro (sz : Nat) (rows : List (List RT)) (b o cap : Nat) (val : Nat → Nat → Value) (hl : ∀ row ∈ rows, row.length = sz) (hcap : rows.length ≤ cap)
      (hc : ∀ q row k t, rows[q]? = some row → row[k]? = some t → R b (o + q * sz + k) = some (val q k))
      (hr : ∀ q row k t, rows[q]? = some row → row[k]? = some t → Rd R t (val q k)) : Rd R (.ro sz rows) (.slice (some ⟨b, o, none⟩) rows.length cap)
theorem Rd.mono {R R' : Nat → Nat → Option Value} (h : ∀ b o u, R b o = some u → R' b o = some u) {t : RT} {x : Value} (hh : Rd R t x) : Rd R' t x := by
  induction hh with
  | v x => exact .v x
  | nil sz => exact .nil sz
  | emp sz ad cap => exact .emp sz ad cap
  | ro sz rows b o cap val hl hcap hc hr ih => exact .ro sz rows b o cap val hl hcap (fun q row k t h1 h2 => h _ _ _ (hc q row k t h1 h2)) ih

def Pa.rel (I : IM) : Pa → Value → Prop
  | .v x, u => u = x
  | .own i q k, u => ∃ p, I i = some p ∧ u = .pointer (some ⟨p.b, q * p.sz + k, none⟩)
def Pt.rel (I : IM) : Pt → Value → Prop
  | .ag l, u => ∃ vs, u = .agg vs.toArray ∧ All2 (Pa.rel I) l vs
  | .v x, u => u = x
  | .own i q k, u => ∃ p, I i = some p ∧ u = .pointer (some ⟨p.b, q * p.sz + k, none⟩)
def Ce.rel (I : IM) (R : RM) : Ce → Value → Prop
  | .v x, u => u = x
  | .own i q k, u => ∃ p, I i = some p ∧ u = .pointer (some ⟨p.b, q * p.sz + k, none⟩)
  | .osl i q n c, u => ∃ p c', I i = some p ∧ u = .slice (some ⟨p.b, q * p.sz, none⟩) n c' ∧ n ≤ c' ∧ q + c' ≤ p.tot ∧ ∀ c0, c = some c0 → c' = c0
  | .fn f cap, u => ∃ vs, All2 (Pt.rel I) cap vs ∧ u = .func (.func f) #[] vs.toArray
  | .ro fl sz rows, u => Rd (R fl) (.ro sz rows) u
  | .rp fl row k, u => ∃ b o, u = .pointer (some ⟨b, o + k, none⟩) ∧ ∀ j t, row[j]? = some t → ∃ x, R fl b (o + j) = some x ∧ Rd (R fl) t x
  | .gsl i rows, u => (rows = [] ∧ u = .slice none 0 0) ∨ (rows ≠ [] ∧ ∃ p c', I i = some p ∧ u = .slice (some ⟨p.b, 0, none⟩) rows.length c' ∧ rows.length ≤ c' ∧ c' ≤ p.tot)
  | .mpv i, u => ∃ p, I i = some p ∧ u = .map (some p.b)
  | .yl i, u => ∃ p, I i = some p ∧ u = .func (.yield p.b) #[] #[]
  | .mf f l, u => ∃ vs, All2 (Pt.rel I) l vs ∧ u = .func (.func f) vs.toArray #[]
def A0.rel (I : IM) (R : RM) : A0 → Value → Prop
  | .one c, u => c.rel I R u
  | .agg cs, u => ∃ vs, u = .agg vs.toArray ∧ All2 (Ce.rel I R) cs vs
def AV.rel (I : IM) (R : RM) : AV → Value → Prop
  | .pl a, u => a.rel I R u
  | .tup l, u => ∃ vs, u = .tuple vs.toArray ∧ All2 (A0.rel I R) l vs

def IExt (I I' : IM) : Prop := ∀ i p, I i = some p → I' i = some p
def RExt (R R' : RM) : Prop := ∀ f b o u, R f b o = some u → R' f b o = some u
theorem IExt.refl (I : IM) : IExt I I := fun _ _ h => h
theorem RExt.refl (R : RM) : RExt R R := fun _ _ _ _ h => h
theorem IExt.trans {I J K : IM} (h : IExt I J) (k : IExt J K) : IExt I K := fun i p hp => k i p (h i p hp)
theorem RExt.trans {I J K : RM} (h : RExt I J) (k : RExt J K) : RExt I K := fun f b o u hp => k f b o u (h f b o u hp)
section
variable {I I' : IM} {R R' : RM} (hI : IExt I I') (hR : RExt R R')
include hI in
theorem Pa.mono {p : Pa} {u : Value} (h : p.rel I u) : p.rel I' u := by
  cases p with
  | v x => exact h
  | own i q k => obtain ⟨l, hl, hu⟩ := h; exact ⟨l, hI _ _ hl, hu⟩
include hI in
theorem Pt.mono {p : Pt} {u : Value} (h : p.rel I u) : p.rel I' u := by
  cases p with
  | v x => exact h
  | own i q k => obtain ⟨l, hl, hu⟩ := h; exact ⟨l, hI _ _ hl, hu⟩
  | ag l => obtain ⟨vs, h1, h2⟩ := h; exact ⟨vs, h1, h2.mono fun _ _ => Pa.mono hI⟩
include hI hR in
theorem Ce.mono {c : Ce} {u : Value} (h : c.rel I R u) : c.rel I' R' u := by
  cases c with
  | v x => exact h
  | own i q k => obtain ⟨l, hl, hu⟩ := h; exact ⟨l, hI _ _ hl, hu⟩
  | osl i q n c => obtain ⟨l, c', hl, hu⟩ := h; exact ⟨l, c', hI _ _ hl, hu⟩
  | fn f cap => obtain ⟨vs, h1, h2⟩ := h; exact ⟨vs, h1.mono fun _ _ => Pt.mono hI, h2⟩
  | ro fl sz rows => exact Rd.mono (hR fl) h
  | rp fl row k => obtain ⟨b, o, h1, h2⟩ := h; exact ⟨b, o, h1, fun j t ht => let ⟨x, h3, h4⟩ := h2 j t ht; ⟨x, hR _ _ _ _ h3, h4.mono (hR fl)⟩⟩
  | gsl i rows =>
    rcases h with h | ⟨h0, p, c', hp, h⟩
    · exact .inl h
    · exact .inr ⟨h0, p, c', hI _ _ hp, h⟩
  | mpv i => obtain ⟨p, hp, h⟩ := h; exact ⟨p, hI _ _ hp, h⟩
  | yl i => obtain ⟨p, hp, h⟩ := h; exact ⟨p, hI _ _ hp, h⟩
  | mf f l => obtain ⟨vs, h1, h2⟩ := h; exact ⟨vs, h1.mono fun _ _ => Pt.mono hI, h2⟩
include hI hR in
theorem A0.mono {c : A0} {u : Value} (h : c.rel I R u) : c.rel I' R' u := by
  cases c with
  | one c => exact Ce.mono hI hR h
  | agg cs => obtain ⟨vs, h1, h2⟩ := h; exact ⟨vs, h1, h2.mono fun _ _ => Ce.mono hI hR⟩
include hI hR in
theorem AV.mono {c : AV} {u : Value} (h : c.rel I R u) : c.rel I' R' u := by
  cases c with
  | pl c => exact A0.mono hI hR h
  | tup cs => obtain ⟨vs, h1, h2⟩ := h; exact ⟨vs, h1, h2.mono fun _ _ => A0.mono hI hR⟩
end

/-- A block of the call's own: the rows that are known, from the first on; the cells of a row; the type. -/
structure Blk where
  rows : List (List Ce)
  sz : Nat
  ty : TypeId
  bx : Bool := false
structure Bk (I : IM) (R : RM) (b : Blk) (p : Loc) (w : World) : Prop where
  sz : p.sz = b.sz
  fit : b.rows.length ≤ p.tot
  few : p.tot ≤ maxLen
  row : ∀ r ∈ b.rows, r.length = b.sz
  mem : ∃ cs : Array Value, w.heap[p.b]? = some (.cells cs b.ty (0, 0)) ∧ cs.size = p.tot * p.sz ∧
    ∀ q r k c, b.rows[q]? = some r → r[k]? = some c → ∃ u, cs[q * p.sz + k]? = some u ∧ c.rel I R u
theorem Bk.lt {I : IM} {R : RM} {b : Blk} {p : Loc} {w : World} (h : Bk I R b p w) : p.b < w.heap.size := by
  obtain ⟨cs, h, _⟩ := h.mem
  exact lt_of_block h
abbrev Fr := List (Nat × AV)
abbrev Kr := List (Nat × Option Blk)
def get : Fr → Nat → Option AV
  | [], _ => none
  | (k, x) :: F, t => match Nat.beq k t with
    | true => some x
    | false => get F t
def kg : Kr → Nat → Option Blk
  | [], _ => none
  | (k, x) :: F, t => match Nat.beq k t with
    | true => x
    | false => kg F t
def fput (F : Nat → Option AV) (d : Option Nat) (x : AV) : Nat → Option AV :=
  match d with
  | none => F
  | some d => fun t => if t = d then some x else F t
def put (F : Fr) (d : Option Nat) (x : AV) : Fr :=
  match d with
  | none => F
  | some d => (d, x) :: F
def kup (K : Nat → Option Blk) : Kr → Nat → Option Blk
  | [] => K
  | (i, b) :: r => fun t => if t = i then b else kup K r t
theorem get_put (F : Fr) (d : Option Nat) (x : AV) : get (put F d x) = fput (get F) d x := by
  cases d with
  | none => rfl
  | some d =>
    funext t
    simp only [put, get, fput]
    by_cases h : t = d
    · subst h; simp
    · have : Nat.beq d t = false := by rcases hb : Nat.beq d t with _ | _; · rfl
                                       · exact absurd (Nat.eq_of_beq_eq_true hb).symm h
      simp [h, this]
theorem kg_append (K r : Kr) : kg (r ++ K) = kup (kg K) r := by
  induction r with
  | nil => rfl
  | cons p r ih =>
    obtain ⟨i, b⟩ := p
    funext t
    simp only [List.cons_append, kg, kup, ih]
    by_cases h : t = i
    · subst h; simp
    · have : Nat.beq i t = false := by rcases hb : Nat.beq i t with _ | _; · rfl
                                       · exact absurd (Nat.eq_of_beq_eq_true hb).symm h
      simp [h, this]
def evf (F : Nat → Option AV) : Operand → Option AV
  | .tmp t => F t
  | .const v => some (.val v)
  | .func f => some (.c (.fn f []))
  | .global _ => none

/-- The world that a call began in, and the blocks of it that the call does not touch (q: those that others write). -/
structure Wo where
  w : World
  z : Nat → Prop
  q : Nat → Prop
abbrev Wo.heap (W : Wo) : Array Obj := W.w.heap
/-- All that was there. -/
def Wo.of (w : World) : Wo := ⟨w, fun k => k < w.heap.size, fun _ => False⟩
structure BelowZ (W : Wo) (w : World) : Prop where
  os : w.os = W.w.os
  tape : w.tape = W.w.tape
  output : w.output = W.w.output
  size : W.heap.size ≤ w.heap.size
  block : ∀ k, W.z k → k < W.heap.size ∧ w.heap[k]? = W.heap[k]?
theorem BelowZ.lt {W : Wo} {w : World} (h : BelowZ W w) {k : Nat} (hk : W.z k) : k < w.heap.size := Nat.lt_of_lt_of_le (h.block k hk).1 h.size
theorem BelowZ.trans {W : Wo} {w w' : World} (h : BelowZ W w) (k : Below w.heap.size w w') : BelowZ W w' :=
  ⟨k.os.trans h.os, k.tape.trans h.tape, k.output.trans h.output, Nat.le_trans h.size k.size, fun i hi => ⟨(h.block i hi).1, (k.block i (h.lt hi)).trans (h.block i hi).2⟩⟩
theorem BelowZ.new {W : Wo} {w : World} (h : BelowZ W w) {k : Nat} (hk : w.heap.size ≤ k) : ¬ W.z k := fun hz => absurd (h.lt hz) (by omega)
theorem BelowZ.below {w w' : World} (h : BelowZ (Wo.of w) w') : Below w.heap.size w w' := ⟨h.os, h.tape, h.output, h.size, fun k hk => (h.block k hk).2⟩
theorem BelowZ.refl (w : World) : BelowZ (Wo.of w) w := ⟨rfl, rfl, rfl, Nat.le_refl _, fun k hk => ⟨hk, rfl⟩⟩
/-- What is known of a world since the world W. -/
structure Wd (W : Wo) (K : Nat → Option Blk) (I : IM) (R : RM) (w : World) : Prop where
  blk : ∀ i b, K i = some b → ∃ p, I i = some p ∧ Bk I R b p w
  inj : ∀ i j bi bj p q, K i = some bi → K j = some bj → I i = some p → I j = some q → p.b = q.b → i = j
  base : ∀ i b p, K i = some b → I i = some p → ¬ W.z p.b
  ro : ∀ f b o u, R f b o = some u → w.cell? ⟨b, o, none⟩ = some u
  apart : ∀ i b p f o, K i = some b → I i = some p → R f p.b o = none
  fresh : ∀ b o u, R true b o = some u → ¬ W.z b
  less : ∀ b o u, R true b o = some u → R false b o = some u
  below : BelowZ W w
  out : ∀ f b o u, R f b o = some u → ¬ W.q b
  qz : ∀ k, W.q k → W.z k
structure St (n : Nat) (W : Wo) (F : Nat → Option AV) (K : Nat → Option Blk) (I : IM) (R : RM) (a : Act) (w : World) : Prop where
  size : a.tmps.size = n
  defers : a.defers = []
  fr : ∀ t x, F t = some x → x.rel I R (a.eval (.tmp t))
  wd : Wd W K I R w

section
variable {P : Program} {n : Nat} {W : Wo} {F : Nat → Option AV} {K : Nat → Option Blk} {I I' : IM} {R R' : RM} {a : Act} {w w' : World}
theorem St.ev (h : St n W F K I R a w) {x : Operand} {v : AV} (hx : evf F x = some v) : v.rel I R (a.eval x) := by
  cases x with
  | tmp t => exact h.fr t v hx
  | const c => simp only [evf, Option.some.injEq] at hx; subst hx; rfl
  | func f => simp only [evf, Option.some.injEq] at hx; subst hx; exact ⟨[], trivial, rfl⟩
  | global g => simp [evf] at hx
theorem Bk.mono (hI : IExt I I') (hR : RExt R R') {b : Blk} {p : Loc} (h : Bk I R b p w) (hw : w'.heap[p.b]? = w.heap[p.b]?) : Bk I' R' b p w' := by
  obtain ⟨h1, h2, h2', h3, cs, h4, h5, h6⟩ := h
  exact ⟨h1, h2, h2', h3, cs, hw.trans h4, h5, fun q r k c hq hk => let ⟨u, hu, hr⟩ := h6 q r k c hq hk; ⟨u, hu, Ce.mono hI hR hr⟩⟩
theorem Wd.lt (h : Wd W K I R w) {i : Nat} {b : Blk} {p : Loc} (hb : K i = some b) (hp : I i = some p) : p.b < w.heap.size := by
  obtain ⟨p', hp', hk⟩ := h.blk i b hb
  rw [hp] at hp'
  cases hp'
  exact hk.lt
theorem Wd.grow (h : Wd W K I R w) (hb : Below w.heap.size w w') : Wd W K I R w' :=
  { h with
    blk := fun i b hi => let ⟨p, hp, hk⟩ := h.blk i b hi; ⟨p, hp, hk.mono (.refl _) (.refl _) (hb.block _ hk.lt)⟩
    ro := fun f b o u hu => (hb.cell (p := ⟨b, o, none⟩) (World.block_lt_of_cell? _ _ (h.ro f b o u hu))).trans (h.ro f b o u hu)
    below := h.below.trans hb }
theorem St.grow (h : St n W F K I R a w) (hb : Below w.heap.size w w') : St n W F K I R a w' := { h with wd := h.wd.grow hb }
def dstB (n : Nat) : Option Nat → Bool
  | none => true
  | some d => Nat.blt d n
theorem dstB_spec {d : Option Nat} (h : dstB n d = true) : ∀ t, d = some t → t < n := by
  rintro t rfl
  simpa [dstB, Nat.blt_eq] using h
/-- A slot is written, beside a change of what is known. -/
theorem St.put {K' : Nat → Option Blk} (h : St n W F K I R a w) (hI : IExt I I') (hR : RExt R R') (hw : Wd W K' I' R' w') {d : Option Nat} (hd : dstB n d = true) {x : AV} {u : Value} (hx : x.rel I' R' u) :
    St n W (fput F d x) K' I' R' (a.put d u) w' := by
  cases d with
  | none => exact ⟨h.size, h.defers, fun t y hy => AV.mono hI hR (h.fr t y hy), hw⟩
  | some d =>
    have hdn := dstB_spec hd d rfl
    refine ⟨by simpa [Act.put] using h.size, h.defers, ?_, hw⟩
    intro t y hy
    simp only [fput] at hy
    by_cases hdt : t = d
    · subst hdt
      simp only [if_true, Option.some.injEq] at hy
      subst hy
      have : (a.put (some t) u).eval (.tmp t) = u := by simp [Act.eval, Act.put, h.size, hdn]
      rw [this]; exact hx
    · rw [if_neg hdt] at hy
      rw [Act.eval_put (fun e he hx => by cases he; cases hx; exact hdt rfl)]
      exact AV.mono hI hR (h.fr t y hy)
theorem heap_push (w : World) (o : Obj) : (w.alloc o).heap[w.heap.size]? = some o := by
  show (w.heap.push o)[w.heap.size]? = _
  simp
/-- One more own block, at a name that is free; it may take the place of a block that dies. -/
def ext (I : IM) (j : Nat) (p : Loc) : IM := fun i => if i = j then some p else I i
theorem IExt.ext {j : Nat} {p : Loc} (h : I j = none) : IExt I (ext I j p) := fun i q hq => by
  unfold Wx.ext
  split
  · rename_i hi; subst hi; rw [h] at hq; cases hq
  · exact hq
/-- Own blocks change: those named in 'kw', each as told; the world changes at them alone. -/
theorem Wd.change (h : Wd W K I R w) {K' : Nat → Option Blk} (hI : IExt I I') (hbel : BelowZ W w')
    (hnew : ∀ i b, K' i = some b → (K i = some b ∧ (∀ p, I i = some p → w'.heap[p.b]? = w.heap[p.b]?)) ∨ (∃ p, I' i = some p ∧ Bk I' R b p w' ∧ ¬ W.z p.b ∧ ∀ f o, R f p.b o = none))
    (hro : ∀ f b o u, R f b o = some u → w'.heap[b]? = w.heap[b]?)
    (hinj : ∀ i j bi bj p q, K' i = some bi → K' j = some bj → I' i = some p → I' j = some q → p.b = q.b → i = j) : Wd W K' I' R w' := by
  refine ⟨?_, hinj, ?_, ?_, ?_, h.fresh, h.less, hbel, h.out, h.qz⟩
  · intro i b hi
    rcases hnew i b hi with ⟨h1, h2⟩ | ⟨p, h1, h2, _⟩
    · obtain ⟨p, hp, hk⟩ := h.blk i b h1
      exact ⟨p, hI _ _ hp, hk.mono hI (.refl _) (h2 p hp)⟩
    · exact ⟨p, h1, h2⟩
  · intro i b p hi hp
    rcases hnew i b hi with ⟨h1, h2⟩ | ⟨p', h1, h2, h3, _⟩
    · obtain ⟨p', hp', hk⟩ := h.blk i b h1
      have := hI _ _ hp'
      rw [hp] at this
      cases this
      exact h.base i b _ h1 hp'
    · rw [hp] at h1; cases h1; exact h3
  · intro f b o u hu
    have h0 := h.ro f b o u hu
    rw [← h0]
    exact World.cell?_of_block (w := w) (hro f b o u hu)
  · intro i b p f o hi hp
    rcases hnew i b hi with ⟨h1, h2⟩ | ⟨p', h1, h2, h3, h4⟩
    · obtain ⟨p', hp', hk⟩ := h.blk i b h1
      have := hI _ _ hp'
      rw [hp] at this
      cases this
      exact h.apart i b _ f o h1 hp'
    · rw [hp] at h1; cases h1; exact h4 f o
/-- A new own block. -/
theorem Wd.new (h : Wd W K I R w) {j : Nat} (hj : I j = none) (hk : K j = none) (b : Blk) (hrow : ∀ r ∈ b.rows, r.length = b.sz) (tot : Nat) (hfit : b.rows.length ≤ tot) (hfew : tot ≤ maxLen) {w' : World} {g : Nat} (hB : Below w.heap.size w w') (hg : w.heap.size ≤ g)
    (cs : Array Value) (hmem : w'.heap[g]? = some (.cells cs b.ty (0, 0))) (hsz : cs.size = tot * b.sz) (hcs : ∀ q r k c, b.rows[q]? = some r → r[k]? = some c → ∃ u, cs[q * b.sz + k]? = some u ∧ c.rel I R u) :
    Wd W (kup K [(j, some b)]) (ext I j ⟨g, b.sz, tot⟩) R w' := by
  have hI : IExt I (ext I j ⟨g, b.sz, tot⟩) := .ext hj
  refine h.change hI (h.below.trans hB) ?_ ?_ ?_
  · intro i b' hi
    simp only [kup] at hi
    by_cases hij : i = j
    · subst hij
      simp only [if_true, Option.some.injEq] at hi
      subst hi
      refine .inr ⟨⟨g, b.sz, tot⟩, by simp [Wx.ext], ⟨rfl, hfit, hfew, hrow, cs, hmem, hsz, fun q r k c h1 h2 => let ⟨u, hu, hr⟩ := hcs q r k c h1 h2; ⟨u, hu, Ce.mono hI (.refl _) hr⟩⟩, h.below.new hg, ?_⟩
      intro f o
      cases hR : R f g o with
      | none => rfl
      | some u =>
        have := World.block_lt_of_cell? _ _ (h.ro f g o u hR)
        simp only at this
        omega
    · rw [if_neg hij] at hi
      exact .inl ⟨hi, fun p hp => hB.block _ (h.lt hi hp)⟩
  · intro f b' o u hu
    exact hB.block _ (World.block_lt_of_cell? _ _ (h.ro f b' o u hu))
  · intro i i' bi bi' p q hi hi' hp hq he
    simp only [kup] at hi hi'
    simp only [Wx.ext] at hp hq
    by_cases h1 : i = j <;> by_cases h2 : i' = j
    · rw [h1, h2]
    · rw [if_pos h1] at hp; rw [if_neg h2] at hq hi'
      cases hp
      have := h.lt hi' hq
      simp only at he
      omega
    · rw [if_neg h1] at hp hi; rw [if_pos h2] at hq
      cases hq
      have := h.lt hi hp
      simp only at he
      omega
    · rw [if_neg h1] at hp hi; rw [if_neg h2] at hq hi'
      exact h.inj _ _ _ _ _ _ hi hi' hp hq he
theorem Wd.kill (h : Wd W K I R w) (j : Nat) : Wd W (kup K [(j, none)]) I R w := by
  refine h.change (.refl _) h.below ?_ (fun _ _ _ _ _ => rfl) ?_
  · intro i b hi
    simp only [kup] at hi
    split at hi
    · cases hi
    · exact .inl ⟨hi, fun _ _ => rfl⟩
  · intro i i' bi bi' p q hi hi' hp hq he
    simp only [kup] at hi hi'
    split at hi
    · cases hi
    · split at hi'
      · cases hi'
      · exact h.inj _ _ _ _ _ _ hi hi' hp hq he
end
end Go.Proofs.Ytllnmdmmmkoiaaa.Wx
