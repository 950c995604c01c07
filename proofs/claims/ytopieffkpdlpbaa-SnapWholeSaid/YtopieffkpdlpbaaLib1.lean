import Derived.Orders
import Derived.Below
import Derived.Tactics
import Derived.KernelRfl
import Derived.WalkKit
import Derived.OneCell
import Derived.Deep.MidRow
import Derived.Deep.LoopGhost
import Derived.Laws.AppendOwn
import Derived.Laws.StructEq
import Derived.Laws.CopyOwn
import Derived.Laws.MakeOwn
import Derived.IntWalk
import Derived.Laws.BytesArg
import Derived.Laws.Strings
set_option linter.unusedVariables false
set_option linter.unusedSimpArgs false
namespace Go.Proofs.Ytopieffkpdlpbaa.Wx
open Go Go.RowKit
inductive RT where
 | v (x : Value)
 | ro (sz : Nat) (rows : List (List RT))
inductive Pa where
 | v (x : Value)
 | own (i q k : Nat)
inductive Pt where
 | v (x : Value)
 | own (i q k : Nat)
 | ag (l : List Pa)
inductive Ce where
 | v (x : Value)
 | own (i q k : Nat)
 | osl (i q n : Nat) (c : Option Nat)
 | fn (f : FuncId) (cap : List Pt)
 | ro (fl : Bool) (sz : Nat) (rows : List (List RT))
 | rp (fl : Bool) (row : List RT) (k : Nat)
 | gsl (i : Nat) (rows : List (List Ce))
 | mpv (i : Nat)
 | yl (i : Nat)
 | mf (f : FuncId) (fst : List Pt)
inductive A0 where
 | one (c : Ce)
 | agg (cs : List Ce)
inductive AV where
 | pl (a : A0)
 | tup (l : List A0)
abbrev AV.c (c : Ce) : AV := .pl (.one c)
abbrev AV.val (x : Value) : AV := .pl (.one (.v x))
structure Loc where
 b : Nat
 sz : Nat
 tot : Nat
abbrev IM := Nat → Option Loc
abbrev RM := Bool → Nat → Nat → Option Value
def All2 {α β : Type} (r : α → β → Prop) : List α → List β → Prop
 | [], [] => True
 | a :: l, b :: m => r a b ∧ All2 r l m
 | _, _ => False
theorem All2.mono {α β : Type} {r s : α → β → Prop} (h : ∀ a b, r a b → s a b) : ∀ {l : List α} {m : List β}, All2 r l m → All2 s l m
 | [], [], _ => trivial
 | a :: l, b :: m, hh => ⟨h _ _ hh.1, All2.mono h hh.2⟩
 | [], _ :: _, hh => hh.elim
 | _ :: _, [], hh => hh.elim
theorem All2.length {α β : Type} {r : α → β → Prop} : ∀ {l : List α} {m : List β}, All2 r l m → l.length = m.length
 | [], [], _ => rfl
 | a :: l, b :: m, hh => by simp [All2.length hh.2]
 | [], _ :: _, hh => hh.elim
 | _ :: _, [], hh => hh.elim
theorem All2.get {α β : Type} {r : α → β → Prop} : ∀ {l : List α} {m : List β} {i : Nat} {a : α}, All2 r l m → l[i]? = some a → ∃ b, m[i]? = some b ∧ r a b
 | [], [], i, a, _, h => by simp at h
 | x :: l, y :: m, 0, a, hh, h => by simp at h; subst h; exact ⟨y, rfl, hh.1⟩
 | x :: l, y :: m, i + 1, a, hh, h => by simpa using All2.get (i := i) hh.2 (by simpa using h)
 | [], _ :: _, _, _, hh, _ => hh.elim
 | _ :: _, [], _, _, hh, _ => hh.elim
theorem All2.of_get {α β : Type} {r : α → β → Prop} : ∀ {l : List α} {m : List β}, l.length = m.length → (∀ (i : Nat) (a : α) (b : β), l[i]? = some a → m[i]? = some b → r a b) → All2 r l m
 | [], [], _, _ => trivial
 | x :: l, y :: m, hl, h => ⟨h 0 x y rfl rfl, All2.of_get (by simpa using hl) fun i a b h1 h2 => h (i + 1) a b (by simpa using h1) (by simpa using h2)⟩
 | [], _ :: _, hl, _ => by simp at hl
 | _ :: _, [], hl, _ => by simp at hl
theorem All2.mem {α β : Type} {r : α → β → Prop} : ∀ {l : List α} {m : List β} {b : β}, All2 r l m → b ∈ m → ∃ a ∈ l, r a b
 | [], [], b, _, h => by simp at h
 | x :: l, y :: m, b, hh, h => by
  rcases List.mem_cons.1 h with rfl | h
  ·exact ⟨x, List.mem_cons_self, hh.1⟩
  ·obtain ⟨a, ha, hr⟩ := All2.mem hh.2 h; exact ⟨a, List.mem_cons_of_mem _ ha, hr⟩
 | [], _ :: _, _, hh, _ => hh.elim
 | _ :: _, [], _, hh, _ => hh.elim
theorem All2.map {α β γ : Type} {r : γ → β → Prop} (f : α → γ) : ∀ {l : List α} {m : List β}, All2 (fun a b => r (f a) b) l m → All2 r (l.map f) m
 | [], [], _ => trivial
 | a :: l, b :: m, hh => ⟨hh.1, All2.map f hh.2⟩
 | [], _ :: _, hh => hh.elim
 | _ :: _, [], hh => hh.elim
theorem All2.append {α β : Type} {r : α → β → Prop} : ∀ {l : List α} {m : List β} {l' : List α} {m' : List β}, All2 r l m → All2 r l' m' → All2 r (l ++ l') (m ++ m')
 | [], [], _, _, _, h => h
 | a :: l, b :: m, _, _, hh, h => ⟨hh.1, All2.append hh.2 h⟩
 | [], _ :: _, _, _, hh, _ => hh.elim
 | _ :: _, [], _, _, hh, _ => hh.elim
inductive Rd (R : Nat → Nat → Option Value) : RT → Value → Prop
 | v (x : Value) : Rd R (.v x) x
 | nil (sz : Nat) : Rd R (.ro sz []) (.slice none 0 0)
 | emp (sz : Nat) (ad : Addr) (cap : Nat) : Rd R (.ro sz []) (.slice (some ad) 0 cap)
 | ro (sz : Nat) (rows : List (List RT)) (b o cap : Nat) (val : Nat → Nat → Value) (hl : ∀ row ∈ rows, row.length = sz) (hcap : rows.length ≤ cap)
   (hc : ∀ q row k t, rows[q]? = some row → row[k]? = some t → R b (o + q * sz + k) = some (val q k))
   (hr : ∀ q row k t, rows[q]? = some row → row[k]? = some t → Rd R t (val q k)) : Rd R (.ro sz rows) (.slice (some ⟨b, o, none⟩) rows.length cap)
theorem Rd.mono {R R' : Nat → Nat → Option Value} (h : ∀ b o u, R b o = some u → R' b o = some u) {t : RT} {x : Value} (hh : Rd R t x) : Rd R' t x := by
 induction hh with
 | v x => exact .v x
 | nil sz => exact .nil sz
 | emp sz ad cap => exact .emp sz ad cap
 | ro sz rows b o cap val hl hcap hc hr ih => exact .ro sz rows b o cap val hl hcap (fun q row k t h1 h2 => h _ _ _ (hc q row k t h1 h2)) ih
def Pa.rel (I : IM) : Pa → Value → Prop
 | .v x, u => u = x
 | .own i q k, u => ∃ p, I i = some p ∧ u = .pointer (some ⟨p.b, q * p.sz + k, none⟩)
def Pt.rel (I : IM) : Pt → Value → Prop
 | .ag l, u => ∃ vs, u = .agg vs.toArray ∧ All2 (Pa.rel I) l vs
 | .v x, u => u = x
 | .own i q k, u => ∃ p, I i = some p ∧ u = .pointer (some ⟨p.b, q * p.sz + k, none⟩)
def Ce.rel (I : IM) (R : RM) : Ce → Value → Prop
 | .v x, u => u = x
 | .own i q k, u => ∃ p, I i = some p ∧ u = .pointer (some ⟨p.b, q * p.sz + k, none⟩)
 | .osl i q n c, u => ∃ p c', I i = some p ∧ u = .slice (some ⟨p.b, q * p.sz, none⟩) n c' ∧ n ≤ c' ∧ q + c' ≤ p.tot ∧ ∀ c0, c = some c0 → c' = c0
 | .fn f cap, u => ∃ vs, All2 (Pt.rel I) cap vs ∧ u = .func (.func f) #[] vs.toArray
 | .ro fl sz rows, u => Rd (R fl) (.ro sz rows) u
 | .rp fl row k, u => ∃ b o, u = .pointer (some ⟨b, o + k, none⟩) ∧ ∀ j t, row[j]? = some t → ∃ x, R fl b (o + j) = some x ∧ Rd (R fl) t x
 | .gsl i rows, u => (rows = [] ∧ u = .slice none 0 0) ∨ (rows ≠ [] ∧ ∃ p c', I i = some p ∧ u = .slice (some ⟨p.b, 0, none⟩) rows.length c' ∧ rows.length ≤ c' ∧ c' ≤ p.tot)
 | .mpv i, u => ∃ p, I i = some p ∧ u = .map (some p.b)
 | .yl i, u => ∃ p, I i = some p ∧ u = .func (.yield p.b) #[] #[]
 | .mf f l, u => ∃ vs, All2 (Pt.rel I) l vs ∧ u = .func (.func f) vs.toArray #[]
def A0.rel (I : IM) (R : RM) : A0 → Value → Prop
 | .one c, u => c.rel I R u
 | .agg cs, u => ∃ vs, u = .agg vs.toArray ∧ All2 (Ce.rel I R) cs vs
def AV.rel (I : IM) (R : RM) : AV → Value → Prop
 | .pl a, u => a.rel I R u
 | .tup l, u => ∃ vs, u = .tuple vs.toArray ∧ All2 (A0.rel I R) l vs
def IExt (I I' : IM) : Prop := ∀ i p, I i = some p → I' i = some p
def RExt (R R' : RM) : Prop := ∀ f b o u, R f b o = some u → R' f b o = some u
theorem IExt.refl (I : IM) : IExt I I := fun _ _ h => h
theorem RExt.refl (R : RM) : RExt R R := fun _ _ _ _ h => h
theorem IExt.trans {I J K : IM} (h : IExt I J) (k : IExt J K) : IExt I K := fun i p hp => k i p (h i p hp)
theorem RExt.trans {I J K : RM} (h : RExt I J) (k : RExt J K) : RExt I K := fun f b o u hp => k f b o u (h f b o u hp)
section
variable {I I' : IM} {R R' : RM} (hI : IExt I I') (hR : RExt R R')
include hI in
theorem Pa.mono {p : Pa} {u : Value} (h : p.rel I u) : p.rel I' u := by
 cases p with
 | v x => exact h
 | own i q k => obtain ⟨l, hl, hu⟩ := h; exact ⟨l, hI _ _ hl, hu⟩
include hI in
theorem Pt.mono {p : Pt} {u : Value} (h : p.rel I u) : p.rel I' u := by
 cases p with
 | v x => exact h
 | own i q k => obtain ⟨l, hl, hu⟩ := h; exact ⟨l, hI _ _ hl, hu⟩
 | ag l => obtain ⟨vs, h1, h2⟩ := h; exact ⟨vs, h1, h2.mono fun _ _ => Pa.mono hI⟩
include hI hR in
theorem Ce.mono {c : Ce} {u : Value} (h : c.rel I R u) : c.rel I' R' u := by
 cases c with
 | v x => exact h
 | own i q k => obtain ⟨l, hl, hu⟩ := h; exact ⟨l, hI _ _ hl, hu⟩
 | osl i q n c => obtain ⟨l, c', hl, hu⟩ := h; exact ⟨l, c', hI _ _ hl, hu⟩
 | fn f cap => obtain ⟨vs, h1, h2⟩ := h; exact ⟨vs, h1.mono fun _ _ => Pt.mono hI, h2⟩
 | ro fl sz rows => exact Rd.mono (hR fl) h
 | rp fl row k => obtain ⟨b, o, h1, h2⟩ := h; exact ⟨b, o, h1, fun j t ht => let ⟨x, h3, h4⟩ := h2 j t ht; ⟨x, hR _ _ _ _ h3, h4.mono (hR fl)⟩⟩
 | gsl i rows =>
  rcases h with h | ⟨h0, p, c', hp, h⟩
  ·exact .inl h
  ·exact .inr ⟨h0, p, c', hI _ _ hp, h⟩
 | mpv i => obtain ⟨p, hp, h⟩ := h; exact ⟨p, hI _ _ hp, h⟩
 | yl i => obtain ⟨p, hp, h⟩ := h; exact ⟨p, hI _ _ hp, h⟩
 | mf f l => obtain ⟨vs, h1, h2⟩ := h; exact ⟨vs, h1.mono fun _ _ => Pt.mono hI, h2⟩
include hI hR in
theorem A0.mono {c : A0} {u : Value} (h : c.rel I R u) : c.rel I' R' u := by
 cases c with
 | one c => exact Ce.mono hI hR h
 | agg cs => obtain ⟨vs, h1, h2⟩ := h; exact ⟨vs, h1, h2.mono fun _ _ => Ce.mono hI hR⟩
include hI hR in
theorem AV.mono {c : AV} {u : Value} (h : c.rel I R u) : c.rel I' R' u := by
 cases c with
 | pl c => exact A0.mono hI hR h
 | tup cs => obtain ⟨vs, h1, h2⟩ := h; exact ⟨vs, h1, h2.mono fun _ _ => A0.mono hI hR⟩
end
structure Blk where
 rows : List (List Ce)
 sz : Nat
 ty : TypeId
 bx : Bool := false
structure Bk (I : IM) (R : RM) (b : Blk) (p : Loc) (w : World) : Prop where
 sz : p.sz = b.sz
 fit : b.rows.length ≤ p.tot
 few : p.tot ≤ maxLen
 row : ∀ r ∈ b.rows, r.length = b.sz
 mem : ∃ cs : Array Value, w.heap[p.b]? = some (.cells cs b.ty (0, 0)) ∧ cs.size = p.tot * p.sz ∧
  ∀ q r k c, b.rows[q]? = some r → r[k]? = some c → ∃ u, cs[q * p.sz + k]? = some u ∧ c.rel I R u
theorem Bk.lt {I : IM} {R : RM} {b : Blk} {p : Loc} {w : World} (h : Bk I R b p w) : p.b < w.heap.size := by
 obtain ⟨cs, h, _⟩ := h.mem
 exact lt_of_block h
abbrev Fr := List (Nat × AV)
abbrev Kr := List (Nat × Option Blk)
def get : Fr → Nat → Option AV
 | [], _ => none
 | (k, x) :: F, t => match Nat.beq k t with
  | true => some x
  | false => get F t
def kg : Kr → Nat → Option Blk
 | [], _ => none
 | (k, x) :: F, t => match Nat.beq k t with
  | true => x
  | false => kg F t
def fput (F : Nat → Option AV) (d : Option Nat) (x : AV) : Nat → Option AV :=
 match d with
 | none => F
 | some d => fun t => if t = d then some x else F t
def put (F : Fr) (d : Option Nat) (x : AV) : Fr :=
 match d with
 | none => F
 | some d => (d, x) :: F
def kup (K : Nat → Option Blk) : Kr → Nat → Option Blk
 | [] => K
 | (i, b) :: r => fun t => if t = i then b else kup K r t
theorem get_put (F : Fr) (d : Option Nat) (x : AV) : get (put F d x) = fput (get F) d x := by
 cases d with
 | none => rfl
 | some d =>
  funext t
  simp only [put, get, fput]
  by_cases h : t = d
  ·subst h; simp
  ·have : Nat.beq d t = false := by rcases hb : Nat.beq d t with _ | _; · rfl
                                    · exact absurd (Nat.eq_of_beq_eq_true hb).symm h
   simp [h, this]
theorem kg_append (K r : Kr) : kg (r ++ K) = kup (kg K) r := by
 induction r with
 | nil => rfl
 | cons p r ih =>
  obtain ⟨i, b⟩ := p
  funext t
  simp only [List.cons_append, kg, kup, ih]
  by_cases h : t = i
  ·subst h; simp
  ·have : Nat.beq i t = false := by rcases hb : Nat.beq i t with _ | _; · rfl
                                    · exact absurd (Nat.eq_of_beq_eq_true hb).symm h
   simp [h, this]
def evf (F : Nat → Option AV) : Operand → Option AV
 | .tmp t => F t
 | .const v => some (.val v)
 | .func f => some (.c (.fn f []))
 | .global _ => none
structure Bel (B : Nat) (w w' : World) : Prop extends Below B w w' where
 drawn : w.drawn ≤ w'.drawn
theorem Bel.refl (B : Nat) (w : World) : Bel B w w := ⟨.refl B w, Nat.le_refl _⟩
theorem Bel.drew {B : Nat} {a w : World} (h : Bel B a w) : Bel B a w.drew := ⟨h.toBelow.drew, Nat.le_succ_of_le h.drawn⟩
theorem Bel.alloc {B : Nat} {a w : World} (h : Bel B a w) (hB : B ≤ w.heap.size) (o : Obj) : Bel B a (w.alloc o) := ⟨h.toBelow.alloc hB o, h.drawn⟩
theorem Bel.setCell {B : Nat} {a w : World} (h : Bel B a w) {p : Addr} (hp : B ≤ p.block) (u : Value) : Bel B a (w.setCell p u) := ⟨h.toBelow.setCell hp u, h.drawn⟩
structure Wo where
 w : World
 z : Nat → Prop
 q : Nat → Prop
abbrev Wo.heap (W : Wo) : Array Obj := W.w.heap
def Wo.of (w : World) : Wo := ⟨w, fun k => k < w.heap.size, fun _ => False⟩
structure BelowZ (W : Wo) (w : World) : Prop where
 os : w.os = W.w.os
 tape : w.tape = W.w.tape
 output : w.output = W.w.output
 size : W.heap.size ≤ w.heap.size
 block : ∀ k, W.z k → k < W.heap.size ∧ w.heap[k]? = W.heap[k]?
 drawn : W.w.drawn ≤ w.drawn
theorem BelowZ.lt {W : Wo} {w : World} (h : BelowZ W w) {k : Nat} (hk : W.z k) : k < w.heap.size := Nat.lt_of_lt_of_le (h.block k hk).1 h.size
theorem BelowZ.trans {W : Wo} {w w' : World} (h : BelowZ W w) (k : Bel w.heap.size w w') : BelowZ W w' :=
 ⟨k.os.trans h.os, k.tape.trans h.tape, k.output.trans h.output, Nat.le_trans h.size k.size, fun i hi => ⟨(h.block i hi).1, (k.block i (h.lt hi)).trans (h.block i hi).2⟩, Nat.le_trans h.drawn k.drawn⟩
theorem BelowZ.new {W : Wo} {w : World} (h : BelowZ W w) {k : Nat} (hk : w.heap.size ≤ k) : ¬ W.z k := fun hz => absurd (h.lt hz) (by omega)
theorem BelowZ.below {w w' : World} (h : BelowZ (Wo.of w) w') : Bel w.heap.size w w' := ⟨⟨h.os, h.tape, h.output, h.size, fun k hk => (h.block k hk).2⟩, h.drawn⟩
theorem BelowZ.refl (w : World) : BelowZ (Wo.of w) w := ⟨rfl, rfl, rfl, Nat.le_refl _, fun k hk => ⟨hk, rfl⟩, Nat.le_refl _⟩
structure Wd (W : Wo) (K : Nat → Option Blk) (I : IM) (R : RM) (w : World) : Prop where
 blk : ∀ i b, K i = some b → ∃ p, I i = some p ∧ Bk I R b p w
 inj : ∀ i j bi bj p q, K i = some bi → K j = some bj → I i = some p → I j = some q → p.b = q.b → i = j
 base : ∀ i b p, K i = some b → I i = some p → ¬ W.z p.b
 ro : ∀ f b o u, R f b o = some u → w.cell? ⟨b, o, none⟩ = some u
 apart : ∀ i b p f o, K i = some b → I i = some p → R f p.b o = none
 fresh : ∀ b o u, R true b o = some u → ¬ W.z b
 less : ∀ b o u, R true b o = some u → R false b o = some u
 below : BelowZ W w
 out : ∀ f b o u, R f b o = some u → ¬ W.q b
 qz : ∀ k, W.q k → W.z k
structure St (n : Nat) (W : Wo) (F : Nat → Option AV) (K : Nat → Option Blk) (I : IM) (R : RM) (a : Act) (w : World) : Prop where
 size : a.tmps.size = n
 defers : a.defers = []
 fr : ∀ t x, F t = some x → x.rel I R (a.eval (.tmp t))
 wd : Wd W K I R w
section
variable {P : Program} {n : Nat} {W : Wo} {F : Nat → Option AV} {K : Nat → Option Blk} {I I' : IM} {R R' : RM} {a : Act} {w w' : World}
theorem St.ev (h : St n W F K I R a w) {x : Operand} {v : AV} (hx : evf F x = some v) : v.rel I R (a.eval x) := by
 cases x with
 | tmp t => exact h.fr t v hx
 | const c => simp only [evf, Option.some.injEq] at hx; subst hx; rfl
 | func f => simp only [evf, Option.some.injEq] at hx; subst hx; exact ⟨[], trivial, rfl⟩
 | global g => simp [evf] at hx
theorem Bk.mono (hI : IExt I I') (hR : RExt R R') {b : Blk} {p : Loc} (h : Bk I R b p w) (hw : w'.heap[p.b]? = w.heap[p.b]?) : Bk I' R' b p w' := by
 obtain ⟨h1, h2, h2', h3, cs, h4, h5, h6⟩ := h
 exact ⟨h1, h2, h2', h3, cs, hw.trans h4, h5, fun q r k c hq hk => let ⟨u, hu, hr⟩ := h6 q r k c hq hk; ⟨u, hu, Ce.mono hI hR hr⟩⟩
theorem Wd.lt (h : Wd W K I R w) {i : Nat} {b : Blk} {p : Loc} (hb : K i = some b) (hp : I i = some p) : p.b < w.heap.size := by
 obtain ⟨p', hp', hk⟩ := h.blk i b hb
 rw [hp] at hp'
 cases hp'
 exact hk.lt
theorem Wd.grow (h : Wd W K I R w) (hb : Bel w.heap.size w w') : Wd W K I R w' :=
 { h with
  blk := fun i b hi => let ⟨p, hp, hk⟩ := h.blk i b hi; ⟨p, hp, hk.mono (.refl _) (.refl _) (hb.block _ hk.lt)⟩
  ro := fun f b o u hu => (hb.toBelow.cell (p := ⟨b, o, none⟩) (World.block_lt_of_cell? _ _ (h.ro f b o u hu))).trans (h.ro f b o u hu)
  below := h.below.trans hb }
def dstB (n : Nat) : Option Nat → Bool
 | none => true
 | some d => Nat.blt d n
theorem dstB_spec {d : Option Nat} (h : dstB n d = true) : ∀ t, d = some t → t < n := by
 rintro t rfl
 simpa [dstB, Nat.blt_eq] using h
theorem St.put {K' : Nat → Option Blk} (h : St n W F K I R a w) (hI : IExt I I') (hR : RExt R R') (hw : Wd W K' I' R' w') {d : Option Nat} (hd : dstB n d = true) {x : AV} {u : Value} (hx : x.rel I' R' u) :
  St n W (fput F d x) K' I' R' (a.put d u) w' := by
 cases d with
 | none => exact ⟨h.size, h.defers, fun t y hy => AV.mono hI hR (h.fr t y hy), hw⟩
 | some d =>
  have hdn := dstB_spec hd d rfl
  refine ⟨by simpa [Act.put] using h.size, h.defers, ?_, hw⟩
  intro t y hy
  simp only [fput] at hy
  by_cases hdt : t = d
  ·subst hdt
   simp only [if_true, Option.some.injEq] at hy
   subst hy
   have : (a.put (some t) u).eval (.tmp t) = u := by simp [Act.eval, Act.put, h.size, hdn]
   rw [this]; exact hx
  ·rw [if_neg hdt] at hy
   rw [Act.eval_put (fun e he hx => by cases he; cases hx; exact hdt rfl)]
   exact AV.mono hI hR (h.fr t y hy)
theorem heap_push (w : World) (o : Obj) : (w.alloc o).heap[w.heap.size]? = some o := by
 show (w.heap.push o)[w.heap.size]? = _
 simp
def ext (I : IM) (j : Nat) (p : Loc) : IM := fun i => if i = j then some p else I i
theorem IExt.ext {j : Nat} {p : Loc} (h : I j = none) : IExt I (ext I j p) := fun i q hq => by
 unfold Wx.ext
 split
 ·rename_i hi; subst hi; rw [h] at hq; cases hq
 ·exact hq
theorem Wd.change (h : Wd W K I R w) {K' : Nat → Option Blk} (hI : IExt I I') (hbel : BelowZ W w')
  (hnew : ∀ i b, K' i = some b → (K i = some b ∧ (∀ p, I i = some p → w'.heap[p.b]? = w.heap[p.b]?)) ∨ (∃ p, I' i = some p ∧ Bk I' R b p w' ∧ ¬ W.z p.b ∧ ∀ f o, R f p.b o = none))
  (hro : ∀ f b o u, R f b o = some u → w'.heap[b]? = w.heap[b]?)
  (hinj : ∀ i j bi bj p q, K' i = some bi → K' j = some bj → I' i = some p → I' j = some q → p.b = q.b → i = j) : Wd W K' I' R w' := by
 refine ⟨?_, hinj, ?_, ?_, ?_, h.fresh, h.less, hbel, h.out, h.qz⟩
 ·intro i b hi
  rcases hnew i b hi with ⟨h1, h2⟩ | ⟨p, h1, h2, _⟩
  ·obtain ⟨p, hp, hk⟩ := h.blk i b h1
   exact ⟨p, hI _ _ hp, hk.mono hI (.refl _) (h2 p hp)⟩
  ·exact ⟨p, h1, h2⟩
 ·intro i b p hi hp
  rcases hnew i b hi with ⟨h1, h2⟩ | ⟨p', h1, h2, h3, _⟩
  ·obtain ⟨p', hp', hk⟩ := h.blk i b h1
   have := hI _ _ hp'
   rw [hp] at this
   cases this
   exact h.base i b _ h1 hp'
  ·rw [hp] at h1; cases h1; exact h3
 ·intro f b o u hu
  have h0 := h.ro f b o u hu
  rw [← h0]
  exact World.cell?_of_block (w := w) (hro f b o u hu)
 ·intro i b p f o hi hp
  rcases hnew i b hi with ⟨h1, h2⟩ | ⟨p', h1, h2, h3, h4⟩
  ·obtain ⟨p', hp', hk⟩ := h.blk i b h1
   have := hI _ _ hp'
   rw [hp] at this
   cases this
   exact h.apart i b _ f o h1 hp'
  ·rw [hp] at h1; cases h1; exact h4 f o
theorem Wd.new (h : Wd W K I R w) {j : Nat} (hj : I j = none) (hk : K j = none) (b : Blk) (hrow : ∀ r ∈ b.rows, r.length = b.sz) (tot : Nat) (hfit : b.rows.length ≤ tot) (hfew : tot ≤ maxLen) {w' : World} {g : Nat} (hB : Bel w.heap.size w w') (hg : w.heap.size ≤ g)
  (cs : Array Value) (hmem : w'.heap[g]? = some (.cells cs b.ty (0, 0))) (hsz : cs.size = tot * b.sz) (hcs : ∀ q r k c, b.rows[q]? = some r → r[k]? = some c → ∃ u, cs[q * b.sz + k]? = some u ∧ c.rel I R u) :
  Wd W (kup K [(j, some b)]) (ext I j ⟨g, b.sz, tot⟩) R w' := by
 have hI : IExt I (ext I j ⟨g, b.sz, tot⟩) := .ext hj
 refine h.change hI (h.below.trans hB) ?_ ?_ ?_
 ·intro i b' hi
  simp only [kup] at hi
  by_cases hij : i = j
  ·subst hij
   simp only [if_true, Option.some.injEq] at hi
   subst hi
   refine .inr ⟨⟨g, b.sz, tot⟩, by simp [Wx.ext], ⟨rfl, hfit, hfew, hrow, cs, hmem, hsz, fun q r k c h1 h2 => let ⟨u, hu, hr⟩ := hcs q r k c h1 h2; ⟨u, hu, Ce.mono hI (.refl _) hr⟩⟩, h.below.new hg, ?_⟩
   intro f o
   cases hR : R f g o with
   | none => rfl
   | some u =>
    have := World.block_lt_of_cell? _ _ (h.ro f g o u hR)
    simp only at this
    omega
  ·rw [if_neg hij] at hi
   exact .inl ⟨hi, fun p hp => hB.block _ (h.lt hi hp)⟩
 ·intro f b' o u hu
  exact hB.block _ (World.block_lt_of_cell? _ _ (h.ro f b' o u hu))
 ·intro i i' bi bi' p q hi hi' hp hq he
  simp only [kup] at hi hi'
  simp only [Wx.ext] at hp hq
  by_cases h1 : i = j <;> by_cases h2 : i' = j
  ·rw [h1, h2]
  ·rw [if_pos h1] at hp; rw [if_neg h2] at hq hi'
   cases hp
   have := h.lt hi' hq
   simp only at he
   omega
  ·rw [if_neg h1] at hp hi; rw [if_pos h2] at hq
   cases hq
   have := h.lt hi hp
   simp only at he
   omega
  ·rw [if_neg h1] at hp hi; rw [if_neg h2] at hq hi'
   exact h.inj _ _ _ _ _ _ hi hi' hp hq he
theorem Wd.kill (h : Wd W K I R w) (j : Nat) : Wd W (kup K [(j, none)]) I R w := by
 refine h.change (.refl _) h.below ?_ (fun _ _ _ _ _ => rfl) ?_
 ·intro i b hi
  simp only [kup] at hi
  split at hi
  ·cases hi
  ·exact .inl ⟨hi, fun _ _ => rfl⟩
 ·intro i i' bi bi' p q hi hi' hp hq he
  simp only [kup] at hi hi'
  split at hi
  ·cases hi
  ·split at hi'
   ·cases hi'
   ·exact h.inj _ _ _ _ _ _ hi hi' hp hq he
end
end Go.Proofs.Ytopieffkpdlpbaa.Wx
namespace Go.Proofs.Ytopieffkpdlpbaa.Wx
open Go Go.RowKit
def Pa.ce : Pa → Ce
 | .v x => .v x
 | .own i q k => .own i q k
def Pt.asV : Pt → AV
 | .v x => .val x
 | .own i q k => .c (.own i q k)
 | .ag l => .pl (.agg (l.map Pa.ce))
theorem pa_all {I : IM} {R : RM} : ∀ {l : List Pa} {vs : List Value}, All2 (Ce.rel I R) (l.map Pa.ce) vs ↔ All2 (Pa.rel I) l vs
 | [], [] => Iff.rfl
 | .v _ :: l, _ :: _ => and_congr Iff.rfl pa_all
 | .own _ _ _ :: l, _ :: _ => and_congr Iff.rfl pa_all
 | [], _ :: _ => Iff.rfl
 | .v _ :: _, [] => Iff.rfl
 | .own _ _ _ :: _, [] => Iff.rfl
structure TI where
 row : Bool
 size : Nat
 zero : List Value
 offs : List (Nat × Nat × Bool)
 ikind : Option IntKind
 elem : Option (TypeId × Nat × Nat)
 arr : Option (Nat × Nat × Bool)
 eqk : Option (List (Option IntKind))
 isB : Bool
 mp : Option (TypeId × TypeId × IntKind × Value)
 kd : Nat
def kdOf : TypeDesc → Nat
 | .bool => 1
 | .int _ => 2
 | .string => 3
 | .pointer _ => 4
 | .slice _ => 5
 | .map _ _ => 6
 | .struct _ => 7
 | .array _ _ => 8
 | _ => 0
def kindOf (P : Program) (t : TypeId) : Option (Option IntKind) :=
 match P.underlying t with
 | some (.int k) => some (some k)
 | some .bool => some none
 | _ => none
def szB (P : Program) (t : TypeId) (n : Nat) : Bool := match P.info? t with | some i => i.size == n | none => false
def flatFs (P : Program) (g : TypeId → Option (List (Option IntKind))) : Nat → List Field → Option (List (Option IntKind))
 | _, [] => some []
 | n, f :: r => match g f.type with
  | some kf => match flatFs P g (n + kf.length) r with
   | some l => if f.offset == n && f.name != "_" && szB P f.type kf.length then some (kf ++ l) else none
   | none => none
  | none => none
def flatOf (P : Program) : Nat → TypeId → Option (List (Option IntKind))
 | 0, _ => none
 | d + 1, t => match P.underlying t with
  | some (.int k) => some [some k]
  | some .bool => some [none]
  | some (.struct fs) => if P.stoodInHeld t then none else flatFs P (flatOf P d) 0 fs.toList
  | _ => none
def fsz (P : Program) (t : TypeId) : Nat := match P.underlying t with | some _ => P.cellsOf t | none => 0
theorem fsz_spec {P : Program} {t : TypeId} {s : Nat} (h : fsz P t = s) (hz : 0 < s) : ∃ d inf, P.underlying t = some d ∧ P.info? t = some inf ∧ inf.size = s := by
 unfold fsz at h
 split at h
 ·rename_i d hd
  cases hq : P.info? t with
  | none => simp [Program.cellsOf, hq] at h; omega
  | some inf => simp [Program.cellsOf, hq] at h; exact ⟨d, inf, hd, rfl, h⟩
 ·omega
def tiOf (P : Program) (t : TypeId) : Option TI :=
 match P.underlying t, P.info? t with
 | some d, some inf => match inf.zero with
  | some z => some {
    row := d.isRow
    size := inf.size
    zero := z.cells.toList
    offs := match d with
     | .struct fs => fs.toList.map fun f => (f.offset, fsz P f.type, (match P.underlying f.type with | some d => d.isRow | none => false))
     | _ => []
    ikind := match d with | .int k => some k | _ => none
    elem := match d with
     | .slice e => match P.info? e with
      | some i => match i.zero with
       | some z => if z.cells.size == i.size then some (e, i.size, i.bytes) else none
       | none => none
      | none => none
     | _ => none
    arr := match d with
     | .array n e => match P.info? e, P.underlying e with
      | some i, some de => some (n, i.size, de.isRow)
      | _, _ => none
     | _ => none
    eqk := match d with
     | .struct fs => if P.stoodInHeld t || P.eqGuardType P.depth t then none else flatFs P (flatOf P 4) 0 fs.toList
     | .array n e => match P.info? e, kindOf P e with
      | some i, some kd => if P.eqGuardType P.depth t || i.size != 1 then none else some (List.replicate n kd)
      | _, _ => none
     | _ => none
    isB := match d with | .bool => true | _ => false
    mp := match d with
     | .map k e => match P.underlying k with
      | some (.int q) => match P.info? e with
       | some i => match i.zero with
        | some z => some (k, e, q, z)
        | none => none
       | none => none
      | _ => none
     | _ => none
    kd := kdOf d }
  | none => none
 | _, _ => none
abbrev Tab := List (Nat × TI)
def tyGet : Tab → Nat → Option TI
 | [], _ => none
 | (k, x) :: r, t => match Nat.beq k t with
  | true => some x
  | false => tyGet r t
def TabOk (P : Program) (T : Tab) : Prop := ∀ t i, tyGet T t = some i → tiOf P t = some i
theorem TabOk.nil {P : Program} : TabOk P [] := fun _ _ h => by simp [tyGet] at h
theorem TabOk.cons {P : Program} {T : Tab} {t : Nat} {i : TI} (h : tiOf P t = some i) (hT : TabOk P T) : TabOk P ((t, i) :: T) := fun u j hj => by
 simp only [tyGet] at hj
 cases hb : Nat.beq t u with
 | true => simp only [hb, Option.some.injEq] at hj; subst hj; rw [← Nat.eq_of_beq_eq_true hb]; exact h
 | false => simp only [hb] at hj; exact hT u j hj
theorem tiOf_load {P : Program} {t : TypeId} {i : TI} (h : tiOf P t = some i) : ∃ d inf z, P.underlying t = some d ∧ P.info? t = some inf ∧ inf.zero = some z ∧ d.isRow = i.row ∧ inf.size = i.size ∧ z.cells.toList = i.zero := by
 unfold tiOf at h
 split at h
 ·rename_i d inf hd hi
  split at h
  ·rename_i z hz
   simp only [Option.some.injEq] at h
   subst h
   exact ⟨d, inf, z, hd, hi, hz, rfl, rfl, rfl⟩
  ·cases h
 ·cases h
theorem tiOf_int {P : Program} {t : TypeId} {i : TI} {k : IntKind} (h : tiOf P t = some i) (hk : i.ikind = some k) : P.underlying t = some (.int k) := by
 unfold tiOf at h
 split at h
 ·rename_i d inf hd hi
  split at h
  ·simp only [Option.some.injEq] at h
   subst h
   cases d <;> simp at hk
   subst hk
   exact hd
  ·cases h
 ·cases h
theorem tiOf_bool {P : Program} {t : TypeId} {i : TI} (h : tiOf P t = some i) (hk : i.isB = true) : P.underlying t = some .bool := by
 unfold tiOf at h
 split at h
 ·rename_i d inf hd hi
  split at h
  ·simp only [Option.some.injEq] at h
   subst h
   cases d <;> simp at hk
   exact hd
  ·cases h
 ·cases h
theorem tiOf_mp {P : Program} {t k e : TypeId} {i : TI} {q : IntKind} {z : Value} (h : tiOf P t = some i) (hk : i.mp = some (k, e, q, z)) : P.underlying t = some (.map k e) ∧ P.underlying k = some (.int q) ∧ ∃ inf, P.info? e = some inf ∧ inf.zero = some z := by
 unfold tiOf at h
 split at h
 ·rename_i d inf hd hi
  split at h
  ·simp only [Option.some.injEq] at h
   subst h
   cases d <;> simp at hk
   rename_i k' e'
   split at hk
   ·rename_i q' hq
    split at hk
    ·rename_i inf' hi'
     split at hk
     ·rename_i z' hz'
      simp only [Option.some.injEq, Prod.mk.injEq] at hk
      obtain ⟨rfl, rfl, rfl, rfl⟩ := hk
      exact ⟨hd, hq, inf', hi', hz'⟩
     ·cases hk
    ·cases hk
   ·cases hk
  ·cases h
 ·cases h
theorem tiOf_kd {P : Program} {t : TypeId} {i : TI} (h : tiOf P t = some i) : ∃ d, P.underlying t = some d ∧ kdOf d = i.kd := by
 unfold tiOf at h
 split at h
 ·rename_i d inf hd hi
  split at h
  ·simp only [Option.some.injEq] at h
   subst h
   exact ⟨d, hd, rfl⟩
  ·cases h
 ·cases h
theorem kdOf_ptr {d : TypeDesc} (h : kdOf d = 4) : ∃ e, d = .pointer e := by
 cases d <;> simp [kdOf] at h
 exact ⟨_, rfl⟩
theorem kdOf_str {d : TypeDesc} (h : kdOf d = 3) : d = .string := by
 cases d <;> simp [kdOf] at h
 rfl
theorem tiOf_elem {P : Program} {t e : TypeId} {i : TI} {s b : Nat} (h : tiOf P t = some i) (hk : i.elem = some (e, s, b)) :
  P.underlying t = some (.slice e) ∧ ∃ inf z, P.info? e = some inf ∧ inf.zero = some z ∧ inf.size = s ∧ inf.bytes = b ∧ z.cells.size = s := by
 unfold tiOf at h
 split at h
 ·rename_i d inf hd hi
  split at h
  ·simp only [Option.some.injEq] at h
   subst h
   cases d <;> simp only [reduceCtorEq] at hk
   rename_i e'
   split at hk
   ·rename_i i' hi'
    split at hk
    ·rename_i z' hz'
     split at hk
     ·rename_i hs
      simp only [Option.some.injEq, Prod.mk.injEq] at hk
      obtain ⟨rfl, rfl, rfl⟩ := hk
      exact ⟨hd, i', z', hi', hz', rfl, rfl, by simpa using hs⟩
     ·cases hk
    ·cases hk
   ·cases hk
  ·cases h
 ·cases h
theorem tiOf_field {P : Program} {t : TypeId} {i : TI} {f off sz : Nat} {r : Bool} (h : tiOf P t = some i) (hk : i.offs[f]? = some (off, sz, r)) :
  ∃ fs fd, P.underlying t = some (.struct fs) ∧ fs[f]? = some fd ∧ fd.offset = off ∧ fsz P fd.type = sz ∧ (match P.underlying fd.type with | some d => d.isRow | none => false) = r := by
 unfold tiOf at h
 split at h
 ·rename_i d inf hd hi
  split at h
  ·simp only [Option.some.injEq] at h
   subst h
   cases d <;> simp at hk
   rename_i fs
   obtain ⟨fd, h1, h2, h3, h4⟩ := hk
   exact ⟨fs, fd, hd, h1, h2, h3, h4⟩
  ·cases h
 ·cases h
theorem tiOf_arr {P : Program} {t : TypeId} {i : TI} {n s : Nat} {r : Bool} (h : tiOf P t = some i) (hk : i.arr = some (n, s, r)) :
  ∃ e de inf, P.underlying t = some (.array n e) ∧ P.info? e = some inf ∧ P.underlying e = some de ∧ inf.size = s ∧ de.isRow = r := by
 unfold tiOf at h
 split at h
 ·rename_i d inf hd hi
  split at h
  ·simp only [Option.some.injEq] at h
   subst h
   cases d <;> simp only [reduceCtorEq] at hk
   rename_i n' e
   split at hk
   ·rename_i i' de hi' hde
    simp only [Option.some.injEq, Prod.mk.injEq] at hk
    obtain ⟨rfl, rfl, rfl⟩ := hk
    exact ⟨e, de, i', hd, hi', hde, rfl, rfl⟩
   ·cases hk
  ·cases h
 ·cases h
structure Eff where
 av : AV
 rd : List Nat
 kw : Kr
 top : Nat
def OpEff (P : Program) (o : Oper) (F0 : Nat → Option AV) (K0 : Nat → Option Blk) (top : Nat) (e : Eff) : Prop :=
 ∀ (n : Nat) (W : Wo) (F : Nat → Option AV) (K : Nat → Option Blk) (I : IM) (R : RM) (a : Act) (w : World), St n W F K I R a w →
  (∀ x ∈ o.op.operands.toList, evf F x = evf F0 x) → (∀ i ∈ e.rd, K i = K0 i) → (∀ j, top ≤ j → j < e.top → I j = none ∧ K j = none) → dstB n o.dst = true →
  ∀ (next : Act → World → Prop) (Q : Exit → Act → World → Prop),
   (∀ I' R' a' w', St n W (fput F o.dst e.av) (kup K e.kw) I' R' a' w' → IExt I I' → (∀ j, ¬ (top ≤ j ∧ j < e.top) → I' j = I j) → RExt R R' → next a' w') → o.wp P a w next Q
def Yv (P : Program) (o : Oper) (F0 : Nat → Option AV) (K0 : Nat → Option Blk) (rd : List Nat) (av : AV) : Prop :=
 ∀ (n : Nat) (W : Wo) (F : Nat → Option AV) (K : Nat → Option Blk) (I : IM) (R : RM) (a : Act) (w : World), St n W F K I R a w →
  (∀ x ∈ o.op.operands.toList, evf F x = evf F0 x) → (∀ i ∈ rd, K i = K0 i) → ∃ u, (execOp a.eval o).run P w = .ok (.value u) w ∧ av.rel I R u
section
variable {P : Program} {o : Oper} {F0 : Nat → Option AV} {K0 : Nat → Option Blk} {rd : List Nat} {av : AV} {top : Nat} {T : Tab}
theorem Yv.eff (h : Yv P o F0 K0 rd av) : OpEff P o F0 K0 top ⟨av, rd, [], top⟩ := by
 intro n W F K I R a w hs hx hk hf hd next Q hn
 obtain ⟨u, hr, hu⟩ := h n W F K I R a w hs hx hk
 unfold Oper.wp
 rw [hr]
 exact hn I R _ w (hs.put (.refl _) (.refl _) hs.wd hd hu) (.refl _) (fun _ _ => rfl) (.refl _)
theorem y_move (x : Operand) (ho : o.op = .move x ∨ o.op = .assign x) (v : AV) (hx : evf F0 x = some v) : Yv P o F0 K0 [] v := by
 intro n W F K I R a w hs hxx hk
 refine ⟨a.eval x, ?_, hs.ev ((hxx x (by rcases ho with ho | ho <;> simp [ho, Op.operands])).trans hx)⟩
 rcases ho with ho | ho <;> simp only [execOp, ho] <;> rfl
theorem ev_plain {n : Nat} {W : Wo} {F : Nat → Option AV} {K : Nat → Option Blk} {I : IM} {R : RM} {a : Act} {w : World} (hs : St n W F K I R a w) {x : Operand} {v : Value} (hx : evf F x = some (.val v)) : a.eval x = v := hs.ev hx
theorem y_pick (c x y : Operand) (ho : o.op = .pick c x y) (b : Bool) (hc : evf F0 c = some (.val (.bool b))) (v : AV) (hx : b = true → evf F0 x = some v) (hy : b = false → evf F0 y = some v) : Yv P o F0 K0 [] v := by
 intro n W F K I R a w hs hxx hk
 have hm : ∀ z ∈ [c, x, y], evf F z = evf F0 z := fun z hz => hxx z (by simpa [ho, Op.operands] using hz)
 have e1 := ev_plain hs ((hm c (by simp)).trans hc)
 simp only [execOp, ho, e1]
 rw [Sem.run_bind]
 simp only [asBool, Sem.run_pure, Result.andThen_ok]
 cases b with
 | true => exact ⟨_, rfl, hs.ev ((hm x (by simp)).trans (hx rfl))⟩
 | false => exact ⟨_, rfl, hs.ev ((hm y (by simp)).trans (hy rfl))⟩
theorem y_not (t : TypeId) (x : Operand) (ho : o.op = .unOp .not t x) (b : Bool) (hx : evf F0 x = some (.val (.bool b))) : Yv P o F0 K0 [] (.val (.bool (!b))) := by
 intro n W F K I R a w hs hxx hk
 have e1 := ev_plain hs ((hxx x (by simp [ho, Op.operands])).trans hx)
 simp only [execOp, ho, e1]
 rw [Sem.run_bind]
 exact ⟨_, by simp [Op.unary], rfl⟩
def intOp (op : BinOp) (k : IntKind) (a b : Int) : Option Int :=
 match op with
 | .add => some (k.wrap (a + b))
 | .sub => some (k.wrap (a - b))
 | .mul => some (k.wrap (a * b))
 | _ => none
def cmpOp (op : BinOp) (a b : Int) : Option Bool :=
 match op with
 | .eql => some (a == b)
 | .neq => some (a != b)
 | .lss => some (decide (a < b))
 | .leq => some (decide (a ≤ b))
 | .gtr => some (decide (a > b))
 | .geq => some (decide (a ≥ b))
 | _ => none
theorem y_int (op : BinOp) (t : TypeId) (x y : Operand) (yt : TypeId) (ho : o.op = .binOp op t x y yt) (k : IntKind) (p q : Int) (hx : evf F0 x = some (.val (.int k p))) (hy : evf F0 y = some (.val (.int k q))) (r : Int) (hr : intOp op k p q = some r) :
  Yv P o F0 K0 [] (.val (.int k r)) := by
 intro n W F K I R a w hs hxx hk
 have hm : ∀ z ∈ [x, y], evf F z = evf F0 z := fun z hz => hxx z (by simpa [ho, Op.operands] using hz)
 have e1 := ev_plain hs ((hm x (by simp)).trans hx)
 have e2 := ev_plain hs ((hm y (by simp)).trans hy)
 refine ⟨_, ?_, rfl⟩
 simp only [execOp, ho, e1, e2]
 rw [Sem.run_bind, Sem.run_bind, eqGuard_at_int]
 simp only [Sem.run_pure, Result.andThen_ok]
 cases op <;> simp only [intOp, Option.some.injEq, reduceCtorEq] at hr <;> subst hr <;> simp [binOp, Op.intArith]
theorem y_cmp (op : BinOp) (t : TypeId) (x y : Operand) (yt : TypeId) (ho : o.op = .binOp op t x y yt) (k : IntKind) (p q : Int) (hx : evf F0 x = some (.val (.int k p))) (hy : evf F0 y = some (.val (.int k q))) (r : Bool) (hr : cmpOp op p q = some r) :
  Yv P o F0 K0 [] (.val (.bool r)) := by
 intro n W F K I R a w hs hxx hk
 have hm : ∀ z ∈ [x, y], evf F z = evf F0 z := fun z hz => hxx z (by simpa [ho, Op.operands] using hz)
 have e1 := ev_plain hs ((hm x (by simp)).trans hx)
 have e2 := ev_plain hs ((hm y (by simp)).trans hy)
 refine ⟨_, ?_, rfl⟩
 simp only [execOp, ho, e1, e2]
 rw [Sem.run_bind, Sem.run_bind, eqGuard_at_int]
 simp only [Sem.run_pure, Result.andThen_ok]
 cases op <;> simp only [cmpOp, Option.some.injEq, reduceCtorEq] at hr <;> subst hr <;> simp [binOp, Op.intCmp]
theorem y_div (op : BinOp) (t : TypeId) (x y : Operand) (yt : TypeId) (ho : o.op = .binOp op t x y yt) (k : IntKind) (p q : Int) (hx : evf F0 x = some (.val (.int k p))) (hy : evf F0 y = some (.val (.int k q))) (hq : q ≠ 0) (r : Int)
  (hr : (op = .quo ∧ r = k.wrap (p.tdiv q)) ∨ (op = .rem ∧ r = p.tmod q)) : Yv P o F0 K0 [] (.val (.int k r)) := by
 intro n W F K I R a w hs hxx hk
 have hm : ∀ z ∈ [x, y], evf F z = evf F0 z := fun z hz => hxx z (by simpa [ho, Op.operands] using hz)
 have e1 := ev_plain hs ((hm x (by simp)).trans hx)
 have e2 := ev_plain hs ((hm y (by simp)).trans hy)
 refine ⟨_, ?_, rfl⟩
 simp only [execOp, ho, e1, e2]
 rw [Sem.run_bind, Sem.run_bind, eqGuard_at_int]
 simp only [Sem.run_pure, Result.andThen_ok]
 rcases hr with ⟨rfl, rfl⟩ | ⟨rfl, rfl⟩ <;> simp [binOp, Op.intDiv, hq]
theorem y_shift (op : BinOp) (t : TypeId) (x y : Operand) (yt : TypeId) (ho : o.op = .binOp op t x y yt) (k ky : IntKind) (p q : Int) (hx : evf F0 x = some (.val (.int k p))) (hy : evf F0 y = some (.val (.int ky q))) (hq : 0 ≤ q) (r : Int)
  (hr : (op = .shl ∧ r = k.wrap (p * 2 ^ (min q.toNat k.bits))) ∨ (op = .shr ∧ r = p.fdiv (2 ^ (min q.toNat k.bits)))) : Yv P o F0 K0 [] (.val (.int k r)) := by
 intro n W F K I R a w hs hxx hk
 have hm : ∀ z ∈ [x, y], evf F z = evf F0 z := fun z hz => hxx z (by simpa [ho, Op.operands] using hz)
 have e1 := ev_plain hs ((hm x (by simp)).trans hx)
 have e2 := ev_plain hs ((hm y (by simp)).trans hy)
 refine ⟨_, ?_, rfl⟩
 simp only [execOp, ho, e1, e2]
 rw [Sem.run_bind, Sem.run_bind, eqGuard_at_int]
 simp only [Sem.run_pure, Result.andThen_ok]
 have hq' : ¬ q < 0 := by omega
 rcases hr with ⟨rfl, rfl⟩ | ⟨rfl, rfl⟩ <;> simp [binOp, Op.shift, hq']
theorem y_conv (s d : TypeId) (x : Operand) (ho : o.op = .convert s d x) (i j : TI) (k k' : IntKind) (hs' : tiOf P s = some i) (hd' : tiOf P d = some j) (hi : i.ikind = some k') (hj : j.ikind = some k) (kk : IntKind) (p : Int) (hx : evf F0 x = some (.val (.int kk p))) :
  Yv P o F0 K0 [] (.val (.int k (k.wrap p))) := by
 intro n W F K I R a w hs hxx hk
 have e1 := ev_plain hs ((hxx x (by simp [ho, Op.operands])).trans hx)
 have h1 := tiOf_int hs' hi
 have h2 := tiOf_int hd' hj
 refine ⟨_, ?_, rfl⟩
 simp only [execOp, ho, e1]
 rw [Sem.run_bind]
 simp [convert, run_underlying h1, run_underlying h2, Conv.intToInt]
theorem y_bool (op : BinOp) (t : TypeId) (x y : Operand) (yt : TypeId) (ho : o.op = .binOp op t x y yt) (p q : Bool) (hx : evf F0 x = some (.val (.bool p))) (hy : evf F0 y = some (.val (.bool q))) (ht : P.underlying t = some .bool) (r : Bool)
  (hr : (op = .eql ∧ r = (p == q)) ∨ (op = .neq ∧ r = (p != q))) : Yv P o F0 K0 [] (.val (.bool r)) := by
 intro n W F K I R a w hs hxx hk
 have hm : ∀ z ∈ [x, y], evf F z = evf F0 z := fun z hz => hxx z (by simpa [ho, Op.operands] using hz)
 have e1 := ev_plain hs ((hm x (by simp)).trans hx)
 have e2 := ev_plain hs ((hm y (by simp)).trans hy)
 refine ⟨_, ?_, rfl⟩
 simp only [execOp, ho, e1, e2]
 rw [Sem.run_bind, Sem.run_bind, eqGuard_at_bool]
 simp only [Sem.run_pure, Result.andThen_ok]
 rcases hr with ⟨rfl, rfl⟩ | ⟨rfl, rfl⟩
 ·simp only [binOp, Op.equal, Op.maxDepth, Sem.run_bind]
  rw [run_equalIn_bool' _ _ _ _ _ ht]
  rfl
 ·simp only [binOp, Op.equal, Op.maxDepth, Sem.run_bind]
  rw [run_equalIn_bool' _ _ _ _ _ ht]
  rfl
theorem y_nilc (x : Operand) (ho : o.op = .nilCheck x) (c : Ce) (hx : evf F0 x = some (.c c)) (hc : (match c with | .own .. => true | .rp .. => true | .fn .. => true | _ => false) = true) : Yv P o F0 K0 [] (.c c) := by
 intro n W F K I R a w hs hxx hk
 have e1 := hs.ev ((hxx x (by simp [ho, Op.operands])).trans hx)
 refine ⟨a.eval x, ?_, e1⟩
 simp only [execOp, ho]
 generalize a.eval x = u at *
 cases c with
 | own i q k => obtain ⟨p, _, rfl⟩ := e1; rfl
 | rp fl row k => obtain ⟨b, o, rfl, _⟩ := e1; rfl
 | fn f cap => obtain ⟨vs, _, rfl⟩ := e1; rfl
 | _ => simp at hc
theorem y_extract (x : Operand) (i : Nat) (ho : o.op = .extract x i) (l : List A0) (hx : evf F0 x = some (.tup l)) (c : A0) (hc : l[i]? = some c) : Yv P o F0 K0 [] (.pl c) := by
 intro n W F K I R a w hs hxx hk
 have h0 := hs.ev ((hxx x (by simp [ho, Op.operands])).trans hx)
 simp only [AV.rel] at h0
 obtain ⟨vs, e1, e2⟩ := h0
 obtain ⟨u, hu, hr⟩ := e2.get hc
 refine ⟨u, ?_, hr⟩
 simp only [execOp, ho, e1]
 rw [Sem.run_bind]
 simp [Instr.extract, hu]
theorem y_func (f : FuncId) (caps : Array Operand) (ho : o.op = .makeFunc (.func f) #[] caps) (ps : List Pt) (hp : All2 (fun x p => evf F0 x = some p.asV) caps.toList ps) : Yv P o F0 K0 [] (.c (.fn f ps)) := by
 intro n W F K I R a w hs hxx hk
 refine ⟨.func (.func f) #[] (caps.map a.eval), ?_, caps.toList.map a.eval, ?_, ?_⟩
 ·simp only [execOp, ho]; simp [Instr.makeFunc]
 ·have hm : ∀ z ∈ caps.toList, evf F z = evf F0 z := fun z hz => hxx z (by simpa [ho, Op.operands] using hz)
  generalize caps.toList = l at hp hm
  induction l generalizing ps with
  | nil => cases ps with
   | nil => trivial
   | cons => exact hp.elim
  | cons z r ih => cases ps with
   | nil => exact hp.elim
   | cons p ps =>
    refine ⟨?_, ih _ hp.2 (fun y hy => hm y (List.mem_cons_of_mem _ hy))⟩
    have := hs.ev ((hm z List.mem_cons_self).trans hp.1)
    cases p with
    | ag l => obtain ⟨vs, g1, g2⟩ := this; exact ⟨vs, g1, pa_all.1 g2⟩
    | _ => exact this
 ·congr 1; apply Array.ext'; simp
theorem y_fieldAddr (s : TypeId) (x : Operand) (f : Nat) (ho : o.op = .fieldAddr s x f) (ti : TI) (ht : tiOf P s = some ti) (off sz : Nat) (r : Bool) (hf : ti.offs[f]? = some (off, sz, r)) (hz : Nat.blt 0 sz = true)
  (c c' : Ce) (hx : evf F0 x = some (.c c)) (hc : (match c with | .own i q k => some (Ce.own i q (k + off)) | .rp fl row k => some (.rp fl row (k + off)) | _ => none) = some c') : Yv P o F0 K0 [] (.c c') := by
 obtain ⟨fs, fd, h1, h2, h3, h4, _⟩ := tiOf_field ht hf
 intro n W F K I R a w hs hxx hk
 have e1 := hs.ev ((hxx x (by simp [ho, Op.operands])).trans hx)
 have hz' : 0 < sz := by simpa [Nat.blt_eq] using hz
 obtain ⟨dd, inf, hdd, hinf, hsz⟩ := fsz_spec h4 hz'
 have hrun : ∀ b o', (Instr.fieldAt s (.pointer (some ⟨b, o', none⟩)) f).run P w = .ok (.pointer (some ⟨b, o' + off, none⟩)) w := by
  intro b o'
  simp only [Instr.fieldAt, Sem.run_bind, run_underlying h1, Result.andThen_ok]
  simp [h2, Instr.sureAddr, fieldPlace, sizeOf, typeInfo, hinf, hsz, Nat.ne_of_gt hz', h3, Addr.add_mid]
 simp only [execOp, ho]
 cases c with
 | own i q k =>
  simp only [Option.some.injEq] at hc
  subst hc
  obtain ⟨p, hp, hu⟩ := e1
  refine ⟨_, ?_, p, hp, rfl⟩
  rw [hu, Sem.run_bind, hrun]
  simp [Nat.add_assoc]
 | rp fl row k =>
  simp only [Option.some.injEq] at hc
  subst hc
  obtain ⟨b, o', hu, hh⟩ := e1
  refine ⟨_, ?_, b, o', rfl, hh⟩
  rw [hu, Sem.run_bind, hrun]
  simp [Nat.add_assoc]
 | _ => simp at hc
theorem St.row {n : Nat} {W : Wo} {F : Nat → Option AV} {K : Nat → Option Blk} {I : IM} {R : RM} {a : Act} {w : World} (hs : St n W F K I R a w) {i : Nat} {b : Blk} (hb : K i = some b) {q : Nat} {r : List Ce} (hr : b.rows[q]? = some r) :
  ∃ p vs, I i = some p ∧ p.sz = b.sz ∧ All2 (Ce.rel I R) r vs ∧ (∀ k u, vs[k]? = some u → w.cell? ⟨p.b, q * p.sz + k, none⟩ = some u) ∧ ∀ k, w.frozen? ⟨p.b, k, none⟩ = false := by
 obtain ⟨p, hp, hk⟩ := hs.wd.blk i b hb
 obtain ⟨cs, hm, hsz, hc⟩ := hk.mem
 have hall : ∃ vs : List Value, All2 (Ce.rel I R) r vs ∧ ∀ k u, vs[k]? = some u → cs[q * p.sz + k]? = some u := by
  have : ∀ (r' : List Ce) (d : Nat), (∀ k c, r'[k]? = some c → ∃ u, cs[q * p.sz + (d + k)]? = some u ∧ c.rel I R u) → ∃ vs : List Value, All2 (Ce.rel I R) r' vs ∧ ∀ k u, vs[k]? = some u → cs[q * p.sz + (d + k)]? = some u := by
   intro r'
   induction r' with
   | nil => intro d _; exact ⟨[], trivial, fun k u h => by simp at h⟩
   | cons c r' ih =>
    intro d h
    obtain ⟨u, hu, hru⟩ := h 0 c rfl
    obtain ⟨vs, h1, h2⟩ := ih (d + 1) (fun k c' hk => by have := h (k + 1) c' (by simpa using hk); simpa [Nat.add_assoc, Nat.add_comm 1 k] using this)
    refine ⟨u :: vs, ⟨hru, h1⟩, fun k x hx => ?_⟩
    cases k with
    | zero => simp at hx; subst hx; simpa using hu
    | succ k => have := h2 k x (by simpa using hx); simpa [Nat.add_assoc, Nat.add_comm 1 k] using this
  obtain ⟨vs, h1, h2⟩ := this r 0 (fun k c hk => by simpa using hc q r k c hr hk)
  exact ⟨vs, h1, fun k u hk => by simpa using h2 k u hk⟩
 obtain ⟨vs, h1, h2⟩ := hall
 exact ⟨p, vs, hp, hk.sz, h1, fun k u hk => by rw [cell_of_row w p.b _ _ _ _ hm]; exact h2 k u hk, fun k => frozen_of_row w p.b k _ _ hm⟩
theorem All2.drop {α β : Type} {r : α → β → Prop} : ∀ {l : List α} {m : List β} (n : Nat), All2 r l m → All2 r (l.drop n) (m.drop n)
 | [], [], n, _ => by simp [All2]
 | a :: l, b :: m, 0, h => h
 | a :: l, b :: m, n + 1, h => by simpa using All2.drop n h.2
 | [], _ :: _, _, hh => hh.elim
 | _ :: _, [], _, hh => hh.elim
theorem All2.take {α β : Type} {r : α → β → Prop} : ∀ {l : List α} {m : List β} (n : Nat), All2 r l m → All2 r (l.take n) (m.take n)
 | [], [], n, _ => by simp [All2]
 | a :: l, b :: m, 0, h => trivial
 | a :: l, b :: m, n + 1, h => ⟨h.1, All2.take n h.2⟩
 | [], _ :: _, _, hh => hh.elim
 | _ :: _, [], _, hh => hh.elim
def RT.ce (fl : Bool) : RT → Ce
 | .v x => .v x
 | .ro sz rows => .ro fl sz rows
theorem RT.ce_rel {I : IM} {R : RM} {fl : Bool} {t : RT} {u : Value} (h : Rd (R fl) t u) : (t.ce fl).rel I R u := by
 cases t with
 | v x => cases h; rfl
 | ro sz rows => exact h
def cut (r : Bool) (k sz : Nat) (row : List Ce) : Option A0 :=
 match r with
 | true => match Nat.ble (k + sz) row.length with
  | true => some (.agg ((row.drop k).take sz))
  | false => none
 | false => match row[k]? with
  | some c => some (.one c)
  | none => none
theorem load_run {w : World} {t : TypeId} {ti : TI} (ht : tiOf P t = some ti) {I : IM} {R : RM} {row : List Ce} {vs : List Value} (hv : All2 (Ce.rel I R) row vs) {b off k : Nat} (hc : ∀ j u, vs[j]? = some u → w.cell? ⟨b, off + j, none⟩ = some u) {x : A0} (hx : cut ti.row k ti.size row = some x) :
  ∃ u, (Instr.loadAt t (.pointer (some ⟨b, off + k, none⟩))).run P w = .ok u w ∧ x.rel I R u := by
 obtain ⟨d, inf, z, hu, hinf, _, hr, hs, _⟩ := tiOf_load ht
 unfold cut at hx
 cases hrow : ti.row with
 | true =>
  rw [hrow] at hx hr
  simp only at hx
  split at hx
  ·rename_i hle
   simp only [Option.some.injEq] at hx
   subst hx
   have hle' : k + ti.size ≤ row.length := by simpa [Nat.ble_eq] using hle
   have hlen := hv.length
   refine ⟨.agg ((vs.drop k).take ti.size).toArray, run_loadAt_mid (P := P) w b (off + k) t ((vs.drop k).take ti.size) d (fun j v hj => ?_) hu hr (by rw [hinf, Option.map_some, hs]; congr 1; simp; omega), _, rfl, (hv.drop k).take ti.size⟩
   rw [List.getElem?_take] at hj
   split at hj
   ·rw [List.getElem?_drop] at hj
    rw [Nat.add_assoc]; exact hc _ _ hj
   ·cases hj
  ·cases hx
 | false =>
  rw [hrow] at hx hr
  simp only at hx
  split at hx
  ·rename_i c hcc
   simp only [Option.some.injEq] at hx
   subst hx
   obtain ⟨u, h1, h2⟩ := hv.get hcc
   have hcell := hc _ _ h1
   have hagg : (isAgg t).run P w = .ok false w := by
    unfold isAgg
    rw [Sem.run_bind, run_underlying hu w]
    cases d <;> simp_all
   refine ⟨u, ?_, h2⟩
   simp only [Instr.loadAt, Instr.sureAddr, Sem.run_bind, Sem.run_pure, Result.andThen_ok]
   simp [loadVar, hagg, hcell]
  ·cases hx
theorem y_load (t : TypeId) (x : Operand) (ho : o.op = .load t x) (ti : TI) (ht : tiOf P t = some ti) (i q k : Nat) (hx : evf F0 x = some (.c (.own i q k))) (b : Blk) (hb : K0 i = some b) (row : List Ce) (hr : b.rows[q]? = some row) (v : A0) (hv : cut ti.row k ti.size row = some v) :
  Yv P o F0 K0 [i] (.pl v) := by
 intro n W F K I R a w hs hxx hk
 obtain ⟨p, hp, hu⟩ := hs.ev ((hxx x (by simp [ho, Op.operands])).trans hx)
 obtain ⟨p', vs, hp', hsz, h1, h2, _⟩ := hs.row ((hk i (by simp)).trans hb) hr
 rw [hp] at hp'; cases hp'
 obtain ⟨u, h3, h4⟩ := load_run ht h1 (b := p.b) (off := q * p.sz) h2 hv
 refine ⟨u, ?_, h4⟩
 simp only [execOp, ho, hu]
 rw [Sem.run_bind, h3]
 rfl
theorem y_loadr (t : TypeId) (x : Operand) (ho : o.op = .load t x) (ti : TI) (ht : tiOf P t = some ti) (fl : Bool) (row : List RT) (k : Nat) (hx : evf F0 x = some (.c (.rp fl row k))) (v : A0) (hv : cut ti.row k ti.size (row.map (RT.ce fl)) = some v) :
  Yv P o F0 K0 [] (.pl v) := by
 intro n W F K I R a w hs hxx hk
 obtain ⟨b, off, hu, hh⟩ := hs.ev ((hxx x (by simp [ho, Op.operands])).trans hx)
 obtain ⟨vs, h1, h2⟩ : ∃ vs : List Value, All2 (Ce.rel I R) (row.map (RT.ce fl)) vs ∧ ∀ j u, vs[j]? = some u → w.cell? ⟨b, off + j, none⟩ = some u := by
  have : ∀ (r : List RT) (d : Nat), (∀ j t, r[j]? = some t → ∃ x, R fl b (off + (d + j)) = some x ∧ Rd (R fl) t x) → ∃ vs : List Value, All2 (Ce.rel I R) (r.map (RT.ce fl)) vs ∧ ∀ j u, vs[j]? = some u → w.cell? ⟨b, off + (d + j), none⟩ = some u := by
   intro r
   induction r with
   | nil => intro d _; exact ⟨[], trivial, fun k u h => by simp at h⟩
   | cons c r ih =>
    intro d h
    obtain ⟨u, hu, hru⟩ := h 0 c rfl
    obtain ⟨vs, h1, h2⟩ := ih (d + 1) (fun k c' hk => by have := h (k + 1) c' (by simpa using hk); simpa [Nat.add_assoc, Nat.add_comm 1 k] using this)
    refine ⟨u :: vs, ⟨RT.ce_rel hru, h1⟩, fun k x hx => ?_⟩
    cases k with
    | zero => simp at hx; subst hx; simpa using hs.wd.ro _ _ _ _ hu
    | succ k => have := h2 k x (by simpa using hx); simpa [Nat.add_assoc, Nat.add_comm 1 k] using this
  obtain ⟨vs, h1, h2⟩ := this row 0 (fun j t hj => by simpa using hh j t hj)
  exact ⟨vs, h1, fun j u hj => by simpa using h2 j u hj⟩
 obtain ⟨u, h3, h4⟩ := load_run ht h1 (b := b) (off := off) h2 hv
 refine ⟨u, ?_, h4⟩
 simp only [execOp, ho, hu]
 rw [Sem.run_bind, h3]
 rfl
end
end Go.Proofs.Ytopieffkpdlpbaa.Wx
namespace Go.Proofs.Ytopieffkpdlpbaa.Wx
open Go Go.RowKit
def A0.cells : A0 → List Ce
 | .one c => [c]
 | .agg cs => cs
def Ce.single : Ce → Bool
 | .v x => x.oneCell'
 | _ => true
theorem Ce.single_val {I : IM} {R : RM} {c : Ce} {u : Value} (h : c.single = true) (hr : c.rel I R u) : u.oneCell' = true := by
 cases c with
 | v x => cases hr; exact h
 | own i q k => obtain ⟨p, _, rfl⟩ := hr; rfl
 | osl i q n c => obtain ⟨p, c', _, rfl, _⟩ := hr; rfl
 | fn f cap => obtain ⟨vs, _, rfl⟩ := hr; rfl
 | ro fl sz rows => cases hr <;> rfl
 | rp fl row k => obtain ⟨b, o, rfl, _⟩ := hr; rfl
 | gsl i rows => rcases hr with ⟨_, rfl⟩ | ⟨_, p, c', _, rfl, _⟩ <;> rfl
 | mpv i => obtain ⟨p, _, rfl⟩ := hr; rfl
 | yl i => obtain ⟨p, _, rfl⟩ := hr; rfl
 | mf f l => obtain ⟨vs, _, rfl⟩ := hr; rfl
theorem cells_one {u : Value} (h : u.oneCell' = true) : u.cells = #[u] := by cases u <;> simp_all [Value.oneCell', Value.cells]
theorem A0.cells_rel {I : IM} {R : RM} {v : A0} {u : Value} (h1 : v.cells.all Ce.single = true) (hr : v.rel I R u) : All2 (Ce.rel I R) v.cells u.cells.toList ∧ ∀ x ∈ u.cells.toList, x.oneCell' = true := by
 cases v with
 | one c =>
  have hs : c.single = true := by simpa [A0.cells] using h1
  have h2 := Ce.single_val hs hr
  rw [cells_one h2]
  exact ⟨⟨hr, trivial⟩, by simpa using h2⟩
 | agg cs =>
  obtain ⟨vs, rfl, h3⟩ := hr
  refine ⟨by simpa [A0.cells, Value.cells] using h3, ?_⟩
  intro x hx
  obtain ⟨c, hc, hcr⟩ := h3.mem (by simpa [Value.cells] using hx)
  exact Ce.single_val (by simpa using List.all_eq_true.1 h1 c (by simpa [A0.cells] using hc)) hcr
def spl {α : Type} (cs : List α) : Nat → List α → List α
 | _, [] => cs
 | o, v :: r => spl (cs.set o v) (o + 1) r
theorem spl_length {α : Type} : ∀ (vs : List α) (o : Nat) (cs : List α), (spl cs o vs).length = cs.length
 | [], _, _ => rfl
 | v :: r, o, cs => by rw [spl, spl_length r]; simp
theorem spl_get {α : Type} : ∀ (vs : List α) (o : Nat) (cs : List α) (j : Nat), o + vs.length ≤ cs.length → (spl cs o vs)[j]? = if o ≤ j ∧ j < o + vs.length then vs[j - o]? else cs[j]?
 | [], o, cs, j, _ => by simp [spl]; intro h h2; omega
 | v :: r, o, cs, j, h => by
  simp only [List.length_cons] at h
  rw [spl, spl_get r (o + 1) _ j (by simp; omega)]
  by_cases hj : o = j
  ·subst hj
   rw [if_neg (by omega), if_pos (by simp)]
   simp [show o < cs.length by omega]
  ·rw [List.getElem?_set_ne hj]
   by_cases h2 : o + 1 ≤ j ∧ j < o + 1 + r.length
   ·rw [if_pos h2, if_pos (by simp; omega)]
    rw [show j - o = (j - (o + 1)) + 1 by omega]
    simp
   ·rw [if_neg h2, if_neg (by simp; omega)]
theorem All2.set {α β : Type} {r : α → β → Prop} {a : α} {b : β} : ∀ {l : List α} {m : List β} (n : Nat), All2 r l m → r a b → All2 r (l.set n a) (m.set n b)
 | [], [], n, _, _ => by simp [All2]
 | x :: l, y :: m, 0, h, hr => ⟨hr, h.2⟩
 | x :: l, y :: m, n + 1, h, hr => ⟨h.1, All2.set n h.2 hr⟩
 | [], _ :: _, _, hh, _ => hh.elim
 | _ :: _, [], _, hh, _ => hh.elim
theorem All2.spl {α β : Type} {r : α → β → Prop} : ∀ {vs : List α} {us : List β} (o : Nat) {l : List α} {m : List β}, All2 r l m → All2 r vs us → All2 r (spl l o vs) (spl m o us)
 | [], [], _, _, _, h, _ => h
 | v :: vs, u :: us, o, _, _, h, h2 => All2.spl (o + 1) (h.set o h2.1) h2.2
 | [], _ :: _, _, _, _, _, hh => hh.elim
 | _ :: _, [], _, _, _, _, hh => hh.elim
def ovl {α : Type} : List α → List α → List α
 | [], _ => []
 | c :: cs, [] => c :: cs
 | _ :: cs, v :: vs => v :: ovl cs vs
def spq {α : Type} : List α → Nat → List α → List α
 | cs, 0, vs => ovl cs vs
 | [], _ + 1, _ => []
 | c :: cs, n + 1, vs => c :: spq cs n vs
theorem spl_nil {α : Type} : ∀ (vs : List α) (n : Nat), spl ([] : List α) n vs = []
 | [], _ => rfl
 | v :: r, n => by rw [spl]; simpa using spl_nil r (n + 1)
theorem spl_cons {α : Type} {c : α} : ∀ (vs : List α) (n : Nat) (cs : List α), spl (c :: cs) (n + 1) vs = c :: spl cs n vs
 | [], _, _ => rfl
 | v :: r, n, cs => by rw [spl, spl, List.set_cons_succ, spl_cons r (n + 1)]
theorem ovl_eq {α : Type} : ∀ (cs vs : List α), ovl cs vs = spl cs 0 vs
 | [], vs => by rw [ovl, spl_nil]
 | c :: cs, [] => rfl
 | c :: cs, v :: vs => by rw [ovl, spl, List.set_cons_zero, spl_cons, ovl_eq cs vs]
theorem spq_eq {α : Type} : ∀ (cs : List α) (n : Nat) (vs : List α), spq cs n vs = spl cs n vs
 | cs, 0, vs => by rw [spq, ovl_eq]
 | [], n + 1, vs => by rw [spq, spl_nil]
 | c :: cs, n + 1, vs => by rw [spq, spl_cons, spq_eq cs n vs]
theorem heap_setCells (b : Nat) (t : TypeId) : ∀ (vs : List Value) (o : Nat) (cs : Array Value) (w : World), w.heap[b]? = some (.cells cs t (0, 0)) → o + vs.length ≤ cs.size →
  (w.setCells b o vs).heap[b]? = some (.cells (spl cs.toList o vs).toArray t (0, 0))
 | [], _, cs, _, h, _ => by simpa [World.setCells, spl] using h
 | v :: r, o, cs, w, h, hl => by
  simp only [List.length_cons] at hl
  rw [World.setCells, spl]
  have := heap_setCells b t r (o + 1) (cs.setIfInBounds o v) (w.setCell ⟨b, o, none⟩ v) (by rw [heap_setCell_same w b o _ t _ h]) (by simp; omega)
  rw [this]
  simp
theorem other_setCells (b k : Nat) (hk : k ≠ b) : ∀ (vs : List Value) (o : Nat) (w : World), (w.setCells b o vs).heap[k]? = w.heap[k]?
 | [], _, _ => rfl
 | v :: r, o, w => by rw [World.setCells, other_setCells b k hk r, heap_setCell_other _ _ _ _ (by simpa using hk)]
theorem below_cells {B b : Nat} (hb : B ≤ b) : ∀ (vs : List Value) (o : Nat) (w0 w : World), Bel B w0 w → Bel B w0 (w.setCells b o vs)
 | [], _, _, _, h => h
 | v :: r, o, w0, w, h => below_cells hb r (o + 1) w0 _ (h.setCell hb _)
theorem belowZ_cells {W : Wo} {b : Nat} (hb : ¬ W.z b) (vs : List Value) (o : Nat) {w : World} (h : BelowZ W w) : BelowZ W (w.setCells b o vs) := by
 have hB : Bel 0 w (w.setCells b o vs) := below_cells (Nat.zero_le _) vs o w w (.refl _ _)
 refine ⟨hB.os.trans h.os, hB.tape.trans h.tape, hB.output.trans h.output, Nat.le_trans h.size hB.size, fun k hk => ⟨(h.block k hk).1, ?_⟩, Nat.le_trans h.drawn hB.drawn⟩
 rw [other_setCells b k (fun e => hb (e ▸ hk))]
 exact (h.block k hk).2
section
variable {P : Program} {n : Nat} {W : Wo} {F : Nat → Option AV} {K : Nat → Option Blk} {I I' : IM} {R R' : RM} {a : Act} {w w' : World}
theorem Wd.store (h : Wd W K I R w) {i : Nat} {b : Blk} (hb : K i = some b) {p : Loc} (hp : I i = some p) {q : Nat} {row : List Ce} (hr : b.rows[q]? = some row) (k : Nat) (vs : List Ce) (us : List Value) (hv : All2 (Ce.rel I R) vs us) (hle : k + vs.length ≤ row.length) :
  Wd W (kup K [(i, some ⟨b.rows.set q (spl row k vs), b.sz, b.ty, b.bx⟩)]) I R (w.setCells p.b (q * p.sz + k) us) := by
 obtain ⟨p', hp', hk⟩ := h.blk i b hb
 rw [hp] at hp'; cases hp'
 have hbase := h.base i b p hb hp
 obtain ⟨cs, hm, hsz, hc⟩ := hk.mem
 have hrow : row.length = p.sz := by rw [hk.sz]; exact hk.row row (List.mem_of_getElem? hr)
 have hql : q < b.rows.length := (List.getElem?_eq_some_iff.1 hr).1
 have hlen := hv.length
 have hfit : q * p.sz + k + us.length ≤ cs.size := by
  rw [hsz]
  have h1 : (q + 1) * p.sz ≤ p.tot * p.sz := Nat.mul_le_mul_right _ (by have := hk.fit; omega)
  rw [Nat.add_mul] at h1
  omega
 refine h.change (.refl _) (belowZ_cells hbase _ _ h.below) ?_ ?_ ?_
 ·intro j b' hj
  simp only [kup] at hj
  by_cases hij : j = i
  ·subst hij
   simp only [if_true, Option.some.injEq] at hj
   subst hj
   refine .inr ⟨p, hp, ⟨hk.sz, by simpa using hk.fit, hk.few, ?_, (spl cs.toList (q * p.sz + k) us).toArray, heap_setCells _ _ _ _ _ _ hm hfit, by simpa [spl_length] using hsz, ?_⟩, hbase, fun f o => h.apart j b p f o hb hp⟩
   ·intro r hr'
    rcases List.mem_or_eq_of_mem_set hr' with h2 | h2
    ·exact hk.row r h2
    ·rw [h2, spl_length, ← hk.sz]; exact hrow
   ·intro q' r k' c hq' hk'
    simp only [List.getElem?_toArray]
    rw [spl_get _ _ _ _ (by simpa using hfit)]
    by_cases hqq : q = q'
    ·subst hqq
     rw [List.getElem?_set_self hql] at hq'
     cases hq'
     rw [spl_get _ _ _ _ hle] at hk'
     by_cases h2 : k ≤ k' ∧ k' < k + vs.length
     ·rw [if_pos h2] at hk'
      rw [if_pos (by omega)]
      rw [show q * p.sz + k' - (q * p.sz + k) = k' - k by omega]
      exact hv.get hk'
     ·rw [if_neg h2] at hk'
      rw [if_neg (by omega)]
      obtain ⟨u, h3, h4⟩ := hc q row k' c hr hk'
      exact ⟨u, by simpa using h3, h4⟩
    ·rw [List.getElem?_set_ne hqq] at hq'
     obtain ⟨u, h3, h4⟩ := hc q' r k' c hq' hk'
     have hk'' : k' < p.sz := by
      have := (List.getElem?_eq_some_iff.1 hk').1
      rw [hk.row r (List.mem_of_getElem? hq')] at this
      rw [hk.sz]; exact this
     rw [if_neg ?_]
     ·exact ⟨u, by simpa using h3, h4⟩
     ·rintro ⟨h5, h6⟩
      rcases Nat.lt_or_gt_of_ne hqq with h7 | h7
      ·have := Nat.mul_le_mul_right p.sz (show q + 1 ≤ q' from h7)
       rw [Nat.add_mul] at this
       omega
      ·have := Nat.mul_le_mul_right p.sz (show q' + 1 ≤ q from h7)
       rw [Nat.add_mul] at this
       omega
  ·rw [if_neg hij] at hj
   exact .inl ⟨hj, fun p2 hp2 => other_setCells _ _ (fun he => hij (h.inj _ _ _ _ _ _ hj hb hp2 hp he)) _ _ _⟩
 ·intro f b2 o u hu
  refine other_setCells _ _ (fun he => ?_) _ _ _
  rw [he, h.apart i b p f o hb hp] at hu
  cases hu
 ·intro j j' bj bj' p2 q2 hj hj' hp2 hq2 he
  simp only [kup] at hj hj'
  have : ∀ j bj, (if j = i then some (⟨b.rows.set q (spl row k vs), b.sz, b.ty, b.bx⟩ : Blk) else K j) = some bj → ∃ b0, K j = some b0 := fun j bj hj => by
   split at hj
   ·rename_i e; rw [e]; exact ⟨b, hb⟩
   ·exact ⟨bj, hj⟩
  obtain ⟨b1, h1⟩ := this j bj hj
  obtain ⟨b2, h2⟩ := this j' bj' hj'
  exact h.inj _ _ _ _ _ _ h1 h2 hp2 hq2 he
theorem St.put0 (h : St n W F K I R a w) (hI : IExt I I') (hR : RExt R R') {K' : Nat → Option Blk} (hw : Wd W K' I' R' w') : St n W F K' I' R' a w' :=
 ⟨h.size, h.defers, fun t y hy => AV.mono hI hR (h.fr t y hy), hw⟩
end
section
variable {P : Program} {o : Oper} {F0 : Nat → Option AV} {K0 : Nat → Option Blk} {rd : List Nat} {av : AV} {top : Nat} {T : Tab}
theorem e_store (t : TypeId) (x y : Operand) (ho : o.op = .store t x y) (hdst : o.dst = none) (ti : TI) (ht : tiOf P t = some ti) (i q k : Nat) (hx : evf F0 x = some (.c (.own i q k))) (b : Blk) (hb : K0 i = some b) (row : List Ce) (hr : b.rows[q]? = some row)
  (v : A0) (hy : evf F0 y = some (.pl v)) (hsz : Nat.beq v.cells.length ti.size = true) (h1 : v.cells.all Ce.single = true) (hl : Nat.ble (k + v.cells.length) row.length = true) :
  OpEff P o F0 K0 top ⟨.val undef, [i], [(i, some ⟨b.rows.set q (spl row k v.cells), b.sz, b.ty, b.bx⟩)], top⟩ := by
 intro n W F K I R a w hs hxx hk hf hd next Q hn
 have hm : ∀ z ∈ [x, y], evf F z = evf F0 z := fun z hz => hxx z (by simpa [ho, Op.operands] using hz)
 obtain ⟨p, hp, hu⟩ := hs.ev ((hm x (by simp)).trans hx)
 have hv := hs.ev ((hm y (by simp)).trans hy)
 obtain ⟨c1, c2⟩ := A0.cells_rel h1 hv
 have hlen := c1.length
 have hle : k + v.cells.length ≤ row.length := by simpa [Nat.ble_eq] using hl
 have hsz' : v.cells.length = ti.size := Nat.eq_of_beq_eq_true hsz
 have hKb : K i = some b := (hk i (by simp)).trans hb
 obtain ⟨p', vs, hp', hpsz, r1, r2, r3⟩ := hs.row hKb hr
 rw [hp] at hp'; cases hp'
 obtain ⟨d, inf, z, hud, hinf, _, _, hisz, _⟩ := tiOf_load ht
 have hst := run_storeCells_cells (P := P) p.b (q * p.sz + k) (a.eval y).cells.toList 0 w (fun j hj => by
   obtain ⟨u, hu'⟩ : ∃ u, vs[k + j]? = some u := ⟨vs[k + j]'(by rw [← r1.length]; omega), List.getElem?_eq_getElem _⟩
   have := r2 (k + j) u hu'
   rw [Nat.add_zero, Nat.add_assoc, this]; rfl) (fun j hj => r3 _) c2
 have hrun : (execOp a.eval o).run P w = .ok .skip (w.setCells p.b (q * p.sz + k) (a.eval y).cells.toList) := by
  simp only [execOp, ho, hu]
  rw [Sem.run_bind]
  have : (Instr.storeAt t (.pointer (some ⟨p.b, q * p.sz + k, none⟩)) (a.eval y)).run P w = .ok () (w.setCells p.b (q * p.sz + k) (a.eval y).cells.toList) := by
   have hcl : (a.eval y).cells.size = ti.size := by rw [← hsz', hlen]; simp
   simp only [Instr.storeAt, Instr.sureAddr, Sem.run_bind, Sem.run_pure, Result.andThen_ok]
   simp [storeVar, sizeOf, typeInfo, hinf, hisz, hcl]
   simpa using hst
  rw [this]; rfl
 unfold Oper.wp
 rw [hrun]
 refine hn I R _ _ ?_ (.refl _) (fun _ _ => rfl) (.refl _)
 have hw' := hs.wd.store hKb hp hr k v.cells _ c1 hle
 rw [hdst]
 exact hs.put0 (.refl _) (.refl _) hw'
theorem dom_ext {I : IM} {top : Nat} {p : Loc} : ∀ j, ¬ (top ≤ j ∧ j < top + 1) → ext I top p j = I j := fun j hj => by
 simp only [Wx.ext]; rw [if_neg (by omega)]
theorem e_new {n : Nat} {W : Wo} {F : Nat → Option AV} {K : Nat → Option Blk} {I : IM} {R : RM} {a : Act} {w : World} (hs : St n W F K I R a w) (hf : I top = none ∧ K top = none) (t : TypeId) {cs : List Ce} {us : List Value} (hc : All2 (Ce.rel I R) cs us) {d : Option Nat} (hd : dstB n d = true) :
  St n W (fput F d (.c (.own top 0 0))) (kup K [(top, some ⟨[cs], cs.length, t, true⟩)]) (ext I top ⟨w.heap.size, cs.length, 1⟩) R (a.put d (.pointer (some ⟨w.heap.size, 0, none⟩))) (w.alloc (.cells us.toArray t (0, 0))) := by
 have hw := hs.wd.new hf.1 hf.2 ⟨[cs], cs.length, t, true⟩ (by simp) 1 (by simp) (by simp [maxLen]) ((Bel.refl _ w).alloc (Nat.le_refl _) _) (Nat.le_refl _) us.toArray (heap_push w _) (by simp [hc.length]) (fun q r k c h1 h2 => by
  cases q with
  | zero =>
   simp at h1; subst h1
   obtain ⟨u, hu, hr⟩ := hc.get h2
   exact ⟨u, by simpa using hu, hr⟩
  | succ q => simp at h1)
 exact hs.put (.ext hf.1) (.refl _) hw hd ⟨_, by simp [Wx.ext]; rfl, by simp⟩
theorem e_alloc (t : TypeId) (ho : o.op = .alloc t) (ti : TI) (ht : tiOf P t = some ti) : OpEff P o F0 K0 top ⟨.c (.own top 0 0), [], [(top, some ⟨[ti.zero.map .v], (ti.zero.map Ce.v).length, t, true⟩)], top + 1⟩ := by
 intro n W F K I R a w hs hxx hk hf hd next Q hn
 obtain ⟨d, inf, z, hud, hinf, hz, _, hisz, hzc⟩ := tiOf_load ht
 have hc : All2 (Ce.rel I R) (ti.zero.map Ce.v) z.cells.toList := by
  rw [hzc]; exact All2.map _ (All2.of_get rfl fun i a b h1 h2 => by rw [h1] at h2; cases h2; rfl)
 have h2 := e_new hs (hf top (Nat.le_refl _) (by simp)) t hc hd
 unfold Oper.wp
 have hrun : (execOp a.eval o).run P w = .ok (.value (.pointer (some ⟨w.heap.size, 0, none⟩))) (w.alloc (.cells z.cells.toList.toArray t (0, 0))) := by
  simp only [execOp, ho]
  simp [go_sem, zeroValue, typeInfo, hinf, hz]
 rw [hrun]
 exact hn _ _ _ _ h2 (.ext (hf top (Nat.le_refl _) (by simp)).1) dom_ext (.refl _)
theorem e_box (t : TypeId) (x : Operand) (ho : o.op = .box t x) (v : A0) (hx : evf F0 x = some (.pl v)) (h1 : v.cells.all Ce.single = true) : OpEff P o F0 K0 top ⟨.c (.own top 0 0), [], [(top, some ⟨[v.cells], v.cells.length, t, true⟩)], top + 1⟩ := by
 intro n W F K I R a w hs hxx hk hf hd next Q hn
 have hv := hs.ev ((hxx x (by simp [ho, Op.operands])).trans hx)
 obtain ⟨c1, c2⟩ := A0.cells_rel h1 hv
 have h2 := e_new hs (hf top (Nat.le_refl _) (by simp)) t c1 hd
 unfold Oper.wp
 have hrun : (execOp a.eval o).run P w = .ok (.value (.pointer (some ⟨w.heap.size, 0, none⟩))) (w.alloc (.cells (a.eval x).cells.toList.toArray t (0, 0))) := by
  simp only [execOp, ho]
  simp [go_sem]
 rw [hrun]
 exact hn _ _ _ _ h2 (.ext (hf top (Nat.le_refl _) (by simp)).1) dom_ext (.refl _)
def fillC (offs : List (Nat × Nat × Bool)) : List Ce → List (Nat × A0) → Option (List Ce)
 | cs, [] => some cs
 | cs, (i, v) :: r => match offs[i]? with
  | some (off, sz, _) => match Nat.beq v.cells.length sz && Nat.ble (off + sz) cs.length && v.cells.all Ce.single with
   | true => fillC offs (spq cs off v.cells) r
   | false => none
  | none => none
theorem fold_spl (off : Nat) : ∀ (l : List Value) (k : Nat) (arr : Array Value), ((l.zipIdx k).foldl (fun cs (p : Value × Nat) => cs.setIfInBounds (off + p.2) p.1) arr).toList = spl arr.toList (off + k) l
 | [], _, _ => rfl
 | v :: r, k, arr => by
  simp only [List.zipIdx_cons, List.foldl_cons, spl]
  rw [fold_spl off r (k + 1)]
  simp [Nat.add_assoc]
theorem fill_rel {I : IM} {R : RM} {offs : List (Nat × Nat × Bool)} {place : Nat → Option (Nat × Nat)} (hpl : ∀ i off sz r, offs[i]? = some (off, sz, r) → place i = some (off, sz)) :
  ∀ {parts : List (Nat × A0)} {vals : List (Nat × Value)} {cs : List Ce} {us : Array Value} {out : List Ce}, All2 (Ce.rel I R) cs us.toList → All2 (fun (a : Nat × A0) (b : Nat × Value) => a.1 = b.1 ∧ a.2.rel I R b.2) parts vals → fillC offs cs parts = some out →
   ∃ arr, Instr.fill place us vals = some arr ∧ All2 (Ce.rel I R) out arr.toList
 | [], [], cs, us, out, h, _, ho => by simp only [fillC, Option.some.injEq] at ho; subst ho; exact ⟨us, rfl, h⟩
 | (i, v) :: parts, (j, u) :: vals, cs, us, out, h, hp, ho => by
  obtain ⟨⟨h1, h2⟩, h3⟩ := hp
  simp only at h1 h2
  subst h1
  simp only [fillC, spq_eq] at ho
  split at ho
  ·rename_i off sz r hoff
   split at ho
   ·rename_i hb
    simp only [Bool.and_eq_true] at hb
    obtain ⟨⟨b1, b2⟩, b3⟩ := hb
    have e1 := Nat.eq_of_beq_eq_true b1
    have e2 : off + sz ≤ cs.length := by simpa [Nat.ble_eq] using b2
    obtain ⟨c1, c2⟩ := A0.cells_rel b3 h2
    have l1 := c1.length
    have l2 := h.length
    have hf : (u.cells.zipIdx.foldl (fun cs (p : Value × Nat) => cs.setIfInBounds (off + p.2) p.1) us).toList = spl us.toList off u.cells.toList := by
     have := fold_spl off u.cells.toList 0 us
     rw [← Array.foldl_toList, Array.toList_zipIdx]
     simpa using this
    obtain ⟨arr, h5, h6⟩ := fill_rel hpl (us := u.cells.zipIdx.foldl (fun cs (p : Value × Nat) => cs.setIfInBounds (off + p.2) p.1) us) (by rw [hf]; exact h.spl off c1) h3 ho
    refine ⟨arr, ?_, h6⟩
    simp only [Instr.fill, hpl i off sz r hoff]
    rw [if_neg (by simp only [Bool.or_eq_true, decide_eq_true_eq, not_or]; simp at l1 l2 ⊢; omega)]
    exact h5
   ·cases ho
  ·cases ho
 | [], _ :: _, _, _, _, _, hh, _ => hh.elim
 | _ :: _, [], _, _, _, _, hh, _ => hh.elim
def evb (F : Nat → Option AV) : List (Nat × Operand) → Option (List (Nat × A0))
 | [] => some []
 | (i, x) :: r => match evf F x, evb F r with
  | some (.pl v), some l => some ((i, v) :: l)
  | _, _ => none
theorem St.evb {n : Nat} {W : Wo} {F : Nat → Option AV} {K : Nat → Option Blk} {I : IM} {R : RM} {a : Act} {w : World} (h : St n W F K I R a w) : ∀ {l : List (Nat × Operand)} {vs : List (Nat × A0)}, (∀ q ∈ l, evf F q.2 = evf F0 q.2) → Wx.evb F0 l = some vs →
  All2 (fun (a : Nat × A0) (b : Nat × Value) => a.1 = b.1 ∧ a.2.rel I R b.2) vs (l.map fun q => (q.1, a.eval q.2))
 | [], vs, _, hx => by simp only [Wx.evb, Option.some.injEq] at hx; subst hx; trivial
 | (i, x) :: r, vs, hm, hx => by
  simp only [Wx.evb] at hx
  split at hx
  ·rename_i v l h1 h2
   simp only [Option.some.injEq] at hx
   subst hx
   exact ⟨⟨rfl, h.ev ((hm (i, x) List.mem_cons_self).trans h1)⟩, h.evb (fun q hq => hm q (List.mem_cons_of_mem _ hq)) h2⟩
  ·cases hx
theorem run_places {w : World} : ∀ (l : List Field), (∀ f ∈ l, ∃ i, P.info? f.type = some i ∧ fsz P f.type = i.size) → (l.mapM fun f => (do pure (f.offset, ← sizeOf f.type) : Sem (Nat × Nat))).run P w = .ok (l.map fun f => (f.offset, fsz P f.type)) w
 | [], _ => by simp
 | f :: r, hl => by
  obtain ⟨i, hi, h2⟩ := hl f List.mem_cons_self
  have ih := run_places (w := w) r fun g hg => hl g (List.mem_cons_of_mem _ hg)
  have h1 : (sizeOf f.type).run P w = .ok i.size w := by simp [sizeOf, typeInfo, hi]
  rw [List.mapM_cons, Sem.run_bind, Sem.run_bind, h1]
  simp only [Result.andThen_ok, Sem.run_pure, List.map_cons, h2]
  rw [Sem.run_bind, ih]
  simp
theorem y_build (t : TypeId) (ps : Array (Nat × Operand)) (ho : o.op = .build t ps) (ti : TI) (ht : tiOf P t = some ti) (hoff : (match ti.offs with | [] => false | _ => ti.offs.all fun x => Nat.blt 0 x.2.1) = true) (avs : List (Nat × A0)) (hx : evb F0 ps.toList = some avs) (out : List Ce) (hout : fillC ti.offs (ti.zero.map .v) avs = some out) :
  Yv P o F0 K0 [] (.pl (.agg out)) := by
 obtain ⟨d, inf, z, hud, hinf, hz, _, hisz, hzc⟩ := tiOf_load ht
 have hall : ∀ x ∈ ti.offs, 0 < x.2.1 := by
  intro x hx
  split at hoff
  ·cases hoff
  ·have := List.all_eq_true.1 hoff x hx
   simpa [Nat.blt_eq] using this
 obtain ⟨fs, hst⟩ : ∃ fs, P.underlying t = some (.struct fs) := by
  have h0 : ∃ x, ti.offs[0]? = some x := by
   cases hq : ti.offs with
   | nil => rw [hq] at hoff; cases hoff
   | cons x r => exact ⟨x, rfl⟩
  obtain ⟨⟨off, sz, r⟩, hx0⟩ := h0
  obtain ⟨fs, fd, h1, _⟩ := tiOf_field ht hx0
  exact ⟨fs, h1⟩
 have hoffs : ti.offs = fs.toList.map fun f => (f.offset, fsz P f.type, (match P.underlying f.type with | some d => d.isRow | none => false)) := by
  have := ht
  unfold tiOf at this
  rw [hst, hinf] at this
  simp only [hz, Option.some.injEq] at this
  rw [← this]
  try rfl
 have hinfo : ∀ f ∈ fs.toList, ∃ i, P.info? f.type = some i ∧ fsz P f.type = i.size := by
  intro f hf
  have := hall (f.offset, fsz P f.type, _) (by rw [hoffs]; exact List.mem_map.2 ⟨f, hf, rfl⟩)
  obtain ⟨_, inf, _, h1, h2⟩ := fsz_spec rfl this
  exact ⟨inf, h1, h2.symm⟩
 intro n W F K I R a w hs hxx hk
 have e := hs.evb (fun q hq => hxx q.2 (by simp [ho, Op.operands]; exact ⟨q.1, by simpa using hq⟩)) hx
 have hplaces : (fs.mapM fun f => (do pure (f.offset, ← sizeOf f.type) : Sem (Nat × Nat))).run P w = .ok (fs.toList.map fun f => (f.offset, fsz P f.type)).toArray w := by
  rw [Array.mapM_eq_mapM_toList, ← bind_pure_comp, Sem.run_bind, run_places _ hinfo]
  rfl
 obtain ⟨arr, h1, h2⟩ := fill_rel (I := I) (R := R) (place := fun i => (fs.toList.map fun f => (f.offset, fsz P f.type)).toArray[i]?) (by
   intro i off sz r hi
   rw [hoffs] at hi
   simp only [List.getElem?_map, Option.map_eq_some_iff] at hi
   obtain ⟨f, hf, he⟩ := hi
   simp only [Prod.mk.injEq] at he
   obtain ⟨e1, e2, _⟩ := he
   simp only [List.getElem?_toArray, List.getElem?_map, hf, Option.map_some, e1, e2]) (us := z.cells) (cs := ti.zero.map Ce.v) (by
   rw [hzc]; exact All2.map _ (All2.of_get rfl fun i a b h1 h2 => by rw [h1] at h2; cases h2; rfl)) e hout
 refine ⟨.agg arr, ?_, arr.toList, by simp, h2⟩
 simp only [execOp, ho]
 have hb : (Instr.build t (ps.map fun (i, x) => (i, a.eval x))).run P w = .ok (.agg arr) w := by
  have hzv : (zeroValue t).run P w = .ok z w := by simp [zeroValue, typeInfo, hinf, hz]
  have hp : (ps.map fun (i, x) => (i, a.eval x)).toList = ps.toList.map fun q => (q.1, a.eval q.2) := by simp
  simp only [Instr.build]
  rw [Sem.run_bind, hzv]
  simp only [Result.andThen_ok]
  rw [Sem.run_bind, run_underlying hst]
  simp only [Result.andThen_ok]
  rw [Sem.run_bind, hplaces]
  simp only [Result.andThen_ok, hp, h1, Sem.run_pure]
 rw [Sem.run_bind, hb]
 rfl
theorem y_index (t : TypeId) (x y : Operand) (ho : o.op = .indexAddr t x y) (ti : TI) (ht : tiOf P t = some ti) (e : TypeId) (s bt : Nat) (hel : ti.elem = some (e, s, bt)) (i q m : Nat) (c : Option Nat) (hx : evf F0 x = some (.c (.osl i q m c)) ∨ (q = 0 ∧ ∃ rows, m = rows.length ∧ evf F0 x = some (.c (.gsl i rows)))) (b : Blk) (hb : K0 i = some b) (hsz : Nat.beq b.sz s = true)
  (k : IntKind) (j : Int) (hy : evf F0 y = some (.val (.int k j))) (j' : Nat) (hj : j = (j' : Int)) (hlt : j' < m) : Yv P o F0 K0 [i] (.c (.own i (q + j') 0)) := by
 obtain ⟨hu, inf, z, hinf, _, hs1, _⟩ := tiOf_elem ht hel
 have hsz' := Nat.eq_of_beq_eq_true hsz
 subst hj
 intro n W F K I R a w hs hxx hk
 have hm : ∀ z ∈ [x, y], evf F z = evf F0 z := fun z hz => hxx z (by simpa [ho, Op.operands] using hz)
 obtain ⟨p, c', hp, hx'⟩ : ∃ p c', I i = some p ∧ a.eval x = .slice (some ⟨p.b, q * p.sz, none⟩) m c' := by
  rcases hx with hx | ⟨rfl, rows, rfl, hx⟩
  ·obtain ⟨p, c', hp, hx', _⟩ := hs.ev ((hm x (by simp)).trans hx); exact ⟨p, c', hp, hx'⟩
  ·rcases hs.ev ((hm x (by simp)).trans hx) with ⟨rfl, _⟩ | ⟨_, p, c', hp, hx', _⟩
   ·simp at hlt
   ·exact ⟨p, c', hp, by simpa using hx'⟩
 have hy' := ev_plain hs ((hm y (by simp)).trans hy)
 obtain ⟨p', hp', hbk⟩ := hs.wd.blk i b ((hk i (by simp)).trans hb)
 rw [hp] at hp'; cases hp'
 refine ⟨_, ?_, p, hp, rfl⟩
 simp only [execOp, ho, hx', hy']
 have hrun : (Instr.indexAt t (.slice (some ⟨p.b, q * p.sz, none⟩) m c') (.int k (j' : Int))).run P w = .ok (.pointer (some ⟨p.b, (q + j') * p.sz + 0, none⟩)) w := by
  unfold Instr.indexAt
  simp only [asIntOf, Sem.run_bind, Sem.run_pure, Result.andThen_ok, run_underlying hu w]
  simp [sizeOf, typeInfo, hinf, hs1, ← hsz', ← hbk.sz, hlt, Addr.add_mid, Nat.add_mul]
 rw [Sem.run_bind, hrun]
 rfl
theorem y_indexr (t : TypeId) (x y : Operand) (ho : o.op = .indexAddr t x y) (ti : TI) (ht : tiOf P t = some ti) (e : TypeId) (s bt : Nat) (hel : ti.elem = some (e, s, bt)) (fl : Bool) (sz : Nat) (rows : List (List RT)) (hx : evf F0 x = some (.c (.ro fl sz rows))) (hsz : Nat.beq sz s = true)
  (k : IntKind) (j : Int) (hy : evf F0 y = some (.val (.int k j))) (j' : Nat) (hj : j = (j' : Int)) (row : List RT) (hr : rows[j']? = some row) : Yv P o F0 K0 [] (.c (.rp fl row 0)) := by
 obtain ⟨hu, inf, z, hinf, _, hs1, _⟩ := tiOf_elem ht hel
 have hsz' := Nat.eq_of_beq_eq_true hsz
 subst hj
 intro n W F K I R a w hs hxx hk
 have hm : ∀ z ∈ [x, y], evf F z = evf F0 z := fun z hz => hxx z (by simpa [ho, Op.operands] using hz)
 have hx' := hs.ev ((hm x (by simp)).trans hx)
 have hy' := ev_plain hs ((hm y (by simp)).trans hy)
 simp only [AV.rel, A0.rel, Ce.rel] at hx'
 have hlt : j' < rows.length := (List.getElem?_eq_some_iff.1 hr).1
 simp only [execOp, ho, hy']
 generalize a.eval x = u at *
 cases hx' with
 | nil => simp at hlt
 | emp => simp at hlt
 | ro _ _ b off cap val hl hcap hc hrr =>
  refine ⟨.pointer (some ⟨b, off + j' * sz + 0, none⟩), ?_, b, off + j' * sz, rfl, fun l t hlt' => ⟨_, hc j' row l t hr hlt', hrr j' row l t hr hlt'⟩⟩
  have hrun : (Instr.indexAt t (.slice (some ⟨b, off, none⟩) rows.length cap) (.int k (j' : Int))).run P w = .ok (.pointer (some ⟨b, off + j' * sz + 0, none⟩)) w := by
   unfold Instr.indexAt
   simp only [asIntOf, Sem.run_bind, Sem.run_pure, Result.andThen_ok, run_underlying hu w]
   simp [sizeOf, typeInfo, hinf, hs1, ← hsz', hlt, Addr.add_mid]
  rw [Sem.run_bind, hrun]
  rfl
theorem y_indexa (t : TypeId) (x y : Operand) (ho : o.op = .indexAddr t x y) (ti : TI) (ht : tiOf P t = some ti) (m s : Nat) (rw' : Bool) (hel : ti.arr = some (m, s, rw')) (c c' : Ce) (hx : evf F0 x = some (.c c))
  (k : IntKind) (j : Int) (hy : evf F0 y = some (.val (.int k j))) (j' : Nat) (hj : j = (j' : Int)) (hlt : j' < m) (hc : (match c with | .own i q k => some (Ce.own i q (k + j' * s)) | .rp fl row k => some (.rp fl row (k + j' * s)) | _ => none) = some c') : Yv P o F0 K0 [] (.c c') := by
 obtain ⟨e, de, inf, hu, hinf, _, hs1, _⟩ := tiOf_arr ht hel
 subst hj
 intro n W F K I R a w hs hxx hk
 have hm : ∀ z ∈ [x, y], evf F z = evf F0 z := fun z hz => hxx z (by simpa [ho, Op.operands] using hz)
 have hx' := hs.ev ((hm x (by simp)).trans hx)
 have hy' := ev_plain hs ((hm y (by simp)).trans hy)
 have hrun : ∀ b o', (Instr.indexAt t (.pointer (some ⟨b, o', none⟩)) (.int k (j' : Int))).run P w = .ok (.pointer (some ⟨b, o' + j' * s, none⟩)) w := by
  intro b o'
  unfold Instr.indexAt
  simp only [asIntOf, Sem.run_bind, Sem.run_pure, Result.andThen_ok, run_underlying hu w]
  simp [sizeOf, typeInfo, hinf, hs1, hlt, Addr.add_mid, Instr.sureAddr, run_underlying hu]
 simp only [execOp, ho, hy']
 cases c with
 | own i q k =>
  simp only [Option.some.injEq] at hc
  subst hc
  obtain ⟨p, hp, hu⟩ := hx'
  refine ⟨_, ?_, p, hp, rfl⟩
  rw [hu, Sem.run_bind, hrun]
  simp [Nat.add_assoc]
 | rp fl row k =>
  simp only [Option.some.injEq] at hc
  subst hc
  obtain ⟨b, o', hu, hh⟩ := hx'
  refine ⟨_, ?_, b, o', rfl, hh⟩
  rw [hu, Sem.run_bind, hrun]
  simp [Nat.add_assoc]
 | _ => simp at hc
theorem y_len (t : TypeId) (x : Operand) (ho : o.op = .call ⟨.builtin .len, #[x], #[t]⟩) (ti : TI) (ht : tiOf P t = some ti) (e : TypeId) (s bt : Nat) (hel : ti.elem = some (e, s, bt)) (c : Ce) (hx : evf F0 x = some (.c c)) (m : Nat)
  (hc : (match c with | .osl i q m c => some m | .ro fl sz rows => some rows.length | .gsl i rows => some rows.length | .v (.slice a m c) => some m | _ => none) = some m) : Yv P o F0 K0 [] (.val (.int .i64 m)) := by
 obtain ⟨hu, inf, z, hinf, _, hs1, _⟩ := tiOf_elem ht hel
 intro n W F K I R a w hs hxx hk
 have hx' := hs.ev ((hxx x (by simp [ho, Op.operands, Call.operands])).trans hx)
 obtain ⟨ad, cap, hv⟩ : ∃ ad cap, a.eval x = .slice ad m cap := by
  generalize a.eval x = u at *
  cases c with
  | v y =>
   cases y <;> simp at hc
   subst hc
   exact ⟨_, _, hx'⟩
  | osl i q l c =>
   simp only [Option.some.injEq] at hc
   subst hc
   obtain ⟨p, c', _, h, _⟩ := hx'
   exact ⟨_, _, h⟩
  | ro fl sz rows =>
   simp only [Option.some.injEq] at hc
   subst hc
   simp only [AV.rel, A0.rel, Ce.rel] at hx'
   cases hx' with
   | nil => exact ⟨_, _, rfl⟩
   | emp => exact ⟨_, _, rfl⟩
   | ro _ _ b off cap val hl hcap hc hrr => exact ⟨_, _, rfl⟩
  | gsl i rows =>
   simp only [Option.some.injEq] at hc
   subst hc
   rcases hx' with ⟨h1, h2⟩ | ⟨_, p, c', _, h2, _⟩
   ·rw [h1]; exact ⟨_, _, h2⟩
   ·exact ⟨_, _, h2⟩
  | _ => simp at hc
 refine ⟨_, ?_, rfl⟩
 simp only [execOp, ho]
 rw [Sem.run_bind]
 simp [resolve, invoke, builtin, Builtin.len_, hv, run_underlying hu, goInt]
theorem y_mm (mx : Bool) (x y : Operand) (ts : Array TypeId) (ho : o.op = .call ⟨.builtin (if mx then .max else .min), #[x, y], ts⟩) (k : IntKind) (p q : Int) (hx : evf F0 x = some (.val (.int k p))) (hy : evf F0 y = some (.val (.int k q))) :
  Yv P o F0 K0 [] (.val (.int k (if mx then max p q else min p q))) := by
 intro n W F K I R a w hs hxx hk
 have hm : ∀ z ∈ [x, y], evf F z = evf F0 z := fun z hz => hxx z (by simpa [ho, Op.operands, Call.operands] using hz)
 have e1 := ev_plain hs ((hm x (by simp)).trans hx)
 have e2 := ev_plain hs ((hm y (by simp)).trans hy)
 refine ⟨_, ?_, rfl⟩
 cases mx with
 | true =>
  have hmx : (if q > p then q else p) = max p q := by
   rw [Int.max_def]
   split <;> split <;> omega
  simp only [execOp, ho]
  rw [Sem.run_bind]
  simp [resolve, invoke, builtin, Builtin.max_, Builtin.max2, e1, e2]
  exact hmx
 | false =>
  have hmn : (if q < p then q else p) = min p q := by
   rw [Int.min_def]
   split <;> split <;> omega
  simp only [execOp, ho]
  rw [Sem.run_bind]
  simp [resolve, invoke, builtin, Builtin.min_, Builtin.min2, e1, e2]
  exact hmn
theorem y_field (t : TypeId) (x : Operand) (f : Nat) (ho : o.op = .field t x f) (ti : TI) (ht : tiOf P t = some ti) (off sz : Nat) (r : Bool) (hf : ti.offs[f]? = some (off, sz, r)) (hz : Nat.blt 0 sz = true) (cs : List Ce) (hx : evf F0 x = some (.pl (.agg cs))) (v : A0) (hv : cut r off sz cs = some v) : Yv P o F0 K0 [] (.pl v) := by
 obtain ⟨fs, fd, h1, h2, h3, h4, h5⟩ := tiOf_field ht hf
 intro n W F K I R a w hs hxx hk
 have h0 := hs.ev ((hxx x (by simp [ho, Op.operands])).trans hx)
 simp only [AV.rel, A0.rel] at h0
 obtain ⟨vs, e1, e2⟩ := h0
 have hz' : 0 < sz := by simpa [Nat.blt_eq] using hz
 obtain ⟨dd, inf, hdd, hinf, hsz⟩ := fsz_spec h4 hz'
 rw [hdd] at h5
 simp only at h5
 have hpart : ∃ u, (part fd.type vs.toArray off).run P w = .ok u w ∧ v.rel I R u := by
  unfold cut at hv
  have hlen := e2.length
  cases hrow : r with
  | true =>
   rw [hrow] at hv h5
   simp only at hv
   split at hv
   ·rename_i hle
    simp only [Option.some.injEq] at hv
    subst hv
    have hle' : off + sz ≤ cs.length := by simpa [Nat.ble_eq] using hle
    have hagg : (isAgg fd.type).run P w = .ok true w := by
     unfold isAgg
     rw [Sem.run_bind, run_underlying hdd w]
     cases dd <;> simp_all
    refine ⟨.agg ((vs.drop off).take sz).toArray, ?_, _, rfl, (e2.drop off).take sz⟩
    unfold part
    rw [Sem.run_bind, hagg]
    simp [sizeOf, typeInfo, hinf, hsz]
   ·cases hv
  | false =>
   rw [hrow] at hv h5
   simp only at hv
   split at hv
   ·rename_i c hcc
    simp only [Option.some.injEq] at hv
    subst hv
    obtain ⟨u, g1, g2⟩ := e2.get hcc
    have hagg : (isAgg fd.type).run P w = .ok false w := by
     unfold isAgg
     rw [Sem.run_bind, run_underlying hdd w]
     cases dd <;> simp_all
    refine ⟨u, ?_, g2⟩
    unfold part
    rw [Sem.run_bind, hagg]
    simp [g1]
   ·cases hv
 obtain ⟨u, g1, g2⟩ := hpart
 refine ⟨u, ?_, g2⟩
 simp only [execOp, ho, e1]
 have : (Instr.field t (.agg vs.toArray) f).run P w = .ok u w := by
  simp only [Instr.field, Sem.run_bind, run_underlying h1, Result.andThen_ok]
  simp only [h2, asAgg, Sem.run_bind, Sem.run_pure, Result.andThen_ok, h3]
  exact g1
 rw [Sem.run_bind, this]
 rfl
end
end Go.Proofs.Ytopieffkpdlpbaa.Wx
namespace Go.Proofs.Ytopieffkpdlpbaa.Wx
open Go Go.RowKit
def gB (sz : Nat) (ty : TypeId) : List (List Ce) → Option Blk
 | [] => none
 | r :: t => some ⟨r :: t, sz, ty, false⟩
theorem gB_ne {sz : Nat} {ty : TypeId} {rows : List (List Ce)} (h : rows ≠ []) : gB sz ty rows = some ⟨rows, sz, ty, false⟩ := by cases rows <;> first | exact absurd rfl h | rfl
theorem gB_some {sz : Nat} {ty : TypeId} {rows : List (List Ce)} {b : Blk} (h : gB sz ty rows = some b) : rows ≠ [] ∧ b = ⟨rows, sz, ty, false⟩ := by
 cases rows with
 | nil => cases h
 | cons r t => simp only [gB, Option.some.injEq] at h; exact ⟨by simp, h.symm⟩
theorem flat_len {α : Type} {sz : Nat} : ∀ {rows : List (List α)}, (∀ r ∈ rows, r.length = sz) → rows.flatten.length = rows.length * sz
 | [], _ => by simp
 | r :: rows, h => by
  simp only [List.flatten_cons, List.length_append, List.length_cons]
  rw [flat_len (rows := rows) fun x hx => h x (List.mem_cons_of_mem _ hx), h r List.mem_cons_self, Nat.add_mul]
  omega
theorem flat_get {α : Type} {sz : Nat} : ∀ {rows : List (List α)} {q k : Nat} {r : List α} {c : α}, (∀ r ∈ rows, r.length = sz) → rows[q]? = some r → r[k]? = some c → rows.flatten[q * sz + k]? = some c
 | [], q, k, r, c, _, h, _ => by simp at h
 | x :: rows, 0, k, r, c, hl, h, hc => by
  simp at h; subst h
  have hk := (List.getElem?_eq_some_iff.1 hc).1
  simp only [List.flatten_cons, Nat.zero_mul, Nat.zero_add]
  rw [List.getElem?_append_left hk]; exact hc
 | x :: rows, q + 1, k, r, c, hl, h, hc => by
  have hx := hl x List.mem_cons_self
  simp only [List.flatten_cons]
  rw [List.getElem?_append_right (by rw [hx, Nat.add_mul]; omega), hx]
  have := flat_get (sz := sz) (rows := rows) (q := q) (k := k) (fun y hy => hl y (List.mem_cons_of_mem _ hy)) (by simpa using h) hc
  rwa [show (q + 1) * sz + k - sz = q * sz + k by rw [Nat.add_mul]; omega]
theorem all2_flat {β : Type} {rel : Ce → β → Prop} {sz : Nat} : ∀ {rows : List (List Ce)} {us : List β}, (∀ r ∈ rows, r.length = sz) → us.length = rows.length * sz →
  (∀ (q : Nat) (r : List Ce) (k : Nat) (c : Ce), rows[q]? = some r → r[k]? = some c → ∃ u, us[q * sz + k]? = some u ∧ rel c u) → All2 rel rows.flatten us
 | [], us, _, hl, _ => by
  have : us = [] := List.eq_nil_of_length_eq_zero (by simpa using hl)
  subst this; trivial
 | x :: rows, us, h, hl, hh => by
  have hx := h x List.mem_cons_self
  simp only [List.length_cons, Nat.add_mul, Nat.one_mul] at hl
  rw [List.flatten_cons, ← List.take_append_drop sz us]
  refine All2.append (All2.of_get (by rw [hx, List.length_take]; omega) fun i a b ha hb => ?_) (all2_flat (fun r hr => h r (List.mem_cons_of_mem _ hr)) (by rw [List.length_drop]; omega) fun q r k c hq hk => ?_)
  ·obtain ⟨u, hu, hr⟩ := hh 0 x i a rfl ha
   rw [List.getElem?_take] at hb
   split at hb
   ·rw [Nat.zero_mul, Nat.zero_add] at hu
    rw [hu] at hb; cases hb; exact hr
   ·cases hb
  ·obtain ⟨u, hu, hr⟩ := hh (q + 1) r k c (by simpa using hq) hk
   refine ⟨u, ?_, hr⟩
   rw [List.getElem?_drop, ← hu]
   congr 1; rw [Nat.add_mul]; omega
theorem flat_at {β : Type} {rel : Ce → β → Prop} {sz : Nat} {rows : List (List Ce)} {us : List β} (hl : ∀ r ∈ rows, r.length = sz) (h : All2 rel rows.flatten us) {q k : Nat} {r : List Ce} {c : Ce} (hq : rows[q]? = some r) (hk : r[k]? = some c) : ∃ u, us[q * sz + k]? = some u ∧ rel c u :=
 h.get (flat_get hl hq hk)
def srcOf0 (K : Nat → Option Blk) (sz : Nat) : Ce → Option (List (List Ce) × Nat × List Nat)
 | .osl j q m _ => match K j with
  | some b => match Nat.beq b.sz sz with
   | true => some ((b.rows.drop q).take m, m, [j])
   | false => none
  | none => none
 | .ro fl s rows => match Nat.beq s sz with
  | true => some (rows.map (List.map (RT.ce fl)), rows.length, [])
  | false => none
 | .v (.slice _ 0 _) => some ([], 0, [])
 | _ => none
def srcOf (K : Nat → Option Blk) (sz : Nat) (c : Ce) : Option (List (List Ce) × Nat × List Nat) :=
 match c with
 | .gsl j rows => match rows.isEmpty with
  | false => srcOf0 K sz (.osl j 0 rows.length none)
  | true => none
 | c => srcOf0 K sz c
section
variable {P : Program} {n : Nat} {W : Wo} {F : Nat → Option AV} {K : Nat → Option Blk} {I : IM} {R : RM} {a : Act} {w : World}
theorem src_spec0 (hw : Wd W K I R w) {sz : Nat} {c : Ce} {rows : List (List Ce)} {m : Nat} {rd : List Nat} (h : srcOf0 K sz c = some (rows, m, rd)) (hm : rows.length = m) {u : Value} (hr : c.rel I R u) :
  ∃ ad cap news, u = .slice ad m cap ∧ news.length = m * sz ∧ (∀ r ∈ rows, r.length = sz) ∧ All2 (Ce.rel I R) rows.flatten news ∧ (∀ x, ad = some x → ∀ j v, news[j]? = some v → w.cell? (x.add j) = some v) ∧ (ad = none → m = 0) := by
 unfold srcOf0 at h
 split at h
 ·rename_i j q l cp
  split at h
  ·rename_i b hb
   split at h
   ·rename_i hs
    have hs := Nat.eq_of_beq_eq_true hs
    simp only [Option.some.injEq, Prod.mk.injEq] at h
    obtain ⟨rfl, rfl, rfl⟩ := h
    obtain ⟨p, c', hp, rfl, h1, h2, _⟩ := hr
    obtain ⟨p', hp', hk⟩ := hw.blk j b hb
    rw [hp] at hp'; cases hp'
    obtain ⟨cs, hmem, hsz, hcs⟩ := hk.mem
    have hps : p.sz = sz := hk.sz.trans hs
    have hrow : ∀ r ∈ (b.rows.drop q).take l, r.length = sz := fun r hr => by rw [← hs]; exact hk.row r (List.mem_of_mem_drop (List.mem_of_mem_take hr))
    simp only [List.length_take, List.length_drop] at hm
    have hfit : (q + l) * sz ≤ cs.size := by rw [hsz, hps]; exact Nat.mul_le_mul_right _ (by have := hk.fit; omega)
    have hlen : ((cs.toList.drop (q * sz)).take (l * sz)).length = l * sz := by
     rw [Nat.add_mul] at hfit
     simp; omega
    refine ⟨_, c', (cs.toList.drop (q * sz)).take (l * sz), rfl, hlen, hrow, all2_flat hrow (by rw [hlen]; simp only [List.length_take, List.length_drop]; congr 1; omega) ?_, ?_, fun h => by cases h⟩
    ·intro q' r k c hq' hk'
     rw [List.getElem?_take] at hq'
     split at hq'
     ·rename_i hlt
      rw [List.getElem?_drop] at hq'
      obtain ⟨u, hu, hr⟩ := hcs _ _ _ _ hq' hk'
      have hks : k < sz := by
       have h1 := (List.getElem?_eq_some_iff.1 hk').1
       rw [hk.row r (List.mem_of_getElem? hq'), hs] at h1; exact h1
      refine ⟨u, ?_, hr⟩
      have h3 := Nat.mul_le_mul_right sz (show q' + 1 ≤ l from hlt)
      rw [Nat.add_mul] at h3
      rw [List.getElem?_take, if_pos (by omega), List.getElem?_drop]
      rw [hps, Nat.add_mul] at hu
      rw [← Nat.add_assoc]
      simpa using hu
     ·cases hq'
    ·rintro x ⟨rfl⟩ j' v hv
     rw [Addr.add_mid, cell_of_row w p.b _ _ _ _ hmem, hps]
     rw [List.getElem?_take] at hv
     split at hv
     ·rw [List.getElem?_drop] at hv; simpa using hv
     ·cases hv
   ·cases h
  ·cases h
 ·rename_i fl s rows0
  split at h
  ·rename_i hs
   have hs := Nat.eq_of_beq_eq_true hs
   simp only [Option.some.injEq, Prod.mk.injEq] at h
   obtain ⟨rfl, rfl, rfl⟩ := h
   subst hs
   simp only [Ce.rel] at hr
   cases hr with
   | nil => exact ⟨none, 0, [], rfl, by simp, by simp, trivial, fun x h => (by cases h), fun _ => rfl⟩
   | emp _ ad cap => exact ⟨some ad, cap, [], rfl, by simp, by simp, trivial, fun x _ j v hv => (by simp at hv), fun h => (by cases h)⟩
   | ro _ _ b o cap val hl hcap hc hrr =>
    have hrow : ∀ r ∈ rows0.map (List.map (RT.ce fl)), r.length = s := by
     intro r hr
     obtain ⟨r0, h0, rfl⟩ := List.mem_map.1 hr
     simpa using hl r0 h0
    refine ⟨some ⟨b, o, none⟩, cap, (List.range (rows0.length * s)).map (fun i => val (i / s) (i % s)), rfl, by simp, hrow, all2_flat hrow (by simp) ?_, ?_, fun h => (by cases h)⟩
    ·intro q r k c hq hk
     simp only [List.getElem?_map, Option.map_eq_some_iff] at hq
     obtain ⟨r0, hq0, rfl⟩ := hq
     simp only [List.getElem?_map, Option.map_eq_some_iff] at hk
     obtain ⟨t, ht, rfl⟩ := hk
     have hks : k < s := by rw [← hl r0 (List.mem_of_getElem? hq0)]; exact (List.getElem?_eq_some_iff.1 ht).1
     have hql := (List.getElem?_eq_some_iff.1 hq0).1
     have h3 := Nat.mul_le_mul_right s (show q + 1 ≤ rows0.length from hql)
     rw [Nat.add_mul] at h3
     refine ⟨val q k, ?_, RT.ce_rel (hrr q r0 k t hq0 ht)⟩
     rw [List.getElem?_map, List.getElem?_range (by omega)]
     simp only [Option.map_some]
     rw [show (q * s + k) / s = q by rw [Nat.mul_comm, Nat.mul_add_div (by omega), Nat.div_eq_of_lt hks]; rfl, Nat.mul_comm, Nat.mul_add_mod, Nat.mod_eq_of_lt hks]
    ·rintro x ⟨rfl⟩ j v hv
     simp only [List.getElem?_map, Option.map_eq_some_iff] at hv
     obtain ⟨j', hj', rfl⟩ := hv
     have hjl := (List.getElem?_eq_some_iff.1 hj').1
     simp only [List.length_range] at hjl
     rw [List.getElem?_range hjl] at hj'
     simp only [Option.some.injEq] at hj'
     subst hj'
     rw [Addr.add_mid]
     have hs0 : 0 < s := by
      rcases Nat.eq_zero_or_pos s with h | h
      ·subst h; simp at hjl
      ·exact h
     have hq1 : j / s < rows0.length := Nat.div_lt_of_lt_mul (by rw [Nat.mul_comm]; exact hjl)
     have hk1 : j % s < s := Nat.mod_lt _ hs0
     obtain ⟨r0, hr0⟩ : ∃ r0, rows0[j / s]? = some r0 := ⟨rows0[j / s], List.getElem?_eq_getElem hq1⟩
     obtain ⟨t, ht⟩ : ∃ t, r0[j % s]? = some t := ⟨r0[j % s]'(by rw [hl r0 (List.mem_of_getElem? hr0)]; exact hk1), List.getElem?_eq_getElem _⟩
     have h4 := hw.ro fl _ _ _ (hc (j / s) r0 (j % s) t hr0 ht)
     rw [← h4]
     congr 2
     have := Nat.div_add_mod j s
     rw [Nat.mul_comm] at this
     omega
  ·cases h
 ·rename_i ad cp
  simp only [Option.some.injEq, Prod.mk.injEq] at h
  obtain ⟨rfl, rfl, rfl⟩ := h
  cases hr
  exact ⟨ad, cp, [], rfl, by simp, by simp, trivial, fun x _ j v hv => (by simp at hv), fun _ => rfl⟩
 ·cases h
theorem src_spec (hw : Wd W K I R w) {sz : Nat} {c : Ce} {rows : List (List Ce)} {m : Nat} {rd : List Nat} (h : srcOf K sz c = some (rows, m, rd)) (hm : rows.length = m) {u : Value} (hr : c.rel I R u) :
  ∃ ad cap news, u = .slice ad m cap ∧ news.length = m * sz ∧ (∀ r ∈ rows, r.length = sz) ∧ All2 (Ce.rel I R) rows.flatten news ∧ (∀ x, ad = some x → ∀ j v, news[j]? = some v → w.cell? (x.add j) = some v) ∧ (ad = none → m = 0) := by
 unfold srcOf at h
 split at h
 ·rename_i j rows0
  split at h
  ·rename_i he
   refine src_spec0 hw h hm ?_
   rcases hr with ⟨rfl, _⟩ | ⟨_, p, c', hp, rfl, h1, h2⟩
   ·simp at he
   ·exact ⟨p, c', hp, by simp, h1, by omega, fun _ h => by cases h⟩
  ·cases h
 ·exact src_spec0 hw h hm hr
theorem builtin_append (o : Oper) (x y : Operand) (t : TypeId) (ho : o.op = .call ⟨.builtin .append, #[x, y], #[t, t]⟩) (ρ : Operand → Value) (w : World) {v : Value} {w' : World}
  (h : (Builtin.append_ #[t, t] o.type #[ρ x, ρ y]).run P w = .ok v w') : (execOp ρ o).run P w = .ok (.value v) w' := by
 obtain ⟨dst, op, ty, pos, af, g⟩ := o
 subst ho
 simp only [execOp, resolve]
 rw [Sem.run_bind]
 simp only [Sem.run_pure, Result.andThen_ok, invoke, builtin]
 rw [Sem.run_bind]
 simp only [List.map_toArray, List.map_cons, List.map_nil]
 simp only at h
 rw [h]
 rfl
theorem run_append_nothing (w : World) (t ty e : TypeId) (inf : TypeInfo) (hu : P.underlying t = some (.slice e)) (hinf : P.info? e = some inf) (a : Addr) (m0 c cp : Nat) (hmc : m0 ≤ c) :
  (Builtin.append_ #[t, t] ty #[.slice (some a) m0 c, .slice none 0 cp]).run P w = .ok (.slice (some a) m0 c) w := by
 simp [Builtin.append_, run_underlying hu, sizeOf, typeInfo, hinf, Builtin.lenOf, Builtin.firstCells, hmc, storeCells]
theorem Bk.mk' {I : IM} {R : RM} {w : World} {g s tot : Nat} {e : TypeId} {rows : List (List Ce)} {us ex : List Value} (hrow : ∀ r ∈ rows, r.length = s) (hfit : rows.length ≤ tot) (hfew : tot ≤ maxLen) (hm : w.heap[g]? = some (.cells (us ++ ex).toArray e (0, 0))) (hsz : us.length + ex.length = tot * s) (hr : All2 (Ce.rel I R) rows.flatten us) :
  Bk I R ⟨rows, s, e, false⟩ ⟨g, s, tot⟩ w := by
 refine ⟨rfl, hfit, hfew, hrow, _, hm, by simpa using hsz, fun q r k c hq hk => ?_⟩
 obtain ⟨u, hu, hrel⟩ := flat_at hrow hr hq hk
 refine ⟨u, ?_, hrel⟩
 have hlt := (List.getElem?_eq_some_iff.1 hu).1
 simp only [List.getElem?_toArray]
 rw [List.getElem?_append_left hlt]; exact hu
theorem Wd.moved (h : Wd W K I R w) {i top : Nat} {b : Blk} {p : Loc} (hb : K i = some b) (hp : I i = some p) (ht : I top = none) {w' : World} {g : Nat} (hgr : w.grownBy w' (some p.b)) (hg : g = p.b ∨ w.heap.size ≤ g) (hdr : w.drawn ≤ w'.drawn) {b' : Blk} {tot : Nat}
  (hk : Bk (ext I top ⟨g, b'.sz, tot⟩) R b' ⟨g, b'.sz, tot⟩ w') : Wd W (kup K [(i, none), (top, some b')]) (ext I top ⟨g, b'.sz, tot⟩) R w' := by
 have hbase := h.base i b p hb hp
 have hit : i ≠ top := fun e => by rw [e, ht] at hp; cases hp
 refine h.change (.ext ht) ⟨hgr.os.trans h.below.os, hgr.tape.trans h.below.tape, hgr.output.trans h.below.output, Nat.le_trans h.below.size hgr.size,
   fun k hk => ⟨(h.below.block k hk).1, (hgr.block k (h.below.lt hk) (fun he => by injection he with he; exact hbase (he ▸ hk))).trans (h.below.block k hk).2⟩, Nat.le_trans h.below.drawn hdr⟩ ?_ ?_ ?_
 ·intro j bb hj
  simp only [kup] at hj
  split at hj
  ·cases hj
  ·rename_i hji
   split at hj
   ·rename_i hjt
    subst hjt
    simp only [Option.some.injEq] at hj
    subst hj
    refine .inr ⟨_, by simp [Wx.ext], hk, ?_, fun f o => ?_⟩
    ·rcases hg with hg | hg
     ·simp only; rw [hg]; exact hbase
     ·exact h.below.new hg
    ·rcases hg with hg | hg
     ·simp only; rw [hg]; exact h.apart i b p f o hb hp
     ·cases hR : R f g o with
      | none => rfl
      | some u =>
       have := World.block_lt_of_cell? _ _ (h.ro f g o u hR)
       simp only at this
       omega
   ·exact .inl ⟨hj, fun q hq => hgr.block _ (h.lt hj hq) (fun he => by injection he with he; exact hji (h.inj _ _ _ _ _ _ hj hb hq hp he))⟩
 ·intro f bb o u hu
  refine hgr.block _ (World.block_lt_of_cell? _ _ (h.ro f bb o u hu)) (fun he => ?_)
  injection he with he
  rw [he, h.apart i b p f o hb hp] at hu
  cases hu
 ·intro j j' bj bj' q q' hj hj' hq hq' he
  simp only [kup] at hj hj'
  simp only [Wx.ext] at hq hq'
  split at hj
  ·cases hj
  ·rename_i hji
   split at hj'
   ·cases hj'
   ·rename_i hji'
    by_cases h1 : j = top <;> by_cases h2 : j' = top
    ·rw [h1, h2]
    ·rw [if_pos h1] at hq; rw [if_neg h2] at hq' hj'
     cases hq
     simp only at he
     rcases hg with hg | hg
     ·exact absurd (h.inj _ _ _ _ _ _ hj' hb hq' hp (by rw [← he, hg])) hji'
     ·have := h.lt hj' hq'; omega
    ·rw [if_neg h1] at hq hj; rw [if_pos h2] at hq'
     cases hq'
     simp only at he
     rcases hg with hg | hg
     ·exact absurd (h.inj _ _ _ _ _ _ hj hb hq hp (by rw [he, hg])) hji
     ·have := h.lt hj hq; omega
    ·rw [if_neg h1] at hq hj; rw [if_neg h2] at hq' hj'
     exact h.inj _ _ _ _ _ _ hj hj' hq hq' he
theorem append_own (hw : Wd W K I R w) {t ty e : TypeId} {ti : TI} (ht : tiOf P t = some ti) {s bt : Nat} (hel : ti.elem = some (e, s, bt)) {i top m0 c' : Nat} {b : Blk} {p : Loc} (hb : K i = some b) (hp : I i = some p) (htop : I top = none) (hs : b.sz = s) (hty : b.ty = e) (hm0 : m0 ≤ b.rows.length) (hc : m0 ≤ c') (hct : c' ≤ p.tot)
  {cy : Ce} {src : List (List Ce)} {m : Nat} {rd : List Nat} (hsrc : srcOf K s cy = some (src, m, rd)) (hlen : src.length = m) (h1 : ∀ r ∈ src, ∀ c ∈ r, c.single = true) {u : Value} (hy : cy.rel I R u) (hm : m0 + m ≤ maxLen) (hbytes : (m0 + m) * bt ≤ 140737488355328) :
  ∃ g cn tot w', (Builtin.append_ #[t, t] ty #[.slice (some ⟨p.b, 0, none⟩) m0 c', u]).run P w = .ok (.slice (some ⟨g, 0, none⟩) (m0 + m) cn) w' ∧ m0 + m ≤ cn ∧ cn ≤ tot ∧
   Wd W (kup K [(i, none), (top, some ⟨b.rows.take m0 ++ src, s, e, false⟩)]) (ext I top ⟨g, s, tot⟩) R w' := by
 obtain ⟨hu, inf, z, hinf, hz, hs1, hs2, hs3⟩ := tiOf_elem ht hel
 subst hs1 hs2
 obtain ⟨ad, cj, news, rfl, hnl, hrows, hrel, hcells, hnone⟩ := src_spec hw hsrc hlen hy
 obtain ⟨p', hp', hk⟩ := hw.blk i b hb
 rw [hp] at hp'; cases hp'
 obtain ⟨cs, hmem, hsz, hcs⟩ := hk.mem
 have hps : p.sz = inf.size := hk.sz.trans hs
 rw [hps] at hsz hcs
 rw [hty] at hmem
 have hbrow : ∀ r ∈ b.rows.take m0, r.length = inf.size := fun r hr => by rw [← hs]; exact hk.row r (List.mem_of_mem_take hr)
 have hfit : m0 * inf.size ≤ cs.size := by rw [hsz]; exact Nat.mul_le_mul_right _ (by have := hk.fit; omega)
 have hxl : (cs.toList.take (m0 * inf.size)).length = m0 * inf.size := by simp; omega
 have hxr : All2 (Ce.rel I R) (b.rows.take m0).flatten (cs.toList.take (m0 * inf.size)) := all2_flat hbrow (by rw [hxl, List.length_take]; congr 1; omega) fun q r k c hq hkk => by
  rw [List.getElem?_take] at hq
  split at hq
  ·rename_i hlt
   obtain ⟨v, hv, hr⟩ := hcs q r k c hq hkk
   have hks : k < inf.size := by
    have h1 := (List.getElem?_eq_some_iff.1 hkk).1
    rw [hk.row r (List.mem_of_getElem? hq), hs] at h1; exact h1
   have h3 := Nat.mul_le_mul_right inf.size (show q + 1 ≤ m0 from hlt)
   rw [Nat.add_mul] at h3
   exact ⟨v, by rw [List.getElem?_take, if_pos (by omega)]; simpa using hv, hr⟩
  ·cases hq
 have hall : All2 (Ce.rel I R) (b.rows.take m0 ++ src).flatten (cs.toList.take (m0 * inf.size) ++ news) := by rw [List.flatten_append]; exact hxr.append hrel
 have hrow' : ∀ r ∈ b.rows.take m0 ++ src, r.length = inf.size := fun r hr => by
  rcases List.mem_append.1 hr with h | h
  ·exact hbrow r h
  ·exact hrows r h
 have hlen' : (b.rows.take m0 ++ src).length = m0 + m := by simp [hlen]; omega
 have hone : ∀ v ∈ news, v.oneCell' = true := fun v hv => by
  obtain ⟨c, hc, hcr⟩ := hrel.mem hv
  obtain ⟨r, hr, hcr'⟩ := List.mem_flatten.1 hc
  exact Ce.single_val (h1 r hr c hcr') hcr
 have hmx : m0 + m ≤ 9223372036854775807 := by simp only [maxLen] at hm; omega
 have hrel' : ∀ g tot, All2 (Ce.rel (ext I top ⟨g, inf.size, tot⟩) R) (b.rows.take m0 ++ src).flatten (cs.toList.take (m0 * inf.size) ++ news) := fun g tot => hall.mono fun _ _ => Ce.mono (.ext htop) (.refl _)
 have hxsl : (cs.toList.take (m0 * inf.size) ++ news).length = (m0 + m) * inf.size := by rw [List.length_append, hxl, hnl, Nat.add_mul]
 have htot : (m0 + m) ≤ c' → (m0 + m) * inf.size ≤ cs.size := fun h => by rw [hsz]; exact Nat.mul_le_mul_right _ (by omega)
 cases ad with
 | none =>
  have hm0' := hnone rfl
  subst hm0'
  have hsrc0 : src = [] := List.eq_nil_of_length_eq_zero hlen
  subst hsrc0
  have hnews : news = [] := List.eq_nil_of_length_eq_zero (by simpa using hnl)
  subst hnews
  refine ⟨p.b, c', p.tot, w, ?_, by omega, hct, ?_⟩
  ·simpa using run_append_nothing (P := P) w t ty e inf hu hinf ⟨p.b, 0, none⟩ m0 c' cj hc
  ·refine hw.moved hb hp htop (g := p.b) ⟨rfl, rfl, rfl, Nat.le_refl _, fun _ _ _ => rfl⟩ (.inl rfl) (Nat.le_refl _) (b' := ⟨b.rows.take m0 ++ [], inf.size, e, false⟩) (tot := p.tot) ?_
   refine Bk.mk' (ex := cs.toList.drop (m0 * inf.size)) hrow' (by rw [hlen']; omega) hk.few ?_ ?_ (hrel' _ _)
   ·rw [List.append_nil, List.take_append_drop]; simpa using hmem
   ·rw [hxsl]; simp; omega
 | some x =>
  by_cases hroom : m0 + m ≤ c'
  ·have hfit2 : m0 * inf.size + news.length ≤ cs.size := by have := htot hroom; rw [Nat.add_mul] at this; omega
   have hr := run_append_room (P := P) w t ty e inf hu hinf p.b m0 c' cs hmem x m cj news hnl (hcells x rfl) hone hroom hfit2
   refine ⟨p.b, c', p.tot, _, hr, hroom, hct, ?_⟩
   refine hw.moved hb hp htop (g := p.b) ?_ (.inl rfl) (by first | exact (below_cells (B := 0) (Nat.zero_le _) _ _ w _ (.refl _ _)).drawn | exact Nat.le_refl _ | exact Nat.le_succ _) (b' := ⟨b.rows.take m0 ++ src, inf.size, e, false⟩) (tot := p.tot) ?_
   ·exact ⟨rfl, rfl, rfl, by simp, fun k _ hk => setRow_other w p.b k _ (fun e => hk (by rw [e]))⟩
   refine Bk.mk' (ex := cs.toList.drop (m0 * inf.size + news.length)) hrow' (by rw [hlen']; omega) hk.few ?_ ?_ (hrel' _ _)
   ·rw [setRow_heap w p.b _ _ e _ hmem]
   ·rw [hxsl]
    have := htot hroom
    simp only [List.length_drop, Array.length_toList, hnl, Nat.add_mul] at this ⊢
    omega
  ·have holds : ∀ j v, (cs.toList.take (m0 * inf.size))[j]? = some v → w.cell? ((⟨p.b, 0, none⟩ : Addr).add j) = some v := fun j v hj => by
    rw [Addr.add_mid, cell_of_row w p.b _ _ _ _ hmem]
    rw [List.getElem?_take] at hj
    split at hj
    ·simpa using hj
    ·cases hj
   have hr := run_append_grow (P := P) w t ty e inf z hu hinf hz ⟨p.b, 0, none⟩ m0 c' _ hxl holds x m cj news hnl (hcells x rfl) (by omega) (by omega) (growslice_fits (by omega) hbytes)
   have hge := grownCap_ge w (m0 + m) c' e
   refine ⟨w.heap.size, _, grownCap w (m0 + m) c' e, _, hr, hge, Nat.le_refl _, ?_⟩
   refine hw.moved hb hp htop (g := w.heap.size) ?_ (.inr (Nat.le_refl _)) (by first | exact Nat.le_succ _ | exact Nat.le_refl _) (b' := ⟨b.rows.take m0 ++ src, inf.size, e, false⟩) (tot := grownCap w (m0 + m) c' e) ?_
   ·exact ⟨rfl, rfl, rfl, by simp, fun k hk _ => heap_alloc_old w.drew _ hk⟩
   refine Bk.mk' (ex := (Builtin.zeroCells z.cells (grownCap w (m0 + m) c' e - (m0 + m))).toList) hrow' (by rw [hlen']; exact hge) (grownCap_le_maxLen w (m0 + m) c' e hm) ?_ ?_ (hrel' _ _)
   ·rw [show w.heap.size = w.drew.heap.size from rfl, heap_alloc_new w.drew _]
    congr 2
    apply Array.ext'
    simp
   ·simp only [hxsl, Array.length_toList, size_zeroCells, hs3]
    rw [← Nat.add_mul]
    congr 1
    omega
theorem append_nil (hw : Wd W K I R w) {t ty e : TypeId} {ti : TI} (ht : tiOf P t = some ti) {s bt : Nat} (hel : ti.elem = some (e, s, bt)) {top : Nat} (htop : I top = none)
  {cy : Ce} {src : List (List Ce)} {m : Nat} {rd : List Nat} (hsrc : srcOf K s cy = some (src, m, rd)) (hlen : src.length = m) (h0 : 0 < m) {u : Value} (hy : cy.rel I R u) (hm : m ≤ maxLen) (hbytes : m * bt ≤ 140737488355328) :
  ∃ g cn w', (Builtin.append_ #[t, t] ty #[.slice none 0 0, u]).run P w = .ok (.slice (some ⟨g, 0, none⟩) m cn) w' ∧ m ≤ cn ∧
   Wd W (kup K [(top, some ⟨src, s, e, false⟩)]) (ext I top ⟨g, s, cn⟩) R w' := by
 obtain ⟨hu, inf, z, hinf, hz, hs1, hs2, hs3⟩ := tiOf_elem ht hel
 subst hs1 hs2
 obtain ⟨ad, cj, news, rfl, hnl, hrows, hrel, hcells, hnone⟩ := src_spec hw hsrc hlen hy
 cases ad with
 | none => have := hnone rfl; omega
 | some x =>
  have hmx : m ≤ 9223372036854775807 := by simp only [maxLen] at hm; omega
  have hr := run_append_nil (P := P) w t ty e inf z hu hinf hz x m cj news hnl (hcells x rfl) h0 (by omega) (by omega)
  have hge := grownCap_ge w m 0 e
  have hKt : K top = none := by
   cases hq : K top with
   | none => rfl
   | some b => obtain ⟨p, hp, _⟩ := hw.blk top b hq; rw [htop] at hp; cases hp
  refine ⟨w.heap.size, _, _, hr, hge, ?_⟩
  have hcs : ∀ q r k c, src[q]? = some r → r[k]? = some c → ∃ v, (news.toArray ++ Builtin.zeroCells z.cells (grownCap w m 0 e - m))[q * inf.size + k]? = some v ∧ c.rel I R v := fun q r k c hq hk => by
   obtain ⟨v, hv, hr⟩ := flat_at hrows hrel hq hk
   have hlt := (List.getElem?_eq_some_iff.1 hv).1
   refine ⟨v, ?_, hr⟩
   rw [Array.getElem?_append_left (by simpa using hlt)]
   simpa using hv
  have := hw.new htop hKt ⟨src, inf.size, e, false⟩ hrows (grownCap w m 0 e) (by simp only [hlen]; exact hge) (grownCap_le_maxLen w m 0 e hm) (w' := w.drew.alloc (.cells (news.toArray ++ Builtin.zeroCells z.cells (grownCap w m 0 e - m)) e)) (g := w.heap.size) (((Bel.refl _ _).drew).alloc (Nat.le_refl _) _) (Nat.le_refl _) _ (by
   rw [show w.heap.size = w.drew.heap.size from rfl, heap_alloc_new w.drew _]) (by
   simp only [Array.size_append, List.size_toArray, hnl, size_zeroCells, hs3]
   rw [← Nat.add_mul]
   congr 1
   omega) hcs
  exact this
end
section
variable {P : Program} {o : Oper} {F0 : Nat → Option AV} {K0 : Nat → Option Blk} {top : Nat}
structure apdN (m0 L m : Nat) (src : List (List Ce)) (bt : Nat) (A : Prop) : Prop where
 len : src.length = m
 one : ∀ r ∈ src, ∀ c ∈ r, c.single = true
 le : m0 ≤ L
 max : m0 + m ≤ maxLen
 room : (m0 + m) * bt ≤ 140737488355328
 k : A
theorem srcOf_agree0 {K K0 : Nat → Option Blk} {s : Nat} {cy : Ce} {src : List (List Ce)} {m : Nat} {rd : List Nat} (hk : ∀ i ∈ rd, K i = K0 i) (hsrc : srcOf0 K0 s cy = some (src, m, rd)) : srcOf0 K s cy = some (src, m, rd) := by
 unfold srcOf0 at hsrc ⊢
 split at hsrc
 ·rename_i j q l c
  split at hsrc
  ·rename_i b' hb'
   split at hsrc
   ·rename_i hbe
    simp only [Option.some.injEq, Prod.mk.injEq] at hsrc
    obtain ⟨rfl, rfl, rfl⟩ := hsrc
    have := hk j (by simp)
    rw [this, hb']; simp only; rw [hbe]
   ·cases hsrc
  ·cases hsrc
 ·exact hsrc
 ·exact hsrc
 ·cases hsrc
theorem srcOf_agree {K K0 : Nat → Option Blk} {s : Nat} {cy : Ce} {src : List (List Ce)} {m : Nat} {rd : List Nat} (hk : ∀ i ∈ rd, K i = K0 i) (hsrc : srcOf K0 s cy = some (src, m, rd)) : srcOf K s cy = some (src, m, rd) := by
 unfold srcOf at hsrc ⊢
 split at hsrc
 ·rename_i j rows0
  split at hsrc
  ·exact srcOf_agree0 hk hsrc
  ·cases hsrc
 ·exact srcOf_agree0 hk hsrc
theorem e_append (x y : Operand) (t : TypeId) (ho : o.op = .call ⟨.builtin .append, #[x, y], #[t, t]⟩) (ti : TI) (ht : tiOf P t = some ti) (e s bt : Nat) (hel : ti.elem = some (e, s, bt)) (i m0 : Nat) (cp : Option Nat) (hx : evf F0 x = some (.c (.osl i 0 m0 cp))) (b : Blk) (hb : K0 i = some b) (hs : Nat.beq b.sz s = true) (hty : Nat.beq b.ty e = true)
  (cy : Ce) (hy : evf F0 y = some (.c cy)) (src : List (List Ce)) (m : Nat) (rd : List Nat) (hsrc : srcOf K0 s cy = some (src, m, rd)) (hn : apdN m0 b.rows.length m src bt True) :
  OpEff P o F0 K0 top ⟨.c (.osl top 0 (m0 + m) none), i :: rd, [(i, none), (top, some ⟨b.rows.take m0 ++ src, s, e, false⟩)], top + 1⟩ := by
 intro n W F K I R a w hst hxx hk hf hd next Q hnext
 have hm : ∀ z ∈ [x, y], evf F z = evf F0 z := fun z hz => hxx z (by simpa [ho, Op.operands, Call.operands] using hz)
 have hbK : K i = some b := (hk i (by simp)).trans hb
 have hsrc' := srcOf_agree (fun j hj => hk j (List.mem_cons_of_mem _ hj)) hsrc
 obtain ⟨p, c', hp, hu, hc1, hc2, _⟩ := hst.ev ((hm x (by simp)).trans hx)
 have hvy := hst.ev ((hm y (by simp)).trans hy)
 have htop := (hf top (Nat.le_refl _) (by simp)).1
 obtain ⟨g, cn, tot, w', hrun, h1, h2, h3⟩ := append_own hst.wd (ty := o.type) ht hel hbK hp htop (Nat.eq_of_beq_eq_true hs) (Nat.eq_of_beq_eq_true hty) hn.le hc1 (by omega) hsrc' hn.len hn.one hvy hn.max hn.room
 rw [Nat.zero_mul] at hu
 unfold Oper.wp
 rw [builtin_append o x y t ho a.eval w (by rw [hu]; exact hrun)]
 exact hnext _ _ _ _ (hst.put (.ext htop) (.refl _) h3 hd ⟨_, cn, by simp [Wx.ext]; rfl, by simp, h1, by simpa using h2, fun _ h => (by cases h)⟩) (.ext htop) dom_ext (.refl _)
theorem e_appendn (x y : Operand) (t : TypeId) (ho : o.op = .call ⟨.builtin .append, #[x, y], #[t, t]⟩) (ti : TI) (ht : tiOf P t = some ti) (e s bt : Nat) (hel : ti.elem = some (e, s, bt)) (hx : evf F0 x = some (.val (.slice none 0 0)))
  (cy : Ce) (hy : evf F0 y = some (.c cy)) (src : List (List Ce)) (m : Nat) (rd : List Nat) (hsrc : srcOf K0 s cy = some (src, m, rd)) (h0 : 0 < m) (hn : apdN 0 0 m src bt True) :
  OpEff P o F0 K0 top ⟨.c (.gsl top src), rd, [(top, some ⟨src, s, e, false⟩)], top + 1⟩ := by
 intro n W F K I R a w hst hxx hk hf hd next Q hnext
 have hm : ∀ z ∈ [x, y], evf F z = evf F0 z := fun z hz => hxx z (by simpa [ho, Op.operands, Call.operands] using hz)
 have hu := ev_plain hst ((hm x (by simp)).trans hx)
 have hvy := hst.ev ((hm y (by simp)).trans hy)
 have htop := (hf top (Nat.le_refl _) (by simp)).1
 have h1 := hn.max
 have h2 := hn.room
 rw [Nat.zero_add] at h1 h2
 obtain ⟨g, cn, w', hrun, h3, h4⟩ := append_nil hst.wd (ty := o.type) ht hel htop (srcOf_agree hk hsrc) hn.len h0 hvy h1 h2
 have hsl := hn.len
 unfold Oper.wp
 rw [builtin_append o x y t ho a.eval w (by rw [hu]; exact hrun)]
 refine hnext _ _ _ _ (hst.put (.ext htop) (.refl _) h4 hd (.inr ⟨?_, ⟨g, s, cn⟩, cn, by simp [Wx.ext], by simp [hsl], by simpa [hsl] using h3, Nat.le_refl _⟩)) (.ext htop) dom_ext (.refl _)
 intro h; rw [h] at hsl; simp at hsl; omega
theorem e_appendg (x y : Operand) (t : TypeId) (ho : o.op = .call ⟨.builtin .append, #[x, y], #[t, t]⟩) (ti : TI) (ht : tiOf P t = some ti) (e s bt : Nat) (hel : ti.elem = some (e, s, bt)) (i : Nat) (rows : List (List Ce)) (hx : evf F0 x = some (.c (.gsl i rows))) (hK : K0 i = gB s e rows)
  (cy : Ce) (hy : evf F0 y = some (.c cy)) (src : List (List Ce)) (m : Nat) (rd : List Nat) (hsrc : srcOf K0 s cy = some (src, m, rd)) (h0 : 0 < m) (hn : apdN rows.length rows.length m src bt True) :
  OpEff P o F0 K0 top ⟨.c (.gsl top (rows ++ src)), i :: rd, [(i, none), (top, some ⟨rows ++ src, s, e, false⟩)], top + 1⟩ := by
 intro n W F K I R a w hst hxx hk hf hd next Q hnext
 have hm : ∀ z ∈ [x, y], evf F z = evf F0 z := fun z hz => hxx z (by simpa [ho, Op.operands, Call.operands] using hz)
 have hu := hst.ev ((hm x (by simp)).trans hx)
 have hvy := hst.ev ((hm y (by simp)).trans hy)
 have htop := (hf top (Nat.le_refl _) (by simp)).1
 have hsrc' := srcOf_agree (fun j hj => hk j (List.mem_cons_of_mem _ hj)) hsrc
 have hsl := hn.len
 have hne : rows ++ src ≠ [] := by intro h; have := congrArg List.length h; simp [hsl] at this; omega
 rcases hu with ⟨rfl, hu⟩ | ⟨hr, p, c', hp, hu, hc1, hc2⟩
 ·have h1 := hn.max
  have h2 := hn.room
  simp only [List.length_nil, Nat.zero_add] at h1 h2
  obtain ⟨g, cn, w', hrun, h3, h4⟩ := append_nil hst.wd (ty := o.type) ht hel htop hsrc' hn.len h0 hvy h1 h2
  unfold Oper.wp
  rw [builtin_append o x y t ho a.eval w (by rw [hu]; exact hrun)]
  have h5 : Wd W (kup K [(i, none), (top, some ⟨[] ++ src, s, e, false⟩)]) (ext I top ⟨g, s, cn⟩) R w' := h4.kill i
  exact hnext _ _ _ _ (hst.put (.ext htop) (.refl _) h5 hd (.inr ⟨hne, ⟨g, s, cn⟩, cn, by simp [Wx.ext], by simp [hsl], by simpa [hsl] using h3, Nat.le_refl _⟩)) (.ext htop) dom_ext (.refl _)
 ·have hbK : K i = some ⟨rows, s, e, false⟩ := (hk i (by simp)).trans (hK.trans (gB_ne hr))
  obtain ⟨g, cn, tot, w', hrun, h1, h2, h3⟩ := append_own hst.wd (ty := o.type) ht hel hbK hp htop rfl rfl (Nat.le_refl _) hc1 hc2 hsrc' hn.len hn.one hvy hn.max hn.room
  simp only [List.take_length] at h3
  unfold Oper.wp
  rw [builtin_append o x y t ho a.eval w (by rw [hu]; exact hrun)]
  exact hnext _ _ _ _ (hst.put (.ext htop) (.refl _) h3 hd (.inr ⟨hne, ⟨g, s, tot⟩, cn, by simp [Wx.ext], by simp [hsl], by simpa [hsl] using h1, h2⟩)) (.ext htop) dom_ext (.refl _)
theorem e_make (t : TypeId) (x y : Operand) (ho : o.op = .makeSlice t x y) (ti : TI) (ht : tiOf P t = some ti) (e s bt : Nat) (hel : ti.elem = some (e, s, bt)) (te : TI) (hte : tiOf P e = some te) (kx ky : IntKind) (l c : Int) (hx : evf F0 x = some (.val (.int kx l))) (hy : evf F0 y = some (.val (.int ky c)))
  (l' c' : Nat) (hl : l = (l' : Int)) (hc : c = (c' : Int)) (hlc : l' ≤ c') (hmax : c' ≤ maxLen) (hroom : bt * c' ≤ 140737488355328) :
  OpEff P o F0 K0 top ⟨.c (.osl top 0 l' (some c')), [], [(top, some ⟨List.replicate l' (te.zero.map .v), s, e, false⟩)], top + 1⟩ := by
 obtain ⟨hu, inf, z, hinf, hz, hs1, hs2, hs3⟩ := tiOf_elem ht hel
 obtain ⟨_, inf', z', _, hinf', hz', _, _, hzc⟩ := tiOf_load hte
 rw [hinf] at hinf'; cases hinf'
 rw [hz] at hz'; cases hz'
 subst hs1 hs2 hl hc
 intro n W F K I R a w hst hxx hk hf hd next Q hnext
 have hm : ∀ z ∈ [x, y], evf F z = evf F0 z := fun z hz => hxx z (by simpa [ho, Op.operands] using hz)
 have h1 := ev_plain hst ((hm x (by simp)).trans hx)
 have h2 := ev_plain hst ((hm y (by simp)).trans hy)
 have htop := hf top (Nat.le_refl _) (by simp)
 have hb' : (inf.bytes : Int) * (c' : Int) ≤ 281474976710656 := by
  have h : ((inf.bytes * c' : Nat) : Int) ≤ 281474976710656 := by omega
  rwa [Int.natCast_mul] at h
 have hmx : (c' : Int) ≤ 9223372036854775807 := by simp only [maxLen] at hmax; omega
 have hr := run_make (P := P) w t e inf z hu hinf hz kx ky l' c' (by omega) (by omega) hb' hmx
 simp only [Int.toNat_natCast] at hr
 have hzl : te.zero.length = inf.size := by rw [← hzc]; simpa using hs3
 have hw := hst.wd.new htop.1 htop.2 ⟨List.replicate l' (te.zero.map .v), inf.size, e, false⟩ (fun r hr => by rw [List.eq_of_mem_replicate hr]; simpa using hzl) c' (by simpa using hlc) hmax (w' := w.alloc (.cells (madeCells z.cells (c' * inf.size)) e)) ((Bel.refl _ w).alloc (Nat.le_refl _) _) (Nat.le_refl _) _ (heap_push w _) (size_madeCells _ _) (fun q r k cc hq hkk => by
  have hql := (List.getElem?_eq_some_iff.1 hq).1
  simp only [List.length_replicate] at hql
  have hrr := List.eq_of_mem_replicate (List.mem_of_getElem? hq)
  subst hrr
  have hkl := (List.getElem?_eq_some_iff.1 hkk).1
  simp only [List.length_map, hzl] at hkl
  simp only [List.getElem?_map, Option.map_eq_some_iff] at hkk
  obtain ⟨v, hv, rfl⟩ := hkk
  have h3 := Nat.mul_le_mul_right inf.size (show q + 1 ≤ c' by omega)
  rw [Nat.add_mul] at h3
  refine ⟨v, ?_, rfl⟩
  rw [← hzc] at hv
  simp only [madeCells, Array.getElem?_map, Array.getElem?_range]
  rw [if_pos (by omega)]
  simp only [Option.map_some, hs3]
  rw [show (q * inf.size + k) % inf.size = k by rw [Nat.mul_comm, Nat.mul_add_mod, Nat.mod_eq_of_lt hkl]]
  simp only [Array.getElem?_toList] at hv
  simp [getElem!_def, hv])
 unfold Oper.wp
 have hrun : (execOp a.eval o).run P w = .ok (.value (.slice (some ⟨w.heap.size, 0, none⟩) l' c')) (w.alloc (.cells (madeCells z.cells (c' * inf.size)) e)) := by
  simp only [execOp, ho, h1, h2]
  rw [Sem.run_bind, hr]; rfl
 rw [hrun]
 exact hnext _ _ _ _ (hst.put (.ext htop.1) (.refl _) hw hd ⟨_, c', by simp [Wx.ext]; rfl, by simp, hlc, by simp, fun _ h => by cases h; rfl⟩) (.ext htop.1) dom_ext (.refl _)
theorem e_lit (t : TypeId) (len : Nat) (ps : Array (Nat × Operand)) (ho : o.op = .buildSlice t len ps) (ti : TI) (ht : tiOf P t = some ti) (e s bt : Nat) (hel : ti.elem = some (e, s, bt)) (te : TI) (hte : tiOf P e = some te) (hs : Nat.blt 0 s = true) (hlen : Nat.ble (len * s) 16777216 = true) (avs : List (Nat × A0)) (hx : evb F0 ps.toList = some avs)
  (out : List Ce) (hout : fillC ((List.range len).map fun i => (i * s, s, false)) (List.replicate len (te.zero.map Ce.v)).flatten avs = some out) :
  OpEff P o F0 K0 top ⟨.c (.osl top 0 len (some len)), [], [(top, some ⟨(List.range len).map fun q => (out.drop (q * s)).take s, s, e, false⟩)], top + 1⟩ := by
 obtain ⟨hu, inf, z, hinf, hz, hs1, hs2, hs3⟩ := tiOf_elem ht hel
 obtain ⟨_, inf', z', _, hinf', hz', _, _, hzc⟩ := tiOf_load hte
 rw [hinf] at hinf'; cases hinf'
 rw [hz] at hz'; cases hz'
 subst hs1 hs2
 have hs0 : 0 < inf.size := by simpa [Nat.blt_eq] using hs
 have hle : len * inf.size ≤ 16777216 := by simpa [Nat.ble_eq] using hlen
 have hzl : te.zero.length = inf.size := by rw [← hzc]; simpa using hs3
 intro n W F K I R a w hst hxx hk hf hd next Q hnext
 have htop := hf top (Nat.le_refl _) (by simp)
 have ev := hst.evb (fun q hq => hxx q.2 (by simp [ho, Op.operands]; exact ⟨q.1, by simpa using hq⟩)) hx
 have hzz : All2 (Ce.rel I R) (List.replicate len (te.zero.map Ce.v)).flatten ((Array.range (len * inf.size)).map (z.cells[· % z.cells.size]!)).toList := by
  refine all2_flat (sz := inf.size) (fun r hr => by rw [List.eq_of_mem_replicate hr]; simpa using hzl) (by simp) fun q r k cc hq hkk => ?_
  have hql := (List.getElem?_eq_some_iff.1 hq).1
  simp only [List.length_replicate] at hql
  have hrr := List.eq_of_mem_replicate (List.mem_of_getElem? hq)
  subst hrr
  have hkl := (List.getElem?_eq_some_iff.1 hkk).1
  simp only [List.length_map, hzl] at hkl
  simp only [List.getElem?_map, Option.map_eq_some_iff] at hkk
  obtain ⟨v, hv, rfl⟩ := hkk
  have h3 := Nat.mul_le_mul_right inf.size (show q + 1 ≤ len by omega)
  rw [Nat.add_mul] at h3
  refine ⟨v, ?_, rfl⟩
  rw [← hzc] at hv
  simp only [Array.getElem?_toList, Array.getElem?_map, Array.getElem?_range]
  rw [if_pos (by omega)]
  simp only [Option.map_some, hs3]
  rw [show (q * inf.size + k) % inf.size = k by rw [Nat.mul_comm, Nat.mul_add_mod, Nat.mod_eq_of_lt hkl]]
  simp only [Array.getElem?_toList] at hv
  simp [getElem!_def, hv]
 obtain ⟨arr, h1, h2⟩ := fill_rel (I := I) (R := R) (place := fun i => some (i * inf.size, inf.size)) (by
   intro i off sz r hi
   simp only [List.getElem?_map, Option.map_eq_some_iff, Prod.mk.injEq] at hi
   obtain ⟨i', hi', rfl, rfl, _⟩ := hi
   have := (List.getElem?_eq_some_iff.1 hi').1
   simp only [List.length_range] at this
   rw [List.getElem?_range this] at hi'
   simp only [Option.some.injEq] at hi'
   rw [hi']) hzz ev hout
 have hol : out.length = len * inf.size := by
  have key : ∀ (offs : List (Nat × Nat × Bool)) (parts : List (Nat × A0)) (cs out : List Ce), fillC offs cs parts = some out → out.length = cs.length := by
   intro offs parts
   induction parts with
   | nil => intro cs out h; simp only [fillC, Option.some.injEq] at h; rw [← h]
   | cons p parts ih =>
    intro cs out h
    obtain ⟨i, v⟩ := p
    simp only [fillC] at h
    split at h
    ·split at h
     ·rw [ih _ _ h, spq_eq, spl_length]
     ·cases h
    ·cases h
  rw [key _ _ _ _ hout, flat_len (sz := inf.size) fun r hr => by rw [List.eq_of_mem_replicate hr]; simpa using hzl]
  simp
 have hal : arr.size = len * inf.size := by rw [← hol, h2.length]; simp
 have hrun : (execOp a.eval o).run P w = .ok (.value (.slice (some ⟨w.heap.size, 0, none⟩) len len)) (w.alloc (.cells arr e)) := by
  have hp : (ps.map fun (i, x) => (i, a.eval x)).toList = ps.toList.map fun q => (q.1, a.eval q.2) := by simp
  simp only [execOp, ho]
  have : (Instr.buildSlice t len (ps.map fun (i, x) => (i, a.eval x))).run P w = .ok (.slice (some ⟨w.heap.size, 0, none⟩) len len) (w.alloc (.cells arr e)) := by
   unfold Instr.buildSlice
   rw [Sem.run_bind, run_underlying hu]
   simp only [Result.andThen_ok]
   rw [Sem.run_bind, show (sizeOf e).run P w = .ok inf.size w by simp [sizeOf, typeInfo, hinf]]
   simp only [Result.andThen_ok]
   rw [if_neg (by omega)]
   by_cases hl0 : len = 0
   ·subst hl0
    simp only [Nat.zero_mul] at h1 ⊢
    simp only [if_true, Sem.run_bind, Sem.run_pure, Result.andThen_ok, Array.range_zero', List.map_toArray, List.map_nil, hp] at h1 ⊢
    have h1' : Instr.fill (fun i => some (i * inf.size, inf.size)) #[] (ps.toList.map fun q => (q.1, a.eval q.2)) = some arr := by simpa using h1
    simp [h1', newRow]
   ·have hne : ¬ len * inf.size = 0 := by
     intro h
     rcases Nat.mul_eq_zero.1 h with h | h <;> omega
    rw [if_neg hne]
    have hzv : (zeroValue e).run P w = .ok z w := by simp [zeroValue, typeInfo, hinf, hz]
    simp only [Sem.run_bind, hzv, Result.andThen_ok, Sem.run_pure, hp, h1]
    simp [newRow]
  rw [Sem.run_bind, this]; rfl
 have hw := hst.wd.new htop.1 htop.2 ⟨(List.range len).map fun q => (out.drop (q * inf.size)).take inf.size, inf.size, e, false⟩ (fun r hr => by
   obtain ⟨q, hq, rfl⟩ := List.mem_map.1 hr
   have hq' := List.mem_range.1 hq
   have h3 := Nat.mul_le_mul_right inf.size (show q + 1 ≤ len by omega)
   rw [Nat.add_mul] at h3
   simp; omega) len (by simp) (by have := Nat.le_mul_of_pos_right len hs0; simp only [maxLen]; omega) (w' := w.alloc (.cells arr e)) ((Bel.refl _ w).alloc (Nat.le_refl _) _) (Nat.le_refl _) _ (heap_push w _) hal (fun q r k cc hq hkk => by
  simp only [List.getElem?_map, Option.map_eq_some_iff] at hq
  obtain ⟨q', hq', rfl⟩ := hq
  have := (List.getElem?_eq_some_iff.1 hq').1
  simp only [List.length_range] at this
  rw [List.getElem?_range this] at hq'
  simp only [Option.some.injEq] at hq'
  subst hq'
  rw [List.getElem?_take] at hkk
  split at hkk
  ·rw [List.getElem?_drop] at hkk
   obtain ⟨u, hu', hr⟩ := h2.get hkk
   exact ⟨u, by simpa using hu', hr⟩
  ·cases hkk)
 unfold Oper.wp
 rw [hrun]
 exact hnext _ _ _ _ (hst.put (.ext htop.1) (.refl _) hw hd ⟨_, len, by simp [Wx.ext]; rfl, by simp, Nat.le_refl _, by simp, fun _ h => by cases h; rfl⟩) (.ext htop.1) dom_ext (.refl _)
def bnd (o : Option Int) (l d : Nat) : Prop :=
 match o with
 | some x => x = (l : Int)
 | none => l = d
def bndo (F : Nat → Option AV) (o : Option Operand) (l d : Nat) : Prop :=
 match o with
 | some y => ∃ k, evf F y = some (.val (.int k (l : Int)))
 | none => l = d
structure slN (lo hi : Option Int) (len : Nat) (cap : Option Nat) (A : Nat → Nat → Prop) : Prop where
 h : ∃ l h : Nat, bnd lo l 0 ∧ bnd hi h len ∧ l ≤ h ∧ (h ≤ len ∨ ∃ c, cap = some c ∧ h ≤ c) ∧ A l h
theorem slice_run {t e : TypeId} {ti : TI} (ht : tiOf P t = some ti) {s bt : Nat} (hel : ti.elem = some (e, s, bt)) {w : World} (ad : Option Addr) (len cap : Nat) (lo hi : Option Value) (l h : Nat)
  (hlo : (match lo with | some x => ∃ k, x = .int k (l : Int) | none => l = 0)) (hhi : (match hi with | some x => ∃ k, x = .int k (h : Int) | none => h = len)) (hlh : l ≤ h) (hhc : h ≤ cap) (hlc : len ≤ cap) :
  (Instr.sliceAt t (.slice ad len cap) lo hi none).run P w = .ok (.slice (if cap = l then ad else ad.map (·.add (l * s))) (h - l) (cap - l)) w := by
 obtain ⟨hu, inf, z, hinf, hz, hs1, hs2, hs3⟩ := tiOf_elem ht hel
 have hu' : P.underlying t = some (.slice (P.elem t)) := by
  have : P.elem t = e := by simp [Program.elem, hu]
  rw [this]; exact hu
 have hsz : (sizeOf (P.elem t)).run P w = .ok s w := by
  have : P.elem t = e := by simp [Program.elem, hu]
  rw [this]; simp [sizeOf, typeInfo, hinf, hs1]
 rw [run_sliceAt_slice w t _ lo hi none hu']
 cases lo with
 | none =>
  simp only at hlo
  subst hlo
  cases hi with
  | none => simp only at hhi; subst hhi; rw [run_slice_all w t ad h cap hu', hsz]; simp [Result.andThen, sliced]
  | some x => obtain ⟨k, rfl⟩ := hhi; rw [run_slice_h w t ad len cap hu' k h (by omega) (by omega), hsz]; simp [Result.andThen, sliced]
 | some x =>
  obtain ⟨k, rfl⟩ := hlo
  cases hi with
  | none => simp only at hhi; subst hhi; rw [run_slice_l w t ad h cap hu' k l (by omega) (by omega), hsz]; simp [Result.andThen, sliced]
  | some x => obtain ⟨k', rfl⟩ := hhi; rw [run_slice_lh w t ad len cap hu' k k' l h (by omega) (by omega) (by omega), hsz]; simp [Result.andThen, sliced]
theorem y_slo (t : TypeId) (x : Operand) (lo hi : Option Operand) (ho : o.op = .slice t x lo hi none) (ti : TI) (ht : tiOf P t = some ti) (e s bt : Nat) (hel : ti.elem = some (e, s, bt)) (i q m : Nat) (c : Option Nat) (hx : evf F0 x = some (.c (.osl i q m c)) ∨ (q = 0 ∧ c = none ∧ ∃ rows, m = rows.length ∧ 0 < rows.length ∧ evf F0 x = some (.c (.gsl i rows)))) (b : Blk) (hb : K0 i = some b) (hs : Nat.beq b.sz s = true) (l h : Nat)
  (hlo : bndo F0 lo l 0) (hhi : bndo F0 hi h m) (hlh : l ≤ h) (hhc : h ≤ m ∨ ∃ c0, c = some c0 ∧ h ≤ c0) (hne : l = 0 ∨ l < h) :
  Yv P o F0 K0 [i] (.c (.osl i (q + l) (h - l) (c.map (· - l)))) := by
 intro n W F K I R a w hst hxx hk
 have hop : ∀ z, (z = x ∨ lo = some z ∨ hi = some z) → evf F z = evf F0 z := fun z hz => hxx z (by
  simp only [ho, Op.operands]
  rcases hz with rfl | rfl | rfl <;> simp)
 obtain ⟨p, c', hp, hu, h1, h2, h3⟩ : ∃ p c', I i = some p ∧ a.eval x = .slice (some ⟨p.b, q * p.sz, none⟩) m c' ∧ m ≤ c' ∧ q + c' ≤ p.tot ∧ ∀ c0, c = some c0 → c' = c0 := by
  rcases hx with hx | ⟨rfl, rfl, rows, rfl, h0, hx⟩
  ·exact hst.ev ((hop x (.inl rfl)).trans hx)
  ·rcases hst.ev ((hop x (.inl rfl)).trans hx) with ⟨rfl, _⟩ | ⟨_, p, c', hp, hx', g1, g2⟩
   ·simp at h0
   ·exact ⟨p, c', hp, by simpa using hx', g1, by omega, fun _ h => by cases h⟩
 obtain ⟨p', hp', hbk⟩ := hst.wd.blk i b ((hk i (by simp)).trans hb)
 rw [hp] at hp'; cases hp'
 have hps : p.sz = s := hbk.sz.trans (Nat.eq_of_beq_eq_true hs)
 have hhc' : h ≤ c' := by
  rcases hhc with hhc | ⟨c0, h4, h5⟩
  ·omega
  ·rw [h3 c0 h4]; exact h5
 have hrun := slice_run ht hel (w := w) (some ⟨p.b, q * p.sz, none⟩) m c' (lo.map a.eval) (hi.map a.eval) l h (by
   cases lo with
   | none => exact hlo
   | some y => obtain ⟨k, hy⟩ := hlo; exact ⟨k, ev_plain hst ((hop y (.inr (.inl rfl))).trans hy)⟩) (by
   cases hi with
   | none => exact hhi
   | some y => obtain ⟨k, hy⟩ := hhi; exact ⟨k, ev_plain hst ((hop y (.inr (.inr rfl))).trans hy)⟩) hlh hhc' h1
 refine ⟨_, ?_, p, c' - l, hp, rfl, by omega, by omega, fun c0 hc0 => ?_⟩
 ·simp only [execOp, ho, hu]
  rw [Sem.run_bind, Option.map_none, hrun]
  simp only [Result.andThen_ok, Sem.run_pure, hps]
  congr 3
  split
  ·rename_i he
   have : l = 0 := by rcases hne with h | h <;> omega
   subst this; simp
  ·simp only [Option.map_some, Addr.add_mid, Nat.add_mul]
 ·cases c with
  | none => cases hc0
  | some c1 => simp only [Option.map_some, Option.some.injEq] at hc0; rw [h3 c1 rfl]; exact hc0
theorem y_slr (t : TypeId) (x : Operand) (lo hi : Option Operand) (ho : o.op = .slice t x lo hi none) (ti : TI) (ht : tiOf P t = some ti) (e s bt : Nat) (hel : ti.elem = some (e, s, bt)) (fl : Bool) (rows : List (List RT)) (hx : evf F0 x = some (.c (.ro fl s rows))) (l h : Nat)
  (hlo : bndo F0 lo l 0) (hhi : bndo F0 hi h rows.length) (hlh : l ≤ h) (hhc : h ≤ rows.length) :
  Yv P o F0 K0 [] (.c (.ro fl s ((rows.drop l).take (h - l)))) := by
 intro n W F K I R a w hst hxx hk
 have hop : ∀ z, (z = x ∨ lo = some z ∨ hi = some z) → evf F z = evf F0 z := fun z hz => hxx z (by
  simp only [ho, Op.operands]
  rcases hz with rfl | rfl | rfl <;> simp)
 have hu := hst.ev ((hop x (.inl rfl)).trans hx)
 simp only [AV.rel, A0.rel, Ce.rel] at hu
 have hlo' : (match lo.map a.eval with | some x => ∃ k, x = Value.int k (l : Int) | none => l = 0) := by
  cases lo with
  | none => exact hlo
  | some y => obtain ⟨k, hy⟩ := hlo; exact ⟨k, ev_plain hst ((hop y (.inr (.inl rfl))).trans hy)⟩
 have hhi' : (match hi.map a.eval with | some x => ∃ k, x = Value.int k (h : Int) | none => h = rows.length) := by
  cases hi with
  | none => exact hhi
  | some y => obtain ⟨k, hy⟩ := hhi; exact ⟨k, ev_plain hst ((hop y (.inr (.inr rfl))).trans hy)⟩
 simp only [execOp, ho]
 generalize a.eval x = u at hu
 cases hu with
 | nil =>
  simp only [List.length_nil] at hhc hhi'
  have h0 : h = 0 := by omega
  have l0 : l = 0 := by omega
  subst h0 l0
  refine ⟨.slice none 0 0, ?_, show Rd (R fl) (.ro s _) _ from by simpa using Rd.nil s⟩
  rw [Sem.run_bind, Option.map_none, slice_run ht hel (w := w) none 0 0 _ _ 0 0 hlo' hhi' (Nat.le_refl _) (Nat.le_refl _) (Nat.le_refl _)]
  rfl
 | emp _ ad cap =>
  simp only [List.length_nil] at hhc hhi'
  have h0 : h = 0 := by omega
  have l0 : l = 0 := by omega
  subst h0 l0
  have hrun := slice_run ht hel (w := w) (some ad) 0 cap _ _ 0 0 hlo' hhi' (Nat.le_refl _) (Nat.zero_le _) (Nat.zero_le _)
  refine ⟨.slice (if cap = 0 then some ad else (some ad).map (·.add (0 * s))) (0 - 0) (cap - 0), ?_, show Rd (R fl) (.ro s _) _ from ?_⟩
  ·rw [Sem.run_bind, Option.map_none, hrun]; rfl
  ·simp only [List.drop_nil, List.take_nil]
   split
   ·exact Rd.emp s ad _
   ·exact Rd.emp s _ _
 | ro _ _ b off cap val hl hcap hc hrr =>
  have hrun := slice_run ht hel (w := w) (some ⟨b, off, none⟩) rows.length cap _ _ l h hlo' hhi' hlh (by omega) hcap
  refine ⟨.slice (if cap = l then some ⟨b, off, none⟩ else (some (⟨b, off, none⟩ : Addr)).map (·.add (l * s))) (h - l) (cap - l), ?_, ?_⟩
  ·rw [Sem.run_bind, Option.map_none, hrun]; rfl
  ·have hlen : ((rows.drop l).take (h - l)).length = h - l := by simp; omega
   have key : ∀ off', (l < cap → off' = off + l * s) → Rd (R fl) (.ro s ((rows.drop l).take (h - l))) (.slice (some ⟨b, off', none⟩) (h - l) (cap - l)) := by
    intro off' hoff
    have hget : ∀ q row, ((rows.drop l).take (h - l))[q]? = some row → rows[l + q]? = some row := fun q row hq => by
     rw [List.getElem?_take] at hq
     split at hq
     ·rwa [List.getElem?_drop] at hq
     ·cases hq
    have hof : ∀ q row, ((rows.drop l).take (h - l))[q]? = some row → off' = off + l * s := fun q row hq => hoff (by
     have h1 := (List.getElem?_eq_some_iff.1 (hget q row hq)).1
     omega)
    have := Rd.ro (R := R fl) s ((rows.drop l).take (h - l)) b off' (cap - l) (fun q k => val (l + q) k) (fun row hrow => hl row (List.mem_of_mem_drop (List.mem_of_mem_take hrow))) (by rw [hlen]; omega)
     (fun q row k t hq hkk => by
      rw [hof q row hq, show off + l * s + q * s + k = off + (l + q) * s + k by rw [Nat.add_mul]; omega]
      exact hc (l + q) row k t (hget q row hq) hkk) (fun q row k t hq hkk => hrr (l + q) row k t (hget q row hq) hkk)
    rw [hlen] at this
    exact this
   show Rd (R fl) _ _
   by_cases hcl : cap = l
   ·rw [if_pos hcl]; exact key off (fun hlt => by omega)
   ·rw [if_neg hcl]; simp only [Option.map_some, Addr.add_mid]; exact key _ (fun _ => rfl)
end
end Go.Proofs.Ytopieffkpdlpbaa.Wx
namespace Go.Proofs.Ytopieffkpdlpbaa.Wx
open Go Go.RowKit
section
variable {P : Program} {n : Nat} {W : Wo} {F : Nat → Option AV} {K : Nat → Option Blk} {I : IM} {R : RM} {a : Act} {w : World}
def lay (rows : List (List Ce)) (q : Nat) (src : List (List Ce)) : List (List Ce) := rows.take q ++ (src ++ rows.drop (q + src.length))
theorem lay_length {rows src : List (List Ce)} {q : Nat} (h : q + src.length ≤ rows.length) : (lay rows q src).length = rows.length := by
 simp [lay]; omega
theorem lay_get {rows src : List (List Ce)} {q j : Nat} (h : q + src.length ≤ rows.length) : (lay rows q src)[j]? = if q ≤ j ∧ j < q + src.length then src[j - q]? else rows[j]? := by
 unfold lay
 by_cases h1 : j < q
 ·rw [List.getElem?_append_left (by simp; omega), List.getElem?_take, if_pos h1, if_neg (by omega)]
 ·rw [List.getElem?_append_right (by simp; omega)]
  have hl : (rows.take q).length = q := by simp; omega
  rw [hl]
  by_cases h2 : j < q + src.length
  ·rw [if_pos ⟨by omega, h2⟩, List.getElem?_append_left (by omega)]
  ·rw [if_neg (by omega), List.getElem?_append_right (by omega), List.getElem?_drop]
   congr 1; omega
theorem Wd.lay (h : Wd W K I R w) {i : Nat} {b : Blk} (hb : K i = some b) {p : Loc} (hp : I i = some p) {q : Nat} {src : List (List Ce)} {us : List Value} (hq : q + src.length ≤ b.rows.length) (hrow : ∀ r ∈ src, r.length = b.sz) (hul : us.length = src.length * b.sz) (hv : All2 (Ce.rel I R) src.flatten us) :
  Wd W (kup K [(i, some ⟨Wx.lay b.rows q src, b.sz, b.ty, b.bx⟩)]) I R (w.setCells p.b (q * p.sz) us) := by
 obtain ⟨p', hp', hk⟩ := h.blk i b hb
 rw [hp] at hp'; cases hp'
 have hbase := h.base i b p hb hp
 obtain ⟨cs, hm, hsz, hc⟩ := hk.mem
 have hps := hk.sz
 rw [← hps] at hul hrow
 have hfit : q * p.sz + us.length ≤ cs.size := by
  rw [hsz, hul, ← Nat.add_mul]
  exact Nat.mul_le_mul_right _ (by have := hk.fit; omega)
 refine h.change (.refl _) (belowZ_cells hbase _ _ h.below) ?_ ?_ ?_
 ·intro j b' hj
  simp only [kup] at hj
  by_cases hij : j = i
  ·subst hij
   simp only [if_true, Option.some.injEq] at hj
   subst hj
   refine .inr ⟨p, hp, ⟨hps, by simp only [lay_length hq]; exact hk.fit, hk.few, ?_, (spl cs.toList (q * p.sz) us).toArray, heap_setCells _ _ _ _ _ _ hm hfit, by simpa [spl_length] using hsz, ?_⟩, hbase, fun f o => h.apart j b p f o hb hp⟩
   ·intro r hr
    simp only [Wx.lay, List.mem_append] at hr
    rcases hr with hr | hr | hr
    ·exact hk.row r (List.mem_of_mem_take hr)
    ·rw [← hps]; exact hrow r hr
    ·exact hk.row r (List.mem_of_mem_drop hr)
   ·intro q' r k c hq' hk'
    rw [lay_get hq] at hq'
    simp only [List.getElem?_toArray]
    rw [spl_get _ _ _ _ (by simpa using hfit)]
    split at hq'
    ·rename_i hin
     have hks : k < p.sz := by rw [← hrow r (List.mem_of_getElem? hq')]; exact (List.getElem?_eq_some_iff.1 hk').1
     have h1 := Nat.mul_le_mul_right p.sz hin.1
     have h2 := Nat.mul_le_mul_right p.sz (show q' + 1 ≤ q + src.length from hin.2)
     rw [Nat.add_mul, Nat.add_mul] at h2
     rw [if_pos (by rw [hul]; omega)]
     obtain ⟨u, hu, hr⟩ := flat_at hrow hv hq' hk'
     refine ⟨u, ?_, hr⟩
     rw [← hu]
     congr 1
     rw [Nat.sub_mul]; omega
    ·rename_i hout
     obtain ⟨u, h3, h4⟩ := hc q' r k c hq' hk'
     have hks : k < p.sz := by
      have := (List.getElem?_eq_some_iff.1 hk').1
      rw [hk.row r (List.mem_of_getElem? hq')] at this
      rw [hps]; exact this
     rw [if_neg ?_]
     ·exact ⟨u, by simpa using h3, h4⟩
     ·rintro ⟨h5, h6⟩
      rcases Nat.lt_or_ge q' q with h7 | h7
      ·have := Nat.mul_le_mul_right p.sz (show q' + 1 ≤ q from h7)
       rw [Nat.add_mul] at this
       omega
      ·have := Nat.mul_le_mul_right p.sz (show q + src.length ≤ q' by omega)
       rw [Nat.add_mul] at this
       rw [hul] at h6
       omega
  ·rw [if_neg hij] at hj
   exact .inl ⟨hj, fun p2 hp2 => other_setCells _ _ (fun he => hij (h.inj _ _ _ _ _ _ hj hb hp2 hp he)) _ _ _⟩
 ·intro f b2 o u hu
  refine other_setCells _ _ (fun he => ?_) _ _ _
  rw [he, h.apart i b p f o hb hp] at hu
  cases hu
 ·intro j j' bj bj' p2 q2 hj hj' hp2 hq2 he
  simp only [kup] at hj hj'
  have : ∀ j bj, (if j = i then some (⟨Wx.lay b.rows q src, b.sz, b.ty, b.bx⟩ : Blk) else K j) = some bj → ∃ b0, K j = some b0 := fun j bj hj => by
   split at hj
   ·rename_i e; rw [e]; exact ⟨b, hb⟩
   ·exact ⟨bj, hj⟩
  obtain ⟨b1, h1⟩ := this j bj hj
  obtain ⟨b2, h2⟩ := this j' bj' hj'
  exact h.inj _ _ _ _ _ _ h1 h2 hp2 hq2 he
theorem run_copy_gen {dT sT ty elem : TypeId} {inf : TypeInfo} (hu : P.underlying dT = some (.slice elem)) (hi : P.info? elem = some inf) (g off dLen dCap : Nat) (ad : Option Addr) (sLen sCap : Nat) (cs : List Value) (hn : cs.length = Nat.min sLen dLen * inf.size)
  (hsrc : ∀ x, ad = some x → ∀ j v, cs[j]? = some v → w.cell? (x.add j) = some v) (hnone : ad = none → cs = []) (hc : ∀ j, j < cs.length → (w.cell? ⟨g, off + j, none⟩).isSome = true) (hf : ∀ j, j < cs.length → w.frozen? ⟨g, off + j, none⟩ = false) (h1 : ∀ v ∈ cs, v.oneCell' = true) :
  (Builtin.copy_ #[dT, sT] ty #[.slice (some ⟨g, off, none⟩) dLen dCap, .slice ad sLen sCap]).run P w = .ok (goInt (Nat.min sLen dLen)) (w.setCells g off cs) := by
 have hst := run_storeCells_cells (P := P) g off cs 0 w (by simpa using hc) (by simpa using hf) h1
 cases ad with
 | none =>
  have := hnone rfl
  subst this
  simp [Builtin.copy_, run_underlying hu, Builtin.lenOf, sizeOf, typeInfo, hi, run_firstCells_none, storeCells, World.setCells]
 | some x =>
  have hfc := run_firstCells_some (P := P) w inf.size (Nat.min sLen dLen) x sLen sCap cs hn (hsrc x rfl)
  simp only [Nat.add_zero] at hst
  have hfc' : (Builtin.firstCells inf.size (min sLen dLen) (.slice (some x) sLen sCap)).run P w = .ok cs.toArray w := hfc
  simp [Builtin.copy_, run_underlying hu, Builtin.lenOf, sizeOf, typeInfo, hi, hfc', hst]
theorem run_copy_zero {dT sT ty elem : TypeId} {inf : TypeInfo} (hu : P.underlying dT = some (.slice elem)) (hi : P.info? elem = some inf) (a0 : Option Addr) (dCap : Nat) (ad : Option Addr) (sLen sCap : Nat) :
  (Builtin.copy_ #[dT, sT] ty #[.slice a0 0 dCap, .slice ad sLen sCap]).run P w = .ok (goInt 0) w := by
 have hz : (Builtin.firstCells inf.size 0 (.slice ad sLen sCap)).run P w = .ok #[] w := by
  cases ad with
  | none => simp [run_firstCells_none]
  | some x => exact run_firstCells_some (P := P) w inf.size 0 x sLen sCap [] (by simp) (fun j v h => by simp at h)
 have hz' : (Builtin.firstCells inf.size (Nat.min sLen 0) (.slice ad sLen sCap)).run P w = .ok #[] w := by
  rw [show Nat.min sLen 0 = 0 from Nat.min_zero sLen]; exact hz
 cases a0 <;> simp [Builtin.copy_, run_underlying hu, Builtin.lenOf, sizeOf, typeInfo, hi, hz, hz', storeCells]
end
section
variable {P : Program} {o : Oper} {F0 : Nat → Option AV} {K0 : Nat → Option Blk} {top : Nat}
structure cpyN (q n L m : Nat) (src : List (List Ce)) (A : Prop) : Prop where
 mk2 ::
 len : src.length = m
 one : ∀ r ∈ src.take (Nat.min m n), ∀ c ∈ r, c.single = true
 fit : q + n ≤ L
 k : A
theorem cpyN.mk {q n L m : Nat} {src : List (List Ce)} {A : Prop} (len : src.length = m) (one : ∀ r ∈ src, ∀ c ∈ r, c.single = true) (fit : q + n ≤ L) (k : A) : cpyN q n L m src A := .mk2 len (fun r hr => one r (List.mem_of_mem_take hr)) fit k
theorem flat_take {sz : Nat} {rows : List (List Ce)} (h : ∀ r ∈ rows, r.length = sz) (m : Nat) (hm : m ≤ rows.length) {us : List Value} {rel : Ce → Value → Prop} (hv : All2 rel rows.flatten us) (hl : us.length = rows.length * sz) : All2 rel (rows.take m).flatten (us.take (m * sz)) ∧ (us.take (m * sz)).length = m * sz := by
 have hle : m * sz ≤ us.length := by rw [hl]; exact Nat.mul_le_mul_right _ hm
 have hlen : (us.take (m * sz)).length = m * sz := by simp; omega
 refine ⟨all2_flat (fun r hr => h r (List.mem_of_mem_take hr)) (by rw [hlen, List.length_take]; congr 1; omega) fun q r k c hq hk => ?_, hlen⟩
 rw [List.getElem?_take] at hq
 split at hq
 ·rename_i hlt
  obtain ⟨u, hu, hr⟩ := flat_at h hv hq hk
  have hks : k < sz := by rw [← h r (List.mem_of_getElem? hq)]; exact (List.getElem?_eq_some_iff.1 hk).1
  have h3 := Nat.mul_le_mul_right sz (show q + 1 ≤ m from hlt)
  rw [Nat.add_mul] at h3
  exact ⟨u, by rw [List.getElem?_take, if_pos (by omega)]; exact hu, hr⟩
 ·cases hq
theorem e_copy (x y : Operand) (t t' : TypeId) (ho : o.op = .call ⟨.builtin .copy, #[x, y], #[t, t']⟩) (ti : TI) (ht : tiOf P t = some ti) (e s bt : Nat) (hel : ti.elem = some (e, s, bt)) (i q m0 : Nat) (cp : Option Nat) (hx : evf F0 x = some (.c (.osl i q m0 cp))) (b : Blk) (hb : K0 i = some b) (hs : Nat.beq b.sz s = true)
  (cy : Ce) (hy : evf F0 y = some (.c cy)) (src : List (List Ce)) (m : Nat) (rd : List Nat) (hsrc : srcOf K0 s cy = some (src, m, rd)) (hn : cpyN q m0 b.rows.length m src True) :
  OpEff P o F0 K0 top ⟨.val (.int .i64 (Nat.min m m0 : Nat)), i :: rd, [(i, some ⟨lay b.rows q (src.take (Nat.min m m0)), b.sz, b.ty, b.bx⟩)], top⟩ := by
 obtain ⟨hu, inf, z, hinf, hz, hs1, hs2, hs3⟩ := tiOf_elem ht hel
 intro n W F K I R a w hst hxx hk hf hd next Q hnext
 have hm : ∀ z ∈ [x, y], evf F z = evf F0 z := fun z hz => hxx z (by simpa [ho, Op.operands, Call.operands] using hz)
 have hbK : K i = some b := (hk i (by simp)).trans hb
 have hbs := Nat.eq_of_beq_eq_true hs
 obtain ⟨p, c', hp, hux, hc1, hc2, _⟩ := hst.ev ((hm x (by simp)).trans hx)
 have hvy := hst.ev ((hm y (by simp)).trans hy)
 have hlen := hn.len
 obtain ⟨ad, cj, news, huy, hnl, hrows, hrel, hcells, hnone⟩ := src_spec hst.wd (srcOf_agree (fun j hj => hk j (List.mem_cons_of_mem _ hj)) hsrc) hlen hvy
 have hmin : Nat.min m m0 ≤ src.length := by rw [hlen]; exact Nat.min_le_left _ _
 obtain ⟨hr1, hr2⟩ := flat_take hrows (Nat.min m m0) hmin hrel (by rw [hnl, hlen])
 have htl : (src.take (Nat.min m m0)).length = Nat.min m m0 := by rw [List.length_take]; omega
 have hmin2 : Nat.min m m0 ≤ m0 := Nat.min_le_right _ _
 have hq : q + (src.take (Nat.min m m0)).length ≤ b.rows.length := by rw [htl]; have := hn.fit; omega
 have hw' := hst.wd.lay hbK hp hq (fun r hr => by rw [hbs]; exact hrows r (List.mem_of_mem_take hr)) (by rw [hr2, htl, hbs]) hr1
 obtain ⟨p', hp', hbk⟩ := hst.wd.blk i b hbK
 rw [hp] at hp'; cases hp'
 obtain ⟨cs, hmem, hsz, hcs⟩ := hbk.mem
 have hps : p.sz = s := hbk.sz.trans hbs
 have hfit : q * p.sz + (news.take (Nat.min m m0 * s)).length ≤ cs.size := by
  rw [hsz, hr2, hps, ← Nat.add_mul]
  exact Nat.mul_le_mul_right _ (by have := hbk.fit; rw [htl] at hq; omega)
 have hone : ∀ v ∈ news.take (Nat.min m m0 * s), v.oneCell' = true := fun v hv => by
  obtain ⟨c, hc, hcr⟩ := hr1.mem hv
  obtain ⟨r, hr, hcr'⟩ := List.mem_flatten.1 hc
  exact Ce.single_val (hn.one r hr c hcr') hcr
 have hrun := run_copy_gen (P := P) (w := w) (ty := o.type) (sT := t') hu hinf p.b (q * p.sz) m0 c' ad m cj (news.take (Nat.min m m0 * s)) (by rw [hr2, hs1]) (fun x hx j v hj => by
   rw [List.getElem?_take] at hj
   split at hj
   ·exact hcells x hx j v hj
   ·cases hj) (fun h => by have := hnone h; subst this; simp [Nat.min]) (fun j hj => by
   rw [cell_of_row w p.b _ _ _ _ hmem]
   have : q * p.sz + j < cs.size := by omega
   simp [this]) (fun j hj => frozen_of_row w p.b _ _ _ hmem) hone
 unfold Oper.wp
 have hex : (execOp a.eval o).run P w = .ok (.value (goInt (Nat.min m m0))) (w.setCells p.b (q * p.sz) (news.take (Nat.min m m0 * s))) := by
  obtain ⟨dst, op, ty, pos, af, gd⟩ := o
  simp only at ho
  subst ho
  simp only [execOp, resolve]
  rw [Sem.run_bind]
  simp only [Sem.run_pure, Result.andThen_ok, invoke, builtin]
  rw [Sem.run_bind]
  simp only [List.map_toArray, List.map_cons, List.map_nil, hux, huy]
  simp only at hrun
  rw [hrun]
  rfl
 rw [hex]
 exact hnext I R _ _ (hst.put (.refl _) (.refl _) hw' hd rfl) (.refl _) (fun _ _ => rfl) (.refl _)
theorem y_copy0 (x y : Operand) (t t' : TypeId) (ho : o.op = .call ⟨.builtin .copy, #[x, y], #[t, t']⟩) (ti : TI) (ht : tiOf P t = some ti) (e s bt : Nat) (hel : ti.elem = some (e, s, bt)) (fl : Bool) (s0 : Nat) (hx : evf F0 x = some (.c (.ro fl s0 [])))
  (cy : Ce) (hy : evf F0 y = some (.c cy)) (src : List (List Ce)) (m : Nat) (rd : List Nat) (hsrc : srcOf K0 s cy = some (src, m, rd)) (hn : cpyN 0 0 0 m src True) : Yv P o F0 K0 rd (.val (.int .i64 0)) := by
 obtain ⟨hu, inf, z, hinf, hz, hs1, hs2, hs3⟩ := tiOf_elem ht hel
 intro n W F K I R a w hst hxx hk
 have hm : ∀ z ∈ [x, y], evf F z = evf F0 z := fun z hz => hxx z (by simpa [ho, Op.operands, Call.operands] using hz)
 have hvx := hst.ev ((hm x (by simp)).trans hx)
 have hvy := hst.ev ((hm y (by simp)).trans hy)
 obtain ⟨ad, cj, news, huy, _⟩ := src_spec hst.wd (srcOf_agree (fun j hj => hk j hj) hsrc) hn.len hvy
 have hux : ∃ a0 c0, a.eval x = .slice a0 0 c0 := by
  generalize hav : a.eval x = av at *
  have hvx : Rd _ (.ro s0 []) av := hvx
  cases hvx <;> exact ⟨_, _, rfl⟩
 obtain ⟨a0, c0, hux⟩ := hux
 have hrun := run_copy_zero (P := P) (w := w) (ty := o.type) (dT := t) (sT := t') hu hinf a0 c0 ad m cj
 refine ⟨_, ?_, rfl⟩
 simp only [execOp, ho]
 rw [Sem.run_bind]
 simp only [resolve, Sem.run_pure, Result.andThen_ok, invoke, builtin]
 rw [Sem.run_bind]
 simp only [List.map_toArray, List.map_cons, List.map_nil, hux, huy]
 rw [hrun]
 rfl
theorem y_cap (t : TypeId) (x : Operand) (ho : o.op = .call ⟨.builtin .cap, #[x], #[t]⟩) (ti : TI) (ht : tiOf P t = some ti) (e s bt : Nat) (hel : ti.elem = some (e, s, bt)) (i q m c : Nat) (hx : evf F0 x = some (.c (.osl i q m (some c)))) : Yv P o F0 K0 [] (.val (.int .i64 c)) := by
 obtain ⟨hu, inf, z, hinf, _, hs1, _⟩ := tiOf_elem ht hel
 intro n W F K I R a w hs hxx hk
 obtain ⟨p, c', hp, hux, _, _, hc⟩ := hs.ev ((hxx x (by simp [ho, Op.operands, Call.operands])).trans hx)
 have := hc c rfl
 subst this
 refine ⟨_, ?_, rfl⟩
 simp only [execOp, ho]
 rw [Sem.run_bind]
 simp [resolve, invoke, builtin, Builtin.cap_, hux, run_underlying hu, goInt]
theorem y_capv (t : TypeId) (x : Operand) (ho : o.op = .call ⟨.builtin .cap, #[x], #[t]⟩) (ti : TI) (ht : tiOf P t = some ti) (e s bt : Nat) (hel : ti.elem = some (e, s, bt)) (ad : Option Addr) (m c : Nat) (hx : evf F0 x = some (.val (.slice ad m c))) : Yv P o F0 K0 [] (.val (.int .i64 c)) := by
 obtain ⟨hu, inf, z, hinf, _, hs1, _⟩ := tiOf_elem ht hel
 intro n W F K I R a w hs hxx hk
 have hux : a.eval x = .slice ad m c := hs.ev ((hxx x (by simp [ho, Op.operands, Call.operands])).trans hx)
 refine ⟨_, ?_, rfl⟩
 simp only [execOp, ho]
 rw [Sem.run_bind]
 simp [resolve, invoke, builtin, Builtin.cap_, hux, run_underlying hu, goInt]
theorem run_append_zroom {t tn ty e : TypeId} {inf : TypeInfo} {z : Value} {kk : IntKind} {w : World} (hu : P.underlying t = some (.slice e)) (hi : P.info? e = some inf) (hz : inf.zero = some z) (hzs : z.cells.size = inf.size) (htn : P.underlying tn = some (.int kk)) (g m0 c m : Nat) (k : IntKind) (cur : Array Value)
  (hg : w.heap[g]? = some (.cells cur e (0, 0))) (hroom : m0 + m ≤ c) (hfit : m0 * inf.size + m * inf.size ≤ cur.size) (hmx : (m : Int) ≤ 9223372036854775807) (hb : m * inf.bytes ≤ 281474976710656) (h1 : ∀ v ∈ z.cells, v.oneCell' = true) :
  (Builtin.append_ #[t, tn] ty #[.slice (some ⟨g, 0, none⟩) m0 c, .int k m]).run P w = .ok (.slice (some ⟨g, 0, none⟩) (m0 + m) c) (w.setRow g (cur.toList.take (m0 * inf.size) ++ (Builtin.zeroCells z.cells m).toList ++ cur.toList.drop (m0 * inf.size + m * inf.size)).toArray) := by
 have hzl : (Builtin.zeroCells z.cells m).toList.length = m * inf.size := by simp [size_zeroCells, hzs]
 have hone : ∀ v ∈ (Builtin.zeroCells z.cells m).toList, v.oneCell' = true := fun v hv => by
  simp only [Builtin.zeroCells, Array.toList_map, List.mem_map] at hv
  obtain ⟨j, hj, rfl⟩ := hv
  simp only [Array.toList_range, List.mem_range] at hj
  have hpos : 0 < z.cells.size := by
   rcases Nat.eq_zero_or_pos z.cells.size with h | h
   ·rw [h] at hj; simp at hj
   ·exact h
  have hlt := Nat.mod_lt j hpos
  rw [getElem!_pos z.cells _ hlt]
  exact h1 _ (Array.getElem_mem hlt)
 have hst := run_storeCells_at P g (m0 * inf.size) e (Builtin.zeroCells z.cells m).toList 0 cur w hg (by rw [hzl]; omega) hone
 simp only [Nat.add_zero, hzl] at hst
 have wm : IntKind.i64.wrap (m : Int) = m := IntWalk.i64_in _ (by omega)
 have n1 : ¬ ((m : Int) < 0) := by omega
 have n2 : ¬ (281474976710656 < (m : Int) * (inf.bytes : Int)) := by
  have h : ((m * inf.bytes : Nat) : Int) ≤ 281474976710656 := by omega
  rw [Int.natCast_mul] at h
  omega
 by_cases h0 : m * inf.size = 0
 ·have hze : (Builtin.zeroCells z.cells m).toList = [] := List.eq_nil_of_length_eq_zero (by rw [hzl, h0])
  rw [hze] at hst ⊢
  simp only [storeCells, List.append_nil, h0, Nat.add_zero, List.take_append_drop] at hst ⊢
  rw [show (cur.toList.toArray) = cur by simp, setRow_self w g cur e (0, 0) hg]
  simp [Builtin.append_, run_underlying hu, run_underlying htn, sizeOf, typeInfo, hi, asInt, asIntOf, wm, n1, n2, hroom, h0, storeCells]
 ·simp [Builtin.append_, run_underlying hu, run_underlying htn, sizeOf, typeInfo, hi, asInt, asIntOf, wm, n1, n2, hroom, h0, zeroValue, hz, Addr.add_lit, hst]
theorem run_append_zgrow {t tn ty e : TypeId} {inf : TypeInfo} {z : Value} {kk : IntKind} {w : World} (hu : P.underlying t = some (.slice e)) (hi : P.info? e = some inf) (hz : inf.zero = some z) (hzs : z.cells.size = inf.size) (htn : P.underlying tn = some (.int kk)) (bb : Addr) (m0 c m : Nat) (k : IntKind) (olds : List Value) (hlo : olds.length = m0 * inf.size)
  (holds : ∀ j v, olds[j]? = some v → w.cell? (bb.add j) = some v) (hg : c < m0 + m) (hmx : ((m0 + m : Nat) : Int) ≤ 9223372036854775807) (hb : (m0 + m) * inf.bytes ≤ 140737488355328) :
  (Builtin.append_ #[t, tn] ty #[.slice (some bb) m0 c, .int k m]).run P w = .ok (.slice (some ⟨w.heap.size, 0, none⟩) (m0 + m) (grownCap w (m0 + m) c e))
    (w.drew.alloc (.cells (olds.toArray ++ Builtin.zeroCells z.cells m ++ Builtin.zeroCells z.cells (grownCap w (m0 + m) c e - (m0 + m))) e)) := by
 have hn : ¬ (m0 + m ≤ c) := by omega
 have h63' : ¬ (9223372036854775807 < ((m0 : Int) + (m : Int))) := by omega
 have hf := run_firstCells_some (P := P) w.drew inf.size m0 bb m0 c olds hlo (by simpa using holds)
 have hfit := growslice_fits (by omega : c < m0 + m) hb
 have h48' : ¬ (281474976710656 < Builtin.nextslicecap (m0 + m) c * inf.bytes) := by omega
 have wm : IntKind.i64.wrap (m : Int) = m := IntWalk.i64_in _ (by omega)
 have n1 : ¬ ((m : Int) < 0) := by omega
 have n2 : ¬ (281474976710656 < (m : Int) * (inf.bytes : Int)) := by
  have h : m * inf.bytes ≤ (m0 + m) * inf.bytes := Nat.mul_le_mul_right _ (by omega)
  have h : ((m * inf.bytes : Nat) : Int) ≤ 281474976710656 := by omega
  rw [Int.natCast_mul] at h
  omega
 by_cases h0 : m * inf.size = 0
 ·have hze : Builtin.zeroCells z.cells m = #[] := Array.eq_empty_of_size_eq_zero (by rw [size_zeroCells, hzs, h0])
  simp [Builtin.append_, run_underlying hu, run_underlying htn, sizeOf, typeInfo, hi, asInt, asIntOf, wm, n1, n2, hn, h63', h48', zeroValue, hz, Question.forced, hf, newRow, grownCap, hze]
 ·simp [Builtin.append_, run_underlying hu, run_underlying htn, sizeOf, typeInfo, hi, asInt, asIntOf, wm, n1, n2, hn, h63', h48', h0, zeroValue, hz, Question.forced, hf, newRow, grownCap]
end
section
variable {P : Program} {o : Oper} {F0 : Nat → Option AV} {K0 : Nat → Option Blk} {top : Nat}
theorem builtin_append' (o : Oper) (x y : Operand) (t t' : TypeId) (ho : o.op = .call ⟨.builtin .append, #[x, y], #[t, t']⟩) (ρ : Operand → Value) (w : World) {v : Value} {w' : World}
  (h : (Builtin.append_ #[t, t'] o.type #[ρ x, ρ y]).run P w = .ok v w') : (execOp ρ o).run P w = .ok (.value v) w' := by
 obtain ⟨dst, op, ty, pos, af, g⟩ := o
 subst ho
 simp only [execOp, resolve]
 rw [Sem.run_bind]
 simp only [Sem.run_pure, Result.andThen_ok, invoke, builtin]
 rw [Sem.run_bind]
 simp only [List.map_toArray, List.map_cons, List.map_nil]
 simp only at h
 rw [h]
 rfl
structure apzN (j : Int) (m0 L bt : Nat) (one : Bool) (A : Nat → Prop) : Prop where
 h : ∃ m : Nat, j = (m : Int) ∧ m0 ≤ L ∧ m0 + m ≤ maxLen ∧ (m0 + m) * bt ≤ 140737488355328 ∧ one = true ∧ A m
theorem e_appendz (x y : Operand) (t tn : TypeId) (ho : o.op = .call ⟨.builtin .append, #[x, y], #[t, tn]⟩) (ti : TI) (ht : tiOf P t = some ti) (tj : TI) (htn : tiOf P tn = some tj) (kk : IntKind) (hkk : tj.ikind = some kk) (e s bt : Nat) (hel : ti.elem = some (e, s, bt)) (te : TI) (hte : tiOf P e = some te)
  (i m0 : Nat) (cp : Option Nat) (hx : evf F0 x = some (.c (.osl i 0 m0 cp))) (b : Blk) (hb : K0 i = some b) (hs : Nat.beq b.sz s = true) (hty : Nat.beq b.ty e = true) (k : IntKind) (j : Int) (hy : evf F0 y = some (.val (.int k j))) (m : Nat) (hj : j = (m : Int)) (hm0 : m0 ≤ b.rows.length) (hmax : m0 + m ≤ maxLen) (hroom : (m0 + m) * bt ≤ 140737488355328) (hone : (te.zero.all fun v => v.oneCell') = true) :
  OpEff P o F0 K0 top ⟨.c (.osl top 0 (m0 + m) none), [i], [(i, none), (top, some ⟨b.rows.take m0 ++ List.replicate m (te.zero.map .v), s, e, false⟩)], top + 1⟩ := by
 obtain ⟨hu, inf, z, hinf, hz, hs1, hs2, hs3⟩ := tiOf_elem ht hel
 obtain ⟨_, inf', z', _, hinf', hz', _, _, hzc⟩ := tiOf_load hte
 rw [hinf] at hinf'; cases hinf'
 rw [hz] at hz'; cases hz'
 have hti := tiOf_int htn hkk
 subst hs1 hs2 hj
 intro n W F K I R a w hst hxx hk hf hd next Q hnext
 have hm : ∀ z ∈ [x, y], evf F z = evf F0 z := fun z hz => hxx z (by simpa [ho, Op.operands, Call.operands] using hz)
 have hbK : K i = some b := (hk i (by simp)).trans hb
 obtain ⟨p, c', hp, hux, hc1, hc2, _⟩ := hst.ev ((hm x (by simp)).trans hx)
 have huy := ev_plain hst ((hm y (by simp)).trans hy)
 have htop := (hf top (Nat.le_refl _) (by simp)).1
 obtain ⟨p', hp', hbk⟩ := hst.wd.blk i b hbK
 rw [hp] at hp'; cases hp'
 obtain ⟨cs, hmem, hsz, hcs⟩ := hbk.mem
 have hbs := Nat.eq_of_beq_eq_true hs
 have hps : p.sz = inf.size := hbk.sz.trans hbs
 rw [hps] at hsz hcs
 rw [Nat.eq_of_beq_eq_true hty] at hmem
 have hzl : te.zero.length = inf.size := by rw [← hzc]; simpa using hs3
 have hz1 : ∀ v ∈ z.cells, v.oneCell' = true := fun v hv => List.all_eq_true.1 hone v (by rw [← hzc]; simpa using hv)
 have hbrow : ∀ r ∈ b.rows.take m0, r.length = inf.size := fun r hr => by rw [← hbs]; exact hbk.row r (List.mem_of_mem_take hr)
 have hzrow : ∀ r ∈ List.replicate m (te.zero.map Ce.v), r.length = inf.size := fun r hr => by rw [List.eq_of_mem_replicate hr]; simpa using hzl
 have hrow' : ∀ r ∈ b.rows.take m0 ++ List.replicate m (te.zero.map Ce.v), r.length = inf.size := fun r hr => by
  rcases List.mem_append.1 hr with h | h
  ·exact hbrow r h
  ·exact hzrow r h
 have hfit : m0 * inf.size ≤ cs.size := by rw [hsz]; exact Nat.mul_le_mul_right _ (by have := hbk.fit; omega)
 have hxl : (cs.toList.take (m0 * inf.size)).length = m0 * inf.size := by simp; omega
 have hznl : (Builtin.zeroCells z.cells m).toList.length = m * inf.size := by simp [size_zeroCells, hs3]
 have hxr : All2 (Ce.rel I R) (b.rows.take m0).flatten (cs.toList.take (m0 * inf.size)) := all2_flat hbrow (by rw [hxl, List.length_take]; congr 1; omega) fun q r k c hq hkk => by
  rw [List.getElem?_take] at hq
  split at hq
  ·rename_i hlt
   obtain ⟨v, hv, hr⟩ := hcs q r k c hq hkk
   have hks : k < inf.size := by
    have h1 := (List.getElem?_eq_some_iff.1 hkk).1
    rw [hbk.row r (List.mem_of_getElem? hq), hbs] at h1; exact h1
   have h3 := Nat.mul_le_mul_right inf.size (show q + 1 ≤ m0 from hlt)
   rw [Nat.add_mul] at h3
   exact ⟨v, by rw [List.getElem?_take, if_pos (by omega)]; simpa using hv, hr⟩
  ·cases hq
 have hzr : All2 (Ce.rel I R) (List.replicate m (te.zero.map Ce.v)).flatten (Builtin.zeroCells z.cells m).toList := all2_flat hzrow (by rw [hznl]; simp) fun q r k cc hq hkk => by
  have hql := (List.getElem?_eq_some_iff.1 hq).1
  simp only [List.length_replicate] at hql
  have hrr := List.eq_of_mem_replicate (List.mem_of_getElem? hq)
  subst hrr
  have hkl := (List.getElem?_eq_some_iff.1 hkk).1
  simp only [List.length_map, hzl] at hkl
  simp only [List.getElem?_map, Option.map_eq_some_iff] at hkk
  obtain ⟨v, hv, rfl⟩ := hkk
  have h3 := Nat.mul_le_mul_right inf.size (show q + 1 ≤ m by omega)
  rw [Nat.add_mul] at h3
  refine ⟨v, ?_, rfl⟩
  rw [← hzc] at hv
  simp only [Builtin.zeroCells, Array.getElem?_toList, Array.getElem?_map, Array.getElem?_range, hs3]
  rw [if_pos (by omega)]
  simp only [Option.map_some]
  rw [show (q * inf.size + k) % inf.size = k by rw [Nat.mul_comm, Nat.mul_add_mod, Nat.mod_eq_of_lt hkl]]
  simp only [Array.getElem?_toList] at hv
  simp [getElem!_def, hv]
 have hall : ∀ g tot, All2 (Ce.rel (ext I top ⟨g, inf.size, tot⟩) R) (b.rows.take m0 ++ List.replicate m (te.zero.map Ce.v)).flatten (cs.toList.take (m0 * inf.size) ++ (Builtin.zeroCells z.cells m).toList) := fun g tot => by
  rw [List.flatten_append]; exact (hxr.append hzr).mono fun _ _ => Ce.mono (.ext htop) (.refl _)
 have hlen' : (b.rows.take m0 ++ List.replicate m (te.zero.map Ce.v)).length = m0 + m := by simp; omega
 have hxsl : (cs.toList.take (m0 * inf.size) ++ (Builtin.zeroCells z.cells m).toList).length = (m0 + m) * inf.size := by rw [List.length_append, hxl, hznl, Nat.add_mul]
 have hmx : m0 + m ≤ 9223372036854775807 := by simp only [maxLen] at hmax; omega
 rw [Nat.zero_mul] at hux
 have key : ∃ g cn tot w', (Builtin.append_ #[t, tn] o.type #[.slice (some ⟨p.b, 0, none⟩) m0 c', .int k m]).run P w = .ok (.slice (some ⟨g, 0, none⟩) (m0 + m) cn) w' ∧ m0 + m ≤ cn ∧ cn ≤ tot ∧
   Wd W (kup K [(i, none), (top, some ⟨b.rows.take m0 ++ List.replicate m (te.zero.map .v), inf.size, e, false⟩)]) (ext I top ⟨g, inf.size, tot⟩) R w' := by
  by_cases hrm : m0 + m ≤ c'
  ·have hft : m0 * inf.size + m * inf.size ≤ cs.size := by rw [hsz, ← Nat.add_mul]; exact Nat.mul_le_mul_right _ (by omega)
   have hb2 : m * inf.bytes ≤ 281474976710656 := by have : m * inf.bytes ≤ (m0 + m) * inf.bytes := Nat.mul_le_mul_right _ (by omega); omega
   have hr := run_append_zroom (P := P) (w := w) (ty := o.type) hu hinf hz hs3 hti p.b m0 c' m k cs hmem hrm hft (by omega) hb2 hz1
   refine ⟨p.b, c', p.tot, _, hr, hrm, by omega, ?_⟩
   refine hst.wd.moved hbK hp htop (g := p.b) ?_ (.inl rfl) ?_ (b' := ⟨b.rows.take m0 ++ List.replicate m (te.zero.map .v), inf.size, e, false⟩) (tot := p.tot) ?_
   ·exact ⟨rfl, rfl, rfl, by simp, fun k _ hk => setRow_other w p.b k _ (fun e => hk (by rw [e]))⟩
   ·first | exact Nat.le_refl _ | exact Nat.le_succ _
   ·refine Bk.mk' (ex := cs.toList.drop (m0 * inf.size + m * inf.size)) hrow' (by rw [hlen']; omega) hbk.few ?_ ?_ (hall _ _)
    ·rw [setRow_heap w p.b _ _ e _ hmem]
    ·rw [hxsl, Nat.add_mul]
     simp only [List.length_drop, Array.length_toList]
     omega
  ·have holds : ∀ j v, (cs.toList.take (m0 * inf.size))[j]? = some v → w.cell? ((⟨p.b, 0, none⟩ : Addr).add j) = some v := fun j v hj => by
    rw [Addr.add_mid, cell_of_row w p.b _ _ _ _ hmem]
    rw [List.getElem?_take] at hj
    split at hj
    ·simpa using hj
    ·cases hj
   have hr := run_append_zgrow (P := P) (w := w) (ty := o.type) hu hinf hz hs3 hti ⟨p.b, 0, none⟩ m0 c' m k _ hxl holds (by omega) (by omega) hroom
   have hge := grownCap_ge w (m0 + m) c' e
   refine ⟨w.heap.size, _, grownCap w (m0 + m) c' e, _, hr, hge, Nat.le_refl _, ?_⟩
   refine hst.wd.moved hbK hp htop (g := w.heap.size) ?_ (.inr (Nat.le_refl _)) ?_ (b' := ⟨b.rows.take m0 ++ List.replicate m (te.zero.map .v), inf.size, e, false⟩) (tot := grownCap w (m0 + m) c' e) ?_
   ·exact ⟨rfl, rfl, rfl, by simp, fun k hk _ => heap_alloc_old w.drew _ hk⟩
   ·first | exact Nat.le_succ _ | exact Nat.le_refl _
   ·refine Bk.mk' (ex := (Builtin.zeroCells z.cells (grownCap w (m0 + m) c' e - (m0 + m))).toList) hrow' (by rw [hlen']; exact hge) (grownCap_le_maxLen w (m0 + m) c' e hmax) ?_ ?_ (hall _ _)
    ·rw [show w.heap.size = w.drew.heap.size from rfl, heap_alloc_new w.drew _]
     congr 2
     apply Array.ext'
     simp
    ·simp only [hxsl, Array.length_toList, size_zeroCells, hs3]
     rw [← Nat.add_mul]
     congr 1
     omega
 obtain ⟨g, cn, tot, w', hrun, h1, h2, h3⟩ := key
 unfold Oper.wp
 rw [builtin_append' o x y t tn ho a.eval w (by rw [hux, huy]; exact hrun)]
 exact hnext _ _ _ _ (hst.put (.ext htop) (.refl _) h3 hd ⟨_, cn, by simp [Wx.ext]; rfl, by simp, h1, by simpa using h2, fun _ h => (by cases h)⟩) (.ext htop) dom_ext (.refl _)
theorem run_append_zgrow0 {t tn ty e : TypeId} {inf : TypeInfo} {z : Value} {kk : IntKind} {w : World} (hu : P.underlying t = some (.slice e)) (hi : P.info? e = some inf) (hz : inf.zero = some z) (hzs : z.cells.size = inf.size) (htn : P.underlying tn = some (.int kk)) (m : Nat) (k : IntKind)
  (h0m : 0 < m) (hmx : (m : Int) ≤ 9223372036854775807) (hb : m * inf.bytes ≤ 140737488355328) :
  (Builtin.append_ #[t, tn] ty #[.slice none 0 0, .int k m]).run P w = .ok (.slice (some ⟨w.heap.size, 0, none⟩) m (grownCap w m 0 e))
    (w.drew.alloc (.cells (Builtin.zeroCells z.cells m ++ Builtin.zeroCells z.cells (grownCap w m 0 e - m)) e)) := by
 have hn : ¬ (m ≤ 0) := by omega
 have hm0 : ¬ m = 0 := by omega
 have h63' : ¬ (9223372036854775807 < (m : Int)) := by omega
 have hfit := growslice_fits (need := m) (old := 0) (by omega) hb
 have h48' : ¬ (281474976710656 < Builtin.nextslicecap m 0 * inf.bytes) := by omega
 have wm : IntKind.i64.wrap (m : Int) = m := IntWalk.i64_in _ (by omega)
 have n1 : ¬ ((m : Int) < 0) := by omega
 have n2 : ¬ (281474976710656 < (m : Int) * (inf.bytes : Int)) := by
  have h : ((m * inf.bytes : Nat) : Int) ≤ 281474976710656 := by omega
  rw [Int.natCast_mul] at h
  omega
 by_cases h0 : m * inf.size = 0
 ·have hze : Builtin.zeroCells z.cells m = #[] := Array.eq_empty_of_size_eq_zero (by rw [size_zeroCells, hzs, h0])
  simp [Builtin.append_, run_underlying hu, run_underlying htn, sizeOf, typeInfo, hi, asInt, asIntOf, wm, n1, n2, hm0, h63', h48', zeroValue, hz, Question.forced, newRow, grownCap, hze, Builtin.firstCells]
 ·simp [Builtin.append_, run_underlying hu, run_underlying htn, sizeOf, typeInfo, hi, asInt, asIntOf, wm, n1, n2, hm0, h63', h48', h0, zeroValue, hz, Question.forced, newRow, grownCap, Builtin.firstCells]
theorem e_appendz0 (x y : Operand) (t tn : TypeId) (ho : o.op = .call ⟨.builtin .append, #[x, y], #[t, tn]⟩) (ti : TI) (ht : tiOf P t = some ti) (tj : TI) (htn : tiOf P tn = some tj) (kk : IntKind) (hkk : tj.ikind = some kk) (e s bt : Nat) (hel : ti.elem = some (e, s, bt)) (te : TI) (hte : tiOf P e = some te)
  (hx : evf F0 x = some (.val (.slice none 0 0))) (k : IntKind) (j : Int) (hy : evf F0 y = some (.val (.int k j))) (m : Nat) (hj : j = (m : Int)) (h0m : 0 < m) (hmax : m ≤ maxLen) (hroom : m * bt ≤ 140737488355328) :
  OpEff P o F0 K0 top ⟨.c (.osl top 0 m none), [], [(top, some ⟨List.replicate m (te.zero.map .v), s, e, false⟩)], top + 1⟩ := by
 obtain ⟨hu, inf, z, hinf, hz, hs1, hs2, hs3⟩ := tiOf_elem ht hel
 obtain ⟨_, inf', z', _, hinf', hz', _, _, hzc⟩ := tiOf_load hte
 rw [hinf] at hinf'; cases hinf'
 rw [hz] at hz'; cases hz'
 have hti := tiOf_int htn hkk
 subst hs1 hs2 hj
 intro n W F K I R a w hst hxx hk hf hd next Q hnext
 have hm : ∀ z ∈ [x, y], evf F z = evf F0 z := fun z hz => hxx z (by simpa [ho, Op.operands, Call.operands] using hz)
 have hux := ev_plain hst ((hm x (by simp)).trans hx)
 have huy := ev_plain hst ((hm y (by simp)).trans hy)
 have htop := hf top (Nat.le_refl _) (by simp)
 have hzl : te.zero.length = inf.size := by rw [← hzc]; simpa using hs3
 have hzrow : ∀ r ∈ List.replicate m (te.zero.map Ce.v), r.length = inf.size := fun r hr => by rw [List.eq_of_mem_replicate hr]; simpa using hzl
 have hr := run_append_zgrow0 (P := P) (w := w) (ty := o.type) hu hinf hz hs3 hti m k h0m (by simp only [maxLen] at hmax; omega) hroom
 have hge := grownCap_ge w m 0 e
 have hw := hst.wd.new htop.1 htop.2 ⟨List.replicate m (te.zero.map .v), inf.size, e, false⟩ hzrow (grownCap w m 0 e) (by simpa using hge) (grownCap_le_maxLen w m 0 e hmax) (w' := w.drew.alloc (.cells (Builtin.zeroCells z.cells m ++ Builtin.zeroCells z.cells (grownCap w m 0 e - m)) e)) (g := w.heap.size) (((Bel.refl _ _).drew).alloc (Nat.le_refl _) _) (Nat.le_refl _) _ (by
  rw [show w.heap.size = w.drew.heap.size from rfl, heap_alloc_new w.drew _]) (by
  simp only [Array.size_append, size_zeroCells, hs3]
  rw [← Nat.add_mul]
  congr 1
  omega) (fun q r kx cc hq hkk => by
  have hql := (List.getElem?_eq_some_iff.1 hq).1
  simp only [List.length_replicate] at hql
  have hrr := List.eq_of_mem_replicate (List.mem_of_getElem? hq)
  subst hrr
  have hkl := (List.getElem?_eq_some_iff.1 hkk).1
  simp only [List.length_map, hzl] at hkl
  simp only [List.getElem?_map, Option.map_eq_some_iff] at hkk
  obtain ⟨v, hv, rfl⟩ := hkk
  have h3 := Nat.mul_le_mul_right inf.size (show q + 1 ≤ m by omega)
  rw [Nat.add_mul] at h3
  refine ⟨v, ?_, rfl⟩
  rw [← hzc] at hv
  rw [Array.getElem?_append_left (by simp only [size_zeroCells, hs3]; omega)]
  simp only [Builtin.zeroCells, Array.getElem?_map, Array.getElem?_range, hs3]
  rw [if_pos (by omega)]
  simp only [Option.map_some]
  rw [show (q * inf.size + kx) % inf.size = kx by rw [Nat.mul_comm, Nat.mul_add_mod, Nat.mod_eq_of_lt hkl]]
  simp only [Array.getElem?_toList] at hv
  simp [getElem!_def, hv])
 unfold Oper.wp
 rw [builtin_append' o x y t tn ho a.eval w (by rw [hux, huy]; exact hr)]
 exact hnext _ _ _ _ (hst.put (.ext htop.1) (.refl _) hw hd ⟨_, grownCap w m 0 e, by simp [Wx.ext]; rfl, by simp, hge, by simp, fun _ h => (by cases h)⟩) (.ext htop.1) dom_ext (.refl _)
structure apz0N (j : Int) (bt : Nat) (A : Nat → Prop) : Prop where
 h : ∃ m : Nat, j = (m : Int) ∧ 0 < m ∧ m ≤ maxLen ∧ m * bt ≤ 140737488355328 ∧ A m
theorem apz0N_mk {j : Int} {bt : Nat} {A : Nat → Prop} (m : Nat) (h1 : j = (m : Int)) (h2 : 0 < m) (h3 : m ≤ maxLen) (h4 : m * bt ≤ 140737488355328) (k : A m) : apz0N j bt A := ⟨m, h1, h2, h3, h4, k⟩
end
end Go.Proofs.Ytopieffkpdlpbaa.Wx
namespace Go.Proofs.Ytopieffkpdlpbaa.Wx
open Go Go.RowKit
section
variable {P : Program} {o : Oper} {F0 : Nat → Option AV} {K0 : Nat → Option Blk}
theorem part_cut {I : IM} {R : RM} {w : World} {e : TypeId} {de : TypeDesc} {inf : TypeInfo} {sz : Nat} (hd : P.underlying e = some de) (hi : P.info? e = some inf) (hs : inf.size = sz) {off : Nat} {cs : List Ce} {vs : List Value} (h : All2 (Ce.rel I R) cs vs) {v : A0} (hv : cut de.isRow off sz cs = some v) : ∃ u, (part e vs.toArray off).run P w = .ok u w ∧ v.rel I R u := by
 unfold cut at hv
 cases hrow : de.isRow with
 | true =>
  rw [hrow] at hv
  simp only at hv
  split at hv
  ·rename_i hle
   simp only [Option.some.injEq] at hv
   subst hv
   have hagg : (isAgg e).run P w = .ok true w := by
    unfold isAgg
    rw [Sem.run_bind, run_underlying hd w]
    cases de <;> simp_all
   refine ⟨.agg ((vs.drop off).take sz).toArray, ?_, _, rfl, (h.drop off).take sz⟩
   unfold part
   rw [Sem.run_bind, hagg]
   simp [sizeOf, typeInfo, hi, hs]
  ·cases hv
 | false =>
  rw [hrow] at hv
  simp only at hv
  split at hv
  ·rename_i c hcc
   simp only [Option.some.injEq] at hv
   subst hv
   obtain ⟨u, g1, g2⟩ := h.get hcc
   have hagg : (isAgg e).run P w = .ok false w := by
    unfold isAgg
    rw [Sem.run_bind, run_underlying hd w]
    cases de <;> simp_all
   refine ⟨u, ?_, g2⟩
   unfold part
   rw [Sem.run_bind, hagg]
   simp [g1]
  ·cases hv
theorem y_indexv (t : TypeId) (x y : Operand) (ho : o.op = .index t x y) (ti : TI) (ht : tiOf P t = some ti) (m s : Nat) (r : Bool) (hel : ti.arr = some (m, s, r)) (cs : List Ce) (hx : evf F0 x = some (.pl (.agg cs)))
  (k : IntKind) (j : Int) (hy : evf F0 y = some (.val (.int k j))) (j' : Nat) (hj : j = (j' : Int)) (hlt : j' < m) (v : A0) (hv : cut r (j' * s) s cs = some v) : Yv P o F0 K0 [] (.pl v) := by
 obtain ⟨e, de, inf, hu, hinf, hde, hs1, hr⟩ := tiOf_arr ht hel
 subst hj hr
 intro n W F K I R a w hs hxx hk
 have hm : ∀ z ∈ [x, y], evf F z = evf F0 z := fun z hz => hxx z (by simpa [ho, Op.operands] using hz)
 have hx' := hs.ev ((hm x (by simp)).trans hx)
 have hy' := ev_plain hs ((hm y (by simp)).trans hy)
 simp only [AV.rel, A0.rel] at hx'
 obtain ⟨vs, e1, e2⟩ := hx'
 obtain ⟨u, g1, g2⟩ := part_cut (w := w) hde hinf hs1 e2 hv
 refine ⟨u, ?_, g2⟩
 simp only [execOp, ho, e1, hy']
 have hrun : (Instr.index t (.agg vs.toArray) (.int k (j' : Int))).run P w = .ok u w := by
  unfold Instr.index
  simp only [asIntOf, Sem.run_bind, Sem.run_pure, Result.andThen_ok, run_underlying hu w]
  rw [if_pos ⟨by omega, by omega⟩]
  simp only [sizeOf, typeInfo, Sem.run_bind]
  simp [hinf, hs1, g1]
 rw [Sem.run_bind, hrun]
 rfl
theorem y_builda (t : TypeId) (ps : Array (Nat × Operand)) (ho : o.op = .build t ps) (ti : TI) (ht : tiOf P t = some ti) (m s : Nat) (r : Bool) (hel : ti.arr = some (m, s, r)) (avs : List (Nat × A0)) (hx : evb F0 ps.toList = some avs) (out : List Ce) (hout : fillC ((List.range m).map fun i => (i * s, s, r)) (ti.zero.map .v) avs = some out) :
  Yv P o F0 K0 [] (.pl (.agg out)) := by
 obtain ⟨d, inf, z, hud, hinf, hz, _, hisz, hzc⟩ := tiOf_load ht
 obtain ⟨e, de, inf', hu, hinf', hde, hs1, hr⟩ := tiOf_arr ht hel
 intro n W F K I R a w hs hxx hk
 have e := hs.evb (fun q hq => hxx q.2 (by simp [ho, Op.operands]; exact ⟨q.1, by simpa using hq⟩)) hx
 obtain ⟨arr, h1, h2⟩ := fill_rel (I := I) (R := R) (place := fun i => some (i * s, s)) (by
   intro i off sz r hi
   simp only [List.getElem?_map, Option.map_eq_some_iff] at hi
   obtain ⟨j, hj, he⟩ := hi
   have hj' := List.getElem?_eq_some_iff.1 hj
   obtain ⟨hlt, hj'⟩ := hj'
   simp only [List.getElem_range] at hj'
   simp only [Prod.mk.injEq] at he
   obtain ⟨e1, e2, _⟩ := he
   rw [← e1, ← e2, hj']) (us := z.cells) (cs := ti.zero.map Ce.v) (by
   rw [hzc]; exact All2.map _ (All2.of_get rfl fun i a b h1 h2 => by rw [h1] at h2; cases h2; rfl)) e hout
 refine ⟨.agg arr, ?_, arr.toList, by simp, h2⟩
 simp only [execOp, ho]
 have hb : (Instr.build t (ps.map fun (i, x) => (i, a.eval x))).run P w = .ok (.agg arr) w := by
  have hzv : (zeroValue t).run P w = .ok z w := by simp [zeroValue, typeInfo, hinf, hz]
  have hp : (ps.map fun (i, x) => (i, a.eval x)).toList = ps.toList.map fun q => (q.1, a.eval q.2) := by simp
  simp only [Instr.build]
  rw [Sem.run_bind, hzv]
  simp only [Result.andThen_ok]
  rw [Sem.run_bind, run_underlying hu]
  simp only [Result.andThen_ok]
  rw [Sem.run_bind, show (sizeOf _).run P w = .ok s w by simp [sizeOf, typeInfo, hinf', hs1]]
  simp only [Result.andThen_ok, hp, h1, Sem.run_pure]
 rw [Sem.run_bind, hb]
 rfl
end
end Go.Proofs.Ytopieffkpdlpbaa.Wx
namespace Go.Proofs.Ytopieffkpdlpbaa.Wx
open Go Go.RowKit
section
variable {P : Program} {o : Oper} {F0 : Nat → Option AV} {K0 : Nat → Option Blk} {top : Nat}
theorem y_eqStr (op : BinOp) (t : TypeId) (x y : Operand) (yt : TypeId) (ho : o.op = .binOp op t x y yt) (p q : ByteArray) (hx : evf F0 x = some (.val (.string p))) (hy : evf F0 y = some (.val (.string q))) (r : Bool)
  (hr : (op = .eql ∧ r = (p.toList == q.toList)) ∨ (op = .neq ∧ r = !(p.toList == q.toList))) : Yv P o F0 K0 [] (.val (.bool r)) := by
 intro n W F K I R a w hs hxx hk
 have hm : ∀ z ∈ [x, y], evf F z = evf F0 z := fun z hz => hxx z (by simpa [ho, Op.operands] using hz)
 have e1 := ev_plain hs ((hm x (by simp)).trans hx)
 have e2 := ev_plain hs ((hm y (by simp)).trans hy)
 refine ⟨_, ?_, rfl⟩
 simp only [execOp, ho, e1, e2]
 rw [Sem.run_bind, Sem.run_bind, eqGuard_at_string]
 simp only [Sem.run_pure, Result.andThen_ok]
 rcases hr with ⟨rfl, rfl⟩ | ⟨rfl, rfl⟩
 ·simp only [binOp, Op.stringOp]; rfl
 ·simp only [binOp, Op.stringOp]; rfl
structure sixN (p : ByteArray) (j : Int) (A : Int → Prop) : Prop where
 h : ∃ (j' : Nat) (b : UInt8), j = (j' : Int) ∧ p[j']? = some b ∧ A (b.toNat : Int)
theorem y_indexstr (t : TypeId) (x y : Operand) (ho : o.op = .index t x y) (ti : TI) (ht : tiOf P t = some ti) (hkd : ti.kd = 3) (p : ByteArray) (hx : evf F0 x = some (.val (.string p))) (k : IntKind) (j : Int) (hy : evf F0 y = some (.val (.int k j))) (j' : Nat) (hj : j = (j' : Int)) (b : UInt8) (hb : p[j']? = some b) : Yv P o F0 K0 [] (.val (.int .u8 (b.toNat : Int))) := by
 obtain ⟨d, hu, hd⟩ := tiOf_kd ht
 have hds := kdOf_str (hd.trans hkd)
 subst hds hj
 intro n W F K I R a w hs hxx hk
 have hm : ∀ z ∈ [x, y], evf F z = evf F0 z := fun z hz => hxx z (by simpa [ho, Op.operands] using hz)
 have e1 := ev_plain hs ((hm x (by simp)).trans hx)
 have e2 := ev_plain hs ((hm y (by simp)).trans hy)
 refine ⟨_, ?_, rfl⟩
 simp only [execOp, ho, e1, e2]
 have hrun : (Instr.index t (.string p) (.int k (j' : Int))).run P w = .ok (.int .u8 (b.toNat : Int)) w := by
  unfold Instr.index
  simp only [asIntOf, Sem.run_bind, Sem.run_pure, Result.andThen_ok, run_underlying hu w]
  rw [if_pos (Int.natCast_nonneg j'), Int.toNat_natCast, hb]
  rfl
 rw [Sem.run_bind, hrun]
 rfl
structure strN (src : List (List Ce)) (m : Nat) (A : List Int → Prop) : Prop where
 h : ∃ xs : List Int, src = xs.map (fun z => [Ce.v (.int .u8 z)]) ∧ m = xs.length ∧ A xs
theorem y_str (s d : TypeId) (x : Operand) (ho : o.op = .convert s d x) (ti : TI) (ht : tiOf P s = some ti) (e bt : Nat) (hel : ti.elem = some (e, 1, bt)) (te : TI) (hte : tiOf P e = some te) (hk : te.ikind = some .u8) (tj : TI) (hj : tiOf P d = some tj) (hkd : tj.kd = 3)
  (cx : Ce) (hx : evf F0 x = some (.c cx)) (xs : List Int) (src : List (List Ce)) (m : Nat) (rd : List Nat) (hsrc : srcOf K0 1 cx = some (src, m, rd)) (hxs : src = xs.map (fun z => [Ce.v (.int .u8 z)])) (hm : m = xs.length) : Yv P o F0 K0 rd (.val (.string (strOfNums xs))) := by
 obtain ⟨hu, inf, z, hinf, hz, hs1, hs2, hs3⟩ := tiOf_elem ht hel
 obtain ⟨dd, hdd, hkk⟩ := tiOf_kd hj
 have hds := kdOf_str (hkk.trans hkd)
 subst hds
 have hb := tiOf_int hte hk
 intro n W F K I R a w hs hxx hk
 have e1 := hs.ev ((hxx x (by simp [ho, Op.operands])).trans hx)
 subst hxs
 obtain ⟨ad, cap, news, hu1, hnl, hrows, hrel, hcells, hnone⟩ := src_spec hs.wd (srcOf_agree (fun j hj => hk j hj) hsrc) (by rw [hm]; simp) e1
 have hnews : news = xs.map (Value.int .u8) := by
  clear hcells hnone hnl hrows hsrc hm hxx e1
  induction xs generalizing news with
  | nil => cases news with
   | nil => rfl
   | cons => exact hrel.elim
  | cons z xs ih => cases news with
   | nil => exact hrel.elim
   | cons v news =>
    obtain ⟨h1, h2⟩ := hrel
    have h1 : v = .int .u8 z := h1
    rw [h1, ih news h2]; rfl
 refine ⟨_, ?_, rfl⟩
 simp only [execOp, ho, hu1]
 rw [Sem.run_bind]
 cases ad with
 | none =>
  have hm0 := hnone rfl
  have hx0 : xs = [] := List.eq_nil_of_length_eq_zero (by omega)
  subst hx0
  rw [run_convert_bytes_nil w s e hu hb m cap d hdd]
  rfl
 | some q =>
  have hl : (loadCells q m).run P w = .ok (xs.map (Value.int .u8)).toArray w := by
   have := run_loadCells_list (P := P) w q (xs.map (Value.int .u8)) (fun j v hj => hcells q rfl j v (by rw [hnews]; exact hj))
   simpa [← hm] using this
  rw [run_convert_bytes_string w s d e _ m cap hu hb hdd, run_bytesToString w _ m cap xs hl, foldl_push_bytes]
  simp [strOfNums, ByteArray.empty, ByteArray.emptyWithCapacity, Result.andThen_ok]
  rfl
end
end Go.Proofs.Ytopieffkpdlpbaa.Wx
namespace Go.Proofs.Ytopieffkpdlpbaa.Wx
open Go Go.RowKit
def bitOp (op : BinOp) (k : IntKind) (p q : Int) : Option Int :=
 match op with
 | .and => some (k.wrap (BitVec.ofInt k.bits p &&& BitVec.ofInt k.bits q).toNat)
 | .or => some (k.wrap (BitVec.ofInt k.bits p ||| BitVec.ofInt k.bits q).toNat)
 | .xor => some (k.wrap (BitVec.ofInt k.bits p ^^^ BitVec.ofInt k.bits q).toNat)
 | .andNot => some (k.wrap (BitVec.ofInt k.bits p &&& ~~~BitVec.ofInt k.bits q).toNat)
 | _ => none
theorem y_sl0 {P : Program} {o : Oper} {F0 : Nat → Option AV} {K0 : Nat → Option Blk} (t : TypeId) (x : Operand) (lo hi : Option Operand) (ho : o.op = .slice t x lo hi none) (ti : TI) (ht : tiOf P t = some ti) (e s bt : Nat) (hel : ti.elem = some (e, s, bt)) (hx : evf F0 x = some (.val (.slice none 0 0))) (l h : Nat)
  (hlo : bndo F0 lo l 0) (hhi : bndo F0 hi h 0) (hlh : l ≤ h) (hhc : h ≤ 0) :
  Yv P o F0 K0 [] (.val (.slice none 0 0)) := by
 intro n W F K I R a w hst hxx hk
 have hop : ∀ z, (z = x ∨ lo = some z ∨ hi = some z) → evf F z = evf F0 z := fun z hz => hxx z (by
  simp only [ho, Op.operands]
  rcases hz with rfl | rfl | rfl <;> simp)
 have hu := ev_plain hst ((hop x (.inl rfl)).trans hx)
 have h0 : h = 0 := by omega
 have l0 : l = 0 := by omega
 subst h0 l0
 have hlo' : (match lo.map a.eval with | some x => ∃ k, x = Value.int k ((0 : Nat) : Int) | none => (0 : Nat) = 0) := by
  cases lo with
  | none => exact hlo
  | some y => obtain ⟨k, hy⟩ := hlo; exact ⟨k, ev_plain hst ((hop y (.inr (.inl rfl))).trans hy)⟩
 have hhi' : (match hi.map a.eval with | some x => ∃ k, x = Value.int k ((0 : Nat) : Int) | none => (0 : Nat) = 0) := by
  cases hi with
  | none => exact hhi
  | some y => obtain ⟨k, hy⟩ := hhi; exact ⟨k, ev_plain hst ((hop y (.inr (.inr rfl))).trans hy)⟩
 refine ⟨.slice none 0 0, ?_, rfl⟩
 simp only [execOp, ho, hu]
 rw [Sem.run_bind, Option.map_none, slice_run ht hel (w := w) none 0 0 _ _ 0 0 hlo' hhi' (Nat.le_refl _) (Nat.le_refl _) (Nat.le_refl _)]
 rfl
section
variable {P : Program} {o : Oper} {F0 : Nat → Option AV} {K0 : Nat → Option Blk}
theorem y_bits (op : BinOp) (t : TypeId) (x y : Operand) (yt : TypeId) (ho : o.op = .binOp op t x y yt) (k : IntKind) (p q : Int) (hx : evf F0 x = some (.val (.int k p))) (hy : evf F0 y = some (.val (.int k q))) (r : Int) (hr : bitOp op k p q = some r) :
  Yv P o F0 K0 [] (.val (.int k r)) := by
 intro n W F K I R a w hs hxx hk
 have hm : ∀ z ∈ [x, y], evf F z = evf F0 z := fun z hz => hxx z (by simpa [ho, Op.operands] using hz)
 have e1 := ev_plain hs ((hm x (by simp)).trans hx)
 have e2 := ev_plain hs ((hm y (by simp)).trans hy)
 refine ⟨_, ?_, rfl⟩
 simp only [execOp, ho, e1, e2]
 rw [Sem.run_bind, Sem.run_bind, eqGuard_at_int]
 simp only [Sem.run_pure, Result.andThen_ok]
 cases op <;> simp only [bitOp, Option.some.injEq, reduceCtorEq] at hr <;> subst hr <;> simp [binOp, Op.intBits]
theorem y_neg (t : TypeId) (x : Operand) (ho : o.op = .unOp .neg t x) (k : IntKind) (p : Int) (hx : evf F0 x = some (.val (.int k p))) : Yv P o F0 K0 [] (.val (.int k (k.wrap (0 - p)))) := by
 intro n W F K I R a w hs hxx hk
 have e1 := ev_plain hs ((hxx x (by simp [ho, Op.operands])).trans hx)
 simp only [execOp, ho, e1]
 rw [Sem.run_bind]
 exact ⟨_, by simp [Op.unary, Op.intArith], rfl⟩
theorem run_equalP {P : Program} {w : World} (d : Nat) (t e : TypeId) (a : Option Addr) (h : P.underlying t = some (.pointer e)) : (Op.equalIn (d + 1) t (.pointer a) (.pointer none)).run P w = .ok a.isNone w := by
 cases a <;> simp [Op.equalIn, run_underlying h]
theorem y_meth (f : FuncId) (fst : Array Operand) (ho : o.op = .makeFunc (.func f) fst #[]) (ps : List Pt) (hp : All2 (fun x p => evf F0 x = some p.asV) fst.toList ps) : Yv P o F0 K0 [] (.c (.mf f ps)) := by
 intro n W F K I R a w hs hxx hk
 refine ⟨.func (.func f) (fst.map a.eval) #[], ?_, fst.toList.map a.eval, ?_, ?_⟩
 ·simp only [execOp, ho]; simp [Instr.makeFunc]
 ·have hm : ∀ z ∈ fst.toList, evf F z = evf F0 z := fun z hz => hxx z (by simpa [ho, Op.operands] using hz)
  generalize fst.toList = l at hp hm
  induction l generalizing ps with
  | nil => cases ps with
   | nil => trivial
   | cons => exact hp.elim
  | cons z r ih => cases ps with
   | nil => exact hp.elim
   | cons p ps =>
    refine ⟨?_, ih _ hp.2 (fun y hy => hm y (List.mem_cons_of_mem _ hy))⟩
    have := hs.ev ((hm z List.mem_cons_self).trans hp.1)
    cases p with
    | ag l => obtain ⟨vs, g1, g2⟩ := this; exact ⟨vs, g1, pa_all.1 g2⟩
    | _ => exact this
 ·congr 1; apply Array.ext'; simp
def ptrNil : Ce → Option Bool
 | .own _ _ _ => some false
 | .rp _ _ _ => some false
 | .v (.pointer none) => some true
 | _ => none
theorem y_eqP (t : TypeId) (x y : Operand) (yt : TypeId) (op : BinOp) (ho : o.op = .binOp op t x y yt) (ti : TI) (ht : tiOf P t = some ti) (hkd : ti.kd = 4) (c : Ce) (hx : evf F0 x = some (.c c)) (hy : evf F0 y = some (.val (.pointer none))) (r : Bool) (hr : ptrNil c = some r) (z : Bool)
  (hz : (op = .eql ∧ z = r) ∨ (op = .neq ∧ z = !r)) : Yv P o F0 K0 [] (.val (.bool z)) := by
 obtain ⟨d, hd, hk⟩ := tiOf_kd ht
 obtain ⟨e, rfl⟩ := kdOf_ptr (hk.trans hkd)
 intro n W F K I R a w hs hxx hk
 have hm : ∀ z ∈ [x, y], evf F z = evf F0 z := fun z hz => hxx z (by simpa [ho, Op.operands] using hz)
 have e1 := hs.ev ((hm x (by simp)).trans hx)
 have e2 := ev_plain hs ((hm y (by simp)).trans hy)
 obtain ⟨ad, v1, v2⟩ : ∃ ad : Option Addr, a.eval x = .pointer ad ∧ ad.isNone = r := by
  generalize a.eval x = u at *
  cases c with
  | own i q k => simp only [ptrNil, Option.some.injEq] at hr; subst hr; obtain ⟨p, _, h⟩ := e1; exact ⟨_, h, rfl⟩
  | rp fl row k => simp only [ptrNil, Option.some.injEq] at hr; subst hr; obtain ⟨b, o', h, _⟩ := e1; exact ⟨_, h, rfl⟩
  | v y =>
   cases y <;> simp [ptrNil] at hr
   rename_i ad
   cases ad <;> simp at hr
   subst hr
   exact ⟨none, e1, rfl⟩
  | _ => cases hr
 have hg : (eqGuard op t x y (.pointer ad) (.pointer none)).run P w = .ok () w := by
  unfold eqGuard
  rcases hz with ⟨rfl, _⟩ | ⟨rfl, _⟩ <;> rfl
 refine ⟨_, ?_, rfl⟩
 simp only [execOp, ho, v1, e2]
 rw [Sem.run_bind, Sem.run_bind, hg]
 simp only [Result.andThen_ok]
 rcases hz with ⟨rfl, rfl⟩ | ⟨rfl, rfl⟩
 ·simp only [binOp, Op.equal, Op.maxDepth, Sem.run_bind]
  rw [run_equalP 9999 t e ad hd, v2]; rfl
 ·simp only [binOp, Op.equal, Op.maxDepth, Sem.run_bind]
  rw [run_equalP 9999 t e ad hd, v2]; rfl
theorem slice3_run {t e : TypeId} {ti : TI} (ht : tiOf P t = some ti) {s bt : Nat} (hel : ti.elem = some (e, s, bt)) {w : World} (ad : Option Addr) (len cap : Nat) (lo : Option Value) (kh km : IntKind) (l h m : Nat)
  (hlo : (match lo with | some x => ∃ k, x = .int k (l : Int) | none => l = 0)) (hlh : l ≤ h) (hhm : h ≤ m) (hmc : m ≤ cap) :
  (Instr.sliceAt t (.slice ad len cap) lo (some (.int kh h)) (some (.int km m))).run P w = .ok (.slice (if m = l then ad else ad.map (·.add (l * s))) (h - l) (m - l)) w := by
 obtain ⟨hu, inf, z, hinf, hz, hs1, hs2, hs3⟩ := tiOf_elem ht hel
 have hu' : P.underlying t = some (.slice (P.elem t)) := by
  have : P.elem t = e := by simp [Program.elem, hu]
  rw [this]; exact hu
 have hsz : (sizeOf (P.elem t)).run P w = .ok s w := by
  have : P.elem t = e := by simp [Program.elem, hu]
  rw [this]; simp [sizeOf, typeInfo, hinf, hs1]
 rw [run_sliceAt_slice w t _ lo _ _ hu']
 cases lo with
 | none =>
  simp only at hlo
  subst hlo
  rw [run_slice_hm w t ad len cap hu' kh km h m (by omega) (by omega) (by omega), hsz]; simp [Result.andThen, sliced]
 | some x =>
  obtain ⟨k, rfl⟩ := hlo
  rw [run_slice_lhm w t ad len cap hu' k kh km l h m (by omega) (by omega) (by omega) (by omega), hsz]; simp [Result.andThen, sliced]
theorem y_sl3r (t : TypeId) (x : Operand) (lo : Option Operand) (hi mx : Operand) (ho : o.op = .slice t x lo (some hi) (some mx)) (ti : TI) (ht : tiOf P t = some ti) (e s bt : Nat) (hel : ti.elem = some (e, s, bt)) (fl : Bool) (rows : List (List RT)) (hx : evf F0 x = some (.c (.ro fl s rows))) (l h mm : Nat)
  (hlo : bndo F0 lo l 0) (kh km : IntKind) (hhi : evf F0 hi = some (.val (.int kh (h : Int)))) (hmx : evf F0 mx = some (.val (.int km (mm : Int)))) (hlh : l ≤ h) (hhm : h ≤ mm) (hmc : mm ≤ rows.length) :
  Yv P o F0 K0 [] (.c (.ro fl s ((rows.drop l).take (h - l)))) := by
 intro n W F K I R a w hst hxx hk
 have hop : ∀ z, (z = x ∨ lo = some z ∨ hi = z ∨ mx = z) → evf F z = evf F0 z := fun z hz => hxx z (by
  simp only [ho, Op.operands]
  rcases hz with rfl | rfl | rfl | rfl <;> simp)
 have hu := hst.ev ((hop x (.inl rfl)).trans hx)
 simp only [AV.rel, A0.rel, Ce.rel] at hu
 have e1 := ev_plain hst ((hop hi (.inr (.inr (.inl rfl)))).trans hhi)
 have e2 := ev_plain hst ((hop mx (.inr (.inr (.inr rfl)))).trans hmx)
 have hlo' : (match lo.map a.eval with | some x => ∃ k, x = Value.int k (l : Int) | none => l = 0) := by
  cases lo with
  | none => exact hlo
  | some y => obtain ⟨k, hy⟩ := hlo; exact ⟨k, ev_plain hst ((hop y (.inr (.inl rfl))).trans hy)⟩
 simp only [execOp, ho]
 generalize a.eval x = u at hu
 cases hu with
 | nil =>
  simp only [List.length_nil] at hmc
  have h0 : h = 0 := by omega
  have l0 : l = 0 := by omega
  have m0 : mm = 0 := by omega
  subst h0 l0 m0
  refine ⟨.slice none 0 0, ?_, show Rd (R fl) (.ro s _) _ from by simpa using Rd.nil s⟩
  simp only [Option.map_some, e1, e2]
  rw [Sem.run_bind, slice3_run ht hel (w := w) none 0 0 _ kh km 0 0 0 hlo' (Nat.le_refl _) (Nat.le_refl _) (Nat.le_refl _)]
  rfl
 | emp _ ad cap =>
  simp only [List.length_nil] at hmc
  have h0 : h = 0 := by omega
  have l0 : l = 0 := by omega
  have m0 : mm = 0 := by omega
  subst h0 l0 m0
  have hrun := slice3_run ht hel (w := w) (some ad) 0 cap _ kh km 0 0 0 hlo' (Nat.le_refl _) (Nat.zero_le _) (Nat.zero_le _)
  refine ⟨.slice (some ad) 0 0, ?_, show Rd (R fl) (.ro s _) _ from ?_⟩
  ·simp only [Option.map_some, e1, e2]
   rw [Sem.run_bind, hrun]; rfl
  ·simp only [List.drop_nil, List.take_nil]
   exact Rd.emp s ad _
 | ro _ _ b off cap val hl hcap hc hrr =>
  have hrun := slice3_run ht hel (w := w) (some ⟨b, off, none⟩) rows.length cap _ kh km l h mm hlo' hlh hhm (by omega)
  refine ⟨.slice (if mm = l then some ⟨b, off, none⟩ else (some (⟨b, off, none⟩ : Addr)).map (·.add (l * s))) (h - l) (mm - l), ?_, ?_⟩
  ·simp only [Option.map_some, e1, e2]
   rw [Sem.run_bind, hrun]; rfl
  ·have hlen : ((rows.drop l).take (h - l)).length = h - l := by simp; omega
   have key : ∀ off', (l < mm → off' = off + l * s) → Rd (R fl) (.ro s ((rows.drop l).take (h - l))) (.slice (some ⟨b, off', none⟩) (h - l) (mm - l)) := by
    intro off' hoff
    have hget : ∀ q row, ((rows.drop l).take (h - l))[q]? = some row → rows[l + q]? = some row := fun q row hq => by
     rw [List.getElem?_take] at hq
     split at hq
     ·rwa [List.getElem?_drop] at hq
     ·cases hq
    have hof : ∀ q row, ((rows.drop l).take (h - l))[q]? = some row → off' = off + l * s := fun q row hq => hoff (by
     have h1 := (List.getElem?_eq_some_iff.1 hq).1
     rw [hlen] at h1
     omega)
    have := Rd.ro (R := R fl) s ((rows.drop l).take (h - l)) b off' (mm - l) (fun q k => val (l + q) k) (fun row hrow => hl row (List.mem_of_mem_drop (List.mem_of_mem_take hrow))) (by rw [hlen]; omega)
     (fun q row k t hq hkk => by
      rw [hof q row hq, show off + l * s + q * s + k = off + (l + q) * s + k by rw [Nat.add_mul]; omega]
      exact hc (l + q) row k t (hget q row hq) hkk) (fun q row k t hq hkk => hrr (l + q) row k t (hget q row hq) hkk)
    rw [hlen] at this
    exact this
   show Rd (R fl) _ _
   by_cases hcl : mm = l
   ·rw [if_pos hcl]; exact key off (fun hlt => by omega)
   ·rw [if_neg hcl]; simp only [Option.map_some, Addr.add_mid]; exact key _ (fun _ => rfl)
theorem y_sl3 (t : TypeId) (x : Operand) (lo : Option Operand) (hi mx : Operand) (ho : o.op = .slice t x lo (some hi) (some mx)) (ti : TI) (ht : tiOf P t = some ti) (e s bt : Nat) (hel : ti.elem = some (e, s, bt)) (i q m : Nat) (c : Option Nat) (hx : evf F0 x = some (.c (.osl i q m c))) (b : Blk) (hb : K0 i = some b) (hs : Nat.beq b.sz s = true) (l h mm : Nat)
  (hlo : bndo F0 lo l 0) (kh km : IntKind) (hhi : evf F0 hi = some (.val (.int kh (h : Int)))) (hmx : evf F0 mx = some (.val (.int km (mm : Int)))) (hlh : l ≤ h) (hhm : h ≤ mm) (hmc : mm ≤ m ∨ ∃ c0, c = some c0 ∧ mm ≤ c0) :
  Yv P o F0 K0 [i] (.c (.osl i (if mm = l then q else q + l) (h - l) (some (mm - l)))) := by
 intro n W F K I R a w hst hxx hk
 have hop : ∀ z, (z = x ∨ lo = some z ∨ hi = z ∨ mx = z) → evf F z = evf F0 z := fun z hz => hxx z (by
  simp only [ho, Op.operands]
  rcases hz with rfl | rfl | rfl | rfl <;> simp)
 obtain ⟨p, c', hp, hu, h1, h2, h3⟩ : ∃ p c', I i = some p ∧ a.eval x = .slice (some ⟨p.b, q * p.sz, none⟩) m c' ∧ m ≤ c' ∧ q + c' ≤ p.tot ∧ ∀ c0, c = some c0 → c' = c0 := hst.ev ((hop x (.inl rfl)).trans hx)
 obtain ⟨p', hp', hbk⟩ := hst.wd.blk i b ((hk i (by simp)).trans hb)
 rw [hp] at hp'; cases hp'
 have hps : p.sz = s := hbk.sz.trans (Nat.eq_of_beq_eq_true hs)
 have hmc' : mm ≤ c' := by
  rcases hmc with hmc | ⟨c0, h4, h5⟩
  ·omega
  ·rw [h3 c0 h4]; exact h5
 have e1 := ev_plain hst ((hop hi (.inr (.inr (.inl rfl)))).trans hhi)
 have e2 := ev_plain hst ((hop mx (.inr (.inr (.inr rfl)))).trans hmx)
 have hrun := slice3_run ht hel (w := w) (some ⟨p.b, q * p.sz, none⟩) m c' (lo.map a.eval) kh km l h mm (by
   cases lo with
   | none => exact hlo
   | some y => obtain ⟨k, hy⟩ := hlo; exact ⟨k, ev_plain hst ((hop y (.inr (.inl rfl))).trans hy)⟩) hlh hhm hmc'
 refine ⟨_, ?_, p, mm - l, hp, rfl, by omega, by split <;> omega, fun c0 hc0 => by cases hc0; rfl⟩
 simp only [execOp, ho, hu, Option.map_some, e1, e2]
 rw [Sem.run_bind, hrun]
 simp only [Result.andThen_ok, Sem.run_pure, hps]
 congr 3
 split
 ·rfl
 ·simp only [Option.map_some, Addr.add_mid, Nat.add_mul]
end
theorem y_sle {P : Program} {o : Oper} {F0 : Nat → Option AV} {K0 : Nat → Option Blk} (t : TypeId) (x : Operand) (lo hi : Option Operand) (ho : o.op = .slice t x lo hi none) (ti : TI) (ht : tiOf P t = some ti) (e s bt : Nat) (hel : ti.elem = some (e, s, bt)) (i q m : Nat) (c : Option Nat) (hx : evf F0 x = some (.c (.osl i q m c))) (b : Blk) (hb : K0 i = some b) (hs : Nat.beq b.sz s = true) (l h : Nat)
  (hlo : bndo F0 lo l 0) (hhi : bndo F0 hi h m) (hlh : l ≤ h) (hhc : h ≤ m ∨ ∃ c0, c = some c0 ∧ h ≤ c0) (he : l = h) :
  Yv P o F0 K0 [i] (.c (.ro true s [])) := by
 intro n W F K I R a w hst hxx hk
 have hop : ∀ z, (z = x ∨ lo = some z ∨ hi = some z) → evf F z = evf F0 z := fun z hz => hxx z (by
  simp only [ho, Op.operands]
  rcases hz with rfl | rfl | rfl <;> simp)
 obtain ⟨p, c', hp, hu, h1, h2, h3⟩ : ∃ p c', I i = some p ∧ a.eval x = .slice (some ⟨p.b, q * p.sz, none⟩) m c' ∧ m ≤ c' ∧ q + c' ≤ p.tot ∧ ∀ c0, c = some c0 → c' = c0 := hst.ev ((hop x (.inl rfl)).trans hx)
 have hhc' : h ≤ c' := by
  rcases hhc with hhc | ⟨c0, h4, h5⟩
  ·omega
  ·rw [h3 c0 h4]; exact h5
 have hrun := slice_run ht hel (w := w) (some ⟨p.b, q * p.sz, none⟩) m c' (lo.map a.eval) (hi.map a.eval) l h (by
   cases lo with
   | none => exact hlo
   | some y => obtain ⟨k, hy⟩ := hlo; exact ⟨k, ev_plain hst ((hop y (.inr (.inl rfl))).trans hy)⟩) (by
   cases hi with
   | none => exact hhi
   | some y => obtain ⟨k, hy⟩ := hhi; exact ⟨k, ev_plain hst ((hop y (.inr (.inr rfl))).trans hy)⟩) hlh hhc' h1
 have key : ∀ off, (Ce.ro true s []).rel I R (.slice (some ⟨p.b, off, none⟩) (h - l) (c' - l)) := fun off => by
  have := Rd.ro (R := R true) s [] p.b off (c' - l) (fun _ _ => undef) (by simp) (by simp) (fun q row k t hq => by simp at hq) (fun q row k t hq => by simp at hq)
  rw [show h - l = 0 by omega]
  exact this
 refine ⟨.slice (if c' = l then some ⟨p.b, q * p.sz, none⟩ else (some (⟨p.b, q * p.sz, none⟩ : Addr)).map (·.add (l * s))) (h - l) (c' - l), ?_, ?_⟩
 ·simp only [execOp, ho, hu]
  rw [Sem.run_bind, Option.map_none, hrun]
  rfl
 ·split
  ·exact key _
  ·simp only [Option.map_some, Addr.add_mid]; exact key _
theorem run_append_roomC {P : Program} {w : World} {t ty e : TypeId} {inf : TypeInfo} (hu : P.underlying t = some (.slice e)) (hi : P.info? e = some inf) (g m0 c : Nat) (ad : Option Addr) (m cj : Nat) (cs : List Value) (hn : cs.length = m * inf.size)
  (hsrc : ∀ x, ad = some x → ∀ j v, cs[j]? = some v → w.cell? (x.add j) = some v) (hnone : ad = none → m = 0) (hc : ∀ j, j < cs.length → (w.cell? ⟨g, m0 * inf.size + j, none⟩).isSome = true) (hf : ∀ j, j < cs.length → w.frozen? ⟨g, m0 * inf.size + j, none⟩ = false) (h1 : ∀ v ∈ cs, v.oneCell' = true) (hroom : m0 + m ≤ c) :
  (Builtin.append_ #[t, t] ty #[.slice (some ⟨g, 0, none⟩) m0 c, .slice ad m cj]).run P w = .ok (.slice (some ⟨g, 0, none⟩) (m0 + m) c) (w.setCells g (m0 * inf.size) cs) := by
 have hst := run_storeCells_cells (P := P) g (m0 * inf.size) cs 0 w (by simpa using hc) (by simpa using hf) h1
 simp only [Nat.add_zero] at hst
 cases ad with
 | none =>
  have h0 := hnone rfl
  subst h0
  have : cs = [] := List.eq_nil_of_length_eq_zero (by rw [hn, Nat.zero_mul])
  subst this
  have hm0 : m0 ≤ c := by omega
  simp [Builtin.append_, run_underlying hu, sizeOf, typeInfo, hi, Builtin.lenOf, Builtin.firstCells, hm0, storeCells, World.setCells]
 | some x =>
  have hfc := run_firstCells_some (P := P) w inf.size m x m cj cs hn (hsrc x rfl)
  simp [Builtin.append_, run_underlying hu, sizeOf, typeInfo, hi, Builtin.lenOf, hroom, hfc, Addr.add_lit, hst]
section
variable {P : Program} {o : Oper} {F0 : Nat → Option AV} {K0 : Nat → Option Blk} {top : Nat}
structure aprN (m0 m L : Nat) (cp : Option Nat) (src : List (List Ce)) (A : Prop) : Prop where
 h : ∃ c, cp = some c ∧ m0 + m ≤ c
 len : src.length = m
 one : ∀ r ∈ src, ∀ c ∈ r, c.single = true
 fit : m0 + m ≤ L
 k : A
theorem e_appendr (x y : Operand) (t : TypeId) (ho : o.op = .call ⟨.builtin .append, #[x, y], #[t, t]⟩) (ti : TI) (ht : tiOf P t = some ti) (e s bt : Nat) (hel : ti.elem = some (e, s, bt)) (i m0 : Nat) (cp : Option Nat) (hx : evf F0 x = some (.c (.osl i 0 m0 cp))) (b : Blk) (hb : K0 i = some b) (hs : Nat.beq b.sz s = true)
  (cy : Ce) (hy : evf F0 y = some (.c cy)) (src : List (List Ce)) (m : Nat) (rd : List Nat) (hsrc : srcOf K0 s cy = some (src, m, rd)) (hn : aprN m0 m b.rows.length cp src True) :
  OpEff P o F0 K0 top ⟨.c (.osl i 0 (m0 + m) cp), i :: rd, [(i, some ⟨lay b.rows m0 src, b.sz, b.ty, b.bx⟩)], top⟩ := by
 obtain ⟨hu, inf, z, hinf, hz, hs1, hs2, hs3⟩ := tiOf_elem ht hel
 intro n W F K I R a w hst hxx hk hf hd next Q hnext
 have hm : ∀ z ∈ [x, y], evf F z = evf F0 z := fun z hz => hxx z (by simpa [ho, Op.operands, Call.operands] using hz)
 have hbK : K i = some b := (hk i (by simp)).trans hb
 have hbs := Nat.eq_of_beq_eq_true hs
 obtain ⟨p, c', hp, hux, hc1, hc2, hc3⟩ := hst.ev ((hm x (by simp)).trans hx)
 have hvy := hst.ev ((hm y (by simp)).trans hy)
 have hlen := hn.len
 obtain ⟨c0, hcp, hroom⟩ := hn.h
 have hcc := hc3 c0 hcp
 subst hcc
 obtain ⟨ad, cj, news, huy, hnl, hrows, hrel, hcells, hnone⟩ := src_spec hst.wd (srcOf_agree (fun j hj => hk j (List.mem_cons_of_mem _ hj)) hsrc) hlen hvy
 have hq : m0 + src.length ≤ b.rows.length := by rw [hlen]; exact hn.fit
 have hw' := hst.wd.lay hbK hp hq (fun r hr => by rw [hbs]; exact hrows r hr) (by rw [hnl, hlen, hbs]) hrel
 obtain ⟨p', hp', hbk⟩ := hst.wd.blk i b hbK
 rw [hp] at hp'; cases hp'
 obtain ⟨cs, hmem, hsz, hcs⟩ := hbk.mem
 have hps : p.sz = s := hbk.sz.trans hbs
 have hfit : m0 * p.sz + news.length ≤ cs.size := by
  rw [hsz, hnl, hps, ← Nat.add_mul]
  exact Nat.mul_le_mul_right _ (by have := hbk.fit; have := hn.fit; omega)
 have hone : ∀ v ∈ news, v.oneCell' = true := fun v hv => by
  obtain ⟨c, hc, hcr⟩ := hrel.mem hv
  obtain ⟨r, hr, hcr'⟩ := List.mem_flatten.1 hc
  exact Ce.single_val (hn.one r hr c hcr') hcr
 have hrun := run_append_roomC (P := P) (w := w) (ty := o.type) hu hinf p.b m0 c' ad m cj news (by rw [hnl, hs1]) hcells hnone (fun j hj => by
   rw [hs1, ← hps, cell_of_row w p.b _ _ _ _ hmem]
   have : m0 * p.sz + j < cs.size := by omega
   simp [this]) (fun j hj => frozen_of_row w p.b _ _ _ hmem) hone hroom
 rw [Nat.zero_mul] at hux
 unfold Oper.wp
 rw [builtin_append' o x y t t ho a.eval w (by rw [hux, huy]; exact hrun)]
 rw [hs1, ← hps]
 exact hnext I R _ _ (hst.put (.refl _) (.refl _) hw' hd ⟨p, c', hp, by simp, hroom, hc2, hc3⟩) (.refl _) (fun _ _ => rfl) (.refl _)
structure slE (l h : Nat) (A B : Prop) : Prop where
 h : ((l = 0 ∨ l < h) ∧ A) ∨ (l = h ∧ B)
theorem slE_a {l h : Nat} {A B : Prop} (h1 : l = 0 ∨ l < h) (k : A) : slE l h A B := ⟨.inl ⟨h1, k⟩⟩
theorem slE_b {l h : Nat} {A B : Prop} (h1 : l = h) (k : B) : slE l h A B := ⟨.inr ⟨h1, k⟩⟩
theorem slE_split {l h : Nat} {A B : Prop} (hle : l ≤ h) (k1 : l < h → A) (k2 : l = h → B) : slE l h A B := by
 rcases Nat.lt_or_ge l h with h1 | h1
 ·exact slE_a (.inr h1) (k1 h1)
 ·exact slE_b (by omega) (k2 (by omega))
structure apdE (A B C : Prop) : Prop where
 h : A ∨ B ∨ C
theorem apdE_n {A B C : Prop} (h : B) : apdE A B C := ⟨.inr (.inl h)⟩
structure apzE (A B : Prop) : Prop where
 h : A ∨ B
structure apzK (cp : Option Nat) (j : Int) (m0 L bt : Nat) (one : Bool) (A : Nat → Prop) : Prop where
 h : ∃ m c : Nat, cp = some c ∧ c < m0 + m ∧ j = (m : Int) ∧ m0 ≤ L ∧ m0 + m ≤ maxLen ∧ (m0 + m) * bt ≤ 140737488355328 ∧ one = true ∧ A m
structure apkN (cp : Option Nat) (n : Nat) (A : Prop) : Prop where
 h : ∃ c, cp = some c ∧ c < n
 k : A
structure sl3N (lo : Option Int) (h mm : Int) (m : Nat) (cap : Option Nat) (A : Nat → Nat → Nat → Prop) : Prop where
 h : ∃ l h' mm' : Nat, bnd lo l 0 ∧ h = (h' : Int) ∧ mm = (mm' : Int) ∧ l ≤ h' ∧ h' ≤ mm' ∧ (mm' ≤ m ∨ ∃ c, cap = some c ∧ mm' ≤ c) ∧ (l = 0 ∨ l < mm') ∧ A l h' mm'
theorem y_sl3' (t : TypeId) (x : Operand) (lo : Option Operand) (hi mx : Operand) (ho : o.op = .slice t x lo (some hi) (some mx)) (ti : TI) (ht : tiOf P t = some ti) (e s bt : Nat) (hel : ti.elem = some (e, s, bt)) (i q m : Nat) (c : Option Nat) (hx : evf F0 x = some (.c (.osl i q m c))) (b : Blk) (hb : K0 i = some b) (hs : Nat.beq b.sz s = true) (l h mm : Nat)
  (hlo : bndo F0 lo l 0) (kh km : IntKind) (hhi : evf F0 hi = some (.val (.int kh (h : Int)))) (hmx : evf F0 mx = some (.val (.int km (mm : Int)))) (hlh : l ≤ h) (hhm : h ≤ mm) (hmc : mm ≤ m ∨ ∃ c0, c = some c0 ∧ mm ≤ c0) (hl : l = 0 ∨ l < mm) :
  Yv P o F0 K0 [i] (.c (.osl i (q + l) (h - l) (some (mm - l)))) := by
 have := y_sl3 (P := P) (o := o) (F0 := F0) (K0 := K0) t x lo hi mx ho ti ht e s bt hel i q m c hx b hb hs l h mm hlo kh km hhi hmx hlh hhm hmc
 rw [show (if mm = l then q else q + l) = q + l by split <;> omega] at this
 exact this
structure clrN (q n L : Nat) (one : Bool) (A : Prop) : Prop where
 fit : q + n ≤ L
 one : one = true
 k : A
theorem zc_one {z : Value} (h1 : ∀ v ∈ z.cells, v.oneCell' = true) (m : Nat) : ∀ v ∈ (Builtin.zeroCells z.cells m).toList, v.oneCell' = true := fun v hv => by
 simp only [Builtin.zeroCells, Array.toList_map, List.mem_map] at hv
 obtain ⟨j, hj, rfl⟩ := hv
 simp only [Array.toList_range, List.mem_range] at hj
 have hpos : 0 < z.cells.size := by
  rcases Nat.eq_zero_or_pos z.cells.size with h | h
  ·rw [h] at hj; simp at hj
  ·exact h
 have hlt := Nat.mod_lt j hpos
 rw [getElem!_pos z.cells _ hlt]
 exact h1 _ (Array.getElem_mem hlt)
theorem e_clear (x : Operand) (t : TypeId) (ho : o.op = .call ⟨.builtin .clear, #[x], #[t]⟩) (ti : TI) (ht : tiOf P t = some ti) (e s bt : Nat) (hel : ti.elem = some (e, s, bt)) (te : TI) (hte : tiOf P e = some te) (i q m0 : Nat) (cp : Option Nat) (hx : evf F0 x = some (.c (.osl i q m0 cp))) (b : Blk) (hb : K0 i = some b) (hs : Nat.beq b.sz s = true)
  (hfit0 : q + m0 ≤ b.rows.length) (hone : (te.zero.all fun v => v.oneCell') = true) :
  OpEff P o F0 K0 top ⟨.tup [], [i], [(i, some ⟨lay b.rows q (List.replicate m0 (te.zero.map .v)), b.sz, b.ty, b.bx⟩)], top⟩ := by
 obtain ⟨hu, inf, z, hinf, hz, hs1, hs2, hs3⟩ := tiOf_elem ht hel
 obtain ⟨_, inf', z', _, hinf', hz', _, _, hzc⟩ := tiOf_load hte
 rw [hinf] at hinf'; cases hinf'
 rw [hz] at hz'; cases hz'
 intro n W F K I R a w hst hxx hk hf hd next Q hnext
 have hm : ∀ z ∈ [x], evf F z = evf F0 z := fun z hz => hxx z (by simpa [ho, Op.operands, Call.operands] using hz)
 have hbK : K i = some b := (hk i (by simp)).trans hb
 have hbs := Nat.eq_of_beq_eq_true hs
 obtain ⟨p, c', hp, hux, hc1, hc2, hc3⟩ := hst.ev ((hm x (by simp)).trans hx)
 have hs3 : z.cells.size = inf.size := by rw [hs1]; simpa using hs3
 have hzl : te.zero.length = s := by rw [← hzc, ← hs1]; simpa using hs3
 have hz1 : ∀ v ∈ z.cells, v.oneCell' = true := fun v hv => List.all_eq_true.1 hone v (by rw [← hzc]; simpa using hv)
 have hzrow : ∀ r ∈ List.replicate m0 (te.zero.map Ce.v), r.length = b.sz := fun r hr => by rw [List.eq_of_mem_replicate hr, hbs]; simpa using hzl
 have hznl : (Builtin.zeroCells z.cells m0).toList.length = m0 * inf.size := by simp [size_zeroCells, hs3]
 have hzr : All2 (Ce.rel I R) (List.replicate m0 (te.zero.map Ce.v)).flatten (Builtin.zeroCells z.cells m0).toList := all2_flat hzrow (by rw [hznl, hs1, hbs] <;> simp) fun q r k cc hq hkk => by
  have hql := (List.getElem?_eq_some_iff.1 hq).1
  simp only [List.length_replicate] at hql
  have hrr := List.eq_of_mem_replicate (List.mem_of_getElem? hq)
  subst hrr
  have hkl := (List.getElem?_eq_some_iff.1 hkk).1
  simp only [List.length_map, hzl] at hkl
  simp only [List.getElem?_map, Option.map_eq_some_iff] at hkk
  obtain ⟨v, hv, rfl⟩ := hkk
  have h3 := Nat.mul_le_mul_right s (show q + 1 ≤ m0 by omega)
  rw [Nat.add_mul] at h3
  refine ⟨v, ?_, rfl⟩
  rw [← hzc] at hv
  simp only [Builtin.zeroCells, Array.getElem?_toList, Array.getElem?_map, Array.getElem?_range, hs3, hs1, hbs]
  rw [if_pos (by omega)]
  simp only [Option.map_some]
  rw [show (q * s + k) % s = k by rw [Nat.mul_comm, Nat.mul_add_mod, Nat.mod_eq_of_lt hkl]]
  simp only [Array.getElem?_toList] at hv
  simp [getElem!_def, hv]
 have hw' := hst.wd.lay hbK hp (by simpa using hfit0) hzrow (by rw [hznl, hs1, hbs]; simp) hzr
 obtain ⟨p', hp', hbk⟩ := hst.wd.blk i b hbK
 rw [hp] at hp'; cases hp'
 obtain ⟨cs, hmem, hsz, hcs⟩ := hbk.mem
 have hps : p.sz = s := hbk.sz.trans hbs
 have hfit : q * p.sz + (Builtin.zeroCells z.cells m0).toList.length ≤ cs.size := by
  rw [hsz, hznl, hs1, hps, ← Nat.add_mul]
  exact Nat.mul_le_mul_right _ (by have := hbk.fit; omega)
 have hsto := run_storeCells_cells (P := P) p.b (q * p.sz) (Builtin.zeroCells z.cells m0).toList 0 w (fun j hj => by
   rw [Nat.add_zero, cell_of_row w p.b _ _ _ _ hmem]
   have : q * p.sz + j < cs.size := by omega
   simp [this]) (fun j hj => frozen_of_row w p.b _ _ _ hmem) (zc_one hz1 m0)
 simp only [Nat.add_zero] at hsto
 have hrun : (Builtin.clear_ #[t] o.type #[.slice (some ⟨p.b, q * p.sz, none⟩) m0 c']).run P w = .ok (.tuple #[]) (w.setCells p.b (q * p.sz) (Builtin.zeroCells z.cells m0).toList) := by
  rcases Nat.eq_zero_or_pos m0 with h0 | h0
  ·subst h0
   have : (Builtin.zeroCells z.cells 0).toList = [] := List.eq_nil_of_length_eq_zero (by rw [hznl, Nat.zero_mul])
   rw [this]
   simp [Builtin.clear_, run_underlying hu, World.setCells]
  ·obtain ⟨m1, rfl⟩ : ∃ m1, m0 = m1 + 1 := ⟨m0 - 1, by omega⟩
   simp [Builtin.clear_, run_underlying hu, zeroValue, typeInfo, hinf, hz, hsto]
 unfold Oper.wp
 have hex : (execOp a.eval o).run P w = .ok (.value (.tuple #[])) (w.setCells p.b (q * p.sz) (Builtin.zeroCells z.cells m0).toList) := by
  obtain ⟨dst, op, ty, pos, af, gd⟩ := o
  simp only at ho
  subst ho
  simp only [execOp, resolve]
  rw [Sem.run_bind]
  simp only [Sem.run_pure, Result.andThen_ok, invoke, builtin]
  rw [Sem.run_bind]
  simp only [List.map_toArray, List.map_cons, List.map_nil, hux]
  simp only at hrun
  rw [hrun]
  rfl
 rw [hex]
 exact hnext I R _ _ (hst.put (.refl _) (.refl _) hw' hd ⟨[], rfl, trivial⟩) (.refl _) (fun _ _ => rfl) (.refl _)
end
theorem e_append_new {P : Program} {o : Oper} {F0 : Nat → Option AV} {K0 : Nat → Option Blk} {top : Nat} (x y : Operand) (t : TypeId) (ho : o.op = .call ⟨.builtin .append, #[x, y], #[t, t]⟩) (ti : TI) (ht : tiOf P t = some ti) (e s bt : Nat) (hel : ti.elem = some (e, s, bt)) (i m0 c0 : Nat) (hx : evf F0 x = some (.c (.osl i 0 m0 (some c0)))) (b : Blk) (hb : K0 i = some b) (hs : Nat.beq b.sz s = true)
  (cy : Ce) (hy : evf F0 y = some (.c cy)) (src : List (List Ce)) (m : Nat) (rd : List Nat) (hsrc : srcOf K0 s cy = some (src, m, rd)) (hn : apdN m0 b.rows.length m src bt True) (hgt : c0 < m0 + m) :
  OpEff P o F0 K0 top ⟨.c (.osl top 0 (m0 + m) none), i :: rd, [(top, some ⟨b.rows.take m0 ++ src, s, e, false⟩)], top + 1⟩ := by
 obtain ⟨hu, inf, z, hinf, hz, hs1, hs2, hs3⟩ := tiOf_elem ht hel
 subst hs1 hs2
 intro n W F K I R a w hst hxx hk hf hd next Q hnext
 have hm : ∀ z ∈ [x, y], evf F z = evf F0 z := fun z hz => hxx z (by simpa [ho, Op.operands, Call.operands] using hz)
 have hbK : K i = some b := (hk i (by simp)).trans hb
 have hsrc' := srcOf_agree (fun j hj => hk j (List.mem_cons_of_mem _ hj)) hsrc
 obtain ⟨p, c', hp, hux, hc1, hc2, hc3⟩ := hst.ev ((hm x (by simp)).trans hx)
 have hcc := hc3 c0 rfl
 subst hcc
 have hvy := hst.ev ((hm y (by simp)).trans hy)
 have htop := hf top (Nat.le_refl _) (by simp)
 obtain ⟨ad, cj, news, huy, hnl, hrows, hrel, hcells, hnone⟩ := src_spec hst.wd hsrc' hn.len hvy
 obtain ⟨p', hp', hbk⟩ := hst.wd.blk i b hbK
 rw [hp] at hp'; cases hp'
 obtain ⟨cs, hmem, hsz, hcs⟩ := hbk.mem
 have hbs := Nat.eq_of_beq_eq_true hs
 have hps : p.sz = inf.size := hbk.sz.trans hbs
 rw [hps] at hsz hcs
 have hlen := hn.len
 have hmax := hn.max
 have hle := hn.le
 have hbrow : ∀ r ∈ b.rows.take m0, r.length = inf.size := fun r hr => by rw [← hbs]; exact hbk.row r (List.mem_of_mem_take hr)
 have hfit : m0 * inf.size ≤ cs.size := by rw [hsz]; exact Nat.mul_le_mul_right _ (by have := hbk.fit; omega)
 have hxl : (cs.toList.take (m0 * inf.size)).length = m0 * inf.size := by simp; omega
 have hxr : All2 (Ce.rel I R) (b.rows.take m0).flatten (cs.toList.take (m0 * inf.size)) := all2_flat hbrow (by rw [hxl, List.length_take]; congr 1; omega) fun q r k c hq hkk => by
  rw [List.getElem?_take] at hq
  split at hq
  ·rename_i hlt
   obtain ⟨v, hv, hr⟩ := hcs q r k c hq hkk
   have hks : k < inf.size := by
    have h1 := (List.getElem?_eq_some_iff.1 hkk).1
    rw [hbk.row r (List.mem_of_getElem? hq), hbs] at h1; exact h1
   have h3 := Nat.mul_le_mul_right inf.size (show q + 1 ≤ m0 from hlt)
   rw [Nat.add_mul] at h3
   exact ⟨v, by rw [List.getElem?_take, if_pos (by omega)]; simpa using hv, hr⟩
  ·cases hq
 have hall : All2 (Ce.rel I R) (b.rows.take m0 ++ src).flatten (cs.toList.take (m0 * inf.size) ++ news) := by rw [List.flatten_append]; exact hxr.append hrel
 have hrow' : ∀ r ∈ b.rows.take m0 ++ src, r.length = inf.size := fun r hr => by
  rcases List.mem_append.1 hr with h | h
  ·exact hbrow r h
  ·exact hrows r h
 have hlen' : (b.rows.take m0 ++ src).length = m0 + m := by simp [hlen]; omega
 have hmx : m0 + m ≤ 9223372036854775807 := by simp only [maxLen] at hmax; omega
 have hxsl : (cs.toList.take (m0 * inf.size) ++ news).length = (m0 + m) * inf.size := by rw [List.length_append, hxl, hnl, Nat.add_mul]
 cases ad with
 | none => have := hnone rfl; omega
 | some x' =>
  have holds : ∀ j v, (cs.toList.take (m0 * inf.size))[j]? = some v → w.cell? ((⟨p.b, 0, none⟩ : Addr).add j) = some v := fun j v hj => by
   rw [Addr.add_mid, cell_of_row w p.b _ _ _ _ hmem]
   rw [List.getElem?_take] at hj
   split at hj
   ·simpa using hj
   ·cases hj
  have hr := run_append_grow (P := P) w t o.type e inf z hu hinf hz ⟨p.b, 0, none⟩ m0 c' _ hxl holds x' m cj news hnl (hcells x' rfl) (by omega) (by omega) (growslice_fits (by omega) hn.room)
  have hge := grownCap_ge w (m0 + m) c' e
  have hw' := hst.wd.new htop.1 htop.2 ⟨b.rows.take m0 ++ src, inf.size, e, false⟩ hrow' (grownCap w (m0 + m) c' e) (by simp only [hlen']; exact hge) (grownCap_le_maxLen w (m0 + m) c' e hn.max)
   (w' := w.drew.alloc (.cells ((cs.toList.take (m0 * inf.size) ++ news) ++ (Builtin.zeroCells z.cells (grownCap w (m0 + m) c' e - (m0 + m))).toList).toArray e)) (g := w.heap.size) (((Bel.refl _ _).drew).alloc (Nat.le_refl _) _) (Nat.le_refl _) _ (by
   rw [show w.heap.size = w.drew.heap.size from rfl, heap_alloc_new w.drew _]) (by
   simp only [List.size_toArray, List.length_append, hxl, hnl, Array.length_toList, size_zeroCells, hs3]
   rw [← Nat.add_mul, ← Nat.add_mul]
   congr 1
   omega) (fun q r k c hq hkk => by
    obtain ⟨v, hv, hr⟩ := flat_at hrow' hall hq hkk
    have hlt := (List.getElem?_eq_some_iff.1 hv).1
    refine ⟨v, ?_, hr⟩
    simp only [List.getElem?_toArray]
    rw [List.getElem?_append_left hlt]
    exact hv)
  rw [Nat.zero_mul] at hux
  unfold Oper.wp
  have hrun : (Builtin.append_ #[t, t] o.type #[a.eval x, a.eval y]).run P w = .ok (.slice (some ⟨w.heap.size, 0, none⟩) (m0 + m) (grownCap w (m0 + m) c' e)) (w.drew.alloc (.cells ((cs.toList.take (m0 * inf.size) ++ news) ++ (Builtin.zeroCells z.cells (grownCap w (m0 + m) c' e - (m0 + m))).toList).toArray e)) := by
   rw [hux, huy, hr]
   congr 3
   apply Array.ext'
   simp
  rw [builtin_append o x y t ho a.eval w hrun]
  exact hnext _ _ _ _ (hst.put (.ext htop.1) (.refl _) hw' hd ⟨⟨w.heap.size, inf.size, grownCap w (m0 + m) c' e⟩, _, by simp [Wx.ext], by simp, hge, by simp, fun _ h => (by cases h)⟩) (.ext htop.1) dom_ext (.refl _)
theorem e_appendz_new {P : Program} {o : Oper} {F0 : Nat → Option AV} {K0 : Nat → Option Blk} {top : Nat} (x y : Operand) (t tn : TypeId) (ho : o.op = .call ⟨.builtin .append, #[x, y], #[t, tn]⟩) (ti : TI) (ht : tiOf P t = some ti) (tj : TI) (htn : tiOf P tn = some tj) (kk : IntKind) (hkk : tj.ikind = some kk) (e s bt : Nat) (hel : ti.elem = some (e, s, bt)) (te : TI) (hte : tiOf P e = some te)
  (i m0 c0 : Nat) (hx : evf F0 x = some (.c (.osl i 0 m0 (some c0)))) (b : Blk) (hb : K0 i = some b) (hs : Nat.beq b.sz s = true) (k : IntKind) (j : Int) (hy : evf F0 y = some (.val (.int k j))) (m : Nat) (hj : j = (m : Int)) (hm0 : m0 ≤ b.rows.length) (hmax : m0 + m ≤ maxLen) (hroom : (m0 + m) * bt ≤ 140737488355328) (hone : (te.zero.all fun v => v.oneCell') = true) (hgt : c0 < m0 + m) :
  OpEff P o F0 K0 top ⟨.c (.osl top 0 (m0 + m) none), [i], [(top, some ⟨b.rows.take m0 ++ List.replicate m (te.zero.map .v), s, e, false⟩)], top + 1⟩ := by
 obtain ⟨hu, inf, z, hinf, hz, hs1, hs2, hs3⟩ := tiOf_elem ht hel
 obtain ⟨_, inf', z', _, hinf', hz', _, _, hzc⟩ := tiOf_load hte
 rw [hinf] at hinf'; cases hinf'
 rw [hz] at hz'; cases hz'
 have hti := tiOf_int htn hkk
 subst hs1 hs2 hj
 intro n W F K I R a w hst hxx hk hf hd next Q hnext
 have hm : ∀ z ∈ [x, y], evf F z = evf F0 z := fun z hz => hxx z (by simpa [ho, Op.operands, Call.operands] using hz)
 have hbK : K i = some b := (hk i (by simp)).trans hb
 obtain ⟨p, c', hp, hux, hc1, hc2, hc3⟩ := hst.ev ((hm x (by simp)).trans hx)
 have hcc := hc3 c0 rfl
 subst hcc
 have huy := ev_plain hst ((hm y (by simp)).trans hy)
 have htop := hf top (Nat.le_refl _) (by simp)
 obtain ⟨p', hp', hbk⟩ := hst.wd.blk i b hbK
 rw [hp] at hp'; cases hp'
 obtain ⟨cs, hmem, hsz, hcs⟩ := hbk.mem
 have hbs := Nat.eq_of_beq_eq_true hs
 have hps : p.sz = inf.size := hbk.sz.trans hbs
 rw [hps] at hsz hcs
 have hzl : te.zero.length = inf.size := by rw [← hzc]; simpa using hs3
 have hbrow : ∀ r ∈ b.rows.take m0, r.length = inf.size := fun r hr => by rw [← hbs]; exact hbk.row r (List.mem_of_mem_take hr)
 have hzrow : ∀ r ∈ List.replicate m (te.zero.map Ce.v), r.length = inf.size := fun r hr => by rw [List.eq_of_mem_replicate hr]; simpa using hzl
 have hrow' : ∀ r ∈ b.rows.take m0 ++ List.replicate m (te.zero.map Ce.v), r.length = inf.size := fun r hr => by
  rcases List.mem_append.1 hr with h | h
  ·exact hbrow r h
  ·exact hzrow r h
 have hfit : m0 * inf.size ≤ cs.size := by rw [hsz]; exact Nat.mul_le_mul_right _ (by have := hbk.fit; omega)
 have hxl : (cs.toList.take (m0 * inf.size)).length = m0 * inf.size := by simp; omega
 have hznl : (Builtin.zeroCells z.cells m).toList.length = m * inf.size := by simp [size_zeroCells, hs3]
 have hxr : All2 (Ce.rel I R) (b.rows.take m0).flatten (cs.toList.take (m0 * inf.size)) := all2_flat hbrow (by rw [hxl, List.length_take]; congr 1; omega) fun q r k c hq hkk => by
  rw [List.getElem?_take] at hq
  split at hq
  ·rename_i hlt
   obtain ⟨v, hv, hr⟩ := hcs q r k c hq hkk
   have hks : k < inf.size := by
    have h1 := (List.getElem?_eq_some_iff.1 hkk).1
    rw [hbk.row r (List.mem_of_getElem? hq), hbs] at h1; exact h1
   have h3 := Nat.mul_le_mul_right inf.size (show q + 1 ≤ m0 from hlt)
   rw [Nat.add_mul] at h3
   exact ⟨v, by rw [List.getElem?_take, if_pos (by omega)]; simpa using hv, hr⟩
  ·cases hq
 have hzr : All2 (Ce.rel I R) (List.replicate m (te.zero.map Ce.v)).flatten (Builtin.zeroCells z.cells m).toList := all2_flat hzrow (by rw [hznl]; simp) fun q r k cc hq hkk => by
  have hql := (List.getElem?_eq_some_iff.1 hq).1
  simp only [List.length_replicate] at hql
  have hrr := List.eq_of_mem_replicate (List.mem_of_getElem? hq)
  subst hrr
  have hkl := (List.getElem?_eq_some_iff.1 hkk).1
  simp only [List.length_map, hzl] at hkl
  simp only [List.getElem?_map, Option.map_eq_some_iff] at hkk
  obtain ⟨v, hv, rfl⟩ := hkk
  have h3 := Nat.mul_le_mul_right inf.size (show q + 1 ≤ m by omega)
  rw [Nat.add_mul] at h3
  refine ⟨v, ?_, rfl⟩
  rw [← hzc] at hv
  simp only [Builtin.zeroCells, Array.getElem?_toList, Array.getElem?_map, Array.getElem?_range, hs3]
  rw [if_pos (by omega)]
  simp only [Option.map_some]
  rw [show (q * inf.size + k) % inf.size = k by rw [Nat.mul_comm, Nat.mul_add_mod, Nat.mod_eq_of_lt hkl]]
  simp only [Array.getElem?_toList] at hv
  simp [getElem!_def, hv]
 have hall : All2 (Ce.rel I R) (b.rows.take m0 ++ List.replicate m (te.zero.map Ce.v)).flatten (cs.toList.take (m0 * inf.size) ++ (Builtin.zeroCells z.cells m).toList) := by
  rw [List.flatten_append]; exact hxr.append hzr
 have hlen' : (b.rows.take m0 ++ List.replicate m (te.zero.map Ce.v)).length = m0 + m := by simp; omega
 have hmx : m0 + m ≤ 9223372036854775807 := by simp only [maxLen] at hmax; omega
 have holds : ∀ j v, (cs.toList.take (m0 * inf.size))[j]? = some v → w.cell? ((⟨p.b, 0, none⟩ : Addr).add j) = some v := fun j v hj => by
  rw [Addr.add_mid, cell_of_row w p.b _ _ _ _ hmem]
  rw [List.getElem?_take] at hj
  split at hj
  ·simpa using hj
  ·cases hj
 have hr := run_append_zgrow (P := P) (w := w) (ty := o.type) hu hinf hz hs3 hti ⟨p.b, 0, none⟩ m0 c' m k _ hxl holds (by omega) (by omega) hroom
 have hge := grownCap_ge w (m0 + m) c' e
 have hw' := hst.wd.new htop.1 htop.2 ⟨b.rows.take m0 ++ List.replicate m (te.zero.map .v), inf.size, e, false⟩ hrow' (grownCap w (m0 + m) c' e) (by simp only [hlen']; exact hge) (grownCap_le_maxLen w (m0 + m) c' e hmax)
  (w' := w.drew.alloc (.cells ((cs.toList.take (m0 * inf.size) ++ (Builtin.zeroCells z.cells m).toList) ++ (Builtin.zeroCells z.cells (grownCap w (m0 + m) c' e - (m0 + m))).toList).toArray e)) (g := w.heap.size) (((Bel.refl _ _).drew).alloc (Nat.le_refl _) _) (Nat.le_refl _) _ (by
  rw [show w.heap.size = w.drew.heap.size from rfl, heap_alloc_new w.drew _]) (by
  simp only [List.size_toArray, List.length_append, hxl, hznl, Array.length_toList, size_zeroCells, hs3]
  rw [← Nat.add_mul, ← Nat.add_mul]
  congr 1
  omega) (fun q r k c hq hkk => by
   obtain ⟨v, hv, hr⟩ := flat_at hrow' hall hq hkk
   have hlt := (List.getElem?_eq_some_iff.1 hv).1
   refine ⟨v, ?_, hr⟩
   simp only [List.getElem?_toArray]
   rw [List.getElem?_append_left hlt]
   exact hv)
 rw [Nat.zero_mul] at hux
 unfold Oper.wp
 have hrun : (Builtin.append_ #[t, tn] o.type #[a.eval x, a.eval y]).run P w = .ok (.slice (some ⟨w.heap.size, 0, none⟩) (m0 + m) (grownCap w (m0 + m) c' e)) (w.drew.alloc (.cells ((cs.toList.take (m0 * inf.size) ++ (Builtin.zeroCells z.cells m).toList) ++ (Builtin.zeroCells z.cells (grownCap w (m0 + m) c' e - (m0 + m))).toList).toArray e)) := by
  rw [hux, huy, hr]
  congr 3
  apply Array.ext'
  simp
 rw [builtin_append' o x y t tn ho a.eval w hrun]
 exact hnext _ _ _ _ (hst.put (.ext htop.1) (.refl _) hw' hd ⟨⟨w.heap.size, inf.size, grownCap w (m0 + m) c' e⟩, _, by simp [Wx.ext], by simp, hge, by simp, fun _ h => (by cases h)⟩) (.ext htop.1) dom_ext (.refl _)
end Go.Proofs.Ytopieffkpdlpbaa.Wx
