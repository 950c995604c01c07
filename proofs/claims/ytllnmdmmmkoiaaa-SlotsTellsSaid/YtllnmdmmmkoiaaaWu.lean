/-
  A second layer over the walk: own maps, loops over functions with their rounds; operations of the first layer are carried over.
-/
import Derived.Test.YtllnmdmmmkoiaaaWs
import Derived.Test.YtllnmdmmmkoiaaaWex
import Derived.RangeFuncIn
import Derived.RangeFuncRecord
import Derived.RangeFuncNested
import Derived.RangeFuncLeaves
import Derived.RangeFuncCalls
import Derived.RangeFuncOwn
import Derived.OrdersIn
import Derived.TacticsIn
import Derived.LoopNIn
namespace Go.Proofs.Ytllnmdmmmkoiaaa.Wx.Y
open Go Go.RowKit
set_option linter.unusedVariables false

/-! ### Fences: all may run; in a round or in none -/
def fr (r : Option Nat) : Fence := { Fence.wide with round := r }
section
variable {P : Program} {r : Option Nat}
theorem calls_fr {n : Nat} {f : FuncId} {args : Array Value} {w : World} {R : Ending → World → Prop} (h : Calls P f args w R) : CallsIn (fr r) n P f args w R := by
  have h0 : CallsIn Fence.wide n P f args w R := callsIn_wide.2 h
  cases r with
  | none => exact h0
  | some l => exact h0.inRound l
theorem fr_calls {n : Nat} {f : FuncId} {args : Array Value} {w : World} {R : Ending → World → Prop} (h : CallsIn (fr r) n P f args w R) : Calls P f args w R := by
  cases r with
  | none => exact callsIn_wide.1 h
  | some l =>
    have : CallsIn Fence.wide n P f args w R := CallsIn.outOfRound (l := l) h
    exact callsIn_wide.1 this
theorem rows_fr {n : Nat} {row : String} {args : Array Value} {w : World} {R : Value → World → Prop} (h : Rows P row args w R) : RowsIn (fr r) n P row args w R := by
  intro c cs hroom
  obtain ⟨v, w', h1, h2⟩ := h c cs
  exact ⟨v, w', h1, by
    cases r with
    | none => exact stepsIn_wide.2 h2
    | some l => exact stepsIn_wide.2 h2⟩
theorem upon_in {o : Oper} {a : Act} {next : Act → World → Prop} {Q : Exit → Act → World → Prop} {x : Result Next} (h : o.upon P a next Q x) : o.uponIn (fr r) 0 P a next Q x := by
  cases x with
  | ok v w =>
    cases v with
    | value v => exact h
    | skip => exact h
    | defer d => exact h
    | enter f args => exact ⟨fun hh => (by cases hh), calls_fr h⟩
    | row row args => exact ⟨fun hh => (by cases hh), rows_fr h⟩
    | _ => exact h.elim
  | halt v w =>
    cases v with
    | panic v => exact h
    | _ => exact h.elim
theorem op_in {o : Oper} (hnd : ∀ c, o.op ≠ .defer c) {a : Act} {w : World} {next : Act → World → Prop} {Q : Exit → Act → World → Prop} (h : o.wp P a w next Q) : o.wpIn (fr r) 0 P a w next Q := by
  refine ⟨fun _ _ => trivial, ?_⟩
  rw [show (fr r).round = r from rfl, Oper.semAt_eq _ _ _ hnd]
  exact upon_in h
end
/-! ### Own objects -/
inductive LS where
  | ready
  | busy
  | done (e : Exit)
structure LB where
  n : Nat
  F : Bt AV
  ps : Array Tmp
  assign : Code
  body : Code
  st : LS
/-- A map: entries (key, when it was born, element), and its clock. -/
structure MS where
  es : List (Value × Nat × A0)
  c : Nat
/-- A walk over a map: the map, its clock ahead of it, the births that came, the clock at the last step. -/
structure IS where
  m : Nat
  since : Nat
  seen : List Nat
  last : Nat
inductive Ob where
  | b (x : Blk)
  | m (es : MS)
  | l (x : LB)
  | i (x : IS)
def Ob.nb : Ob → Bool
  | .b _ => false
  | _ => true
def jumpOf : Exit → Option Code
  | .ret => some .ret
  | .exit id => some (.exit id)
  | _ => none
def recOk (st : LS) (rc : Loop) : Prop :=
  match st with
  | .ready => rc.state = .ready ∧ rc.pending = none
  | .busy => rc.state = .busy
  | .done e => rc.state = .done ∧ ∃ c, jumpOf e = some c ∧ rc.pending = some c
structure LoopOk (I : IM) (R : RM) (x : LB) (p : Loc) (w : World) : Prop where
  mem : ∃ rc : Loop, w.heap[p.b]? = some (.loop rc) ∧ rc.params = x.ps ∧ rc.assign = x.assign ∧ rc.body = x.body ∧ rc.tmps.size = x.n ∧ recOk x.st rc ∧ ∀ t y, x.F.get t = some y → y.rel I R (rc.tmps.getD t undef)
structure MapOk (I : IM) (R : RM) (es : MS) (p : Loc) (w : World) : Prop where
  mem : ∃ (ents : Array MapEntry), w.heap[p.b]? = some (.map ents es.c) ∧ All2 (fun (e : Value × Nat × A0) (m : MapEntry) => (m.key = e.1 ∧ m.born = e.2.1) ∧ e.2.2.rel I R m.val) es.es ents.toList
structure ItOk (I : IM) (x : IS) (p : Loc) (w : World) : Prop where
  mem : ∃ pm, I x.m = some pm ∧ w.heap[p.b]? = some (.mapIter (some pm.b) x.since x.seen.toArray x.last)
def ObOk (I : IM) (R : RM) (o : Ob) (p : Loc) (w : World) : Prop :=
  match o with
  | .b _ => True
  | .m es => MapOk I R es p w
  | .l x => LoopOk I R x p w
  | .i x => ItOk I x p w
def blkOf (K : Nat → Option Ob) (i : Nat) : Option Blk :=
  match K i with
  | some (.b x) => some x
  | _ => none
theorem blkOf_some {K : Nat → Option Ob} {i : Nat} {b : Blk} (h : blkOf K i = some b) : K i = some (.b b) := by
  unfold blkOf at h
  split at h
  · rename_i x hx; cases h; exact hx
  · cases h
theorem ObOk.kind {I : IM} {R : RM} {o : Ob} {p : Loc} {w : World} (h : ObOk I R o p w) (hn : o.nb = true) : ∃ x, w.heap[p.b]? = some x ∧ x.isCells = false := by
  cases o with
  | b x => cases hn
  | m es => obtain ⟨ents, h1, _⟩ := h.mem; exact ⟨_, h1, rfl⟩
  | l x => obtain ⟨rc, h1, _⟩ := h.mem; exact ⟨_, h1, rfl⟩
  | i x => obtain ⟨pm, _, h1⟩ := h.mem; exact ⟨_, h1, rfl⟩
theorem ObOk.mono {I I' : IM} {R R' : RM} {o : Ob} {p : Loc} {w w' : World} (h : ObOk I R o p w) (hI : IExt I I') (hR : RExt R R') (hw : w'.heap[p.b]? = w.heap[p.b]?) : ObOk I' R' o p w' := by
  cases o with
  | b x => trivial
  | m es =>
    obtain ⟨ents, h1, h2⟩ := h.mem
    exact ⟨ents, hw.trans h1, h2.mono fun _ _ hh => ⟨hh.1, A0.mono hI hR hh.2⟩⟩
  | l x =>
    obtain ⟨rc, h1, h2, h3, h4, h5, h6, h7⟩ := h.mem
    exact ⟨rc, hw.trans h1, h2, h3, h4, h5, h6, fun t y hy => AV.mono hI hR (h7 t y hy)⟩
  | i x => obtain ⟨pm, h0, h1⟩ := h.mem; exact ⟨pm, hI _ _ h0, hw.trans h1⟩
/-- The marks of the loops that a function has come through. -/
def Mk (W : Wo) : List Deferred → World → Prop
  | [], _ => True
  | d :: ds, w => (∃ D, d.target = .collected D ∧ w.heap[D]? = some (.deferred (some [])) ∧ ¬ W.z D ∧ ∀ d' ∈ ds, ∀ D', d'.target = .collected D' → D' ≠ D) ∧ Mk W ds w
theorem Mk.mono {W : Wo} {w w' : World} : ∀ {ds : List Deferred}, Mk W ds w → (∀ D : Nat, w.heap[D]? = some (Obj.deferred (some [])) → w'.heap[D]? = w.heap[D]?) → Mk W ds w'
  | [], _, _ => trivial
  | d :: ds, ⟨⟨D, h1, h2, h3, h4⟩, h5⟩, hh => ⟨⟨D, h1, (hh D h2).trans h2, h3, h4⟩, Mk.mono h5 hh⟩
/-- What is known of a world. -/
structure Wz (W : Wo) (K : Nat → Option Ob) (I : IM) (R : RM) (w : World) : Prop where
  wd : Wd W (blkOf K) I R w
  ob : ∀ i o, K i = some o → o.nb = true → ∃ p, I i = some p ∧ ObOk I R o p w ∧ ¬ W.z p.b
  inj : ∀ i j oi oj p q, K i = some oi → K j = some oj → oi.nb = true → oj.nb = true → I i = some p → I j = some q → p.b = q.b → i = j
structure St (n : Nat) (W : Wo) (F : Nat → Option AV) (K : Nat → Option Ob) (I : IM) (R : RM) (a : Act) (w : World) : Prop where
  size : a.tmps.size = n
  mks : Mk W a.defers w
  fr : ∀ t x, F t = some x → x.rel I R (a.eval (.tmp t))
  wz : Wz W K I R w
def ownedB (K : Nat → Option Blk) (I : IM) (k : Nat) : Prop := ∃ i b p, K i = some b ∧ I i = some p ∧ p.b = k
/-- The same with all else held fast. -/
def stpB (W : Wo) (K : Nat → Option Blk) (I : IM) (R : RM) (w : World) : Wo := ⟨w, fun k => k < w.heap.size ∧ ¬ ownedB K I k ∧ ∀ o, R true k o = none, W.q⟩
section
variable {W : Wo} {K K' : Nat → Option Blk} {I I' : IM} {R R' : RM} {w w' : World}
theorem z_stp (h : Wd W K I R w) {k : Nat} (hk : W.z k) : (stpB W K I R w).z k := by
  refine ⟨h.below.lt hk, ?_, fun o => ?_⟩
  · rintro ⟨i, b, p, h1, h2, rfl⟩; exact h.base i b p h1 h2 hk
  · cases hq : R true k o with
    | none => rfl
    | some u => exact absurd hk (h.fresh k o u hq)
theorem wd_step (h : Wd W K I R w) : Wd (stpB W K I R w) K I R w :=
  { h with
    base := fun i b p h1 h2 hz => hz.2.1 ⟨i, b, p, h1, h2, rfl⟩
    fresh := fun b o u hu hz => by rw [hz.2.2 o] at hu; cases hu
    below := ⟨rfl, rfl, rfl, Nat.le_refl _, fun k hk => ⟨hk.1, rfl⟩⟩
    out := h.out
    qz := fun k hk => z_stp h (h.qz k hk) }
theorem wd_back (h0 : Wd W K I R w) (h : Wd (stpB W K I R w) K' I' R' w') : Wd W K' I' R' w' :=
  { h with
    base := fun i b p h1 h2 hz => h.base i b p h1 h2 (z_stp h0 hz)
    fresh := fun b o u hu hz => h.fresh b o u hu (z_stp h0 hz)
    below := ⟨h.below.os.trans h0.below.os, h.below.tape.trans h0.below.tape, h.below.output.trans h0.below.output, Nat.le_trans h0.below.size h.below.size, fun k hk => ⟨(h0.below.block k hk).1, (h.below.block k (z_stp h0 hk)).2.trans (h0.below.block k hk).2⟩⟩
    out := h.out
    qz := h0.qz }
theorem wd_kind (h : Wd W K I R w) {k : Nat} {o : Obj} (hk : w.heap[k]? = some o) (hc : o.isCells = false) : (stpB W K I R w).z k := by
  refine ⟨(Array.getElem?_eq_some_iff.1 hk).1, ?_, fun off => ?_⟩
  · rintro ⟨i, b, p, h1, h2, rfl⟩
    obtain ⟨p', hp', hb⟩ := h.blk i b h1
    rw [h2] at hp'; cases hp'
    obtain ⟨cs, hm, _⟩ := hb.mem
    rw [hk] at hm; cases hm; cases hc
  · cases hq : R true k off with
    | none => rfl
    | some u =>
      obtain ⟨o', ho', hc'⟩ := cells_of_cell (h.ro true k off u hq)
      simp only at ho'
      rw [hk] at ho'; cases ho'
      rw [hc] at hc'; cases hc'
theorem wd_same (h0 : Wd W K I R w) (h : Wd (stpB W K I R w) K' I' R' w') {k : Nat} {o : Obj} (hk : w.heap[k]? = some o) (hc : o.isCells = false) : w'.heap[k]? = w.heap[k]? :=
  (h.below.block k (wd_kind h0 hk hc)).2
end
abbrev Kr := List (Nat × Option Ob)
def kup (K : Nat → Option Ob) : Kr → Nat → Option Ob
  | [] => K
  | (i, b) :: r => fun t => if t = i then b else kup K r t
def liftK (kw : Wx.Kr) : Kr := kw.map fun p => (p.1, p.2.map Ob.b)
theorem kup_lift {K : Nat → Option Ob} : ∀ {kw : Wx.Kr} {i : Nat}, (i ∈ kw.map (·.1) ∧ ∃ b : Option Blk, kup K (liftK kw) i = b.map Ob.b) ∨ (i ∉ kw.map (·.1) ∧ kup K (liftK kw) i = K i)
  | [], i => .inr ⟨by simp, rfl⟩
  | (j, b) :: r, i => by
    simp only [liftK, List.map_cons, kup]
    by_cases h : i = j
    · subst h; exact .inl ⟨by simp, b, by simp⟩
    · rw [if_neg h]
      rcases kup_lift (K := K) (kw := r) (i := i) with ⟨h1, h2⟩ | ⟨h1, h2⟩
      · exact .inl ⟨List.mem_cons_of_mem _ h1, h2⟩
      · exact .inr ⟨by simp only [List.mem_cons, not_or]; exact ⟨h, h1⟩, h2⟩
theorem blkOf_lift {K : Nat → Option Ob} : ∀ {kw : Wx.Kr}, blkOf (kup K (liftK kw)) = Wx.kup (blkOf K) kw
  | [] => rfl
  | (j, b) :: r => by
    funext i
    simp only [liftK, List.map_cons, kup, Wx.kup, blkOf]
    by_cases h : i = j
    · subst h
      simp only [if_true]
      cases b <;> rfl
    · simp only [if_neg h]
      have := congrFun (blkOf_lift (K := K) (kw := r)) i
      simpa [blkOf, liftK] using this
structure Eff where
  av : AV
  rd : List Nat
  kw : Kr
  top : Nat
def OpEff (P : Program) (o : Oper) (F0 : Nat → Option AV) (K0 : Nat → Option Ob) (top : Nat) (e : Eff) : Prop :=
  ∀ (r : Option Nat) (n : Nat) (W : Wo) (F : Nat → Option AV) (K : Nat → Option Ob) (I : IM) (R : RM) (a : Act) (w : World), St n W F K I R a w → (∀ x ∈ o.op.operands.toList, evf F x = evf F0 x) → (∀ i ∈ e.rd, K i = K0 i) → (∀ j, top ≤ j → j < e.top → I j = none ∧ K j = none) → dstB n o.dst = true →
    ∀ (next : Act → World → Prop) (Q : Exit → Act → World → Prop), (∀ I' R' a' w', St n W (fput F o.dst e.av) (kup K e.kw) I' R' a' w' → IExt I I' → (∀ j, ¬ (top ≤ j ∧ j < e.top) → I' j = I j) → RExt R R' → next a' w') → o.wpIn (fr r) 0 P a w next Q
theorem St.dom {n : Nat} {W : Wo} {F : Nat → Option AV} {K : Nat → Option Ob} {I : IM} {R : RM} {a : Act} {w : World} (h : St n W F K I R a w) {i : Nat} {o : Ob} (hk : K i = some o) : ∃ p, I i = some p := by
  cases ho : o.nb with
  | true => obtain ⟨p, hp, _⟩ := h.wz.ob i o hk ho; exact ⟨p, hp⟩
  | false =>
    cases o with
    | b x => obtain ⟨p, hp, _⟩ := h.wz.wd.blk i x (by simp [blkOf, hk]); exact ⟨p, hp⟩
    | _ => cases ho
/-- Memory of the first layer has gone on: all else abides. -/
theorem Wz.onK {W : Wo} {K : Nat → Option Ob} {kw : Wx.Kr} {I I' : IM} {R R' : RM} {w w' : World} (h : Wz W K I R w) (hI : IExt I I') (hR : RExt R R') (h' : Wd (stpB W (blkOf K) I R w) (Wx.kup (blkOf K) kw) I' R' w') : Wz W (kup K (liftK kw)) I' R' w' := by
  have hsame : ∀ {i : Nat} {o : Ob}, kup K (liftK kw) i = some o → o.nb = true → K i = some o := fun {i o} hi hn => by
    rcases kup_lift (K := K) (kw := kw) (i := i) with ⟨_, b, h2⟩ | ⟨_, h2⟩
    · rw [h2] at hi
      cases b with
      | none => cases hi
      | some b => simp only [Option.map_some, Option.some.injEq] at hi; subst hi; cases hn
    · rw [← h2]; exact hi
  refine ⟨by rw [blkOf_lift]; exact wd_back h.wd h', fun i o hi hn => ?_, fun i j oi oj p q hi hj hni hnj hp hq he => ?_⟩
  · obtain ⟨p, hp, ho, hz⟩ := h.ob i o (hsame hi hn) hn
    obtain ⟨x, hx, hc⟩ := ho.kind hn
    exact ⟨p, hI _ _ hp, ho.mono hI hR (wd_same h.wd h' hx hc), hz⟩
  · obtain ⟨p', hp', _⟩ := h.ob i oi (hsame hi hni) hni
    obtain ⟨q', hq', _⟩ := h.ob j oj (hsame hj hnj) hnj
    rw [hI _ _ hp'] at hp; cases hp
    rw [hI _ _ hq'] at hq; cases hq
    exact h.inj i j oi oj _ _ (hsame hi hni) (hsame hj hnj) hni hnj hp' hq' he
/-- AN OPERATION OF THE FIRST LAYER. -/
theorem lift_op {P : Program} {o : Oper} {F0 : Nat → Option AV} {K0 : Nat → Option Ob} {top : Nat} {e : Wx.Eff} (hnd : ∀ c, o.op ≠ .defer c) (h : Wx.OpEff P o F0 (blkOf K0) top e) : OpEff P o F0 K0 top ⟨e.av, e.rd, liftK e.kw, e.top⟩ := by
  intro r n W F K I R a w hs hx hk hfree hd next Q hn
  obtain ⟨tm, df⟩ := a
  have hs0 : Wx.St n (stpB W (blkOf K) I R w) F (blkOf K) I R ⟨tm, []⟩ w := ⟨hs.size, rfl, hs.fr, wd_step hs.wz.wd⟩
  have h1 := h n _ F (blkOf K) I R ⟨tm, []⟩ w hs0 hx (fun i hi => by unfold blkOf; rw [hk i hi]) (fun j h1 h2 => ⟨(hfree j h1 h2).1, by unfold blkOf; rw [(hfree j h1 h2).2]⟩) hd
    (fun a' w' => a'.defers = [] ∧ next ⟨a'.tmps, df⟩ w') (fun _ _ _ => False) (fun I' R' a' w' hs' hI hfr hR => ⟨hs'.defers, by
      refine hn I' R' ⟨a'.tmps, df⟩ w' ⟨hs'.size, ?_, hs'.fr, hs.wz.onK hI hR hs'.wd⟩ hI hfr hR
      exact hs.mks.mono fun D hD => wd_same hs.wz.wd hs'.wd hD rfl⟩)
  refine op_in hnd ?_
  unfold Oper.wp at h1 ⊢
  rw [show (Act.eval ⟨tm, df⟩ : Operand → Value) = Act.eval ⟨tm, []⟩ by funext x; cases x <;> rfl]
  generalize (execOp (Act.eval ⟨tm, []⟩) o).run P w = x at h1 ⊢
  have lo : ¬ LetsOut (fun (_ : Exit) (_ : Act) (_ : World) => False) := fun ⟨_, _, h⟩ => h
  have hput : ∀ v : Value, ((⟨tm, df⟩ : Act).put o.dst v) = ⟨((⟨tm, []⟩ : Act).put o.dst v).tmps, df⟩ := fun v => by
    cases o.dst <;> rfl
  cases x with
  | ok v w' =>
    cases v with
    | value v => show next _ _; rw [hput v]; exact h1.2
    | skip => show next _ _; rw [hput undef]; exact h1.2
    | defer d =>
      have := h1.1
      cases hd' : o.dst <;> rw [hd'] at this <;> cases this
    | enter f args =>
      refine Calls.mono h1 ?_
      rintro e' w'' hh
      cases e' with
      | returned v => show next _ _; rw [hput v]; exact hh.2
      | panicked ch => exact hh.elim
      | outgrown => exact (lo hh).elim
    | row row args => exact Rows.mono h1 fun v w'' hh => by rw [hput v]; exact hh.2
    | _ => exact h1.elim
  | halt v w' =>
    cases v with
    | panic v => exact h1.elim
    | _ => exact h1.elim
end Go.Proofs.Ytllnmdmmmkoiaaa.Wx.Y
