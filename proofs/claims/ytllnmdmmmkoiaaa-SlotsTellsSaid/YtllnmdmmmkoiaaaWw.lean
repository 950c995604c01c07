/-
  The second layer: memory: records of loops, marks through a call, what a call owes.
-/
import Derived.Test.YtllnmdmmmkoiaaaWv
namespace Go.Proofs.Ytllnmdmmmkoiaaa.Wx.Y
open Go Go.RowKit
set_option linter.unusedVariables false

def upd (K : Nat → Option Ob) (j : Nat) (x : Option Ob) : Nat → Option Ob := fun t => if t = j then x else K t
theorem upd_same {K : Nat → Option Ob} {j : Nat} {x : Option Ob} : upd K j x j = x := if_pos rfl
theorem upd_other {K : Nat → Option Ob} {j t : Nat} {x : Option Ob} (h : t ≠ j) : upd K j x t = K t := if_neg h
theorem cell_same {w w' : World} {a : Addr} {v : Value} (h : w.cell? a = some v) (hh : w'.heap[a.block]? = w.heap[a.block]?) : w'.cell? a = some v := by
  rw [← h]; unfold World.cell?; rw [hh]
theorem wd_carry {W : Wo} {K : Nat → Option Blk} {I : IM} {R : RM} {w w' : World} (h : Wd W K I R w) (hc : ∀ (k : Nat) (o : Obj), w.heap[k]? = some o → o.isCells = true → w'.heap[k]? = some o) (hz : ∀ k, W.z k → w'.heap[k]? = w.heap[k]?) (h1 : w'.os = w.os) (h2 : w'.tape = w.tape) (h3 : w'.output = w.output) (h4 : w.heap.size ≤ w'.heap.size) : Wd W K I R w' :=
  { h with
    blk := fun i b hi => by
      obtain ⟨p, hp, hk⟩ := h.blk i b hi
      refine ⟨p, hp, hk.mono (.refl _) (.refl _) ?_⟩
      obtain ⟨cs, hm, _⟩ := hk.mem
      rw [hm]; exact hc _ _ hm rfl
    ro := fun f b o u hu => by
      have h0 := h.ro f b o u hu
      obtain ⟨ob, ho, hcc⟩ := cells_of_cell h0
      exact cell_same h0 ((hc _ _ ho hcc).trans ho.symm)
    below := ⟨h1.trans h.below.os, h2.trans h.below.tape, h3.trans h.below.output, Nat.le_trans h.below.size h4, fun k hk => ⟨(h.below.block k hk).1, (hz k hk).trans (h.below.block k hk).2⟩⟩ }
theorem blkOf_upd {K : Nat → Option Ob} {j : Nat} {x : Option Ob} (h1 : ∀ b, K j ≠ some (.b b)) (h2 : ∀ b, x ≠ some (.b b)) : blkOf (upd K j x) = blkOf K := by
  have hn : ∀ {y : Option Ob}, (∀ b, y ≠ some (.b b)) → (match y with | some (.b b) => some b | _ => none) = (none : Option Blk) := by
    intro y hy
    cases y with
    | none => rfl
    | some o => cases o with
      | b b => exact absurd rfl (hy b)
      | m _ => rfl
      | l _ => rfl
      | i _ => rfl
  funext t
  by_cases ht : t = j
  · subst ht
    unfold blkOf
    rw [upd_same]
    exact (hn h2).trans (hn h1).symm
  · unfold blkOf; rw [upd_other ht]
section
variable {W : Wo} {K : Nat → Option Ob} {I : IM} {R : RM} {w : World}
theorem Wz.lt (h : Wz W K I R w) {i : Nat} {o : Ob} {p : Loc} (hk : K i = some o) (hp : I i = some p) : p.b < w.heap.size := by
  cases hn : o.nb with
  | true =>
    obtain ⟨p', hp', ho, _⟩ := h.ob i o hk hn
    rw [hp] at hp'; cases hp'
    obtain ⟨x, hx, _⟩ := ho.kind hn
    exact (Array.getElem?_eq_some_iff.1 hx).1
  | false =>
    cases o with
    | b x => exact h.wd.lt (b := x) (by simp [blkOf, hk]) hp
    | m _ => cases hn
    | l _ => cases hn
    | i _ => cases hn
/-- A record, written; or given up. -/
theorem Wz.put (h : Wz W K I R w) {j : Nat} {lb : LB} (hk : K j = some (.l lb)) {p : Loc} (hp : I j = some p) {rc rc' : Loop} (hr : w.heap[p.b]? = some (.loop rc)) {x : Option Ob} (hx : x = none ∨ ∃ lb', x = some (.l lb') ∧ LoopOk I R lb' p (w.putObj p.b (.loop rc'))) :
    Wz W (upd K j x) I R (w.putObj p.b (.loop rc')) := by
  have hz : ¬ W.z p.b := by
    obtain ⟨p', hp', _, hz⟩ := h.ob j _ hk rfl
    rw [hp] at hp'; cases hp'; exact hz
  have hlt := (Array.getElem?_eq_some_iff.1 hr).1
  have hx2 : ∀ b, x ≠ some (.b b) := fun b hb => by
    rcases hx with rfl | ⟨lb', rfl, _⟩ <;> cases hb
  refine ⟨by
    rw [blkOf_upd (fun b hb => by rw [hk] at hb; cases hb) hx2]
    refine wd_carry h.wd (fun k o ho hc => ?_) (fun k hk => ?_) rfl rfl rfl (by simp)
    · refine (World.putObj_heap_other ?_).trans ho
      rintro rfl; rw [hr] at ho; cases ho; cases hc
    · refine World.putObj_heap_other ?_
      rintro rfl; exact hz hk, fun i o hi hn => ?_, fun i i' oi oj q q' hi hj hni hnj hq hq' he => ?_⟩
  · by_cases hij : i = j
    · subst hij
      rw [upd_same] at hi
      rcases hx with rfl | ⟨lb', rfl, ho⟩
      · cases hi
      · cases hi; exact ⟨p, hp, ho, hz⟩
    · rw [upd_other hij] at hi
      obtain ⟨q, hq, ho, hqz⟩ := h.ob i o hi hn
      refine ⟨q, hq, ho.mono (.refl _) (.refl _) (World.putObj_heap_other ?_), hqz⟩
      intro he
      exact hij (h.inj i j o _ q p hi hk hn rfl hq hp he)
  · have key : ∀ {t : Nat} {o : Ob}, upd K j x t = some o → o.nb = true → ∃ o', K t = some o' ∧ o'.nb = true := fun {t o} ht hn => by
      by_cases hij : t = j
      · subst hij; exact ⟨_, hk, rfl⟩
      · rw [upd_other hij] at ht; exact ⟨o, ht, hn⟩
    obtain ⟨o1, g1, g2⟩ := key hi hni
    obtain ⟨o2, g3, g4⟩ := key hj hnj
    exact h.inj i i' o1 o2 q q' g1 g3 g2 g4 hq hq' he
theorem alloc_old (w : World) (o : Obj) {k : Nat} (hk : k < w.heap.size) : (w.alloc o).heap[k]? = w.heap[k]? := heap_alloc_old w o hk
theorem alloc_at {w : World} {o x : Obj} {k : Nat} (h : w.heap[k]? = some x) : (w.alloc o).heap[k]? = some x := (alloc_old w o (Array.getElem?_eq_some_iff.1 h).1).trans h
/-- A record, laid. -/
theorem Wz.laid (h : Wz W K I R w) {j : Nat} (hI : I j = none) (hK : K j = none) {lb : LB} {rc : Loop} (ho : LoopOk (Wx.ext I j ⟨w.heap.size, 0, 0⟩) R lb ⟨w.heap.size, 0, 0⟩ (w.alloc (.loop rc))) :
    Wz W (upd K j (some (.l lb))) (Wx.ext I j ⟨w.heap.size, 0, 0⟩) R (w.alloc (.loop rc)) := by
  have hIe : IExt I (Wx.ext I j ⟨w.heap.size, 0, 0⟩) := .ext hI
  have hlt : ∀ {i : Nat} {o : Ob} {p : Loc}, K i = some o → (Wx.ext I j ⟨w.heap.size, 0, 0⟩) i = some p → I i = some p := fun {i o p} hk hp => by
    unfold Wx.ext at hp
    split at hp
    · rename_i he; subst he; rw [hK] at hk; cases hk
    · exact hp
  have hwd : Wd W (blkOf K) (Wx.ext I j ⟨w.heap.size, 0, 0⟩) R w := by
    have hb : ∀ {i : Nat} {b : Blk}, blkOf K i = some b → ∀ {p : Loc}, (Wx.ext I j ⟨w.heap.size, 0, 0⟩) i = some p → I i = some p := fun hb _ hp => hlt (blkOf_some hb) hp
    exact { h.wd with
      blk := fun i b hi => by obtain ⟨p, hp, hk⟩ := h.wd.blk i b hi; exact ⟨p, hIe _ _ hp, hk.mono hIe (.refl _) rfl⟩
      inj := fun i i' bi bj p q hi hj hp hq he => h.wd.inj i i' bi bj p q hi hj (hb hi hp) (hb hj hq) he
      base := fun i b p hi hp => h.wd.base i b p hi (hb hi hp)
      apart := fun i b p f o hi hp => h.wd.apart i b p f o hi (hb hi hp) }
  refine ⟨by
    rw [blkOf_upd (fun b hb => by rw [hK] at hb; cases hb) (fun b hb => by cases hb)]
    exact hwd.grow ((Below.refl _ w).alloc (Nat.le_refl _) _), fun i o hi hn => ?_, fun i i' oi oj q q' hi hj hni hnj hq hq' he => ?_⟩
  · by_cases hij : i = j
    · subst hij
      rw [upd_same] at hi; cases hi
      refine ⟨⟨w.heap.size, 0, 0⟩, by simp [Wx.ext], ho, fun hz => ?_⟩
      have := h.wd.below.lt hz
      simp at this
    · rw [upd_other hij] at hi
      obtain ⟨q, hq, hoo, hqz⟩ := h.ob i o hi hn
      exact ⟨q, hIe _ _ hq, hoo.mono hIe (.refl _) (alloc_old w _ (h.lt hi hq)), hqz⟩
  · have key : ∀ {t : Nat} {o : Ob} {p : Loc}, upd K j (some (.l lb)) t = some o → (Wx.ext I j ⟨w.heap.size, 0, 0⟩) t = some p → (t = j ∧ p.b = w.heap.size) ∨ (K t = some o ∧ I t = some p ∧ p.b < w.heap.size) := fun {t o p} ht hp => by
      by_cases hij : t = j
      · subst hij
        simp only [Wx.ext, if_true, Option.some.injEq] at hp
        subst hp
        exact .inl ⟨rfl, rfl⟩
      · rw [upd_other hij] at ht
        exact .inr ⟨ht, hlt ht hp, h.lt ht (hlt ht hp)⟩
    rcases key hi hq with ⟨g1, g2⟩ | ⟨g1, g2, g3⟩ <;> rcases key hj hq' with ⟨k1, k2⟩ | ⟨k1, k2, k3⟩
    · exact g1.trans k1.symm
    · omega
    · omega
    · exact h.inj i i' oi oj q q' g1 k1 hni hnj g2 k2 he
/-- A world that holds the marks fast. -/
def mkW (W : Wo) (ds : List Deferred) (w : World) : Wo := ⟨w, fun k => W.z k ∨ ∃ d ∈ ds, d.target = .collected k, W.q⟩
theorem Mk.at : ∀ {ds : List Deferred}, Mk W ds w → ∀ d ∈ ds, ∀ D, d.target = .collected D → w.heap[D]? = some (.deferred (some [])) ∧ ¬ W.z D
  | [], _, d, hd, _, _ => by cases hd
  | e :: ds, ⟨⟨D, h1, h2, h3, _⟩, h5⟩, d, hd, D', ht => by
    rcases List.mem_cons.1 hd with rfl | hd
    · rw [h1] at ht; cases ht; exact ⟨h2, h3⟩
    · exact Mk.at h5 d hd D' ht
theorem Wz.mk' (h : Wz W K I R w) {ds : List Deferred} (hm : Mk W ds w) : Wz (mkW W ds w) K I R w := by
  have hdef : ∀ {k : Nat}, (∃ d ∈ ds, d.target = .collected k) → w.heap[k]? = some (.deferred (some [])) := fun {k} ⟨d, h1, h2⟩ => (hm.at d h1 k h2).1
  refine ⟨{ h.wd with
    base := fun i b p hi hp hz => by
      rcases hz with hz | hz
      · exact h.wd.base i b p hi hp hz
      · obtain ⟨p', hp', hk⟩ := h.wd.blk i b hi
        rw [hp] at hp'; cases hp'
        obtain ⟨cs, hc, _⟩ := hk.mem
        rw [hdef hz] at hc; cases hc
    fresh := fun b o u hu hz => by
      rcases hz with hz | hz
      · exact h.wd.fresh b o u hu hz
      · obtain ⟨x, hx, hc⟩ := cells_of_cell (h.wd.ro true b o u hu)
        simp only at hx
        rw [hdef hz] at hx; cases hx; cases hc
    below := ⟨rfl, rfl, rfl, Nat.le_refl _, fun k hk => ⟨by
      rcases hk with hk | hk
      · exact h.wd.below.lt hk
      · exact (Array.getElem?_eq_some_iff.1 (hdef hk)).1, rfl⟩⟩
    out := h.wd.out
    qz := fun k hk => .inl (h.wd.qz k hk) }, fun i o hi hn => ?_, h.inj⟩
  obtain ⟨p, hp, ho, hz⟩ := h.ob i o hi hn
  refine ⟨p, hp, ho, fun hz' => ?_⟩
  rcases hz' with hz' | hz'
  · exact hz hz'
  · have := hdef hz'
    cases o with
    | b x => cases hn
    | m es => obtain ⟨_, h1, _⟩ := ho.mem; rw [h1] at this; cases this
    | l x => obtain ⟨_, h1, _⟩ := ho.mem; rw [h1] at this; cases this
    | i x => obtain ⟨_, _, h1⟩ := ho.mem; rw [h1] at this; cases this
theorem Wz.un {K' : Nat → Option Ob} {I' : IM} {R' : RM} {w' : World} (h : Wz W K I R w) {ds : List Deferred} (hm : Mk W ds w) (h' : Wz (mkW W ds w) K' I' R' w') : Wz W K' I' R' w' ∧ Mk W ds w' := by
  have hb : ∀ k, (mkW W ds w).z k → w'.heap[k]? = w.heap[k]? := fun k hk => (h'.wd.below.block k hk).2
  refine ⟨⟨{ h'.wd with
    base := fun i b p hi hp hz => h'.wd.base i b p hi hp (.inl hz)
    fresh := fun b o u hu hz => h'.wd.fresh b o u hu (.inl hz)
    below := ⟨h'.wd.below.os.trans h.wd.below.os, h'.wd.below.tape.trans h.wd.below.tape, h'.wd.below.output.trans h.wd.below.output, Nat.le_trans h.wd.below.size h'.wd.below.size, fun k hk => ⟨(h.wd.below.block k hk).1, (hb k (.inl hk)).trans (h.wd.below.block k hk).2⟩⟩
    out := h'.wd.out
    qz := h.wd.qz }, fun i o hi hn => ?_, h'.inj⟩, ?_⟩
  · obtain ⟨p, hp, ho, hz⟩ := h'.ob i o hi hn
    exact ⟨p, hp, ho, fun hz' => hz (.inl hz')⟩
  · have : ∀ (es : List Deferred), (∀ d ∈ es, d ∈ ds) → Mk W es w → Mk W es w' := by
      intro es
      induction es with
      | nil => intro _ _; trivial
      | cons d es ih =>
        rintro hs ⟨⟨D, h1, h2, h3, h4⟩, h5⟩
        exact ⟨⟨D, h1, (hb D (.inr ⟨d, hs d List.mem_cons_self, h1⟩)).trans h2, h3, h4⟩, ih (fun e he => hs e (List.mem_cons_of_mem _ he)) h5⟩
    exact this ds (fun _ h => h) hm
end
/-- A call of a value: of a function, or of a yield. -/
def Ups (P : Program) (v : Value) (args : Array Value) (w : World) (R : Ending → World → Prop) : Prop :=
  (∃ g fs us, v = .func (.func g) fs us ∧ fnB P g = true ∧ Calls P g (fs ++ args ++ us) w R) ∨
  (∃ l f tmps assign body, v = .func (.yield l) #[] #[] ∧ (Instr.yield l args).run P w = .ok (.round l f tmps assign body) w ∧ RoundIn (fr none) 0 P l f tmps assign body w R)
theorem Ups.mono {P : Program} {v : Value} {args : Array Value} {w : World} {R R' : Ending → World → Prop} (h : Ups P v args w R) (hr : ∀ e w', R e w' → R' e w') : Ups P v args w R' := by
  rcases h with ⟨g, fs, us, h1, h2, h3⟩ | ⟨l, f, t, a, b, h1, h2, h3⟩
  · exact .inl ⟨g, fs, us, h1, h2, h3.mono hr⟩
  · exact .inr ⟨l, f, t, a, b, h1, h2, h3.mono hr⟩
theorem ups_op {P : Program} {r : Option Nat} {a : Act} {w : World} {dst : Option Tmp} {f : Operand} {xs : Array Operand} {ts : Array TypeId} {ty : TypeId} {pos : String} {after : Array Edge} {guard : Option (Nat × Bool)} {R : Ending → World → Prop} (h : Ups P (a.eval f) (xs.toList.map a.eval).toArray w R)
    {next : Act → World → Prop} {Q : Exit → Act → World → Prop} (hn : ∀ e w', R e w' → ∃ u, e = .returned u ∧ next (a.put dst u) w') : (Oper.mk dst (.call ⟨.value f, xs, ts⟩) ty pos after guard).wpIn (fr r) 0 P a w next Q := by
  refine ⟨fun _ _ => trivial, ?_⟩
  rw [show (fr r).round = r from rfl, Oper.semAt_eq _ _ _ (fun c hc => by cases hc)]
  have hxs : xs.map a.eval = (xs.toList.map a.eval).toArray := by apply Array.ext'; simp
  rcases h with ⟨g, fs, us, hv, h1, h2⟩ | ⟨l, fn, t, as, b, hv, h1, h2⟩
  · have hrun : (execOp a.eval ⟨dst, .call ⟨.value f, xs, ts⟩, ty, pos, after, guard⟩).run P w = .ok (.enter g (fs ++ (xs.toList.map a.eval).toArray ++ us)) w := by
      simp only [execOp]
      rw [Sem.run_bind]
      simp [resolve, hv, Deferred.ofValue, invoke, fnB_call h1, hxs]
    rw [hrun]
    refine ⟨fun hh => (by cases hh), calls_fr (h2.mono ?_)⟩
    intro e w' he
    obtain ⟨u, rfl, hu⟩ := hn e w' he
    exact hu
  · have hrun : (execOp a.eval ⟨dst, .call ⟨.value f, xs, ts⟩, ty, pos, after, guard⟩).run P w = .ok (.round l fn t as b) w := by
      simp only [execOp]
      rw [Sem.run_bind]
      simp [resolve, hv, Deferred.ofValue, invoke, hxs, h1]
    rw [hrun]
    refine ⟨fun hh => (by cases hh), ?_⟩
    have h3 : RoundIn (fr r) 0 P l fn t as b w R := h2
    refine h3.mono ?_
    intro e w' he
    obtain ⟨u, rfl, hu⟩ := hn e w' he
    exact hu
/-- The same, or a call of two slices that the model itself answers. -/
def UpsX (P : Program) (v : Value) (args : Array Value) (w : World) (R : Ending → World → Prop) : Prop :=
  Ups P v args w R ∨ ∃ g u a la ca b lb cb, v = .func (.func g) #[] #[] ∧ args = #[.slice a la ca, .slice b lb cb] ∧ (callFunc g args).run P w = .ok (.value u) w ∧ R (.returned u) w
theorem UpsX.mono {P : Program} {v : Value} {args : Array Value} {w : World} {R R' : Ending → World → Prop} (h : UpsX P v args w R) (hr : ∀ e w', R e w' → R' e w') : UpsX P v args w R' := by
  rcases h with h | ⟨g, u, a, la, ca, b, lb, cb, h1, h2, h3, h4⟩
  · exact .inl (h.mono hr)
  · exact .inr ⟨g, u, a, la, ca, b, lb, cb, h1, h2, h3, hr _ _ h4⟩
theorem upsx_op {P : Program} {r : Option Nat} {a : Act} {w : World} {dst : Option Tmp} {f : Operand} {xs : Array Operand} {ts : Array TypeId} {ty : TypeId} {pos : String} {after : Array Edge} {guard : Option (Nat × Bool)} {R : Ending → World → Prop} (h : UpsX P (a.eval f) (xs.toList.map a.eval).toArray w R)
    {next : Act → World → Prop} {Q : Exit → Act → World → Prop} (hn : ∀ e w', R e w' → ∃ u, e = .returned u ∧ next (a.put dst u) w') : (Oper.mk dst (.call ⟨.value f, xs, ts⟩) ty pos after guard).wpIn (fr r) 0 P a w next Q := by
  rcases h with h | ⟨g, u, _, _, _, _, _, _, hv, _, h1, h2⟩
  · exact ups_op h hn
  · refine ⟨fun _ _ => trivial, ?_⟩
    rw [show (fr r).round = r from rfl, Oper.semAt_eq _ _ _ (fun c hc => by cases hc)]
    have hxs : xs.map a.eval = (xs.toList.map a.eval).toArray := by apply Array.ext'; simp
    have hrun : (execOp a.eval ⟨dst, .call ⟨.value f, xs, ts⟩, ty, pos, after, guard⟩).run P w = .ok (.value u) w := by
      simp only [execOp]
      rw [Sem.run_bind]
      simp [resolve, hv, Deferred.ofValue, invoke, hxs, h1]
    rw [hrun]
    obtain ⟨u', e1, e2⟩ := hn _ _ h2
    cases e1
    exact e2
/-- What a call comes to, in whatever memory. -/
def CallE (P : Program) (c : Ce) (avs : List AV) (K : Nat → Option Ob) (top : Nat) (x : AV) (K' : Nat → Option Ob) (top' : Nat) : Prop :=
  top ≤ top' ∧ ∀ (W : Wo) (I : IM) (R : RM) (w : World) (v : Value) (vs : List Value), Wz W K I R w → (∀ j, top ≤ j → I j = none) → All2 (AV.rel I R) avs vs → c.rel I R v →
    Ups P v vs.toArray w fun e w' => ∃ u I' R', e = .returned u ∧ Wz W K' I' R' w' ∧ (∀ j, top' ≤ j → I' j = none) ∧ (∀ j, j < top → I' j = I j) ∧ RExt R R' ∧ x.rel I' R' u
def CallX (P : Program) (c : Ce) (avs : List AV) (K : Nat → Option Ob) (top : Nat) (x : AV) (K' : Nat → Option Ob) (top' : Nat) : Prop :=
  top ≤ top' ∧ ∀ (W : Wo) (I : IM) (R : RM) (w : World) (v : Value) (vs : List Value), Wz W K I R w → (∀ j, top ≤ j → I j = none) → All2 (AV.rel I R) avs vs → c.rel I R v →
    UpsX P v vs.toArray w fun e w' => ∃ u I' R', e = .returned u ∧ Wz W K' I' R' w' ∧ (∀ j, top' ≤ j → I' j = none) ∧ (∀ j, j < top → I' j = I j) ∧ RExt R R' ∧ x.rel I' R' u
theorem CallE.x {P : Program} {c : Ce} {avs : List AV} {K : Nat → Option Ob} {top : Nat} {x : AV} {K' : Nat → Option Ob} {top' : Nat} (h : CallE P c avs K top x K' top') : CallX P c avs K top x K' top' := ⟨h.1, fun W I R w v vs a b d e => .inl (h.2 W I R w v vs a b d e)⟩
/-- The same, with what it reads and writes. -/
def CEff (P : Program) (c : Ce) (avs : List AV) (K0 : Nat → Option Ob) (top : Nat) (e : Eff) : Prop :=
  ∀ (W : Wo) (K : Nat → Option Ob) (I : IM) (R : RM) (w : World) (v : Value) (vs : List Value), Wz W K I R w → All2 (AV.rel I R) avs vs → c.rel I R v → (∀ i ∈ e.rd, K i = K0 i) → (∀ j, top ≤ j → j < e.top → I j = none ∧ K j = none) →
    UpsX P v vs.toArray w fun e' w' => ∃ u I' R', e' = .returned u ∧ Wz W (kup K e.kw) I' R' w' ∧ IExt I I' ∧ (∀ j, ¬ (top ≤ j ∧ j < e.top) → I' j = I j) ∧ RExt R R' ∧ e.av.rel I' R' u
end Go.Proofs.Ytllnmdmmmkoiaaa.Wx.Y
