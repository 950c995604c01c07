/-
  A walk by computation: regions that draw their order, as they are worked off.
-/
import Derived.Test.YtllnmdmmmkoiaaaWg
namespace Go.Proofs.Ytllnmdmmmkoiaaa.Wx
open Go Go.RowKit
set_option linter.unusedVariables false

def Ce.refs : Ce → List Nat
  | .osl i _ _ _ => [i]
  | .gsl i _ => [i]
  | _ => []
def A0.refs : A0 → List Nat
  | .one c => c.refs
  | .agg cs => cs.flatMap Ce.refs
def AV.refs : AV → List Nat
  | .pl a => a.refs
  | .tup l => l.flatMap A0.refs
/-- What a call comes to, wherever the blocks that it looks at are as in K0. -/
def CEff (P : Program) (g : FuncId) (cap : List Pt) (avs : List AV) (K0 : Nat → Option Blk) (top : Nat) (e : Eff) : Prop :=
  fnB P g = true ∧ ∀ (W : Wo) (K : Nat → Option Blk) (I : IM) (R : RM) (w : World) (vs us : List Value), Wd W K I R w → All2 (AV.rel I R) avs vs → All2 (Pt.rel I) cap us → (∀ i ∈ e.rd, K i = K0 i) → (∀ j, top ≤ j → j < e.top → I j = none ∧ K j = none) →
    Calls P g (vs.toArray ++ us.toArray) w fun e' w' => ∃ v I' R', e' = .returned v ∧ Wd W (kup K e.kw) I' R' w' ∧ IExt I I' ∧ (∀ j, ¬ (top ≤ j ∧ j < e.top) → I' j = I j) ∧ RExt R R' ∧ e.av.rel I' R' v
/-- A call in a region that draws its order. -/
structure conN (P : Program) (g : FuncId) (cap : List Pt) (avs : List AV) (K : Kr) (top : Nat) (k : Eff → Prop) : Prop where
  h : ∃ e, CEff P g cap avs (kg K) top e ∧ k e
theorem lowC_congr {K K' : Nat → Option Blk} {c d : Ce} (h : ∀ i ∈ c.refs, K' i = K i) (hl : lowC K c d) : lowC K' c d := by
  cases c with
  | osl i q n cp => simp only [lowC] at hl ⊢; rw [h i (by simp [Ce.refs])]; exact hl
  | gsl i rows => obtain ⟨sz, ty, r, h1, h2, h3⟩ := hl; exact ⟨sz, ty, r, h1, (h i (by simp [Ce.refs])).trans h2, h3⟩
  | fn f cap => cases cap <;> exact hl
  | v x => exact hl
  | mpv i => exact hl
  | yl i => exact hl
  | mf f l => exact hl
  | own i q k => exact hl
  | ro fl sz rows => exact hl
  | rp fl row k => exact hl
theorem lowV_congr {K K' : Nat → Option Blk} {x : AV} {d : A0} (h : ∀ i ∈ x.refs, K' i = K i) (hl : lowV K x d) : lowV K' x d := by
  cases x with
  | pl a => cases a with
    | one c => cases d with
      | one d => exact lowC_congr h hl
      | agg => exact hl.elim
    | agg cs => cases d with
      | one => exact hl.elim
      | agg ds =>
        have hl' : All2 (lowC K) cs ds := hl
        exact hl'.mono_mem fun c hc b hb => lowC_congr (fun i hi => h i (List.mem_flatMap.2 ⟨c, hc, hi⟩)) hb
  | tup => exact hl.elim
theorem evs_agree {F F' : Nat → Option AV} : ∀ {l : List Operand} {vs : List AV}, (∀ x ∈ l, evf F' x = evf F x) → evs F l = some vs → evs F' l = some vs
  | [], _, _, h => h
  | x :: r, vs, hm, h => by
    simp only [evs] at h ⊢
    rw [hm x List.mem_cons_self]
    split at h
    · rename_i v l h1 h2
      rw [h1, evs_agree (fun y hy => hm y (List.mem_cons_of_mem _ hy)) h2]
      exact h
    · cases h
theorem e_call {P : Program} {dst : Option Tmp} {f : Operand} {xs : Array Operand} {ts : Array TypeId} {ty : TypeId} {pos : String} {after : Array Edge} {guard : Option (Nat × Bool)} {F0 : Nat → Option AV} {K0 : Nat → Option Blk} {top : Nat} {g : FuncId} {cap : List Pt} {avs : List AV} (hf : evf F0 f = some (.c (.fn g cap))) (hxs : evs F0 xs.toList = some avs)
    {e : Eff} (h : CEff P g cap avs K0 top e) : OpEff P ⟨dst, .call ⟨.value f, xs, ts⟩, ty, pos, after, guard⟩ F0 K0 top e := by
  intro n W F K I R a w hs hx hk hfree hd next Q hn
  have hm : ∀ z ∈ f :: xs.toList, evf F z = evf F0 z := fun z hz => hx z (by simpa [Op.operands, Call.operands] using hz)
  obtain ⟨us, hus, hfu⟩ : ∃ vs, All2 (Pt.rel I) cap vs ∧ a.eval f = .func (.func g) #[] vs.toArray := hs.ev ((hm f (by simp)).trans hf)
  have hev := hs.evs (evs_agree (fun x hx => hm x (List.mem_cons_of_mem _ hx)) hxs)
  have hrun : (execOp a.eval ⟨dst, .call ⟨.value f, xs, ts⟩, ty, pos, after, guard⟩).run P w = .ok (.enter g ((xs.toList.map a.eval).toArray ++ us.toArray)) w := by
    simp only [execOp]
    rw [Sem.run_bind]
    have : xs.map a.eval = (xs.toList.map a.eval).toArray := by apply Array.ext'; simp
    simp [resolve, hfu, Deferred.ofValue, invoke, fnB_call h.1, this]
  unfold Oper.wp
  rw [hrun]
  refine (h.2 W K I R w _ us hs.wd hev hus hk hfree).mono ?_
  rintro e' w' ⟨v, I', R', rfl, h1, h2, h3, h4, h5⟩
  exact hn _ _ _ _ (hs.put h2 h4 h1 hd h5) h2 h3 h4
theorem con_eff {P : Program} {g : FuncId} {avs : List AV} {K0 : Nat → Option Blk} {top : Nat} {args : List A0} {res : AV} {Kc : Kr} {tc : Nat} (h : Con P g args (fun x K t => x = res ∧ K = Kc ∧ t = tc)) (hl : All2 (lowV K0) avs args) :
    CEff P g [] avs K0 top ⟨res.ren (top + ·), avs.flatMap AV.refs, shK top Kc, top + tc⟩ := by
  refine ⟨h.fn, fun W K I R w vs us hw hv hu hk hfree => ?_⟩
  cases us with
  | cons => exact hu.elim
  | nil =>
  have hargs : vs.toArray ++ ([] : List Value).toArray = vs.toArray := by simp
  rw [hargs]
  have hlow : All2 (lowV K) avs args := hl.mono_mem fun x hx b hb => lowV_congr (fun i hi => hk i (List.mem_flatMap.2 ⟨x, hx, hi⟩)) hb
  have hrel : All2 (A0.rel (fun _ => none) (fun _ b o => w.cell? ⟨b, o, none⟩)) args vs := by
    clear h hl hk hfree hargs
    induction avs generalizing args vs with
    | nil => cases args with
      | nil => cases vs with
        | nil => trivial
        | cons => exact hv.elim
      | cons => exact hlow.elim
    | cons x avs ih => cases args with
      | nil => exact hlow.elim
      | cons d args => cases vs with
        | nil => exact hv.elim
        | cons v vs => exact ⟨lowV_rel hw hlow.1 hv.1, ih vs hv.2 hlow.2⟩
  refine (h.run w _ hrel).mono ?_
  rintro e w' ⟨v, x, Kc', tc', Ic, Rf, rfl, hc, hdc, hkc, hxr, rfl, rfl, rfl⟩
  obtain ⟨h1, h2, h3, h4⟩ := adopt_ext (top := top) hw (fun j h1 h2 => (hfree j h1 h2).1) hc hdc hkc hxr
  refine ⟨v, _, _, rfl, h1, h2, fun j hj => ?_, h3, h4⟩
  simp only at hj ⊢
  rw [if_neg hj]
theorem conN_mk {P : Program} {g : FuncId} {avs : List AV} {K : Kr} {top : Nat} {k : Eff → Prop} {args : List A0} {res : AV} {Kc : Kr} {tc : Nat} (h : Con P g args (fun x K t => x = res ∧ K = Kc ∧ t = tc)) (hl : All2 (lowV (kg K)) avs args) (hk : k ⟨res.ren (top + ·), avs.flatMap AV.refs, shK top Kc, top + tc⟩) : conN P g [] avs K top k :=
  ⟨_, con_eff h hl, hk⟩
/-! ### A call that is walked in place, in such a region -/
def Pa.inB (l : List Nat) : Pa → Bool
  | .v _ => true
  | .own i _ _ => l.contains i
def Pt.inB (l : List Nat) : Pt → Bool
  | .ag ps => ps.all (Pa.inB l)
  | .v _ => true
  | .own i _ _ => l.contains i
def Ce.inB (l : List Nat) : Ce → Bool
  | .own i _ _ => l.contains i
  | .osl i _ _ _ => l.contains i
  | .fn _ cap => cap.all (Pt.inB l)
  | .gsl i _ => l.contains i
  | .mpv i => l.contains i
  | .yl i => l.contains i
  | .mf _ ps => ps.all (Pt.inB l)
  | _ => true
def A0.inB (l : List Nat) : A0 → Bool
  | .one c => c.inB l
  | .agg cs => cs.all (Ce.inB l)
def AV.inB (l : List Nat) : AV → Bool
  | .pl a => a.inB l
  | .tup cs => cs.all (A0.inB l)
section
open Classical
noncomputable def onI (l : List Nat) (I : IM) : IM := fun j => if l.contains j = true then I j else none
theorem onI_in {l : List Nat} {I : IM} {j : Nat} (h : l.contains j = true) : onI l I j = I j := by unfold onI; rw [if_pos h]
theorem Pa.rel_in {l : List Nat} {I : IM} {c : Pa} {u : Value} (h : c.inB l = true) (hr : c.rel I u) : c.rel (onI l I) u := by
  cases c with
  | v x => exact hr
  | own i q k => obtain ⟨p, h1, h2⟩ := hr; exact ⟨p, (onI_in h).trans h1, h2⟩
theorem Pt.rel_in {l : List Nat} {I : IM} {c : Pt} {u : Value} (h : c.inB l = true) (hr : c.rel I u) : c.rel (onI l I) u := by
  cases c with
  | v x => exact hr
  | own i q k => obtain ⟨p, h1, h2⟩ := hr; exact ⟨p, (onI_in h).trans h1, h2⟩
  | ag ps => obtain ⟨vs, h1, h2⟩ := hr; exact ⟨vs, h1, h2.mono_mem fun c hc b hb => Pa.rel_in (List.all_eq_true.1 h c hc) hb⟩
theorem Ce.rel_in {l : List Nat} {I : IM} {R : RM} {c : Ce} {u : Value} (h : c.inB l = true) (hr : c.rel I R u) : c.rel (onI l I) R u := by
  cases c with
  | v x => exact hr
  | own i q k => obtain ⟨p, h1, h2⟩ := hr; exact ⟨p, (onI_in h).trans h1, h2⟩
  | osl i q n c => obtain ⟨p, c', h1, h2⟩ := hr; exact ⟨p, c', (onI_in h).trans h1, h2⟩
  | fn f cap => obtain ⟨vs, h1, h2⟩ := hr; exact ⟨vs, h1.mono_mem fun c hc b hb => Pt.rel_in (List.all_eq_true.1 h c hc) hb, h2⟩
  | ro fl sz rows => exact hr
  | rp fl row k => exact hr
  | gsl i rows =>
    rcases hr with hr | ⟨h0, p, c', h1, h2⟩
    · exact .inl hr
    · exact .inr ⟨h0, p, c', (onI_in h).trans h1, h2⟩
  | mpv i => obtain ⟨p, h1, h2⟩ := hr; exact ⟨p, (onI_in h).trans h1, h2⟩
  | yl i => obtain ⟨p, h1, h2⟩ := hr; exact ⟨p, (onI_in h).trans h1, h2⟩
  | mf f ps => obtain ⟨vs, h1, h2⟩ := hr; exact ⟨vs, h1.mono_mem fun c hc b hb => Pt.rel_in (List.all_eq_true.1 h c hc) hb, h2⟩
theorem A0.rel_in {l : List Nat} {I : IM} {R : RM} {c : A0} {u : Value} (h : c.inB l = true) (hr : c.rel I R u) : c.rel (onI l I) R u := by
  cases c with
  | one c => exact Ce.rel_in h hr
  | agg cs => obtain ⟨vs, h1, h2⟩ := hr; exact ⟨vs, h1, h2.mono_mem fun c hc b hb => Ce.rel_in (List.all_eq_true.1 h c hc) hb⟩
theorem AV.rel_in {l : List Nat} {I : IM} {R : RM} {c : AV} {u : Value} (h : c.inB l = true) (hr : c.rel I R u) : c.rel (onI l I) R u := by
  cases c with
  | pl c => exact A0.rel_in h hr
  | tup cs => obtain ⟨vs, h1, h2⟩ := hr; exact ⟨vs, h1, h2.mono_mem fun c hc b hb => A0.rel_in (List.all_eq_true.1 h c hc) hb⟩
def inK (l : List Nat) (K : Kr) : Bool := K.all fun p => match p.2 with
  | some b => b.rows.all fun r => r.all (Ce.inB l)
  | none => true
/-- The blocks of a list that are kept. -/
inductive FK (l : List Nat) : Kr → Kr → Prop
  | nil : FK l [] []
  | keep {p : Nat × Option Blk} {K K' : Kr} (h : l.contains p.1 = true) (k : FK l K K') : FK l (p :: K) (p :: K')
  | drop {p : Nat × Option Blk} {K K' : Kr} (h : l.contains p.1 = false) (k : FK l K K') : FK l (p :: K) K'
/-- What stands ahead of a list. -/
inductive DK (K : Kr) : Kr → Kr → Prop
  | nil : DK K K []
  | cons {p : Nat × Option Blk} {K' D : Kr} (k : DK K K' D) : DK K (p :: K') (p :: D)
theorem DK.eq {K K' D : Kr} (h : DK K K' D) : K' = D ++ K := by
  induction h with
  | nil => rfl
  | cons _ ih => rw [ih]; rfl
theorem FK.out {l : List Nat} {K K' : Kr} (h : FK l K K') : ∀ {i : Nat} {b : Blk}, kg K' i = some b → l.contains i = true := by
  induction h with
  | nil => intro i b h; simp [kg] at h
  | keep h k ih =>
    rename_i p K K'
    intro i b hb
    obtain ⟨p1, p2⟩ := p
    simp only [kg] at hb
    split at hb
    · rename_i he
      rw [← Nat.eq_of_beq_eq_true he]; exact h
    · exact ih hb
  | drop h k ih => exact ih
theorem FK.eq {l : List Nat} {K K' : Kr} (h : FK l K K') : ∀ {i : Nat}, l.contains i = true → kg K' i = kg K i := by
  induction h with
  | nil => intro i _; rfl
  | keep h k ih =>
    rename_i p K K'
    intro i hi
    obtain ⟨p1, p2⟩ := p
    simp only [kg]
    split
    · rfl
    · exact ih hi
  | drop h k ih =>
    rename_i p K K'
    intro i hi
    obtain ⟨p1, p2⟩ := p
    rw [ih hi]
    simp only [kg]
    split
    · rename_i he
      have := Nat.eq_of_beq_eq_true he
      subst this
      simp only at h
      rw [h] at hi; cases hi
    · rfl
theorem kg_mem : ∀ {K : Kr} {i : Nat} {b : Blk}, kg K i = some b → (i, some b) ∈ K
  | [], i, b, h => by simp [kg] at h
  | (j, x) :: K, i, b, h => by
    simp only [kg] at h
    split at h
    · rename_i he
      have := Nat.eq_of_beq_eq_true he
      subst this; subst h
      exact List.mem_cons_self
    · exact List.mem_cons_of_mem _ (kg_mem h)
theorem inK_spec {l : List Nat} {K : Kr} (h : inK l K = true) {i : Nat} {b : Blk} (hb : kg K i = some b) : ∀ r ∈ b.rows, ∀ c ∈ r, c.inB l = true := by
  have := List.all_eq_true.1 h _ (kg_mem hb)
  intro r hr c hc
  exact List.all_eq_true.1 (List.all_eq_true.1 this r hr) c hc
theorem kg_app (K : Kr) : ∀ (D : Kr) (j : Nat), (j ∈ D.map (·.1) ∧ kg (D ++ K) j = kg D j) ∨ (j ∉ D.map (·.1) ∧ kg (D ++ K) j = kg K j)
  | [], j => .inr ⟨by simp, rfl⟩
  | (i, b) :: r, j => by
    simp only [List.cons_append, kg]
    by_cases h : j = i
    · subst h
      exact .inl ⟨by simp, by simp [Nat.beq_refl]⟩
    · have hb : Nat.beq i j = false := by
        cases hh : Nat.beq i j with
        | false => rfl
        | true => exact absurd (Nat.eq_of_beq_eq_true hh).symm h
      rw [hb]
      rcases kg_app K r j with ⟨h1, h2⟩ | ⟨h1, h2⟩
      · exact .inl ⟨by simp at h1 ⊢; exact .inr h1, h2⟩
      · exact .inr ⟨by simp at h1 ⊢; exact ⟨h, h1⟩, h2⟩
theorem kup_kg (K : Nat → Option Blk) : ∀ (Kw : Kr) (j : Nat), (j ∈ Kw.map (·.1) ∧ kup K Kw j = kg Kw j) ∨ (j ∉ Kw.map (·.1) ∧ kup K Kw j = K j)
  | [], j => .inr ⟨by simp, rfl⟩
  | (i, b) :: r, j => by
    simp only [kup, kg]
    by_cases h : j = i
    · subst h
      exact .inl ⟨by simp, by rw [if_pos rfl]; simp [Nat.beq_refl]⟩
    · rw [if_neg h]
      have hb : Nat.beq i j = false := by
        cases hh : Nat.beq i j with
        | false => rfl
        | true => exact absurd (Nat.eq_of_beq_eq_true hh).symm h
      rw [hb]
      rcases kup_kg K r j with ⟨h1, h2⟩ | ⟨h1, h2⟩
      · exact .inl ⟨by simp at h1 ⊢; exact .inr h1, h2⟩
      · exact .inr ⟨by simp at h1 ⊢; exact ⟨h, h1⟩, h2⟩
theorem in_eff {P : Program} {g : FuncId} {cap : List Pt} {avs : List AV} {Kl Kp : Kr} {top : Nat} (l : List Nat) {res : AV} {D : Kr} {t' : Nat} (hlt : l.all (fun i => Nat.blt i top) = true) (hav : avs.all (AV.inB l) = true) (hcap : cap.all (Pt.inB l) = true) (hFK : FK l Kl Kp) (hK : inK l Kp = true)
    (h : ∀ W, CallP P W top g cap avs Kp top fun x Kx t => x = res ∧ DK Kp Kx D ∧ t = t') : CEff P g cap avs (kg Kl) top ⟨res, l, D, t'⟩ := by
  refine ⟨(h (Wo.of default)).fn, fun W K I R w vs us hw hv hu hk hfree => ?_⟩
  simp only at hk hfree
  have hmem : ∀ {i : Nat}, l.contains i = true → i ∈ l := fun h => by simpa using h
  let W' : Wo := ⟨w, fun k => k < w.heap.size ∧ (W.z k ∨ ∃ i b p, l.contains i = false ∧ K i = some b ∧ I i = some p ∧ p.b = k), fun k => W.q k ∨ ∃ i b p, l.contains i = false ∧ K i = some b ∧ I i = some p ∧ p.b = k⟩
  have hKin : ∀ {i b}, kg Kp i = some b → l.contains i = true ∧ K i = some b := fun h =>
    let h1 := hFK.out h; ⟨h1, (hk _ (hmem h1)).trans ((hFK.eq h1).symm.trans h)⟩
  have hIin : ∀ {i p}, onI l I i = some p → l.contains i = true ∧ I i = some p := fun {i p} h => by
    unfold onI at h
    split at h
    · rename_i hc; exact ⟨hc, h⟩
    · cases h
  have hwd : Wd W' (kg Kp) (onI l I) R w := by
    refine ⟨?_, ?_, ?_, hw.ro, ?_, ?_, hw.less, ⟨rfl, rfl, rfl, Nat.le_refl _, fun k hk => ⟨hk.1, rfl⟩⟩, ?_, ?_⟩
    · intro i b hb
      obtain ⟨h1, h2⟩ := hKin hb
      obtain ⟨p, hp, g1, g2, g3, g4, cs, g5, g6, g7⟩ := hw.blk i b h2
      refine ⟨p, (onI_in h1).trans hp, g1, g2, g3, g4, cs, g5, g6, fun q r k c hq hc => ?_⟩
      obtain ⟨u, hu, hr⟩ := g7 q r k c hq hc
      have hin := inK_spec hK hb
      exact ⟨u, hu, Ce.rel_in (hin r (List.mem_of_getElem? hq) c (List.mem_of_getElem? hc)) hr⟩
    · intro i j bi bj p q hi hj hp hq he
      exact hw.inj i j bi bj p q (hKin hi).2 (hKin hj).2 (hIin hp).2 (hIin hq).2 he
    · intro i b p hb hp hz
      obtain ⟨h1, h2⟩ := hKin hb
      rcases hz.2 with hz | ⟨i', b', p', g1, g2, g3, g4⟩
      · exact hw.base i b p h2 (hIin hp).2 hz
      · have := hw.inj _ _ _ _ _ _ g2 h2 g3 (hIin hp).2 g4
        subst this
        rw [g1] at h1; cases h1
    · intro i b p f o hb hp
      exact hw.apart i b p f o (hKin hb).2 (hIin hp).2
    · intro b o u hu hz
      rcases hz.2 with hz | ⟨i', b', p', g1, g2, g3, g4⟩
      · exact hw.fresh b o u hu hz
      · have := hw.apart i' b' p' true o g2 g3
        rw [g4, hu] at this; cases this
    · intro f b o u hu hz
      rcases hz with hz | ⟨i', b', p', g1, g2, g3, g4⟩
      · exact hw.out f b o u hu hz
      · have := hw.apart i' b' p' f o g2 g3
        rw [g4, hu] at this; cases this
    · intro k hq
      rcases hq with hq | ⟨i', b', p', g1, g2, g3, g4⟩
      · exact ⟨hw.below.lt (hw.qz _ hq), .inl (hw.qz _ hq)⟩
      · exact ⟨g4 ▸ hw.lt g2 g3, .inr ⟨i', b', p', g1, g2, g3, g4⟩⟩
  have hdom : ∀ j, top ≤ j → onI l I j = none := fun j hj => by
    unfold onI
    split
    · rename_i hc
      have := List.all_eq_true.1 hlt j (hmem hc)
      rw [Nat.blt_eq] at this
      omega
    · rfl
  have hv' : All2 (AV.rel (onI l I) R) avs vs := hv.mono_mem fun c hc b hb => AV.rel_in (List.all_eq_true.1 hav c hc) hb
  have hu' : All2 (Pt.rel (onI l I)) cap us := hu.mono_mem fun c hc b hb => Pt.rel_in (List.all_eq_true.1 hcap c hc) hb
  refine ((h W').run _ R w vs us hwd hdom (Nat.le_refl _) hv' hu').mono ?_
  rintro e w' ⟨v, x, Kx, tx, I', R', rfl, h', hd', htop, hold, hR, hx, rfl, hD, rfl⟩
  have hDe := hD.eq
  subst hDe
  have hI1 : ∀ {j p}, I' j = some p → j < tx ∧ ((l.contains j = true ∧ I j = some p ∧ j < top) ∨ (top ≤ j)) := fun {j p} hj => by
    have h1 : j < tx := by
      rcases Nat.lt_or_ge j tx with h1 | h1
      · exact h1
      · rw [hd' j h1] at hj; cases hj
    refine ⟨h1, ?_⟩
    rcases Nat.lt_or_ge j top with h2 | h2
    · rw [hold j h2] at hj
      exact .inl ⟨(hIin hj).1, (hIin hj).2, h2⟩
    · exact .inr h2
  let I2 : IM := fun j => if top ≤ j ∧ j < tx then I' j else I j
  have hI' : IExt I' I2 := fun j p hp => by
    obtain ⟨h1, h2⟩ := hI1 hp
    show (if top ≤ j ∧ j < tx then I' j else I j) = some p
    rcases h2 with ⟨_, h2, h3⟩ | h2
    · rw [if_neg (by omega)]; exact h2
    · rw [if_pos ⟨h2, h1⟩]; exact hp
  have hI : IExt I I2 := fun j p hp => by
    show (if top ≤ j ∧ j < tx then I' j else I j) = some p
    rw [if_neg]
    · exact hp
    · intro hj
      rw [(hfree j hj.1 hj.2).1] at hp; cases hp
  have hkey : ∀ {j b}, kup K D j = some b → (kg (D ++ Kp) j = some b) ∨ (l.contains j = false ∧ K j = some b) := fun {j b} hj => by
    rcases kup_kg K D j with ⟨h1, h2⟩ | ⟨h1, h2⟩
    · rcases kg_app Kp D j with ⟨g1, g2⟩ | ⟨g1, _⟩
      · rw [h2] at hj
        exact .inl (g2.trans hj)
      · exact absurd h1 g1
    · rw [h2] at hj
      cases hc : l.contains j with
      | false => exact .inr ⟨rfl, hj⟩
      | true =>
        rcases kg_app Kp D j with ⟨g1, _⟩ | ⟨_, g2⟩
        · exact absurd g1 h1
        · exact .inl (g2.trans ((hFK.eq hc).trans ((hk j (hmem hc)).symm.trans hj)))
  have hfr : ∀ {j b p}, l.contains j = false → K j = some b → I j = some p → W'.z p.b := fun {j b p} h1 h2 h3 => ⟨hw.lt h2 h3, .inr ⟨j, b, p, h1, h2, h3, rfl⟩⟩
  have hzW : ∀ {k}, W.z k → W'.z k := fun {k} hk => ⟨hw.below.lt hk, .inl hk⟩
  have hI2 : ∀ {j b p}, kg (D ++ Kp) j = some b → I2 j = some p → I' j = some p := fun {j b p} hj hp => by
    obtain ⟨p', hp', _⟩ := h'.blk j b hj
    rw [hI' _ _ hp'] at hp
    cases hp; exact hp'
  have hI3 : ∀ {j b p}, K j = some b → I2 j = some p → I j = some p := fun {j b p} hj hp => by
    obtain ⟨p', hp', _⟩ := hw.blk j b hj
    rw [hI _ _ hp'] at hp
    cases hp; exact hp'
  refine ⟨v, I2, R', rfl, ⟨?_, ?_, ?_, h'.ro, ?_, ?_, h'.less, ?_, ?_, hw.qz⟩, hI, fun j hj => if_neg hj, hR, AV.mono hI' (.refl _) hx⟩
  · intro j b hj
    rcases hkey hj with hj | ⟨h1, h2⟩
    · obtain ⟨p, hp, hb⟩ := h'.blk j b hj
      exact ⟨p, hI' _ _ hp, hb.mono hI' (.refl _) rfl⟩
    · obtain ⟨p, hp, hb⟩ := hw.blk j b h2
      exact ⟨p, hI _ _ hp, hb.mono hI hR (h'.below.block _ (hfr h1 h2 hp)).2⟩
  · intro i j bi bj p q hi hj hp hq he
    rcases hkey hi with hi | ⟨h1, hi⟩ <;> rcases hkey hj with hj | ⟨h2, hj⟩
    · exact h'.inj _ _ _ _ _ _ hi hj (hI2 hi hp) (hI2 hj hq) he
    · exact absurd (he ▸ hfr h2 hj (hI3 hj hq)) (h'.base _ _ _ hi (hI2 hi hp))
    · exact absurd (he ▸ hfr h1 hi (hI3 hi hp)) (h'.base _ _ _ hj (hI2 hj hq))
    · exact hw.inj _ _ _ _ _ _ hi hj (hI3 hi hp) (hI3 hj hq) he
  · intro j b p hj hp hz
    rcases hkey hj with hj | ⟨h1, hj⟩
    · exact h'.base _ _ _ hj (hI2 hj hp) (hzW hz)
    · exact hw.base _ _ _ hj (hI3 hj hp) hz
  · intro j b p f o hj hp
    rcases hkey hj with hj | ⟨h1, hj⟩
    · exact h'.apart _ _ _ f o hj (hI2 hj hp)
    · cases hq : R' f p.b o with
      | none => rfl
      | some u => exact absurd (Or.inr ⟨j, b, p, h1, hj, hI3 hj hp, rfl⟩) (h'.out f _ o u hq)
  · exact fun b o u hu hz => h'.fresh b o u hu (hzW hz)
  · exact ⟨h'.below.os.trans hw.below.os, h'.below.tape.trans hw.below.tape, h'.below.output.trans hw.below.output, Nat.le_trans hw.below.size h'.below.size, fun k hk => ⟨(hw.below.block k hk).1, (h'.below.block k (hzW hk)).2.trans (hw.below.block k hk).2⟩⟩
  · exact fun f b o u hu hq => h'.out f b o u hu (.inl hq)
end
def Pa.refs2 : Pa → List Nat
  | .v _ => []
  | .own i _ _ => [i]
def Pt.refs2 : Pt → List Nat
  | .ag l => l.flatMap Pa.refs2
  | .v _ => []
  | .own i _ _ => [i]
def Ce.refs2 : Ce → List Nat
  | .own i _ _ => [i]
  | .osl i _ _ _ => [i]
  | .fn _ cap => cap.flatMap Pt.refs2
  | .gsl i _ => [i]
  | .mpv i => [i]
  | .yl i => [i]
  | .mf _ l => l.flatMap Pt.refs2
  | _ => []
def A0.refs2 : A0 → List Nat
  | .one c => c.refs2
  | .agg cs => cs.flatMap Ce.refs2
def AV.refs2 : AV → List Nat
  | .pl a => a.refs2
  | .tup l => l.flatMap A0.refs2
/-- All that can be reached. -/
def reachK (K : Kr) : Nat → List Nat → List Nat → List Nat
  | 0, _, seen => seen
  | _ + 1, [], seen => seen
  | n + 1, i :: r, seen => match seen.contains i with
    | true => reachK K n r seen
    | false => match kg K i with
      | none => reachK K n r (i :: seen)
      | some b => reachK K n (b.rows.flatMap (fun r => r.flatMap Ce.refs2) ++ r) (i :: seen)
def reach (K : Kr) (cap : List Pt) (avs : List AV) : List Nat := reachK K 2000 (cap.flatMap Pt.refs2 ++ avs.flatMap AV.refs2) []
def inOk (l : List Nat) (cap : List Pt) (avs : List AV) (top : Nat) (Kp : Kr) : Bool := l.all (fun i => Nat.blt i top) && avs.all (AV.inB l) && cap.all (Pt.inB l) && inK l Kp
/-! ### Concrete data -/
def apdOk (m0 L m : Nat) (src : List (List Ce)) (bt : Nat) : Bool := Nat.beq src.length m && src.all (fun r => r.all Ce.single) && Nat.ble m0 L && Nat.ble (m0 + m) maxLen && Nat.ble ((m0 + m) * bt) 140737488355328
theorem apd_mkc {m0 L m : Nat} {src : List (List Ce)} {bt : Nat} {A : Prop} (h : apdOk m0 L m src bt = true) (k : A) : apdN m0 L m src bt A := by
  simp only [apdOk, Bool.and_eq_true] at h
  obtain ⟨⟨⟨⟨h1, h2⟩, h3⟩, h4⟩, h5⟩ := h
  exact ⟨Nat.eq_of_beq_eq_true h1, fun r hr c hc => List.all_eq_true.1 (List.all_eq_true.1 h2 r hr) c hc, Nat.le_of_ble_eq_true h3, Nat.le_of_ble_eq_true h4, Nat.le_of_ble_eq_true h5, k⟩
def cpyOk (q n L m : Nat) (src : List (List Ce)) : Bool := Nat.beq src.length m && src.all (fun r => r.all Ce.single) && Nat.ble (q + n) L
theorem cpy_mkc {q n L m : Nat} {src : List (List Ce)} {A : Prop} (h : cpyOk q n L m src = true) (k : A) : cpyN q n L m src A := by
  simp only [cpyOk, Bool.and_eq_true] at h
  obtain ⟨⟨h1, h2⟩, h3⟩ := h
  exact ⟨Nat.eq_of_beq_eq_true h1, fun r hr c hc => List.all_eq_true.1 (List.all_eq_true.1 h2 r hr) c hc, Nat.le_of_ble_eq_true h3, k⟩
theorem conN.red {P : Program} {g : FuncId} {cap : List Pt} {avs : List AV} {K : Kr} {top : Nat} {k : Eff → Prop} (h : conN P g cap avs K top k) : conN P g cap avs K top k := h
theorem conN_in {P : Program} {g : FuncId} {cap : List Pt} {avs : List AV} {Kl : Kr} {top : Nat} {k : Eff → Prop} {Kp : Kr} {res : AV} {D : Kr} {t' : Nat} (hFK : FK (reach Kl cap avs) Kl Kp) (hok : inOk (reach Kl cap avs) cap avs top Kp = true)
    (h : ∀ W, CallP P W top g cap avs Kp top fun x Kx t => x = res ∧ DK Kp Kx D ∧ t = t') (hk : k ⟨res, reach Kl cap avs, D, t'⟩) : conN P g cap avs Kl top k := by
  simp only [inOk, Bool.and_eq_true] at hok
  exact ⟨_, in_eff _ hok.1.1.1 hok.1.1.2 hok.1.2 hFK hok.2 h, hk⟩
def onD (n : Nat) (o : Oper) (F : Fr) (K : Kr) (top : Nat) (k : Ent → S → Prop) (e : Eff) : Prop :=
  match e with
  | ⟨av, rd, kw, top'⟩ => match Nat.ble top top' with
    | true => match o.dst, kw with
      | none, [] => k ⟨o, false, ⟨av, rd, [], top'⟩, top⟩ ⟨F, K, top'⟩
      | some d, [] => k ⟨o, false, ⟨av, rd, [], top'⟩, top⟩ ⟨(d, av) :: F, K, top'⟩
      | none, [p] => k ⟨o, false, ⟨av, rd, [p], top'⟩, top⟩ ⟨F, p :: K, top'⟩
      | some d, [p] => k ⟨o, false, ⟨av, rd, [p], top'⟩, top⟩ ⟨(d, av) :: F, p :: K, top'⟩
      | dst, kw => k ⟨o, false, ⟨av, rd, kw, top'⟩, top⟩ ⟨put F dst av, kw ++ K, top'⟩
    | false => False
section
variable (P : Program) (T : Tab) (n : Nat)
def stepD (o : Oper) (F : Fr) (K : Kr) (top : Nat) (k : Ent → S → Prop) : Prop :=
  match o with
  | ⟨dst, op, ty, pos, after, guard⟩ => match dstB n dst with
    | true => match callOf op with
      | some (f, xs) => match evf (get F) f, evs (get F) xs with
        | some (.pl (.one (.fn g cap))), some avs => conN P g cap avs K top (onD n ⟨dst, op, ty, pos, after, guard⟩ F K top k)
        | _, _ => False
      | none => opA P T ⟨dst, op, ty, pos, after, guard⟩ (get F) (kg K) top (onD n ⟨dst, op, ty, pos, after, guard⟩ F K top k)
    | false => False
def drawA (ops : Array Oper) : List Oper → S → List Ent → (List Ent → S → Prop) → Prop
  | [], s, acc, k => k acc.reverse s
  | ⟨dst, op, ty, pos, after, guard⟩ :: r, ⟨F, K, top⟩, acc, k => match guard with
    | none => stepD P T n ⟨dst, op, ty, pos, after, none⟩ F K top fun x s' => drawA ops r s' (x :: acc) k
    | some (g, want) => match dstB n dst, (ops[g]?).bind (·.dst) with
      | true, some t => match get F t with
        | some (.pl (.one (.v (.bool b)))) => match want, dst with
          | true, some d => spB b (stepD P T n ⟨dst, op, ty, pos, after, some (g, want)⟩ ((t, .val (.bool true)) :: F) K top fun x s' => drawA ops r s' (x :: acc) k) (drawA ops r ⟨(d, .val undef) :: (t, .val (.bool false)) :: F, K, top⟩ (⟨⟨dst, op, ty, pos, after, some (g, want)⟩, true, ⟨.val undef, [], [], top⟩, top⟩ :: acc) k)
          | false, some d => spB b (drawA ops r ⟨(d, .val undef) :: (t, .val (.bool true)) :: F, K, top⟩ (⟨⟨dst, op, ty, pos, after, some (g, want)⟩, true, ⟨.val undef, [], [], top⟩, top⟩ :: acc) k) (stepD P T n ⟨dst, op, ty, pos, after, some (g, want)⟩ ((t, .val (.bool false)) :: F) K top fun x s' => drawA ops r s' (x :: acc) k)
          | true, none => spB b (stepD P T n ⟨dst, op, ty, pos, after, some (g, want)⟩ ((t, .val (.bool true)) :: F) K top fun x s' => drawA ops r s' (x :: acc) k) (drawA ops r ⟨(t, .val (.bool false)) :: F, K, top⟩ (⟨⟨dst, op, ty, pos, after, some (g, want)⟩, true, ⟨.val undef, [], [], top⟩, top⟩ :: acc) k)
          | false, none => spB b (drawA ops r ⟨(t, .val (.bool true)) :: F, K, top⟩ (⟨⟨dst, op, ty, pos, after, some (g, want)⟩, true, ⟨.val undef, [], [], top⟩, top⟩ :: acc) k) (stepD P T n ⟨dst, op, ty, pos, after, some (g, want)⟩ ((t, .val (.bool false)) :: F) K top fun x s' => drawA ops r s' (x :: acc) k)
        | some (.pl (.one (.v (.tuple _)))) => match dst with
          | some d => drawA ops r ⟨(d, .val undef) :: F, K, top⟩ (⟨⟨dst, op, ty, pos, after, some (g, want)⟩, true, ⟨.val undef, [], [], top⟩, top⟩ :: acc) k
          | none => drawA ops r ⟨F, K, top⟩ (⟨⟨dst, op, ty, pos, after, some (g, want)⟩, true, ⟨.val undef, [], [], top⟩, top⟩ :: acc) k
        | _ => False
      | _, _ => False
end
structure apN (ops : Array Oper) (xs : List Ent) (A : Prop) : Prop where
  h : apartB ops xs = true
  k : A
theorem apN_mk {ops : Array Oper} {xs : List Ent} {A : Prop} (h : apartB ops xs = true) (k : A) : apN ops xs A := ⟨h, k⟩
section
variable {P : Program} {T : Tab} {W : Wo} {n m : Nat} {ops : Array Oper}
def Chain (P : Program) (ops : Array Oper) (n : Nat) : List Ent → (Nat → Option AV) → (Nat → Option Blk) → Nat → (Nat → Option AV) → (Nat → Option Blk) → Nat → Prop
  | [], F, K, top, F', K', top' => F = F' ∧ K = K' ∧ top = top'
  | x :: xs, F, K, top, F', K', top' => EntOk P ops n x F K ∧ x.top = top ∧ Chain P ops n xs (fput F x.o.dst x.e.av) (kup K x.e.kw) x.e.top F' K' top'
theorem gv_shift {β : Type} (g : Ent → Nat → β → β) {t : Nat} : ∀ (xs : List Ent) (k : Nat) (E : Nat → Bool) (v : β), gv g xs (k + 1) E t v = gv g xs k (fun j => E (j + 1)) t v
  | [], _, _, _ => rfl
  | x :: xs, k, E, v => by simp only [gv]; exact gv_shift g xs (k + 1) E _
theorem Chain.at : ∀ {xs : List Ent} {F : Nat → Option AV} {K : Nat → Option Blk} {top : Nat} {F' : Nat → Option AV} {K' : Nat → Option Blk} {top' : Nat}, Chain P ops n xs F K top F' K' top' →
    (∀ (i : Nat) (x : Ent), xs[i]? = some x → EntOk P ops n x (fE xs (fun j => decide (j < i)) F) (kE xs (fun j => decide (j < i)) K)) ∧ fE xs (fun _ => true) F = F' ∧ kE xs (fun _ => true) K = K' ∧ top ≤ top' ∧
    (∀ (i : Nat) (x : Ent), xs[i]? = some x → top ≤ x.top ∧ x.e.top ≤ top') ∧ (∀ (i j : Nat) (x y : Ent), i < j → xs[i]? = some x → xs[j]? = some y → x.e.top ≤ y.top)
  | [], F, K, top, F', K', top', h => by
    obtain ⟨rfl, rfl, rfl⟩ := h
    exact ⟨fun i x h => (by simp at h), rfl, rfl, Nat.le_refl _, fun i x h => (by simp at h), fun i j x y _ h => (by simp at h)⟩
  | x :: xs, F, K, top, F', K', top', h => by
    obtain ⟨h1, rfl, h3⟩ := h
    obtain ⟨g1, g2, g3, g4, g5, g6⟩ := h3.at
    have hF : (fun t => gF x t (F t)) = fput F x.o.dst x.e.av := by funext t; rw [fput_one]
    have hK : (fun t => gK x t (K t)) = kup K x.e.kw := by funext t; rw [kup_one]; rfl
    have hle := h1.2.1
    refine ⟨?_, ?_, ?_, Nat.le_trans hle g4, ?_, ?_⟩
    · intro i y hy
      cases i with
      | zero =>
        simp at hy; subst hy
        have e1 : fE (x :: xs) (fun j => decide (j < 0)) F = F := by funext t; exact gv_none gF (x :: xs) 0 0 _ (Nat.le_refl _)
        have e2 : kE (x :: xs) (fun j => decide (j < 0)) K = K := by funext t; exact gv_none gK (x :: xs) 0 0 _ (Nat.le_refl _)
        rw [e1, e2]; exact h1
      | succ i =>
        have e1 : fE (x :: xs) (fun j => decide (j < i + 1)) F = fE xs (fun j => decide (j < i)) (fput F x.o.dst x.e.av) := by
          rw [← hF]; funext t
          show gv gF xs (0 + 1) _ t (if decide (0 < i + 1) = true then gF x t (F t) else F t) = _
          rw [if_pos (by simp), gv_shift]
          congr 1; funext j; simp
        have e2 : kE (x :: xs) (fun j => decide (j < i + 1)) K = kE xs (fun j => decide (j < i)) (kup K x.e.kw) := by
          rw [← hK]; funext t
          show gv gK xs (0 + 1) _ t (if decide (0 < i + 1) = true then gK x t (K t) else K t) = _
          rw [if_pos (by simp), gv_shift]
          congr 1; funext j; simp
        rw [e1, e2]
        exact g1 i y (by simpa using hy)
    · rw [← g2, ← hF]; funext t
      show gv gF xs (0 + 1) _ t (if true = true then gF x t (F t) else F t) = _
      rw [if_pos rfl, gv_shift]
    · rw [← g3, ← hK]; funext t
      show gv gK xs (0 + 1) _ t (if true = true then gK x t (K t) else K t) = _
      rw [if_pos rfl, gv_shift]
    · intro i y hy
      cases i with
      | zero => simp at hy; subst hy; exact ⟨Nat.le_refl _, g4⟩
      | succ i => have := g5 i y (by simpa using hy); exact ⟨Nat.le_trans hle this.1, this.2⟩
    · intro i j y z hij hy hz
      cases j with
      | zero => omega
      | succ j =>
        cases i with
        | zero => simp at hy; subst hy; exact (g5 j z (by simpa using hz)).1
        | succ i => exact g6 i j y z (by omega) (by simpa using hy) (by simpa using hz)
theorem get_lit {F : Fr} {t : Nat} {x : AV} (h : get F t = some x) : get ((t, x) :: F) = get F := by
  have := get_put F (some t) x
  simp only [Wx.put] at this
  rw [this]
  funext u
  simp only [fput]
  split
  · rename_i e; subst e; exact h.symm
  · rfl
theorem onD_spec {o : Oper} {F : Fr} {K : Kr} {top : Nat} {k : Ent → S → Prop} {e : Eff} (h : onD n o F K top k e) : top ≤ e.top ∧ k ⟨o, false, e, top⟩ ⟨Wx.put F o.dst e.av, e.kw ++ K, e.top⟩ := by
  obtain ⟨av, rd, kw, top'⟩ := e
  unfold onD at h
  simp only at h
  split at h
  · rename_i hb
    refine ⟨by simpa [Nat.ble_eq] using hb, ?_⟩
    obtain ⟨dst, op, ty, pos, after, guard⟩ := o
    simp only at h ⊢
    split at h <;> exact h
  · exact h.elim
theorem stepD_spec (hT : TabOk P T) {o : Oper} {F : Fr} {K : Kr} {top : Nat} {k : Ent → S → Prop} (h : stepD P T n o F K top k) : dstB n o.dst = true ∧ ∃ e, OpEff P o (get F) (kg K) top e ∧ top ≤ e.top ∧ k ⟨o, false, e, top⟩ ⟨Wx.put F o.dst e.av, e.kw ++ K, e.top⟩ := by
  obtain ⟨dst, op, ty, pos, after, guard⟩ := o
  unfold stepD at h
  simp only at h
  split at h
  · rename_i hd
    refine ⟨hd, ?_⟩
    split at h
    · rename_i f xs hc
      unfold callOf at hc
      split at hc
      · rename_i f' xs' ts
        simp only [Option.some.injEq, Prod.mk.injEq] at hc
        obtain ⟨rfl, rfl⟩ := hc
        split at h
        · rename_i g cap avs hf hxs
          obtain ⟨e, he, hk⟩ := h.h
          obtain ⟨h1, h2⟩ := onD_spec hk
          exact ⟨_, e_call hf hxs he, h1, h2⟩
        · exact h.elim
      · cases hc
    · obtain ⟨e, he, hk⟩ := opA_sound hT h
      obtain ⟨h1, h2⟩ := onD_spec hk
      exact ⟨e, he, h1, h2⟩
  · exact h.elim
theorem drawA_spec (hT : TabOk P T) {k : List Ent → S → Prop} : ∀ (l : List Oper) (s : S) (acc : List Ent), drawA P T n ops l s acc k → ∃ xs s', xs.map (·.o) = l ∧ Chain P ops n xs (get s.F) (kg s.K) s.top (get s'.F) (kg s'.K) s'.top ∧ k (acc.reverse ++ xs) s'
  | [], s, acc, h => ⟨[], s, rfl, ⟨rfl, rfl, rfl⟩, by simpa [drawA] using h⟩
  | ⟨dst, op, ty, pos, after, guard⟩ :: r, ⟨F, K, top⟩, acc, h => by
    have step : ∀ (o : Oper) (F1 : Fr), get F1 = get F → (∀ e, dstB n o.dst = true → top ≤ e.top → OpEff P o (get F) (kg K) top e → EntOk P ops n ⟨o, false, e, top⟩ (get F) (kg K)) →
        stepD P T n o F1 K top (fun x s' => drawA P T n ops r s' (x :: acc) k) → ∃ xs s', xs.map (·.o) = o :: r ∧ Chain P ops n xs (get F) (kg K) top (get s'.F) (kg s'.K) s'.top ∧ k (acc.reverse ++ xs) s' := by
      intro o F1 hF hok hs
      obtain ⟨h0, e, h1, h2, h3⟩ := stepD_spec hT hs
      obtain ⟨xs, s', g1, g2, g3⟩ := drawA_spec hT r _ _ h3
      rw [hF] at h1
      refine ⟨⟨o, false, e, top⟩ :: xs, s', by simp [g1], ⟨hok e h0 h2 h1, rfl, ?_⟩, by simpa using g3⟩
      rw [get_put, kg_append, hF] at g2
      exact g2
    have skip : ∀ (o : Oper) (F1 : Fr), get F1 = fput (get F) o.dst (.val undef) → EntOk P ops n ⟨o, true, ⟨.val undef, [], [], top⟩, top⟩ (get F) (kg K) →
        drawA P T n ops r ⟨F1, K, top⟩ (⟨o, true, ⟨.val undef, [], [], top⟩, top⟩ :: acc) k → ∃ xs s', xs.map (·.o) = o :: r ∧ Chain P ops n xs (get F) (kg K) top (get s'.F) (kg s'.K) s'.top ∧ k (acc.reverse ++ xs) s' := by
      intro o F1 hF hok hs
      obtain ⟨xs, s', g1, g2, g3⟩ := drawA_spec hT r _ _ hs
      refine ⟨⟨o, true, ⟨.val undef, [], [], top⟩, top⟩ :: xs, s', by simp [g1], ⟨hok, rfl, ?_⟩, by simpa using g3⟩
      simp only [hF] at g2
      exact g2
    unfold drawA at h
    split at h
    · exact step ⟨dst, op, ty, pos, after, none⟩ F rfl (fun e h1 h2 h3 => ⟨h1, h2, h3, .inl rfl⟩) h
    · rename_i g want
      split at h
      · rename_i t hdst hgd
        split at h
        · rename_i b ht
          have hs : ∀ (want' : Bool), (b == want') = true → want = want' → ∀ e, dstB n dst = true → top ≤ e.top → OpEff P ⟨dst, op, ty, pos, after, some (g, want)⟩ (get F) (kg K) top e → EntOk P ops n ⟨⟨dst, op, ty, pos, after, some (g, want)⟩, false, e, top⟩ (get F) (kg K) :=
            fun want' hb hw e h1 h2 h3 => ⟨h1, h2, h3, .inr ⟨g, want, t, b, rfl, hgd, ht, by rw [hw]; exact hb⟩⟩
          have hk : (b == want) = false → EntOk P ops n ⟨⟨dst, op, ty, pos, after, some (g, want)⟩, true, ⟨.val undef, [], [], top⟩, top⟩ (get F) (kg K) :=
            fun hb => ⟨hdst, Nat.le_refl _, rfl, rfl, rfl, rfl, g, want, t, rfl, hgd, .inl ⟨b, ht, hb⟩⟩
          have hu : ∀ x : AV, get F t = some x → ∀ d, get (Wx.put ((t, x) :: F) d (.val undef)) = fput (get F) d (.val undef) := fun x hx d => by rw [get_put, get_lit hx]
          split at h
          · cases b with
            | true => exact step ⟨_, op, ty, pos, after, some (g, true)⟩ _ (get_lit ht) (hs true rfl rfl) (h.t rfl)
            | false => exact skip ⟨_, op, ty, pos, after, some (g, true)⟩ _ (hu _ ht (some _)) (hk rfl) (h.f rfl)
          · cases b with
            | true => exact skip ⟨_, op, ty, pos, after, some (g, false)⟩ _ (hu _ ht (some _)) (hk rfl) (h.t rfl)
            | false => exact step ⟨_, op, ty, pos, after, some (g, false)⟩ _ (get_lit ht) (hs false rfl rfl) (h.f rfl)
          · cases b with
            | true => exact step ⟨_, op, ty, pos, after, some (g, true)⟩ _ (get_lit ht) (hs true rfl rfl) (h.t rfl)
            | false => exact skip ⟨_, op, ty, pos, after, some (g, true)⟩ _ (hu _ ht none) (hk rfl) (h.f rfl)
          · cases b with
            | true => exact skip ⟨_, op, ty, pos, after, some (g, false)⟩ _ (hu _ ht none) (hk rfl) (h.t rfl)
            | false => exact step ⟨_, op, ty, pos, after, some (g, false)⟩ _ (get_lit ht) (hs false rfl rfl) (h.f rfl)
        · rename_i l ht
          have h' : drawA P T n ops r ⟨Wx.put F dst (.val undef), K, top⟩ (⟨⟨dst, op, ty, pos, after, some (g, want)⟩, true, ⟨.val undef, [], [], top⟩, top⟩ :: acc) k := by cases dst <;> exact h
          exact skip ⟨dst, op, ty, pos, after, some (g, want)⟩ _ (get_put _ _ _) ⟨hdst, Nat.le_refl _, rfl, rfl, rfl, rfl, g, want, t, rfl, hgd, .inr ⟨l, ht⟩⟩ h'
        · exact h.elim
      · exact h.elim
theorem draw_rule (hT : TabOk P T) (hmix : P.follows .mixedOrders = true) {id : Nat} {s : S} {k : S → Prop} (h : drawA P T n ops ops.toList s [] fun xs s' => apN ops xs (k s')) : DrawN P W n m id ops s k := by
  refine ⟨fun I R a w hs hd hm => ?_⟩
  obtain ⟨xs, s', h1, h2, h3⟩ := drawA_spec hT _ _ _ h
  obtain ⟨hap, hk⟩ := h3
  simp only [List.reverse_nil, List.nil_append] at hap
  obtain ⟨g1, g2, g3, g4, g5, g6⟩ := h2.at
  have hemp : ∀ i, (Array.replicate ops.size false).getD i false = false := fun i => by
    simp only [Array.getD_eq_getD_getElem?, Array.getElem?_replicate]
    split <;> rfl
  have hfalse : ∀ {β : Type} (g : Ent → Nat → β → β) (t : Nat) (v : β), gv g xs 0 (fun i => (Array.replicate ops.size false).getD i false) t v = v := fun g t v => by
    rw [gv_congr g xs 0 _ (fun j => decide (j < 0)) v (fun j x _ hne => absurd (by rw [hemp]; simp) hne)]
    exact gv_none g xs 0 0 v (Nat.le_refl _)
  have e1 : fE xs (fun i => (Array.replicate ops.size false).getD i false) (get s.F) = get s.F := by funext t; exact hfalse gF t _
  have e2 : kE xs (fun i => (Array.replicate ops.size false).getD i false) (kg s.K) = kg s.K := by funext t; exact hfalse gK t _
  refine wp_region_any hmix (draw_sound (W := W) xs h1 hap (get s.F) (kg s.K) s.top s'.top g4 g1 g5 g6 I R ?_ ops.size _ I R a { w with drawn := w.drawn + 1 } (by simp) ?_ ?_ ?_ (fun j hj _ => hd j hj) (fun _ _ => rfl) (.refl _))
  · intro I' R' a' w' hs' hd' hI hR
    rw [g2, g3] at hs'
    exact ⟨s', I', R', hs', hd', Nat.le_trans hm g4, fun j hj => hI j (Nat.lt_of_lt_of_le hj hm), hR, hk⟩
  · intro i o _ hE
    simp only [hemp] at hE
    cases hE
  · have : ∀ (N : Nat) (p : Nat → Bool), cnt N p ≤ N := by
      intro N
      induction N with
      | zero => intro p; exact Nat.le_refl _
      | succ N ih => intro p; have := ih p; simp only [cnt]; split <;> omega
    exact this _ _
  · rw [e1, e2]
    exact hs.grow ((Below.refl _ w).drew)
end
end Go.Proofs.Ytllnmdmmmkoiaaa.Wx
