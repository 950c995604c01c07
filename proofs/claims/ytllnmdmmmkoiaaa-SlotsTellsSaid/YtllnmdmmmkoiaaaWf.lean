/-
  A walk by computation: what is kept at a loop's head, loops, contracts, calls walked in place, results.
-/
import Derived.Test.YtllnmdmmmkoiaaaWe
namespace Go.Proofs.Ytllnmdmmmkoiaaa.Wx
open Go Go.RowKit
set_option linter.unusedVariables false

/-! ### Other names for own blocks -/
def rn (l : List Nat) (big j : Nat) : Nat :=
  match l[j]? with
  | some i => i
  | none => big + j
def Pa.ren (r : Nat → Nat) : Pa → Pa
  | .v x => .v x
  | .own i q k => .own (r i) q k
def Pt.ren (r : Nat → Nat) : Pt → Pt
  | .ag l => .ag (l.map (Pa.ren r))
  | .v x => .v x
  | .own i q k => .own (r i) q k
def Ce.ren (r : Nat → Nat) : Ce → Ce
  | .v x => .v x
  | .own i q k => .own (r i) q k
  | .osl i q n c => .osl (r i) q n c
  | .fn f cap => .fn f (cap.map (Pt.ren r))
  | .ro fl sz rows => .ro fl sz rows
  | .rp fl row k => .rp fl row k
  | .gsl i rows => .gsl (r i) rows
  | .mpv i => .mpv (r i)
  | .yl i => .yl (r i)
  | .mf f l => .mf f (l.map (Pt.ren r))
def A0.ren (r : Nat → Nat) : A0 → A0
  | .one c => .one (c.ren r)
  | .agg cs => .agg (cs.map (Ce.ren r))
def AV.ren (r : Nat → Nat) : AV → AV
  | .pl a => .pl (a.ren r)
  | .tup l => .tup (l.map (A0.ren r))
def Blk.ren (r : Nat → Nat) (b : Blk) : Blk := ⟨b.rows.map (List.map (Ce.ren r)), b.sz, b.ty, b.bx⟩
theorem All2.of_map {α β γ : Type} {r : γ → β → Prop} (f : α → γ) : ∀ {l : List α} {m : List β}, All2 r (l.map f) m → All2 (fun a b => r (f a) b) l m
  | [], [], _ => trivial
  | a :: l, b :: m, hh => ⟨hh.1, All2.of_map f hh.2⟩
  | [], _ :: _, hh => hh.elim
  | _ :: _, [], hh => hh.elim
section
variable {I : IM} {R : RM} {r : Nat → Nat}
theorem Pt.rel_ren {p : Pt} {u : Value} : (p.ren r).rel I u ↔ p.rel (fun j => I (r j)) u := by
  have hpa : ∀ {q : Pa} {v : Value}, (q.ren r).rel I v ↔ q.rel (fun j => I (r j)) v := fun {q v} => by cases q <;> exact Iff.rfl
  cases p with
  | ag l =>
    constructor
    · rintro ⟨vs, h1, h2⟩; exact ⟨vs, h1, (All2.of_map _ h2).mono fun _ _ => hpa.1⟩
    · rintro ⟨vs, h1, h2⟩; exact ⟨vs, h1, All2.map _ (h2.mono fun _ _ => hpa.2)⟩
  | _ => exact Iff.rfl
theorem Ce.rel_ren {c : Ce} {u : Value} : (c.ren r).rel I R u ↔ c.rel (fun j => I (r j)) R u := by
  cases c with
  | fn f cap =>
    constructor
    · rintro ⟨vs, h1, h2⟩; exact ⟨vs, (All2.of_map _ h1).mono fun _ _ => Pt.rel_ren.1, h2⟩
    · rintro ⟨vs, h1, h2⟩; exact ⟨vs, All2.map _ (h1.mono fun _ _ => Pt.rel_ren.2), h2⟩
  | mf f l =>
    constructor
    · rintro ⟨vs, h1, h2⟩; exact ⟨vs, (All2.of_map _ h1).mono fun _ _ => Pt.rel_ren.1, h2⟩
    · rintro ⟨vs, h1, h2⟩; exact ⟨vs, All2.map _ (h1.mono fun _ _ => Pt.rel_ren.2), h2⟩
  | _ => exact Iff.rfl
theorem A0.rel_ren {c : A0} {u : Value} : (c.ren r).rel I R u ↔ c.rel (fun j => I (r j)) R u := by
  cases c with
  | one c => exact Ce.rel_ren
  | agg cs =>
    constructor
    · rintro ⟨vs, h1, h2⟩; exact ⟨vs, h1, (All2.of_map _ h2).mono fun _ _ => Ce.rel_ren.1⟩
    · rintro ⟨vs, h1, h2⟩; exact ⟨vs, h1, All2.map _ (h2.mono fun _ _ => Ce.rel_ren.2)⟩
theorem AV.rel_ren {c : AV} {u : Value} : (c.ren r).rel I R u ↔ c.rel (fun j => I (r j)) R u := by
  cases c with
  | pl c => exact A0.rel_ren
  | tup cs =>
    constructor
    · rintro ⟨vs, h1, h2⟩; exact ⟨vs, h1, (All2.of_map _ h2).mono fun _ _ => A0.rel_ren.1⟩
    · rintro ⟨vs, h1, h2⟩; exact ⟨vs, h1, All2.map _ (h2.mono fun _ _ => A0.rel_ren.2)⟩
theorem Bk.ren {b : Blk} {p : Loc} {w : World} : Bk I R (b.ren r) p w ↔ Bk (fun j => I (r j)) R b p w := by
  constructor
  · rintro ⟨h1, h2, h3, h4, cs, h5, h6, h7⟩
    refine ⟨h1, by simpa [Blk.ren] using h2, h3, fun x hx => ?_, cs, h5, h6, fun q x k c hq hk => ?_⟩
    · have := h4 (x.map (Ce.ren r)) (List.mem_map.2 ⟨x, hx, rfl⟩); simpa [Blk.ren] using this
    · obtain ⟨u, hu, hr⟩ := h7 q (x.map (Ce.ren r)) k (c.ren r) (by simp [Blk.ren, hq]) (by simp [hk])
      exact ⟨u, hu, Ce.rel_ren.1 hr⟩
  · rintro ⟨h1, h2, h3, h4, cs, h5, h6, h7⟩
    refine ⟨h1, by simpa [Blk.ren] using h2, h3, fun x hx => ?_, cs, h5, h6, fun q x k c hq hk => ?_⟩
    · obtain ⟨y, hy, rfl⟩ := List.mem_map.1 hx
      simpa [Blk.ren] using h4 y hy
    · simp only [Blk.ren, List.getElem?_map, Option.map_eq_some_iff] at hq
      obtain ⟨y, hy, rfl⟩ := hq
      simp only [List.getElem?_map, Option.map_eq_some_iff] at hk
      obtain ⟨c', hc', rfl⟩ := hk
      obtain ⟨u, hu, hr⟩ := h7 q y k c' hy hc'
      exact ⟨u, hu, Ce.rel_ren.2 hr⟩
end
def subF (r : Nat → Nat) (F : Fr) : Fr → Prop
  | [] => True
  | (t, x) :: G => get F t = some (x.ren r) ∧ subF r F G
def subK (r : Nat → Nat) (K : Kr) : Kr → Prop
  | [] => True
  | (j, o) :: G => (∀ b, o = some b → kg K (r j) = some (b.ren r)) ∧ subK r K G
theorem subF.get {r : Nat → Nat} {F : Fr} : ∀ {G : Fr} {t : Nat} {x : AV}, subF r F G → Wx.get G t = some x → Wx.get F t = some (x.ren r)
  | [], t, x, _, h => by simp [Wx.get] at h
  | (k, y) :: G, t, x, hs, h => by
    simp only [Wx.get] at h
    cases hb : Nat.beq k t with
    | true =>
      simp only [hb, Option.some.injEq] at h
      subst h
      rw [← Nat.eq_of_beq_eq_true hb]
      exact hs.1
    | false =>
      simp only [hb] at h
      exact subF.get hs.2 h
theorem subK.get {r : Nat → Nat} {K : Kr} : ∀ {G : Kr} {j : Nat} {b : Blk}, subK r K G → kg G j = some b → kg K (r j) = some (b.ren r)
  | [], j, b, _, h => by simp [kg] at h
  | (k, y) :: G, j, b, hs, h => by
    simp only [kg] at h
    cases hb : Nat.beq k j with
    | true =>
      simp only [hb] at h
      rw [← Nat.eq_of_beq_eq_true hb]
      exact hs.1 b h
    | false =>
      simp only [hb] at h
      exact subK.get (G := G) hs.2 h
/-- What is kept: fewer slots, fewer blocks, under other names. -/
structure Wk (m : Nat) (l : List Nat) (s s0 : S) : Prop where
  len : l.length = s0.top
  nd : l.Nodup
  pre : l.take m = List.range m
  mle : m ≤ s0.top
  F : subF (rn l s.top) s.F s0.F
  K : subK (rn l s.top) s.K s0.K
section
variable {P : Program} {T : Tab} {W : Wo} {n m : Nat} {I : IM} {R : RM} {a : Act} {w : World} {s s0 : S}
theorem rn_dom {l : List Nat} (hlen : l.length = s0.top) (hd : ∀ j, s.top ≤ j → I j = none) : ∀ j, s0.top ≤ j → I (rn l s.top j) = none := fun j hj => by
  unfold rn
  rw [List.getElem?_eq_none (by omega)]
  exact hd (s.top + j) (by omega)
theorem rn_inj {l : List Nat} (nd : l.Nodup) {i j : Nat} (hi : I (rn l s.top i) ≠ none) (hj : I (rn l s.top j) ≠ none) (hd : ∀ j, s.top ≤ j → I j = none) (h : rn l s.top i = rn l s.top j) : i = j := by
  have low : ∀ i, I (rn l s.top i) ≠ none → ∃ k, l[i]? = some k := fun i hi => by
    unfold rn at hi
    split at hi
    · rename_i k hk; exact ⟨k, hk⟩
    · exact absurd (hd _ (by omega)) hi
  obtain ⟨k1, h1⟩ := low i hi
  obtain ⟨k2, h2⟩ := low j hj
  have hlt := (List.getElem?_eq_some_iff.1 h1).1
  unfold rn at h
  rw [h1, h2] at h
  simp only at h
  subst h
  exact (List.getElem?_inj hlt nd).1 (h1.trans h2.symm)
theorem Wd.weak {K0 : Kr} {l : List Nat} (h : Wd W (kg s.K) I R w) (nd : l.Nodup) (hK : subK (rn l s.top) s.K K0) (hd : ∀ j, s.top ≤ j → I j = none) : Wd W (kg K0) (fun j => I (rn l s.top j)) R w := by
  refine ⟨?_, ?_, ?_, h.ro, ?_, h.fresh, h.less, h.below, h.out, h.qz⟩
  · intro i b hi
    obtain ⟨p, hp, hk⟩ := h.blk _ _ (hK.get hi)
    exact ⟨p, hp, Bk.ren.1 hk⟩
  · intro i j bi bj p q hi hj hp hq he
    have hp' : I (rn l s.top i) = some p := hp
    have hq' : I (rn l s.top j) = some q := hq
    exact rn_inj nd (by simp [hp']) (by simp [hq']) hd (h.inj _ _ _ _ _ _ (hK.get hi) (hK.get hj) hp hq he)
  · intro i b p hi hp
    exact h.base _ _ _ (hK.get hi) hp
  · intro i b p f o hi hp
    exact h.apart _ _ _ f o (hK.get hi) hp
theorem Wk.st {l : List Nat} (h : Wk m l s s0) (hs : St n W (get s.F) (kg s.K) I R a w) (hd : ∀ j, s.top ≤ j → I j = none) :
    St n W (get s0.F) (kg s0.K) (fun j => I (rn l s.top j)) R a w ∧ (∀ j, s0.top ≤ j → (fun j => I (rn l s.top j)) j = none) ∧ ∀ j, j < m → (fun j => I (rn l s.top j)) j = I j := by
  refine ⟨⟨hs.size, hs.defers, fun t x hx => AV.rel_ren.1 (hs.fr t _ (h.F.get hx)), hs.wd.weak h.nd h.K hd⟩, rn_dom h.len hd, fun j hj => ?_⟩
  have : l[j]? = some j := by
    have h1 : (l.take m)[j]? = some j := by rw [h.pre]; simp [hj]
    rwa [List.getElem?_take, if_pos hj] at h1
  simp [rn, this]
/-- From one account of a state to another one. -/
def Stp (m : Nat) (s s' : S) : Prop := ∀ (n : Nat) (W : Wo) (I : IM) (R : RM) (a : Act) (w : World), St n W (get s.F) (kg s.K) I R a w → (∀ j, s.top ≤ j → I j = none) →
  ∃ I' R', St n W (get s'.F) (kg s'.K) I' R' a w ∧ (∀ j, s'.top ≤ j → I' j = none) ∧ m ≤ s'.top ∧ (∀ j, j < m → I' j = I j) ∧ RExt R R'
theorem Wk.stp {l : List Nat} (h : Wk m l s s0) : Stp m s s0 := fun n W I R a w hs hd => by
  obtain ⟨g1, g2, g3⟩ := h.st hs hd
  exact ⟨_, R, g1, g2, h.mle, g3, .refl _⟩
theorem Stp.trans {s1 s2 s3 : S} {m : Nat} (h : Stp m s1 s2) (k : Stp m s2 s3) : Stp m s1 s3 := fun n W I R a w hs hd => by
  obtain ⟨I1, R1, a1, a2, a3, a4, a5⟩ := h n W I R a w hs hd
  obtain ⟨I2, R2, b1, b2, b3, b4, b5⟩ := k n W I1 R1 a w a1 a2
  exact ⟨I2, R2, b1, b2, b3, fun j hj => (b4 j hj).trans (a4 j hj), a5.trans b5⟩
theorem Stp.refl {s : S} (h : m ≤ s.top) : Stp m s s := fun n W I R a w hs hd => ⟨I, R, hs, hd, h, fun _ _ => rfl, .refl _⟩
/-- What a round hands on. -/
structure rndN {α : Type} (m : Nat) (G : α → S) (Inv : α → Prop) (μ : α → Nat) (p : α) (s : S) : Prop where
  h : ∃ p', Inv p' ∧ μ p' < μ p ∧ Stp m s (G p')
/-- A LOOP: what is kept at its head, over what is said of p, and a number that falls. -/
theorem loop_rule {c : Code} {Q : Exit → S → Prop} {α : Type} (hT : TabOk P T) (G : α → S) (Inv : α → Prop) (μ : α → Nat) (p0 : α) (h0 : Inv p0) (hw : Stp m s (G p0))
    (hb : ∀ p, Inv p → codeA P T W n m c (G p) fun e s' => match e with | .normal => rndN m G Inv μ p s' | e => Q e s') : LoopN P W n m c s Q := by
  refine ⟨?_⟩
  intro I R a w hs hd hm
  obtain ⟨Ia, Ra, g1, g2, gm, g3, g4⟩ := hw n W I R a w hs hd
  refine wp_loop_ghost (fun k a' w' => ∃ p, Inv p ∧ μ p = k ∧ ∃ I' R', St n W (get (G p).F) (kg (G p).K) I' R' a' w' ∧ (∀ j, (G p).top ≤ j → I' j = none) ∧ m ≤ (G p).top ∧ (∀ j, j < m → I' j = I j) ∧ RExt R R') (μ p0) ⟨p0, h0, rfl, Ia, Ra, g1, g2, gm, g3, g4⟩ ?_
  rintro k a' w' ⟨p, hI, rfl, I', R', h1, h2, h3, h4, h5⟩
  refine wp_mono (codeA_sound hT c (G p) _ (hb p hI) I' R' a' w' h1 h2 h3) ?_
  rintro e a2 w2 ⟨s2, I2, R2, k1, k2, k3, k4, k5, k6⟩
  cases e with
  | normal =>
    obtain ⟨p', hp', hlt, hwk⟩ := k6.h
    obtain ⟨I3, R3, j1, j2, j5, j3, j4⟩ := hwk _ _ _ _ _ _ k1 k2
    exact ⟨μ p', hlt, p', hp', rfl, I3, R3, j1, j2, j5, fun j hj => (j3 j hj).trans ((k4 j hj).trans (h4 j hj)), (h5.trans k5).trans j4⟩
  | _ => exact ⟨s2, I2, R2, k1, k2, k3, fun j hj => (k4 j hj).trans (h4 j hj), h5.trans k5, k6⟩
end

section
variable (P : Program) (T : Tab) (W : Wo) (n m : Nat) (c : Code) (Q : Exit → S → Prop)
/-- A loop, round by round: so many at most. -/
def loopU : Nat → S → Prop
  | 0, _ => False
  | f + 1, s => codeA P T W n m c s fun e s' => match e with
    | .normal => loopU f s'
    | e => Q e s'
end
theorem loop_unroll {P : Program} {T : Tab} {W : Wo} {n m : Nat} {s : S} {c : Code} {Q : Exit → S → Prop} (hT : TabOk P T) (fuel : Nat) (h : loopU P T W n m c Q fuel s) : LoopN P W n m c s Q := by
  refine ⟨?_⟩
  intro I R a w hs hd hm
  refine wp_loop_ghost (fun k a' w' => ∃ s', loopU P T W n m c Q k s' ∧ ∃ I' R', St n W (get s'.F) (kg s'.K) I' R' a' w' ∧ (∀ j, s'.top ≤ j → I' j = none) ∧ m ≤ s'.top ∧ (∀ j, j < m → I' j = I j) ∧ RExt R R') fuel ⟨s, h, I, R, hs, hd, hm, fun _ _ => rfl, .refl _⟩ ?_
  rintro k a' w' ⟨s', hk, I', R', h1, h2, h3, h4, h5⟩
  cases k with
  | zero => exact hk.elim
  | succ k =>
    refine wp_mono (codeA_sound hT c s' _ hk I' R' a' w' h1 h2 h3) ?_
    rintro e a2 w2 ⟨s2, I2, R2, k1, k2, k3, k4, k5, k6⟩
    cases e with
    | normal => exact ⟨k, Nat.lt_succ_self k, s2, k6, I2, R2, k1, k2, k3, fun j hj => (k4 j hj).trans (h4 j hj), h5.trans k5⟩
    | _ => exact ⟨s2, I2, R2, k1, k2, k3, fun j hj => (k4 j hj).trans (h4 j hj), h5.trans k5, k6⟩

/-! ### Results -/
def retV : List A0 → AV
  | [x] => .pl x
  | l => .tup l
def resL (T : Tab) (s : S) : List ResultVar → Option (List A0)
  | [] => some []
  | .tmp t :: r => match get s.F t, resL T s r with
    | some (.pl x), some l => some (x :: l)
    | _, _ => none
  | .cell p t :: r => match get s.F p, tyGet T t, resL T s r with
    | some (.pl (.one (.own i q k))), some ti, some l => match kg s.K i with
      | some b => match b.rows[q]? with
        | some row => match cut ti.row k ti.size row with
          | some v => some (v :: l)
          | none => none
        | none => none
      | none => none
    | _, _, _ => none
def resF (a : Act) : ResultVar → Sem Value
  | .tmp t => pure (a.tmps.getD t undef)
  | .cell p t => do loadVar t (← asAddr (a.tmps.getD p undef))
section
variable {P : Program} {T : Tab} {W : Wo} {n m : Nat} {I : IM} {R : RM} {a : Act} {w : World} {s : S}
theorem resL_run (hT : TabOk P T) (hs : St n W (get s.F) (kg s.K) I R a w) : ∀ (l : List ResultVar) (xs : List A0), resL T s l = some xs → ∃ vs, (l.mapM (resF a)).run P w = .ok vs w ∧ All2 (A0.rel I R) xs vs
  | [], xs, h => by simp only [resL, Option.some.injEq] at h; subst h; exact ⟨[], rfl, trivial⟩
  | .tmp t :: r, xs, h => by
    simp only [resL] at h
    split at h
    · rename_i x l h1 h2
      simp only [Option.some.injEq] at h
      subst h
      obtain ⟨vs, g1, g2⟩ := resL_run hT hs r l h2
      have e1 : (AV.pl x).rel I R (a.tmps.getD t undef) := hs.fr t _ h1
      refine ⟨a.tmps.getD t undef :: vs, ?_, e1, g2⟩
      simp only [List.mapM_cons, resF, Sem.run_bind, Sem.run_pure, Result.andThen_ok, g1]
    · cases h
  | .cell p t :: r, xs, h => by
    simp only [resL] at h
    split at h
    · rename_i i q k ti l h1 h2 h3
      split at h
      · rename_i b hb
        split at h
        · rename_i row hr
          split at h
          · rename_i v hv
            simp only [Option.some.injEq] at h
            subst h
            obtain ⟨vs, g1, g2⟩ := resL_run hT hs r l h3
            have e1 := hs.fr p _ h1
            obtain ⟨lc, hlc, hu⟩ : ∃ lc, I i = some lc ∧ a.tmps.getD p undef = .pointer (some ⟨lc.b, q * lc.sz + k, none⟩) := e1
            obtain ⟨lc', us, hlc', hsz, r1, r2, _⟩ := hs.row hb hr
            rw [hlc] at hlc'; cases hlc'
            obtain ⟨u, r3, r4⟩ := load_run (hT _ _ h2) r1 (b := lc.b) (off := q * lc.sz) r2 hv
            refine ⟨u :: vs, ?_, r4, g2⟩
            have r3' : (loadVar t ⟨lc.b, q * lc.sz + k, none⟩).run P w = .ok u w := by
              simpa [Instr.loadAt, Instr.sureAddr] using r3
            simp only [List.mapM_cons, resF, hu, asAddr, Sem.run_bind, Sem.run_pure, Result.andThen_ok, g1, r3']
          · cases h
        · cases h
      · cases h
    · cases h
theorem resL_results (hT : TabOk P T) (hs : St n W (get s.F) (kg s.K) I R a w) {fn : Func} {xs : List A0} (h : resL T s fn.results.toList = some xs) : ∃ v, (results fn a.tmps).run P w = .ok v w ∧ (retV xs).rel I R v := by
  obtain ⟨vs, h1, h2⟩ := resL_run hT hs _ _ h
  have hf : Go.results fn a.tmps = (do let vs ← fn.results.mapM (resF a); pure (if h : vs.size = 1 then vs[0] else .tuple vs)) := by
    unfold Go.results
    congr 1
  have hr : fn.results = fn.results.toList.toArray := by simp
  rw [hf, hr, Sem.run_bind, List.mapM_toArray]
  simp only [map_eq_pure_bind, Sem.run_bind]
  rw [h1]
  simp only [Result.andThen_ok, Sem.run_pure, List.size_toArray]
  match xs, vs, h2 with
  | [], [], _ => exact ⟨_, rfl, [], rfl, trivial⟩
  | [x], [v], h2 => exact ⟨v, rfl, h2.1⟩
  | x :: y :: r, v :: u :: q, h2 => exact ⟨.tuple (v :: u :: q).toArray, by simp, _, rfl, h2⟩
  | [], _ :: _, h2 => exact h2.elim
  | _ :: _, [], h2 => exact h2.elim
  | [x], v :: u :: q, h2 => exact h2.2.elim
  | x :: y :: r, [v], h2 => exact h2.2.elim
end
def argF : Nat → List AV → Fr
  | _, [] => []
  | k, v :: r => (k, v) :: argF (k + 1) r
theorem get_argF : ∀ (l : List AV) (k t : Nat) (x : AV), get (argF k l) t = some x → k ≤ t ∧ l[t - k]? = some x
  | [], k, t, x, h => by simp [argF, get] at h
  | v :: r, k, t, x, h => by
    simp only [argF, get] at h
    cases hb : Nat.beq k t with
    | true =>
      simp only [hb, Option.some.injEq] at h
      subst h
      rw [← Nat.eq_of_beq_eq_true hb]
      simp
    | false =>
      simp only [hb] at h
      have hne := Nat.ne_of_beq_eq_false hb
      obtain ⟨h2, h3⟩ := get_argF r (k + 1) t x h
      refine ⟨by omega, ?_⟩
      rw [show t - k = (t - (k + 1)) + 1 by omega]
      simpa using h3
theorem st_args {n : Nat} {W : Wo} {K : Nat → Option Blk} {I : IM} {R : RM} {w : World} {avs : List AV} {vs : List Value} (hv : All2 (AV.rel I R) avs vs) (hw : Wd W K I R w) (hle : vs.length ≤ n) :
    St n W (get (argF 0 avs)) K I R { tmps := vs.toArray ++ Array.replicate (n - vs.toArray.size) undef, defers := [] } w := by
  refine ⟨by simp; omega, rfl, fun t x hx => ?_, hw⟩
  obtain ⟨_, h⟩ := get_argF _ _ _ _ hx
  simp only [Nat.sub_zero] at h
  obtain ⟨u, hu, hr⟩ := hv.get h
  have hlt : t < vs.length := (List.getElem?_eq_some_iff.1 hu).1
  simp only [Act.eval, Array.getD_eq_getD_getElem?]
  rw [Array.getElem?_append_left (by simpa using hlt)]
  rw [List.getElem?_toArray, hu]
  exact hr
def capA (cap : List Pt) : List AV := cap.map Pt.asV
theorem capA_rel {I : IM} {R : RM} : ∀ {cap : List Pt} {us : List Value}, All2 (Pt.rel I) cap us → All2 (AV.rel I R) (capA cap) us
  | [], [], _ => trivial
  | .v x :: cap, u :: us, h => ⟨h.1, capA_rel h.2⟩
  | .own i q k :: cap, u :: us, h => ⟨h.1, capA_rel h.2⟩
  | .ag l :: cap, u :: us, h => ⟨(let ⟨vs, h1, h2⟩ := h.1; ⟨vs, h1, pa_all.2 h2⟩), capA_rel h.2⟩
  | [], _ :: _, h => h.elim
  | _ :: _, [], h => h.elim
/-- A CALL WALKED IN PLACE. -/
theorem call_in {P : Program} {T : Tab} {W : Wo} {m : Nat} {g : FuncId} {cap : List Pt} {avs : List AV} {K : Kr} {top : Nat} {k : AV → Kr → Nat → Prop} (hT : TabOk P T) (n : Nat) (fn : Func) (c : Code) (hf : P.funcs[g]? = some fn) (hfn : fnB P g = true) (hb : fn.body = some c) (hn : fn.ntmps = n) (hle : Nat.ble (avs ++ capA cap).length n = true)
    (h : codeA P T W n top c ⟨argF 0 (avs ++ capA cap), K, top⟩ fun e s => match s with
      | ⟨F', K', t'⟩ => match e with
        | .normal => ∃ xs, resL T ⟨F', K', t'⟩ fn.results.toList = some xs ∧ k (retV xs) K' t'
        | .ret => ∃ xs, resL T ⟨F', K', t'⟩ fn.results.toList = some xs ∧ k (retV xs) K' t'
        | _ => False) : CallP P W m g cap avs K top k := by
  refine ⟨hfn, fun I R w vs us hw hd hm hvs hus => ?_⟩
  have hall := hvs.append (capA_rel (R := R) hus)
  have hle' : (avs ++ capA cap).length ≤ n := by simpa [Nat.ble_eq] using hle
  have hargs : vs.toArray ++ us.toArray = (vs ++ us).toArray := by simp
  rw [hargs]
  refine calls_of_wp hf hb (wp_mono (codeA_sound hT c _ _ h I R _ w (by rw [hn]; exact st_args hall hw (by rw [← hall.length]; exact hle')) hd (Nat.le_refl _)) ?_)
  rintro e a' w' ⟨s', I', R', h1, h2, h3, h4, h5, h6⟩
  replace h6 : match (generalizing := false) e with
      | .normal => ∃ xs, resL T s' fn.results.toList = some xs ∧ k (retV xs) s'.K s'.top
      | .ret => ∃ xs, resL T s' fn.results.toList = some xs ∧ k (retV xs) s'.K s'.top
      | _ => False := by obtain ⟨F', K', t'⟩ := s'; cases e <;> exact h6
  have fin : ∀ xs, resL T s' fn.results.toList = some xs → k (retV xs) s'.K s'.top → a'.defers = [] ∧ ∃ v, (results fn a'.tmps).run P w' = .ok v w' ∧ (∃ v_1 x K' top' I' R', Ending.returned v = .returned v_1 ∧ Wd W (kg K') I' R' w' ∧ (∀ j, top' ≤ j → I' j = none) ∧ top ≤ top' ∧ (∀ j, j < top → I' j = I j) ∧ RExt R R' ∧ x.rel I' R' v_1 ∧ k x K' top') := by
    intro xs hx hk
    obtain ⟨v, g1, g2⟩ := resL_results hT h1 hx
    exact ⟨h1.defers, v, g1, v, _, s'.K, s'.top, I', R', rfl, h1.wd, h2, h3, h4, h5, g2, hk⟩
  cases e with
  | normal => obtain ⟨xs, hx, hk⟩ := h6; exact fin xs hx hk
  | ret => obtain ⟨xs, hx, hk⟩ := h6; exact fin xs hx hk
  | _ => exact h6.elim

theorem ex_and {α : Type} {p q : α → Prop} {x : α} (h : p x) (k : q x) : ∃ x, p x ∧ q x := ⟨x, h, k⟩
theorem CallP.red {P : Program} {W : Wo} {m : Nat} {g : FuncId} {cap : List Pt} {avs : List AV} {K : Kr} {top : Nat} {k : AV → Kr → Nat → Prop} (h : CallP P W m g cap avs K top k) : CallP P W m g cap avs K top k := h
/-! ### Contracts -/
/-- A function of values and of slices that it only reads: what it hands back, in memory of its own. -/
structure Con (P : Program) (g : FuncId) (args : List A0) (post : AV → Kr → Nat → Prop) : Prop where
  fn : fnB P g = true
  run : ∀ w vs, All2 (A0.rel (fun _ => none) (fun _ b o => w.cell? ⟨b, o, none⟩)) args vs → Calls P g vs.toArray w fun e w' => ∃ v x Kc tc I Rf, e = .returned v ∧ Wd (Wo.of w) (kg Kc) I (fun _ => Rf) w' ∧ (∀ j, tc ≤ j → I j = none) ∧ (∀ p ∈ Kc, p.1 < tc) ∧ x.rel I (fun _ => Rf) v ∧ post x Kc tc
def RT.of : Ce → Option RT
  | .v x => some (.v x)
  | .ro _ sz rows => some (.ro sz rows)
  | _ => none
def lowNil : Value → Ce → Prop
  | .slice none 0 0, c => c = .v (.slice none 0 0) ∨ ∃ sz, c = .ro false sz []
  | x, c => c = .v x
/-- As an argument that is only read. -/
def lowC (K : Nat → Option Blk) : Ce → Ce → Prop
  | .gsl i rows, c => ∃ sz ty rows', c = .ro false sz rows' ∧ K i = gB sz ty rows ∧ rows.map (List.map RT.of) = rows'.map (List.map some)
  | .v x, c => lowNil x c
  | .ro _ sz rows, c => c = .ro false sz rows
  | .rp _ row k, c => c = .rp false row k
  | .osl i q n _, c => match K i with
    | some b => ∃ rows, c = .ro false b.sz rows ∧ rows.length = n ∧ ((b.rows.drop q).take n).map (List.map RT.of) = rows.map (List.map some)
    | none => False
  | .fn f [], c => c = .fn f []
  | _, _ => False
def lowA (K : Nat → Option Blk) : A0 → A0 → Prop
  | .one c, .one d => lowC K c d
  | .agg cs, .agg ds => All2 (lowC K) cs ds
  | _, _ => False
def lowV (K : Nat → Option Blk) : AV → A0 → Prop
  | .pl a, d => lowA K a d
  | _, _ => False
theorem RT.of_rel {I : IM} {R : RM} {R0 : Nat → Nat → Option Value} (hR : ∀ f b o u, R f b o = some u → R0 b o = some u) {c : Ce} {t : RT} {u : Value} (h : RT.of c = some t) (hr : c.rel I R u) : Rd R0 t u := by
  cases c with
  | v x => simp only [RT.of, Option.some.injEq] at h; subst h; cases hr; exact .v _
  | ro fl sz rows => simp only [RT.of, Option.some.injEq] at h; subst h; exact Rd.mono (hR fl) hr
  | _ => simp [RT.of] at h
theorem Bk.rd {I : IM} {R : RM} {R0 : Nat → Nat → Option Value} {b : Blk} {p : Loc} {w : World} (hk : Bk I R b p w) (f : Ce → Option RT) (hof : ∀ c t u, f c = some t → c.rel I R u → Rd R0 t u) (hc : ∀ o u, w.cell? ⟨p.b, o, none⟩ = some u → R0 p.b o = some u)
    (q c' : Nat) (rows : List (List RT)) (hnc : rows.length ≤ c') (hmap : ((b.rows.drop q).take rows.length).map (List.map f) = rows.map (List.map some)) : Rd R0 (.ro b.sz rows) (.slice (some ⟨p.b, q * p.sz, none⟩) rows.length c') := by
  obtain ⟨cs, hm, hsz, hcs⟩ := hk.mem
  have key : ∀ (q' : Nat) (row : List RT) (k : Nat) (t : RT), rows[q']? = some row → row[k]? = some t → ∃ (r0 : List Ce) (c0 : Ce), b.rows[q + q']? = some r0 ∧ r0[k]? = some c0 ∧ f c0 = some t := by
    intro q' row k t h1 h2
    have h3 : (((b.rows.drop q).take rows.length).map (List.map f))[q']? = some (row.map some) := by rw [hmap]; simp [h1]
    rw [List.getElem?_map, Option.map_eq_some_iff] at h3
    obtain ⟨r0, h4, h5⟩ := h3
    rw [List.getElem?_take] at h4
    split at h4
    · rw [List.getElem?_drop] at h4
      have h6 : (r0.map f)[k]? = some (some t) := by rw [h5]; simp [h2]
      rw [List.getElem?_map, Option.map_eq_some_iff] at h6
      obtain ⟨c0, h7, h8⟩ := h6
      exact ⟨r0, c0, h4, h7, h8⟩
    · cases h4
  have hrow : ∀ row ∈ rows, row.length = b.sz := by
    intro row hrow
    obtain ⟨q', hq'⟩ := List.getElem?_of_mem hrow
    have h3 : (((b.rows.drop q).take rows.length).map (List.map f))[q']? = some (row.map some) := by rw [hmap]; simp [hq']
    rw [List.getElem?_map, Option.map_eq_some_iff] at h3
    obtain ⟨r0, h4, h5⟩ := h3
    have h6 : r0 ∈ b.rows := List.mem_of_mem_drop (List.mem_of_mem_take (List.mem_of_getElem? h4))
    have := hk.row r0 h6
    rw [← this]
    have h7 := congrArg List.length h5
    simpa using h7.symm
  refine .ro b.sz rows p.b (q * p.sz) c' (fun q' k => (cs[(q + q') * p.sz + k]?).getD undef) hrow hnc ?_ ?_
  · intro q' row k t h1 h2
    obtain ⟨r0, c0, g1, g2, g3⟩ := key q' row k t h1 h2
    obtain ⟨u, g4, g5⟩ := hcs _ _ _ _ g1 g2
    refine hc _ _ ?_
    rw [cell_of_row w p.b _ _ _ _ hm, ← hk.sz, show q * p.sz + q' * p.sz + k = (q + q') * p.sz + k by rw [Nat.add_mul], g4]
    rfl
  · intro q' row k t h1 h2
    obtain ⟨r0, c0, g1, g2, g3⟩ := key q' row k t h1 h2
    obtain ⟨u, g4, g5⟩ := hcs _ _ _ _ g1 g2
    simp only [g4, Option.getD_some]
    exact hof _ _ _ g3 g5
theorem lowC_rel {K : Nat → Option Blk} {W : Wo} {I : IM} {R : RM} {w : World} (hw : Wd W K I R w) {c d : Ce} {u : Value} (h : lowC K c d) (hr : c.rel I R u) : d.rel (fun _ => none) (fun _ b o => w.cell? ⟨b, o, none⟩) u := by
  cases c with
  | v x =>
    replace h : lowNil x d := h
    unfold lowNil at h
    split at h
    · rcases h with rfl | ⟨sz, rfl⟩
      · exact hr
      · cases hr; exact .nil sz
    · cases h; exact hr
  | mpv i => exact h.elim
  | yl i => exact h.elim
  | mf f l => exact h.elim
  | ro fl sz rows => cases h; exact Rd.mono (fun b o u h => hw.ro fl b o u h) hr
  | rp fl row k => cases h; obtain ⟨b, o, h1, h2⟩ := hr; exact ⟨b, o, h1, fun j t ht => let ⟨x, h3, h4⟩ := h2 j t ht; ⟨x, hw.ro _ _ _ _ h3, h4.mono (fun b o u h => hw.ro fl b o u h)⟩⟩
  | osl i q n cp =>
    simp only [lowC] at h
    split at h
    · rename_i b hb
      obtain ⟨rows, rfl, hlen, hmap⟩ := h
      obtain ⟨p, c', hp, rfl, hnc, hqc, _⟩ := hr
      obtain ⟨p', hp', hk⟩ := hw.blk i b hb
      rw [hp] at hp'; cases hp'
      subst hlen
      exact hk.rd RT.of (fun c t u h1 h2 => RT.of_rel (fun f b o u h => hw.ro f b o u h) h1 h2) (fun o u h => h) q c' rows hnc hmap
    · exact h.elim
  | gsl i rows =>
    obtain ⟨sz, ty, rows', rfl, hK, hmap⟩ := h
    rcases hr with ⟨rfl, rfl⟩ | ⟨hne, p, c', hp, rfl, h1, h2⟩
    · have : rows' = [] := by cases rows' <;> first | rfl | simp at hmap
      subst this
      exact .nil sz
    · rw [gB_ne hne] at hK
      obtain ⟨p', hp', hk⟩ := hw.blk i _ hK
      rw [hp] at hp'; cases hp'
      have hlen : rows.length = rows'.length := by have := congrArg List.length hmap; simpa using this
      have := hk.rd RT.of (fun c t u h1 h2 => RT.of_rel (fun f b o u h => hw.ro f b o u h) h1 h2) (fun o u h => h) 0 c' rows' (by omega) (by simpa [← hlen] using hmap)
      rw [Nat.zero_mul, ← hlen] at this
      exact this
  | own i q k => exact h.elim
  | fn f cap =>
    cases cap with
    | nil => cases h; obtain ⟨vs, h1, h2⟩ := hr; cases vs with
      | nil => exact ⟨[], trivial, h2⟩
      | cons => exact h1.elim
    | cons => exact h.elim
theorem lowV_rel {K : Nat → Option Blk} {W : Wo} {I : IM} {R : RM} {w : World} (hw : Wd W K I R w) {x : AV} {d : A0} {u : Value} (h : lowV K x d) (hr : x.rel I R u) : d.rel (fun _ => none) (fun _ b o => w.cell? ⟨b, o, none⟩) u := by
  cases x with
  | pl a =>
    cases a with
    | one c => cases d with
      | one d => exact lowC_rel hw h hr
      | agg => exact h.elim
    | agg cs => cases d with
      | one d => exact h.elim
      | agg ds =>
        obtain ⟨vs, rfl, hvs⟩ := hr
        refine ⟨vs, rfl, ?_⟩
        have h' : All2 (lowC K) cs ds := h
        clear h
        induction cs generalizing ds vs with
        | nil => cases ds with
          | nil => cases vs with
            | nil => trivial
            | cons => exact hvs.elim
          | cons => exact h'.elim
        | cons c cs ih => cases ds with
          | nil => exact h'.elim
          | cons d ds => cases vs with
            | nil => exact hvs.elim
            | cons v vs => exact ⟨lowC_rel hw h'.1 hvs.1, ih ds vs hvs.2 h'.2⟩
  | tup => exact h.elim
def shK (top : Nat) (K : Kr) : Kr := K.map fun p => (top + p.1, p.2.map (Blk.ren (top + ·)))
theorem kg_shK (top : Nat) : ∀ (K : Kr) (j : Nat), kg (shK top K) (top + j) = (kg K j).map (Blk.ren (top + ·))
  | [], j => rfl
  | (k, b) :: K, j => by
    simp only [shK, List.map_cons, kg]
    have : Nat.beq (top + k) (top + j) = Nat.beq k j := by
      rcases h1 : Nat.beq k j with _ | _
      · have := Nat.ne_of_beq_eq_false h1
        rcases h2 : Nat.beq (top + k) (top + j) with _ | _
        · rfl
        · have := Nat.eq_of_beq_eq_true h2; omega
      · have := Nat.eq_of_beq_eq_true h1
        subst this
        simp
    rw [this]
    cases Nat.beq k j with
    | true => rfl
    | false => exact kg_shK top K j
theorem kg_shK_lt (top : Nat) : ∀ (K : Kr) (j : Nat), j < top → kg (shK top K) j = none
  | [], j, _ => rfl
  | (k, b) :: K, j, h => by
    simp only [shK, List.map_cons, kg]
    have : Nat.beq (top + k) j = false := by
      rcases h2 : Nat.beq (top + k) j with _ | _
      · rfl
      · have := Nat.eq_of_beq_eq_true h2; omega
    rw [this]
    exact kg_shK_lt top K j h
theorem kg_app_some {K r : Kr} {j : Nat} {b : Blk} (h : kg r j = some b) : kg (r ++ K) j = some b := by
  induction r with
  | nil => simp [kg] at h
  | cons p r ih =>
    obtain ⟨i, c⟩ := p
    simp only [List.cons_append, kg] at h ⊢
    split <;> rename_i hb <;> simp only [hb] at h
    · exact h
    · exact ih h
theorem kg_sh_app {K Kc : Kr} {top : Nat} (j : Nat) (hK : ∀ j, top ≤ j → kg K j = none) : kg (shK top Kc ++ K) j = if j < top then kg K j else (kg Kc (j - top)).map (Blk.ren (top + ·)) := by
  induction Kc with
  | nil =>
    simp only [shK, List.map_nil, List.nil_append, kg]
    split
    · rfl
    · rename_i h; exact hK j (by omega)
  | cons p Kc ih =>
    obtain ⟨i, c⟩ := p
    simp only [shK, List.map_cons, List.cons_append, kg]
    rcases h2 : Nat.beq (top + i) j with _ | _
    · have hne := Nat.ne_of_beq_eq_false h2
      simp only
      have := ih
      simp only [shK] at this
      rw [this]
      split
      · rfl
      · have : Nat.beq i (j - top) = false := by
          rcases h3 : Nat.beq i (j - top) with _ | _
          · rfl
          · have := Nat.eq_of_beq_eq_true h3; omega
        rw [this]
    · have he := Nat.eq_of_beq_eq_true h2
      simp only
      rw [if_neg (by omega), show j - top = i by omega]
      simp
theorem kup_sh {K : Nat → Option Blk} {top tc : Nat} (hK : ∀ j, top ≤ j → j < top + tc → K j = none) : ∀ {Kc : Kr}, (∀ j, tc ≤ j → ∀ b, (j, some b) ∉ Kc) → ∀ j, kup K (shK top Kc) j = if top ≤ j ∧ j < top + tc then (kg Kc (j - top)).map (Blk.ren (top + ·)) else (kup K (shK top Kc) j)
  | [], _, j => by
    split
    · rename_i h; simp only [shK, List.map_nil, kup, kg]; rw [hK j h.1 h.2]; rfl
    · rfl
  | (k, b) :: Kc, h, j => by
    split
    · rename_i hj
      simp only [shK, List.map_cons, kup, kg]
      have ih := kup_sh hK (Kc := Kc) (fun j hj b hb => h j hj b (List.mem_cons_of_mem _ hb)) j
      rw [if_pos hj] at ih
      rcases h2 : Nat.beq k (j - top) with _ | _
      · have hne := Nat.ne_of_beq_eq_false h2
        rw [if_neg (by omega)]
        exact ih
      · have he := Nat.eq_of_beq_eq_true h2
        rw [if_pos (by omega)]
    · rfl
theorem kup_out {K : Nat → Option Blk} {top tc : Nat} {Kc : Kr} (hc : ∀ p ∈ Kc, p.1 < tc) (j : Nat) (hj : ¬ (top ≤ j ∧ j < top + tc)) : kup K (shK top Kc) j = K j := by
  induction Kc with
  | nil => rfl
  | cons p Kc ih =>
    obtain ⟨k, b⟩ := p
    have h1 := hc (k, b) List.mem_cons_self
    simp only at h1
    simp only [shK, List.map_cons, kup]
    rw [if_neg (by omega)]
    exact ih fun q hq => hc q (List.mem_cons_of_mem _ hq)
/-- Memory that a call has made, beside one's own. -/
theorem Wd.adopt {W : Wo} {K : Nat → Option Blk} {Kc : Kr} {I Ic : IM} {R : RM} {Rf : Nat → Nat → Option Value} {top tc : Nat} {w w' : World} (h : Wd W K I R w) (hd : ∀ j, top ≤ j → j < top + tc → I j = none) (hc : Wd (Wo.of w) (kg Kc) Ic (fun _ => Rf) w') (hdc : ∀ j, tc ≤ j → Ic j = none) (hkc : ∀ p ∈ Kc, p.1 < tc) :
    Wd W (kup K (shK top Kc)) (fun j => if top ≤ j ∧ j < top + tc then Ic (j - top) else I j) (fun f b o => match R f b o with | some u => some u | none => Rf b o) w' := by
  have hKn : ∀ j, top ≤ j → j < top + tc → K j = none := fun j hj hj2 => by
    cases hq : K j with
    | none => rfl
    | some b => obtain ⟨p, hp, _⟩ := h.blk j b hq; rw [hd j hj hj2] at hp; cases hp
  have hKup : ∀ j, kup K (shK top Kc) j = if top ≤ j ∧ j < top + tc then (kg Kc (j - top)).map (Blk.ren (top + ·)) else K j := fun j => by
    rw [kup_sh hKn (fun j hj b hb => by have := hkc _ hb; simp only at this; omega) j]
    split
    · rfl
    · rename_i hj; exact kup_out hkc j hj
  have hI : IExt I (fun j => if top ≤ j ∧ j < top + tc then Ic (j - top) else I j) := fun j p hp => by
    by_cases hj : top ≤ j ∧ j < top + tc
    · rw [hd j hj.1 hj.2] at hp; cases hp
    · simp [hj, hp]
  have hIc : ∀ j p, Ic j = some p → (fun j => if top ≤ j ∧ j < top + tc then Ic (j - top) else I j) (top + j) = some p := fun j p hp => by
    have hj : j < tc := by
      rcases Nat.lt_or_ge j tc with h | h
      · exact h
      · rw [hdc j h] at hp; cases hp
    show (if top ≤ top + j ∧ top + j < top + tc then Ic (top + j - top) else I (top + j)) = some p
    rw [if_pos (by omega), Nat.add_sub_cancel_left]; exact hp
  have hR : RExt R (fun f b o => match R f b o with | some u => some u | none => Rf b o) := fun f b o u hu => by simp [hu]
  have hRlt : ∀ f b o u, R f b o = some u → b < w.heap.size := fun f b o u hu => World.block_lt_of_cell? _ _ (h.ro f b o u hu)
  have hRf : RExt (fun _ => Rf) (fun f b o => match R f b o with | some u => some u | none => Rf b o) := fun f b o u hu => by
    have h1 := Nat.not_lt.1 (hc.fresh b o u hu)
    cases hq : R f b o with
    | none => simpa [hq] using hu
    | some x => have := hRlt f b o x hq; omega
  have hW := h.below.size
  have hbel := hc.below.below
  refine ⟨?_, ?_, ?_, ?_, ?_, ?_, ?_, h.below.trans hbel, ?_, h.qz⟩
  · intro j b hj
    rw [hKup] at hj
    split at hj
    · rename_i hge
      rw [Option.map_eq_some_iff] at hj
      obtain ⟨b0, hb0, rfl⟩ := hj
      obtain ⟨p, hp, hk⟩ := hc.blk _ b0 hb0
      refine ⟨p, by simp [hge, hp], Bk.ren.2 ?_⟩
      exact hk.mono (fun i q hq => hIc i q hq) hRf rfl
    · rename_i hlt
      obtain ⟨p, hp, hk⟩ := h.blk j b hj
      exact ⟨p, by simp [hlt, hp], hk.mono hI hR (hbel.block _ hk.lt)⟩
  · intro i j bi bj p q hi hj hp hq he
    rw [hKup] at hi hj
    try simp only at hp hq
    by_cases h1 : top ≤ i ∧ i < top + tc <;> by_cases h2 : top ≤ j ∧ j < top + tc
    · rw [if_pos h1] at hi hp; rw [if_pos h2] at hj hq
      rw [Option.map_eq_some_iff] at hi hj
      obtain ⟨b0, hb0, rfl⟩ := hi
      obtain ⟨b1, hb1, rfl⟩ := hj
      have := hc.inj _ _ _ _ _ _ hb0 hb1 hp hq he
      omega
    · rw [if_pos h1] at hi hp; rw [if_neg h2] at hj hq
      rw [Option.map_eq_some_iff] at hi
      obtain ⟨b0, hb0, rfl⟩ := hi
      have := h.lt hj hq
      have := Nat.not_lt.1 (hc.base _ _ _ hb0 hp)
      omega
    · rw [if_neg h1] at hi hp; rw [if_pos h2] at hj hq
      rw [Option.map_eq_some_iff] at hj
      obtain ⟨b0, hb0, rfl⟩ := hj
      have := h.lt hi hp
      have := Nat.not_lt.1 (hc.base _ _ _ hb0 hq)
      omega
    · rw [if_neg h1] at hi hp; rw [if_neg h2] at hj hq
      exact h.inj _ _ _ _ _ _ hi hj hp hq he
  · intro j b p hj hp
    rw [hKup] at hj
    try simp only at hp
    split at hj
    · rename_i hge
      rw [if_pos hge] at hp
      rw [Option.map_eq_some_iff] at hj
      obtain ⟨b0, hb0, rfl⟩ := hj
      exact h.below.new (Nat.not_lt.1 (hc.base _ _ _ hb0 hp))
    · rename_i hlt; rw [if_neg hlt] at hp; exact h.base _ _ _ hj hp
  · intro f b o u hu
    try simp only at hu
    split at hu
    · rename_i x hx
      cases hu
      have h0 := h.ro f b o u hx
      exact (hbel.cell (p := ⟨b, o, none⟩) (hRlt f b o u hx)).trans h0
    · exact hc.ro true b o u hu
  · intro j b p f o hj hp
    rw [hKup] at hj
    try simp only at hp
    split at hj
    · rename_i hge
      rw [if_pos hge] at hp
      rw [Option.map_eq_some_iff] at hj
      obtain ⟨b0, hb0, rfl⟩ := hj
      have hbase := Nat.not_lt.1 (hc.base _ _ _ hb0 hp)
      have hq : R f p.b o = none := by
        cases hq : R f p.b o with
        | none => rfl
        | some u => have := hRlt f _ o u hq; omega
      simp only [hq]
      exact hc.apart _ _ _ true o hb0 hp
    · rename_i hlt
      rw [if_neg hlt] at hp
      simp only [h.apart _ _ _ f o hj hp]
      cases hq : Rf p.b o with
      | none => rfl
      | some u => have := Nat.not_lt.1 (hc.fresh _ _ _ hq); have := h.lt hj hp; omega
  · intro b o u hu
    try simp only at hu
    split at hu
    · rename_i x hx; exact h.fresh b o x hx
    · exact h.below.new (Nat.not_lt.1 (hc.fresh b o u hu))
  · intro b o u hu
    try simp only at hu ⊢
    split at hu
    · rename_i x hx
      rw [h.less b o x hx]
      exact hu
    · have := Nat.not_lt.1 (hc.fresh b o u hu)
      cases hq : R false b o with
      | none => simpa using hu
      | some x => have := hRlt false b o x hq; omega
  · intro f b o u hu
    try simp only at hu
    split at hu
    · rename_i x hx; exact h.out f b o x hx
    · have := Nat.not_lt.1 (hc.fresh b o u hu)
      exact fun hq => h.below.new this (h.qz _ hq)
theorem adopt_ext {W : Wo} {K : Nat → Option Blk} {Kc : Kr} {I Ic : IM} {R : RM} {Rf : Nat → Nat → Option Value} {top tc : Nat} {w w' : World} {x : AV} {v : Value} (h : Wd W K I R w) (hd : ∀ j, top ≤ j → j < top + tc → I j = none) (hc : Wd (Wo.of w) (kg Kc) Ic (fun _ => Rf) w') (hdc : ∀ j, tc ≤ j → Ic j = none) (hkc : ∀ p ∈ Kc, p.1 < tc) (hx : x.rel Ic (fun _ => Rf) v) :
    Wd W (kup K (shK top Kc)) (fun j => if top ≤ j ∧ j < top + tc then Ic (j - top) else I j) (fun f b o => match R f b o with | some u => some u | none => Rf b o) w' ∧
      IExt I (fun j => if top ≤ j ∧ j < top + tc then Ic (j - top) else I j) ∧ RExt R (fun f b o => match R f b o with | some u => some u | none => Rf b o) ∧
      (x.ren (top + ·)).rel (fun j => if top ≤ j ∧ j < top + tc then Ic (j - top) else I j) (fun f b o => match R f b o with | some u => some u | none => Rf b o) v := by
  refine ⟨h.adopt hd hc hdc hkc, fun j p hp => ?_, fun f b o u hu => by simp [hu], AV.rel_ren.2 ?_⟩
  · by_cases hj : top ≤ j ∧ j < top + tc
    · rw [hd j hj.1 hj.2] at hp; cases hp
    · simp [hj, hp]
  · refine AV.mono (fun i q hq => ?_) ?_ hx
    · have hj : i < tc := by
        rcases Nat.lt_or_ge i tc with h | h
        · exact h
        · rw [hdc i h] at hq; cases hq
      show (if top ≤ top + i ∧ top + i < top + tc then Ic (top + i - top) else I (top + i)) = some q
      rw [if_pos (by omega), Nat.add_sub_cancel_left]; exact hq
    · intro f b o u hu
      have h1 := Nat.not_lt.1 (hc.fresh b o u hu)
      cases hq : R f b o with
      | none => simpa [hq] using hu
      | some y =>
        have : b < w.heap.size := World.block_lt_of_cell? _ _ (h.ro f b o y hq)
        omega
theorem call_con {P : Program} {W : Wo} {m : Nat} {g : FuncId} {avs : List AV} {K : Kr} {top : Nat} {k : AV → Kr → Nat → Prop} {args : List A0} {post : AV → Kr → Nat → Prop} (h : Con P g args post) (hl : All2 (lowV (kg K)) avs args)
    (hk : ∀ x Kc tc, post x Kc tc → k (x.ren (top + ·)) (shK top Kc ++ K) (top + tc)) : CallP P W m g [] avs K top k := by
  refine ⟨h.fn, fun I R w vs us hw hd hm hvs hus => ?_⟩
  cases us with
  | cons => exact hus.elim
  | nil =>
  have hargs : vs.toArray ++ ([] : List Value).toArray = vs.toArray := by simp
  rw [hargs]
  have hrel : All2 (A0.rel (fun _ => none) (fun _ b o => w.cell? ⟨b, o, none⟩)) args vs := by
    clear hargs hk h
    induction avs generalizing args vs with
    | nil => cases args with
      | nil => cases vs with
        | nil => trivial
        | cons => exact hvs.elim
      | cons => exact hl.elim
    | cons x avs ih => cases args with
      | nil => exact hl.elim
      | cons d args => cases vs with
        | nil => exact hvs.elim
        | cons v vs => exact ⟨lowV_rel hw hl.1 hvs.1, ih hl.2 vs hvs.2⟩
  refine (h.run w vs hrel).mono ?_
  rintro e w' ⟨v, x, Kc, tc, Ic, Rf, rfl, hc, hdc, hkc, hx, hp⟩
  obtain ⟨h1, h2, h3, h4⟩ := adopt_ext (top := top) hw (fun j h1 _ => hd j h1) hc hdc hkc hx
  refine ⟨v, _, _, _, _, _, rfl, by rw [kg_append]; exact h1, ?_, by omega, ?_, h3, h4, hk x Kc tc hp⟩
  · intro j hj
    try simp only
    rw [if_neg (by omega)]
    exact hd _ (by omega)
  · intro j hj; rw [if_neg (by omega)]
/-- Nothing in it is of what came in. -/
def Ce.own' : Ce → Bool
  | .ro false _ _ => false
  | .rp false _ _ => false
  | _ => true
def A0.own' : A0 → Bool
  | .one c => c.own'
  | .agg cs => cs.all Ce.own'
def AV.own' : AV → Bool
  | .pl a => a.own'
  | .tup l => l.all A0.own'
def Kr.own' (K : Kr) : Prop := ∀ j b, kg K j = some b → ∀ r ∈ b.rows, ∀ c ∈ r, c.own' = true
theorem Ce.rel_own {I : IM} {R : RM} {c : Ce} {u : Value} (h : c.own' = true) (hr : c.rel I R u) : c.rel I (fun _ => R true) u := by
  cases c with
  | ro fl sz rows => cases fl with
    | true => exact hr
    | false => cases h
  | rp fl row k => cases fl with
    | true => exact hr
    | false => cases h
  | _ => exact hr
theorem All2.mono_mem {α β : Type} {r s : α → β → Prop} : ∀ {l : List α} {m : List β}, (∀ a ∈ l, ∀ b, r a b → s a b) → All2 r l m → All2 s l m
  | [], [], _, _ => trivial
  | a :: l, b :: m, h, hh => ⟨h a List.mem_cons_self _ hh.1, All2.mono_mem (fun x hx => h x (List.mem_cons_of_mem _ hx)) hh.2⟩
  | [], _ :: _, _, hh => hh.elim
  | _ :: _, [], _, hh => hh.elim
theorem A0.rel_own {I : IM} {R : RM} {c : A0} {u : Value} (h : c.own' = true) (hr : c.rel I R u) : c.rel I (fun _ => R true) u := by
  cases c with
  | one c => exact Ce.rel_own h hr
  | agg cs =>
    obtain ⟨vs, h1, h2⟩ := hr
    exact ⟨vs, h1, h2.mono_mem fun c hc b => Ce.rel_own (List.all_eq_true.1 h c hc)⟩
theorem AV.rel_own {I : IM} {R : RM} {c : AV} {u : Value} (h : c.own' = true) (hr : c.rel I R u) : c.rel I (fun _ => R true) u := by
  cases c with
  | pl c => exact A0.rel_own h hr
  | tup cs =>
    obtain ⟨vs, h1, h2⟩ := hr
    exact ⟨vs, h1, h2.mono_mem fun c hc b => A0.rel_own (List.all_eq_true.1 h c hc)⟩
theorem Wd.own {W : Wo} {K : Kr} {I : IM} {R : RM} {w : World} (h : Wd W (kg K) I R w) (ho : Kr.own' K) : Wd W (kg K) I (fun _ => R true) w := by
  refine ⟨fun i b hb => ?_, h.inj, h.base, fun f b o u hu => h.ro true b o u hu, fun i b p f o hb hp => h.apart i b p true o hb hp, h.fresh, fun b o u hu => hu, h.below, fun f b o u hu => h.out true b o u hu, h.qz⟩
  obtain ⟨p, hp, h1, h2, h3, h4, cs, h5, h6, h7⟩ := h.blk i b hb
  exact ⟨p, hp, h1, h2, h3, h4, cs, h5, h6, fun q r k c hq hk => let ⟨u, hu, hr⟩ := h7 q r k c hq hk; ⟨u, hu, Ce.rel_own (ho i b hb r (List.mem_of_getElem? hq) c (List.mem_of_getElem? hk)) hr⟩⟩
/-! ### A block that is written no more -/
def RT.ofT : Ce → Option RT
  | .v x => some (.v x)
  | .ro true sz rows => some (.ro sz rows)
  | _ => none
theorem RT.ofT_rel {I : IM} {R : RM} {c : Ce} {t : RT} {u : Value} (h : RT.ofT c = some t) (hr : c.rel I R u) : Rd (R true) t u := by
  unfold RT.ofT at h
  split at h
  · simp only [Option.some.injEq] at h; subst h; cases hr; exact .v _
  · simp only [Option.some.injEq] at h; subst h; exact hr
  · cases h
/-- A block is written no more: its cells are known for good. -/
theorem Wd.fz {W : Wo} {K : Nat → Option Blk} {I : IM} {R : RM} {w : World} (h : Wd W K I R w) {i : Nat} {b : Blk} (hb : K i = some b) {p : Loc} (hp : I i = some p) :
    Wd W (kup K [(i, none)]) I (fun f bb o => if bb = p.b then w.cell? ⟨bb, o, none⟩ else R f bb o) w ∧ RExt R (fun f bb o => if bb = p.b then w.cell? ⟨bb, o, none⟩ else R f bb o) := by
  have hR : RExt R (fun f bb o => if bb = p.b then w.cell? ⟨bb, o, none⟩ else R f bb o) := fun f bb o u hu => by
    show (if bb = p.b then w.cell? ⟨bb, o, none⟩ else R f bb o) = some u
    split
    · rename_i he; subst he; rw [h.apart i b p f o hb hp] at hu; cases hu
    · exact hu
  have hk := h.kill i
  refine ⟨⟨?_, hk.inj, hk.base, ?_, ?_, ?_, ?_, hk.below, ?_, h.qz⟩, hR⟩
  · intro j b' hj
    obtain ⟨q, hq, hbk⟩ := hk.blk j b' hj
    exact ⟨q, hq, hbk.mono (.refl _) hR rfl⟩
  · intro f bb o u hu
    try simp only at hu
    split at hu
    · exact hu
    · exact h.ro f bb o u hu
  · intro j b' q f o hj hq
    have hne : q.b ≠ p.b := fun he => by
      simp only [kup] at hj
      split at hj
      · cases hj
      · rename_i hji; exact hji (h.inj _ _ _ _ _ _ hj hb hq hp he)
    show (if q.b = p.b then _ else R f q.b o) = none
    rw [if_neg hne]
    exact hk.apart j b' q f o hj hq
  · intro bb o u hu
    try simp only at hu
    split at hu
    · rename_i he; rw [he]; exact h.base i b p hb hp
    · exact h.fresh bb o u hu
  · intro bb o u hu
    try simp only at hu ⊢
    split at hu
    · rename_i he; rw [if_pos he]; exact hu
    · rename_i he; rw [if_neg he]; exact h.less bb o u hu
  · intro f bb o u hu
    try simp only at hu
    split at hu
    · rename_i he; rw [he]; exact fun hq => h.base i b p hb hp (h.qz _ hq)
    · exact h.out f bb o u hu
theorem Stp.slot {m : Nat} {s : S} {t : Nat} {x' : AV} (hm : m ≤ s.top) {K' : Kr} (h : ∀ (n : Nat) (W : Wo) (I : IM) (R : RM) (a : Act) (w : World), St n W (get s.F) (kg s.K) I R a w → ∃ R', Wd W (kg K') I R' w ∧ RExt R R' ∧ x'.rel I R' (a.eval (.tmp t))) :
    Stp m s ⟨(t, x') :: s.F, K', s.top⟩ := fun n W I R a w hs hd => by
  obtain ⟨R', h1, h2, h3⟩ := h n W I R a w hs
  refine ⟨I, R', ⟨hs.size, hs.defers, fun u y hy => ?_, h1⟩, hd, hm, fun _ _ => rfl, h2⟩
  have := get_put s.F (some t) x'
  simp only [Wx.put] at this
  rw [this] at hy
  simp only [fput] at hy
  split at hy
  · rename_i he; subst he; simp only [Option.some.injEq] at hy; subst hy; exact h3
  · exact AV.mono (.refl _) h2 (hs.fr u y hy)
/-- A slice that has grown is only read from here on. -/
theorem Stp.fzg {m : Nat} {s : S} (t i : Nat) (r : List (List Ce)) (hx : get s.F t = some (.c (.gsl i r))) (sz : Nat) (ty : TypeId) (hK : kg s.K i = gB sz ty r) (rows : List (List RT)) (hrows : r.map (List.map RT.ofT) = rows.map (List.map some)) (hm : m ≤ s.top) :
    Stp m s ⟨(t, .c (.ro true sz rows)) :: s.F, (i, none) :: s.K, s.top⟩ := by
  refine Stp.slot hm fun n W I R a w hs => ?_
  have hkk : kg ((i, none) :: s.K) = kup (kg s.K) [(i, none)] := kg_append s.K [(i, none)]
  rw [hkk]
  rcases hs.fr t _ hx with ⟨h1, h2⟩ | ⟨hne, p, c', hp, h2, h3, h4⟩
  · have : rows = [] := by subst h1; cases rows <;> first | rfl | simp at hrows
    subst this
    exact ⟨R, hs.wd.kill i, .refl _, by rw [h2]; exact .nil sz⟩
  · rw [gB_ne hne] at hK
    obtain ⟨p', hp', hk⟩ := hs.wd.blk i _ hK
    rw [hp] at hp'; cases hp'
    obtain ⟨g1, g2⟩ := hs.wd.fz hK hp
    refine ⟨_, g1, g2, ?_⟩
    have hlen : r.length = rows.length := by have := congrArg List.length hrows; simpa using this
    rw [h2]
    have hk' := hk.mono (.refl _) g2 (w' := w) rfl
    have := hk'.rd RT.ofT (R0 := (fun (f : Bool) bb o => if bb = p.b then w.cell? ⟨bb, o, none⟩ else R f bb o) true) (fun c t u h1 h2 => RT.ofT_rel h1 h2) (fun o u h => by simp only [if_true]; exact h) 0 c' rows (by omega) (by simpa [← hlen] using hrows)
    rw [Nat.zero_mul, ← hlen] at this
    exact this
/-- A slice of an own block is only read from here on. -/
theorem Stp.fzo {m : Nat} {s : S} (t i q l : Nat) (c : Option Nat) (hx : get s.F t = some (.c (.osl i q l c))) (b : Blk) (hK : kg s.K i = some b) (rows : List (List RT)) (hlen : rows.length = l) (hrows : ((b.rows.drop q).take l).map (List.map RT.ofT) = rows.map (List.map some)) (hm : m ≤ s.top) :
    Stp m s ⟨(t, .c (.ro true b.sz rows)) :: s.F, (i, none) :: s.K, s.top⟩ := by
  refine Stp.slot hm fun n W I R a w hs => ?_
  have hkk : kg ((i, none) :: s.K) = kup (kg s.K) [(i, none)] := kg_append s.K [(i, none)]
  rw [hkk]
  obtain ⟨p, c', hp, h2, h3, h4, _⟩ := hs.fr t _ hx
  obtain ⟨p', hp', hk⟩ := hs.wd.blk i _ hK
  rw [hp] at hp'; cases hp'
  obtain ⟨g1, g2⟩ := hs.wd.fz hK hp
  refine ⟨_, g1, g2, ?_⟩
  subst hlen
  rw [h2]
  have hk' := hk.mono (.refl _) g2 (w' := w) rfl
  exact hk'.rd RT.ofT (R0 := (fun (f : Bool) bb o => if bb = p.b then w.cell? ⟨bb, o, none⟩ else R f bb o) true) (fun c t u h1 h2 => RT.ofT_rel h1 h2) (fun o u h => by simp only [if_true]; exact h) q c' rows h3 hrows
/-- A function's end. -/
structure retN (T : Tab) (rs : List ResultVar) (s1 : S) (post : AV → Kr → Nat → Prop) : Prop where
  h : ∃ s, Stp 0 s1 s ∧ ∃ xs, resL T s rs = some xs ∧ ∃ l x Kc, retV xs = x.ren (rn l s.top) ∧ subK (rn l s.top) s.K Kc ∧ l.Nodup ∧ x.own' = true ∧ Kr.own' Kc ∧ (∀ p ∈ Kc, p.1 < l.length) ∧ post x Kc l.length
/-- Plain data. -/
theorem ret0 {T : Tab} {rs : List ResultVar} {s : S} {post : AV → Kr → Nat → Prop} (xs : List A0) (h : resL T s rs = some xs) (x : AV) (hx : retV xs = x) (hr : ∀ r, x.ren r = x) (ho : x.own' = true) (hp : post x [] 0) : retN T rs s post :=
  ⟨s, .refl (Nat.zero_le _), xs, h, [], x, [], by rw [hr]; exact hx, trivial, List.nodup_nil, ho, fun j b h => (by simp [kg] at h), (by simp), hp⟩
def Ce.low' : Ce → Bool
  | .ro true _ _ => false
  | .rp true _ _ => false
  | _ => true
def A0.low' : A0 → Bool
  | .one c => c.low'
  | .agg cs => cs.all Ce.low'
theorem Ce.rel_low {R R' : RM} (h : R false = R' false) {c : Ce} {u : Value} (hl : c.low' = true) (hr : c.rel (fun _ => none) R u) : c.rel (fun _ => none) R' u := by
  cases c with
  | ro fl sz rows => cases fl with
    | true => cases hl
    | false => simp only [Ce.rel, h] at hr ⊢; exact hr
  | rp fl row k => cases fl with
    | true => cases hl
    | false => simp only [Ce.rel, h] at hr ⊢; exact hr
  | _ => exact hr
theorem A0.rel_low {R R' : RM} (h : R false = R' false) {c : A0} {u : Value} (hl : c.low' = true) (hr : c.rel (fun _ => none) R u) : c.rel (fun _ => none) R' u := by
  cases c with
  | one c => exact Ce.rel_low h hl hr
  | agg cs =>
    obtain ⟨vs, h1, h2⟩ := hr
    exact ⟨vs, h1, h2.mono_mem fun c hc b => Ce.rel_low h (List.all_eq_true.1 hl c hc)⟩
/-- The end, behind other accounts of the state. -/
theorem ret_stp {T : Tab} {rs : List ResultVar} {s s' : S} {post : AV → Kr → Nat → Prop} (h : Stp 0 s s') (k : retN T rs s' post) : retN T rs s post := by
  obtain ⟨s2, h2, k⟩ := k.h
  exact ⟨s2, h.trans h2, k⟩
/-- Own blocks among the results. -/
theorem ret1 {T : Tab} {rs : List ResultVar} {s : S} {post : AV → Kr → Nat → Prop} (xs : List A0) (h : resL T s rs = some xs) (l : List Nat) (x : AV) (Kc : Kr) (hx : retV xs = x.ren (rn l s.top)) (hK : subK (rn l s.top) s.K Kc) (hn : l.Nodup) (ho : x.own' = true) (hko : Kr.own' Kc) (hlt : ∀ p ∈ Kc, p.1 < l.length) (hp : post x Kc l.length) : retN T rs s post :=
  ⟨s, .refl (Nat.zero_le _), xs, h, l, x, Kc, hx, hK, hn, ho, hko, hlt, hp⟩
theorem con_of {P : Program} {T : Tab} {g : FuncId} {args : List A0} {post : AV → Kr → Nat → Prop} (hT : TabOk P T) (n : Nat) (fn : Func) (c : Code) (hf : P.funcs[g]? = some fn) (hfn : fnB P g = true) (hb : fn.body = some c) (hn : fn.ntmps = n) (hle : Nat.ble args.length n = true) (hlow : args.all A0.low' = true)
    (h : ∀ W, codeA P T W n 0 c ⟨argF 0 (args.map .pl), [], 0⟩ fun e s => match e with
      | .normal => retN T fn.results.toList s post
      | .ret => retN T fn.results.toList s post
      | _ => False) : Con P g args post := by
  refine ⟨hfn, fun w vs hvs => ?_⟩
  have hle' : args.length ≤ n := by simpa [Nat.ble_eq] using hle
  let R0 : RM := fun fl b o => match fl with | true => none | false => w.cell? ⟨b, o, none⟩
  have hw : Wd (Wo.of w) (kg []) (fun _ => none) R0 w := by
    refine ⟨fun i b h => by simp [kg] at h, fun i j bi bj p q h => by simp [kg] at h, fun i b p h => by simp [kg] at h, ?_, fun i b p f o h => by simp [kg] at h, ?_, ?_, .refl _, fun _ _ _ _ _ h => h, fun _ h => h.elim⟩
    · intro f b o u hu
      cases f with
      | true => cases hu
      | false => exact hu
    · intro b o u hu; cases hu
    · intro b o u hu; cases hu
  have hv : All2 (AV.rel (fun _ => none) R0) (args.map .pl) vs := by
    refine All2.map _ (hvs.mono_mem fun a ha b hb => ?_)
    exact A0.rel_low (by rfl) (List.all_eq_true.1 hlow a ha) hb
  refine calls_of_wp hf hb (wp_mono (codeA_sound hT c _ _ (h (Wo.of w)) _ R0 _ w (by rw [hn]; exact st_args hv hw (by rw [← hvs.length]; exact hle')) (fun _ _ => rfl) (Nat.le_refl _)) ?_)
  rintro e a' w' ⟨s', I', R', h1, h2, h3, h4, h5, h6⟩
  have fin : retN T fn.results.toList s' post → a'.defers = [] ∧ ∃ v, (results fn a'.tmps).run P w' = .ok v w' ∧ (∃ v_1 x Kc tc I Rf, Ending.returned v = .returned v_1 ∧ Wd (Wo.of w) (kg Kc) I (fun _ => Rf) w' ∧ (∀ j, tc ≤ j → I j = none) ∧ (∀ p ∈ Kc, p.1 < tc) ∧ x.rel I (fun _ => Rf) v_1 ∧ post x Kc tc) := by
    rintro ⟨s2, hst, xs, hx, l, x, Kc, e1, e2, e3, e4, e5, e7, e6⟩
    obtain ⟨I2, R2, h1, h2, _, _, _⟩ := hst _ _ _ _ _ _ h1 h2
    obtain ⟨v, g1, g2⟩ := resL_results hT h1 hx
    rw [e1] at g2
    exact ⟨h1.defers, v, g1, v, x, Kc, l.length, _, R2 true, rfl, (h1.wd.weak e3 e2 h2).own e5, rn_dom (s0 := ⟨[], [], l.length⟩) rfl h2, e7, AV.rel_own e4 (AV.rel_ren.1 g2), e6⟩
  cases e with
  | normal => exact fin h6
  | ret => exact fin h6
  | _ => exact h6.elim
end Go.Proofs.Ytllnmdmmmkoiaaa.Wx
