/-
  The second layer, walked: fewer slots, loops, calls, rounds, loops over functions, regions that draw their order.
-/
import Derived.Test.YtllnmdmmmkoiaaaWz
namespace Go.Proofs.Ytllnmdmmmkoiaaa.Wx.Z
open Go Go.RowKit
set_option linter.unusedVariables false

/-! ### Other names -/
def renF (r : Nat → Nat) : Fr → Fr
  | [] => []
  | (k, x) :: F => (k, x.ren r) :: renF r F
theorem get_renF {r : Nat → Nat} : ∀ {F : Fr} {t : Nat} {y : AV}, get F t = some y → get (renF r F) t = some (y.ren r)
  | [], t, y, h => by simp [get] at h
  | (k, x) :: F, t, y, h => by
    simp only [get] at h
    simp only [renF, get]
    cases hb : Nat.beq k t with
    | true => rw [hb] at h; simp only [Option.some.injEq] at h; subst h; rfl
    | false => rw [hb] at h; exact get_renF h
theorem frOk_renF {r : Nat → Nat} : ∀ {F : Fr}, frOk (renF r F) = frOk F
  | [] => rfl
  | (k, x) :: F => by
    simp only [renF, frOk]
    cases Nat.blt k big with
    | true => exact frOk_renF
    | false => rfl
theorem btOf_ren {r : Nat → Nat} {F : Fr} {t : Nat} {y : AV} (h : (btOf F).get t = some y) : (btOf (renF r F)).get t = some (y.ren r) := by
  cases hk : frOk F with
  | true =>
    rw [btOf_get (by rw [frOk_renF]; exact hk)]
    exact get_renF (btOf_sub h)
  | false =>
    unfold btOf at h
    rw [hk] at h
    simp [Bt.get] at h
def LB.ren (r : Nat → Nat) (x : LB) : LB := ⟨x.n, renF r x.F, x.ps, x.assign, x.body, x.st⟩
def Ob.ren (r : Nat → Nat) : Ob → Ob
  | .b x => .b (x.ren r)
  | .m es => .m ⟨es.es.map fun e => (e.1, e.2.1, e.2.2.ren r), es.c⟩
  | .l x => .l (x.ren r)
  | .i x => .i ⟨r x.m, x.since, x.seen, x.last⟩
theorem ObOk.ren {I : IM} {R : RM} {r : Nat → Nat} {o : Ob} {p : Loc} {w : World} (h : Y.ObOk I R (o.ren r).y p w) : Y.ObOk (fun j => I (r j)) R o.y p w := by
  cases o with
  | b x => trivial
  | m es =>
    obtain ⟨ents, h1, h2⟩ := h.mem
    exact ⟨ents, h1, (All2.of_map (fun e : Value × Nat × A0 => (e.1, e.2.1, e.2.2.ren r)) h2).mono fun e m hh => ⟨hh.1, A0.rel_ren.1 hh.2⟩⟩
  | l x =>
    obtain ⟨rc, h1, h2, h3, h4, h5, h6, h7⟩ := h.mem
    exact ⟨rc, h1, h2, h3, h4, h5, h6, fun t y hy => AV.rel_ren.1 (h7 t _ (btOf_ren hy))⟩
  | i x => obtain ⟨pm, h1, h2⟩ := h.mem; exact ⟨pm, h1, h2⟩
theorem nb_ren {r : Nat → Nat} {o : Ob} : (o.ren r).y.nb = o.y.nb := by cases o <;> rfl
def subK (r : Nat → Nat) (K : Kr) : Kr → Prop
  | [] => True
  | (j, o) :: G => (∀ b, o = some b → kz K (r j) = some (b.ren r)) ∧ subK r K G
theorem subK.get {r : Nat → Nat} {K : Kr} : ∀ {G : Kr} {j : Nat} {b : Ob}, subK r K G → kz G j = some b → kz K (r j) = some (b.ren r)
  | [], j, b, _, h => by simp [kz] at h
  | (k, y) :: G, j, b, hs, h => by
    simp only [kz] at h
    cases hb : Nat.beq k j with
    | true =>
      simp only [hb] at h
      rw [← Nat.eq_of_beq_eq_true hb]
      exact hs.1 b h
    | false =>
      simp only [hb] at h
      exact subK.get (G := G) hs.2 h
theorem subK.low {r : Nat → Nat} {K : Kr} : ∀ {G : Kr}, subK r K G → Wx.subK r (kbl K) (kbl G)
  | [], _ => trivial
  | (k, y) :: G, hs => by
    refine ⟨fun b hb => ?_, subK.low hs.2⟩
    cases y with
    | none => cases hb
    | some o => cases o with
      | b x =>
        simp only [isB, Option.some.injEq] at hb
        subst hb
        rw [kg_kbl, kb_kz, hs.1 _ rfl]
        rfl
      | m es => cases hb
      | l x => cases hb
      | i x => cases hb
/-- What is kept: fewer slots, fewer blocks, under other names. -/
structure Wk (m : Nat) (l : List Nat) (s s0 : S) : Prop where
  len : l.length = s0.top
  nd : l.Nodup
  pre : l.take m = List.range m
  mle : m ≤ s0.top
  F : subF (rn l s.top) s.F s0.F
  K : subK (rn l s.top) s.K s0.K
def Stp (m : Nat) (s s' : S) : Prop := ∀ (n : Nat) (W : Wo) (I : IM) (R : RM) (a : Act) (w : World), Y.St n W (get s.F) (ky s.K) I R a w → (∀ j, s.top ≤ j → I j = none) →
  ∃ I' R', Y.St n W (get s'.F) (ky s'.K) I' R' a w ∧ (∀ j, s'.top ≤ j → I' j = none) ∧ m ≤ s'.top ∧ (∀ j, j < m → I' j = I j) ∧ RExt R R'
section
variable {P : Program} {T : Tab} {W : Wo} {n m : Nat} {rd : Option Nat} {I : IM} {R : RM} {a : Act} {w : World} {s s0 : S}
theorem ky_some {K : Kr} {i : Nat} {o : Y.Ob} (h : ky K i = some o) : ∃ b, kz K i = some b ∧ o = b.y := by
  unfold ky at h
  cases hk : kz K i with
  | none => rw [hk] at h; cases h
  | some b => rw [hk] at h; simp only [Option.map_some, Option.some.injEq] at h; exact ⟨b, rfl, h.symm⟩
theorem ky_of {K : Kr} {i : Nat} {b : Ob} (h : kz K i = some b) : ky K i = some b.y := by unfold ky; rw [h]; rfl
theorem Wz.weak {K0 : Kr} {l : List Nat} (h : Y.Wz W (ky s.K) I R w) (nd : l.Nodup) (hK : subK (rn l s.top) s.K K0) (hd : ∀ j, s.top ≤ j → I j = none) : Y.Wz W (ky K0) (fun j => I (rn l s.top j)) R w := by
  refine ⟨?_, fun i o hi hn => ?_, fun i j oi oj p q hi hj hni hnj hp hq he => ?_⟩
  · have h0 := h.wd
    rw [kb_eq, ← kg_kbl] at h0 ⊢
    exact Wd.weak (s := ⟨[], kbl s.K, s.top⟩) h0 nd hK.low hd
  · obtain ⟨b, hb, rfl⟩ := ky_some hi
    obtain ⟨p, hp, ho, hz⟩ := h.ob _ _ (ky_of (hK.get hb)) (by rw [nb_ren]; exact hn)
    exact ⟨p, hp, ObOk.ren ho, hz⟩
  · obtain ⟨b, hb, rfl⟩ := ky_some hi
    obtain ⟨c, hc, rfl⟩ := ky_some hj
    have hp' : I (rn l s.top i) = some p := hp
    have hq' : I (rn l s.top j) = some q := hq
    have e := h.inj _ _ _ _ _ _ (ky_of (hK.get hb)) (ky_of (hK.get hc)) (by rw [nb_ren]; exact hni) (by rw [nb_ren]; exact hnj) hp hq he
    exact rn_inj (s := ⟨[], [], s.top⟩) nd (by rw [show (⟨[], [], s.top⟩ : Wx.S).top = s.top from rfl, hp']; simp) (by rw [show (⟨[], [], s.top⟩ : Wx.S).top = s.top from rfl, hq']; simp) hd e
theorem Wk.stp {l : List Nat} (h : Wk m l s s0) : Stp m s s0 := fun n W I R a w hs hd => by
  refine ⟨fun j => I (rn l s.top j), R, ⟨hs.size, hs.mks, fun t x hx => AV.rel_ren.1 (hs.fr t _ (h.F.get hx)), Wz.weak hs.wz h.nd h.K hd⟩, rn_dom (s := ⟨[], [], s.top⟩) (s0 := ⟨[], [], s0.top⟩) h.len hd, h.mle, fun j hj => ?_, .refl _⟩
  have : l[j]? = some j := by
    have h1 : (l.take m)[j]? = some j := by rw [h.pre]; simp [hj]
    rwa [List.getElem?_take, if_pos hj] at h1
  simp [rn, this]
theorem Stp.trans {s1 s2 s3 : S} {m : Nat} (h : Stp m s1 s2) (k : Stp m s2 s3) : Stp m s1 s3 := fun n W I R a w hs hd => by
  obtain ⟨I1, R1, a1, a2, a3, a4, a5⟩ := h n W I R a w hs hd
  obtain ⟨I2, R2, b1, b2, b3, b4, b5⟩ := k n W I1 R1 a w a1 a2
  exact ⟨I2, R2, b1, b2, b3, fun j hj => (b4 j hj).trans (a4 j hj), a5.trans b5⟩
theorem Stp.refl {s : S} (h : m ≤ s.top) : Stp m s s := fun n W I R a w hs hd => ⟨I, R, hs, hd, h, fun _ _ => rfl, .refl _⟩
/-- A slot by another account. -/
theorem Stp.slot {t : Nat} {x' : AV} (hm : m ≤ s.top) (h : ∀ (n : Nat) (W : Wo) (I : IM) (R : RM) (a : Act) (w : World), Y.St n W (get s.F) (ky s.K) I R a w → x'.rel I R (a.eval (.tmp t))) : Stp m s ⟨(t, x') :: s.F, s.K, s.top⟩ := fun n W I R a w hs hd => by
  refine ⟨I, R, ⟨hs.size, hs.mks, fun u y hy => ?_, hs.wz⟩, hd, hm, fun _ _ => rfl, .refl _⟩
  have := get_put s.F (some t) x'
  simp only [Wx.put] at this
  rw [this] at hy
  simp only [fput] at hy
  split at hy
  · rename_i he; subst he; simp only [Option.some.injEq] at hy; subst hy; exact h n W I R a w hs
  · exact hs.fr u y hy
theorem Stp.nilg (t i : Nat) (hx : get s.F t = some (.val (.slice none 0 0))) (hm : m ≤ s.top) : Stp m s ⟨(t, .c (.gsl i [])) :: s.F, s.K, s.top⟩ :=
  Stp.slot hm fun n W I R a w hs => .inl ⟨rfl, hs.fr t _ hx⟩
structure rndZ {α : Type} (m : Nat) (G : α → S) (Inv : α → Prop) (μ : α → Nat) (p : α) (s : S) : Prop where
  h : ∃ p', Inv p' ∧ μ p' < μ p ∧ Stp m s (G p')
theorem loopZ_rule {c : Code} {Q : Exit → S → Prop} {α : Type} (hT : TabOk P T) (G : α → S) (Inv : α → Prop) (μ : α → Nat) (p0 : α) (h0 : Inv p0) (hw : Stp m s (G p0))
    (hb : ∀ p, Inv p → codeZ P T n m rd c (G p) fun e s' => match e with | .normal => rndZ m G Inv μ p s' | e => Q e s') : LoopZ P n m rd c s Q := by
  refine ⟨fun hrd W r I R a w hr hs hd hm => ?_⟩
  obtain ⟨Ia, Ra, g1, g2, gm, g3, g4⟩ := hw n W I R a w hs hd
  have key : ∀ (k : Nat) (p : α), Inv p → μ p < k → ∀ (I' : IM) (R' : RM) (a' : Act) (w' : World), Y.St n W (get (G p).F) (ky (G p).K) I' R' a' w' → (∀ j, (G p).top ≤ j → I' j = none) → m ≤ (G p).top → (∀ j, j < m → I' j = I j) → RExt R R' →
      Code.roundsIn (Y.fr r) 0 P c (fun e a' w' => nextP W n m I R (Q e) a' w') k a' w' := by
    intro k
    induction k with
    | zero => intro p _ h; exact absurd h (Nat.not_lt_zero _)
    | succ k ih =>
      intro p hI hlt I' R' a' w' h1 h2 h3 h4 h5
      rw [roundsIn_succ]
      refine wpIn_mono (codeZ_sound hT hrd c (G p) _ (hb p hI) W r I' R' a' w' (rd_next hrd hr h4) h1 h2 h3) ?_
      rintro e a2 w2 ⟨s2, I2, R2, k1, k2, k3, k4, k5, k6⟩
      cases e with
      | normal =>
        obtain ⟨p', hp', hlt', hwk⟩ := k6.h
        obtain ⟨I3, R3, j1, j2, j5, j3, j4⟩ := hwk _ _ _ _ _ _ k1 k2
        exact ih p' hp' (by omega) I3 R3 a2 w2 j1 j2 j5 (fun j hj => (j3 j hj).trans ((k4 j hj).trans (h4 j hj))) ((h5.trans k5).trans j4)
      | _ => exact ⟨s2, I2, R2, k1, k2, k3, fun j hj => (k4 j hj).trans (h4 j hj), h5.trans k5, k6⟩
  exact wpIn_loop_rounds (μ p0 + 1) (key _ p0 h0 (Nat.lt_succ_self _) Ia Ra a w g1 g2 gm g3 g4)
end
section
variable (P : Program) (T : Tab) (n m : Nat) (rd : Option Nat) (c : Code) (Q : Exit → S → Prop)
def loopU : Nat → S → Prop
  | 0, _ => False
  | f + 1, s => codeZ P T n m rd c s fun e s' => match e with
    | .normal => loopU f s'
    | e => Q e s'
end
theorem loopZ_unroll {P : Program} {T : Tab} {n m : Nat} {rd : Option Nat} {s : S} {c : Code} {Q : Exit → S → Prop} (hT : TabOk P T) (fuel : Nat) (h : loopU P T n m rd c Q fuel s) : LoopZ P n m rd c s Q := by
  refine ⟨fun hrd W r I R a w hr hs hd hm => ?_⟩
  have key : ∀ (k : Nat) (s' : S), loopU P T n m rd c Q k s' → ∀ (I' : IM) (R' : RM) (a' : Act) (w' : World), Y.St n W (get s'.F) (ky s'.K) I' R' a' w' → (∀ j, s'.top ≤ j → I' j = none) → m ≤ s'.top → (∀ j, j < m → I' j = I j) → RExt R R' →
      Code.roundsIn (Y.fr r) 0 P c (fun e a' w' => nextP W n m I R (Q e) a' w') k a' w' := by
    intro k
    induction k with
    | zero => intro s' h; exact h.elim
    | succ k ih =>
      intro s' hk I' R' a' w' h1 h2 h3 h4 h5
      rw [roundsIn_succ]
      refine wpIn_mono (codeZ_sound hT hrd c s' _ hk W r I' R' a' w' (rd_next hrd hr h4) h1 h2 h3) ?_
      rintro e a2 w2 ⟨s2, I2, R2, k1, k2, k3, k4, k5, k6⟩
      cases e with
      | normal => exact ih s2 k6 I2 R2 a2 w2 k1 k2 k3 (fun j hj => (k4 j hj).trans (h4 j hj)) (h5.trans k5)
      | _ => exact ⟨s2, I2, R2, k1, k2, k3, fun j hj => (k4 j hj).trans (h4 j hj), h5.trans k5, k6⟩
  exact wpIn_loop_rounds fuel (key fuel s h I R a w hs hd hm (fun _ _ => rfl) (.refl _))

/-! ### Calls -/
theorem st_low {n : Nat} {W : Wo} {F : Fr} {K : Kr} {I : IM} {R : RM} {a : Act} {w : World} (hs : Y.St n W (get F) (ky K) I R a w) : Wx.St n W (get F) (kg (kbl K)) I R ⟨a.tmps, []⟩ w :=
  ⟨hs.size, rfl, fun t x hx => hs.fr t x hx, by rw [kg_kbl, ← kb_eq]; exact hs.wz.wd⟩
theorem callZ_in {P : Program} {T : Tab} {m : Nat} {g : FuncId} {cap : List Pt} {avs : List AV} {K : Kr} {top : Nat} {k : AV → Kr → Nat → Prop} (hT : TabOk P T) (n : Nat) (fn : Func) (c : Code) (hf : P.funcs[g]? = some fn) (hfn : fnB P g = true) (hb : fn.body = some c) (hn : fn.ntmps = n) (hle : Nat.ble (avs ++ capA cap).length n = true)
    (h : codeZ P T n top none c ⟨argF 0 (avs ++ capA cap), K, top⟩ fun e s => match s with
      | ⟨F', K', t'⟩ => match e with
        | .normal => ∃ xs, resL T ⟨F', kbl K', t'⟩ fn.results.toList = some xs ∧ k (retV xs) K' t'
        | .ret => ∃ xs, resL T ⟨F', kbl K', t'⟩ fn.results.toList = some xs ∧ k (retV xs) K' t'
        | _ => False) : CallZ P m (.fn g cap) avs K top k := by
  refine ⟨fun W I R w v vs hw hd hm hvs hv => ?_⟩
  obtain ⟨us, hus, rfl⟩ : ∃ us, All2 (Pt.rel I) cap us ∧ v = .func (.func g) #[] us.toArray := hv
  have hall := hvs.append (capA_rel (R := R) hus)
  have hle' : (avs ++ capA cap).length ≤ n := by simpa [Nat.ble_eq] using hle
  refine .inl (.inl ⟨g, #[], us.toArray, rfl, hfn, ?_⟩)
  rw [Array.empty_append]
  have hargs : vs.toArray ++ us.toArray = (vs ++ us).toArray := by simp
  rw [hargs]
  have h0 := Wx.st_args (n := n) hall hw.wd (by rw [← hall.length]; exact hle')
  subst hn
  refine Y.fr_calls (r := none) (n := 0) (callsIn_of_wp_marks hf hb trivial (wpIn_mono (codeZ_sound hT (fun _ h => by cases h) c _ _ h W none I R _ w rfl ⟨h0.size, trivial, h0.fr, hw⟩ hd (Nat.le_refl _)) ?_))
  rintro e' a' w' ⟨⟨F', K', t'⟩, I', R', k1, k2, k3, k4, k5, k6⟩
  have k1 : Y.St fn.ntmps W (get F') (ky K') I' R' a' w' := k1
  have fin : ∀ xs, resL T ⟨F', kbl K', t'⟩ fn.results.toList = some xs → k (retV xs) K' t' → LeavesInM (Y.fr none) 0 P fn a'.tmps (fun e w' => ∃ u x K' top' I' R', e = .returned u ∧ Y.Wz W (ky K') I' R' w' ∧ (∀ j, top' ≤ j → I' j = none) ∧ top ≤ top' ∧ (∀ j, j < top → I' j = I j) ∧ RExt R R' ∧ x.rel I' R' u ∧ k x K' top') a'.defers .returning w' := by
    intro xs hx hk
    refine Y.leaves_marks _ _ k1.mks k1.wz fun w2 hw2 => ?_
    have k1' : Wx.St fn.ntmps W (get F') (kg (kbl K')) I' R' ⟨a'.tmps, []⟩ w2 := ⟨k1.size, rfl, fun t x hx => k1.fr t x hx, by rw [kg_kbl, ← kb_eq]; exact hw2.wd⟩
    obtain ⟨v, g1, g2⟩ := resL_results (s := ⟨F', kbl K', t'⟩) hT k1' hx
    exact ⟨v, g1, v, _, K', t', I', R', rfl, hw2, k2, k3, k4, k5, g2, hk⟩
  cases e' with
  | normal => obtain ⟨xs, hx, hk⟩ := k6; exact fin xs hx hk
  | ret => obtain ⟨xs, hx, hk⟩ := k6; exact fin xs hx hk
  | _ => exact k6.elim
theorem callZ_con {P : Program} {m : Nat} {g : FuncId} {avs : List AV} {K : Kr} {top : Nat} {k : AV → Kr → Nat → Prop} {args : List A0} {post : AV → Wx.Kr → Nat → Prop} (hl : All2 (lowV (kb K)) avs args) (h : Con P g args post)
    (hk : ∀ x Kc tc, post x Kc tc → k (x.ren (top + ·)) (upk (shK top Kc) ++ K) (top + tc)) : CallZ P m (.fn g []) avs K top k := by
  refine ⟨fun W I R w v vs hw hd hm hvs hv => ?_⟩
  obtain ⟨us, hus, rfl⟩ : ∃ us, All2 (Pt.rel I) [] us ∧ v = .func (.func g) #[] us.toArray := hv
  refine .inl (.inl ⟨g, #[], us.toArray, rfl, h.fn, ?_⟩)
  rw [Array.empty_append]
  have base := Wx.call_con (W := Y.stpB W (Y.blkOf (ky K)) I R w) (m := m) (K := kbl K) (top := top) (k := fun x K' t => ∃ kw, K' = kw ++ kbl K ∧ k x (upk kw ++ K) t) h (by rw [kg_kbl]; exact hl) (fun x Kc tc hp => ⟨shK top Kc, rfl, hk x Kc tc hp⟩)
  refine (base.run I R w vs us (by rw [kg_kbl, ← kb_eq]; exact Y.wd_step hw.wd) hd hm hvs hus).mono ?_
  rintro e w' ⟨v, x, K', top', I', R', rfl, hw', hd', ht, hI, hR, hx, kw, rfl, hk⟩
  refine ⟨v, x, upk kw ++ K, top', I', R', rfl, ?_, hd', ht, hI, hR, hx, hk⟩
  rw [ky_up]
  rw [kg_append, kg_kbl, ← kb_eq] at hw'
  exact hw.onK (Y.ext_of hd hI) hR hw'
theorem con_ofZ {P : Program} {T : Tab} {g : FuncId} {args : List A0} {post : AV → Wx.Kr → Nat → Prop} (hT : TabOk P T) (n : Nat) (fn : Func) (c : Code) (hf : P.funcs[g]? = some fn) (hfn : fnB P g = true) (hb : fn.body = some c) (hn : fn.ntmps = n) (hle : Nat.ble args.length n = true) (hlow : args.all A0.low' = true)
    (h : codeZ P T n 0 none c ⟨argF 0 (args.map .pl), [], 0⟩ fun e s => match s with
      | ⟨F', K', t'⟩ => match e with
        | .normal => retN T fn.results.toList ⟨F', kbl K', t'⟩ post
        | .ret => retN T fn.results.toList ⟨F', kbl K', t'⟩ post
        | _ => False) : Con P g args post := by
  refine ⟨hfn, fun w vs hvs => ?_⟩
  have hle' : args.length ≤ n := by simpa [Nat.ble_eq] using hle
  let R0 : RM := fun fl b o => match fl with | true => none | false => w.cell? ⟨b, o, none⟩
  have hw : Wd (Wo.of w) (kg []) (fun _ => none) R0 w := by
    refine ⟨fun i b h => by simp [kg] at h, fun i j bi bj p q h => by simp [kg] at h, fun i b p h => by simp [kg] at h, ?_, fun i b p f o h => by simp [kg] at h, ?_, ?_, .refl _, fun _ _ _ _ _ h => h, fun _ h => h.elim⟩
    · intro f b o u hu
      cases f with
      | true => cases hu
      | false => exact hu
    · intro b o u hu; cases hu
    · intro b o u hu; cases hu
  have hv : All2 (AV.rel (fun _ => none) R0) (args.map .pl) vs := by
    refine All2.map _ (hvs.mono_mem fun a ha b hb => ?_)
    exact A0.rel_low (by rfl) (List.all_eq_true.1 hlow a ha) hb
  have h0 := Wx.st_args (n := n) hv hw (by rw [← hvs.length]; exact hle')
  have hwz : Y.Wz (Wo.of w) (ky []) (fun _ => none) R0 w := ⟨by rw [kb_eq]; exact hw, fun i o h => (by cases h), fun i j oi oj p q h => (by cases h)⟩
  subst hn
  refine Y.fr_calls (r := none) (n := 0) (callsIn_of_wp_marks hf hb trivial (wpIn_mono (codeZ_sound hT (fun _ h => by cases h) c _ _ h (Wo.of w) none _ R0 _ w rfl ⟨h0.size, trivial, h0.fr, hwz⟩ (fun _ _ => rfl) (Nat.le_refl _)) ?_))
  rintro e' a' w' ⟨⟨F', K', t'⟩, I', R', h1, h2, h3, h4, h5, h6⟩
  have h1 : Y.St fn.ntmps (Wo.of w) (get F') (ky K') I' R' a' w' := h1
  have fin : retN T fn.results.toList ⟨F', kbl K', t'⟩ post → LeavesInM (Y.fr none) 0 P fn a'.tmps (fun e w' => ∃ v_1 x Kc tc I Rf, e = .returned v_1 ∧ Wd (Wo.of w) (kg Kc) I (fun _ => Rf) w' ∧ (∀ j, tc ≤ j → I j = none) ∧ (∀ p ∈ Kc, p.1 < tc) ∧ x.rel I (fun _ => Rf) v_1 ∧ post x Kc tc) a'.defers .returning w' := by
    rintro ⟨s2, hst, xs, hx, l, x, Kc, e1, e2, e3, e4, e5, e7, e6⟩
    refine Y.leaves_marks _ _ h1.mks h1.wz fun w2 hw2 => ?_
    have k1' : Wx.St fn.ntmps (Wo.of w) (get F') (kg (kbl K')) I' R' ⟨a'.tmps, []⟩ w2 := ⟨h1.size, rfl, fun t x hx => h1.fr t x hx, by rw [kg_kbl, ← kb_eq]; exact hw2.wd⟩
    obtain ⟨I2, R2, g1, g2, _, _, _⟩ := hst _ _ _ _ _ _ k1' h2
    obtain ⟨v, j1, j2⟩ := resL_results hT g1 hx
    rw [e1] at j2
    exact ⟨v, j1, v, x, Kc, l.length, _, R2 true, rfl, (g1.wd.weak e3 e2 g2).own e5, rn_dom (s0 := ⟨[], [], l.length⟩) rfl g2, e7, AV.rel_own e4 (AV.rel_ren.1 j2), e6⟩
  cases e' with
  | normal => exact fin h6
  | ret => exact fin h6
  | _ => exact h6.elim
end Go.Proofs.Ytllnmdmmmkoiaaa.Wx.Z
