/-
  The second layer, walked: regions that draw their order, with calls in them.
-/
import Derived.Test.YtllnmdmmmkoiaaaWzb
namespace Go.Proofs.Ytllnmdmmmkoiaaa.Wx.Z
open Go Go.RowKit
set_option linter.unusedVariables false

/-- A call in a region that draws its order. -/
structure ConZ (P : Program) (c : Ce) (avs : List AV) (K : Kr) (top : Nat) (k : Eff → Prop) : Prop where
  h : ∃ e : Eff, Y.CEff P c avs (ky K) top e.y ∧ k e
section
variable {P : Program}
theorem conZ_mk {g : FuncId} {avs : List AV} {K : Kr} {top : Nat} {k : Eff → Prop} {args : List A0} {res : AV} {Kc : Wx.Kr} {tc : Nat} (hl : All2 (lowV (kb K)) avs args) (h : Con P g args (fun x K t => x = res ∧ K = Kc ∧ t = tc)) (hk : k ⟨res.ren (top + ·), avs.flatMap AV.refs, upk (shK top Kc), top + tc⟩) : ConZ P (.fn g []) avs K top k := by
  refine ⟨_, ?_, hk⟩
  obtain ⟨hfn, hrun⟩ := con_eff (K0 := kb K) (top := top) h hl
  intro W K' I R w v vs hw hvs hv hrd hfree
  simp only [Eff.y] at hrd hfree
  obtain ⟨us, hus, rfl⟩ : ∃ us, All2 (Pt.rel I) [] us ∧ v = .func (.func g) #[] us.toArray := hv
  refine .inl (.inl ⟨g, #[], us.toArray, rfl, hfn, ?_⟩)
  rw [Array.empty_append]
  refine (hrun (Y.stpB W (Y.blkOf K') I R w) (Y.blkOf K') I R w vs us (Y.wd_step hw.wd) hvs hus (fun i hi => by
    rw [← kb_eq]; unfold Y.blkOf; rw [hrd i hi]) (fun j h1 h2 => ⟨(hfree j h1 h2).1, by unfold Y.blkOf; rw [(hfree j h1 h2).2]⟩)).mono ?_
  rintro e' w' ⟨u, I', R', rfl, h1, h2, h3, h4, h5⟩
  refine ⟨u, I', R', rfl, ?_, h2, h3, h4, h5⟩
  simp only [Eff.y, yk_upk]
  exact hw.onK h2 h4 h1

/-! ### A call that is walked in place -/
inductive FK (l : List Nat) : Kr → Kr → Prop
  | nil : FK l [] []
  | keep {p : Nat × Option Ob} {K K' : Kr} (h : l.contains p.1 = true) (k : FK l K K') : FK l (p :: K) (p :: K')
  | drop {p : Nat × Option Ob} {K K' : Kr} (h : l.contains p.1 = false) (k : FK l K K') : FK l (p :: K) K'
inductive DK (K : Kr) : Kr → Kr → Prop
  | nil : DK K K []
  | cons {p : Nat × Option Ob} {K' D : Kr} (k : DK K K' D) : DK K (p :: K') (p :: D)
theorem DK.eq {K K' D : Kr} (h : DK K K' D) : K' = D ++ K := by
  induction h with
  | nil => rfl
  | cons _ ih => rw [ih]; rfl
theorem FK.out {l : List Nat} {K K' : Kr} (h : FK l K K') : ∀ {i : Nat} {b : Ob}, kz K' i = some b → l.contains i = true := by
  induction h with
  | nil => intro i b h; simp [kz] at h
  | keep h k ih =>
    rename_i p K K'
    intro i b hb
    obtain ⟨p1, p2⟩ := p
    simp only [kz] at hb
    split at hb
    · rename_i he
      rw [← Nat.eq_of_beq_eq_true he]; exact h
    · exact ih hb
  | drop h k ih => exact ih
theorem FK.eq {l : List Nat} {K K' : Kr} (h : FK l K K') : ∀ {i : Nat}, l.contains i = true → kz K' i = kz K i := by
  induction h with
  | nil => intro i _; rfl
  | keep h k ih =>
    rename_i p K K'
    intro i hi
    obtain ⟨p1, p2⟩ := p
    simp only [kz]
    cases Nat.beq p1 i with
    | true => rfl
    | false => exact ih hi
  | drop h k ih =>
    rename_i p K K'
    intro i hi
    obtain ⟨p1, p2⟩ := p
    simp only [kz]
    cases hb : Nat.beq p1 i with
    | true =>
      have := Nat.eq_of_beq_eq_true hb
      subst this
      rw [hi] at h; cases h
    | false => exact ih hi
theorem kz_mem : ∀ {K : Kr} {i : Nat} {b : Ob}, kz K i = some b → (i, some b) ∈ K
  | [], i, b, h => by simp [kz] at h
  | (k, y) :: G, i, b, h => by
    simp only [kz] at h
    cases hb : Nat.beq k i with
    | true =>
      rw [hb] at h
      have := Nat.eq_of_beq_eq_true hb
      subst this
      simp only at h; subst h
      exact List.mem_cons_self
    | false => rw [hb] at h; exact List.mem_cons_of_mem _ (kz_mem h)
def frIn (l : List Nat) : Fr → Bool
  | [] => true
  | (_, x) :: F => x.inB l && frIn l F
theorem frIn_get {l : List Nat} : ∀ {F : Fr} {t : Nat} {y : AV}, frIn l F = true → get F t = some y → y.inB l = true
  | [], t, y, _, h => by simp [get] at h
  | (k, x) :: F, t, y, hi, h => by
    simp only [frIn, Bool.and_eq_true] at hi
    simp only [get] at h
    cases hb : Nat.beq k t with
    | true => rw [hb] at h; simp only [Option.some.injEq] at h; subst h; exact hi.1
    | false => rw [hb] at h; exact frIn_get hi.2 h
def Ob.inL (l : List Nat) : Ob → Bool
  | .b x => x.rows.all fun r => r.all (Ce.inB l)
  | .m es => es.es.all fun e => e.2.2.inB l
  | .l x => frIn l x.F && Bt.allB' l x.F
  | .i x => l.contains x.m
where Bt.allB' (l : List Nat) (F : Fr) : Bool := Y.Bt.allB (AV.inB l) (btOf F)
theorem inL_y {l : List Nat} {o : Ob} (h : o.inL l = true) : o.y.inB l = true := by
  cases o with
  | b x => exact h
  | m es => exact h
  | l x =>
    simp only [Ob.inL, Bool.and_eq_true] at h
    exact h.2
  | i x => exact h
def inK (l : List Nat) (K : Kr) : Bool := K.all fun p => match p.2 with
  | some b => b.inL l
  | none => true
def Ob.refs : Ob → List Nat
  | .b x => x.rows.flatMap fun r => r.flatMap Ce.refs2
  | .m es => es.es.flatMap fun e => e.2.2.refs2
  | .l x => x.F.flatMap fun p => p.2.refs2
  | .i x => [x.m]
def reachK (K : Kr) : Nat → List Nat → List Nat → List Nat
  | 0, _, seen => seen
  | _ + 1, [], seen => seen
  | n + 1, i :: r, seen => match seen.contains i with
    | true => reachK K n r seen
    | false => match kz K i with
      | none => reachK K n r (i :: seen)
      | some b => reachK K n (b.refs ++ r) (i :: seen)
def reach (K : Kr) (c : Ce) (avs : List AV) : List Nat := reachK K 4000 (c.refs2 ++ avs.flatMap AV.refs2) []
def inOk (l : List Nat) (c : Ce) (avs : List AV) (top : Nat) (Kp : Kr) : Bool := l.all (fun i => Nat.blt i top) && avs.all (AV.inB l) && c.inB l && inK l Kp
theorem conZ_in {c : Ce} {avs : List AV} {Kl : Kr} {top : Nat} {k : Eff → Prop} {Kp : Kr} {res : AV} {D : Kr} {t' : Nat} (hFK : FK (reach Kl c avs) Kl Kp) (hok : inOk (reach Kl c avs) c avs top Kp = true)
    (h : CallZ P top c avs Kp top fun x Kx t => x = res ∧ DK Kp Kx D ∧ t = t') (hle : Nat.ble top t' = true) (hk : k ⟨res, reach Kl c avs, D, t'⟩) : ConZ P c avs Kl top k := by
  simp only [inOk, Bool.and_eq_true] at hok
  refine ⟨_, ?_, hk⟩
  refine Y.in_effE (Kp := ky Kp) (Kx := ky (D ++ Kp)) _ hok.1.1.1 hok.1.1.2 hok.1.2 (fun i b hb => ?_) (fun i hi => ?_) (fun i b hb => ?_) ⟨Nat.le_of_ble_eq_true hle, fun W I R w v vs hw hd hvs hv => ?_⟩ (fun j => by rw [ky_append])
  · obtain ⟨o, ho, _⟩ := ky_some hb
    exact hFK.out ho
  · unfold ky; rw [hFK.eq hi]
  · obtain ⟨o, ho, rfl⟩ := ky_some hb
    have h1 := List.all_eq_true.1 hok.2 _ (kz_mem ho)
    exact inL_y h1
  · refine (h.run W I R w v vs hw hd (Nat.le_refl _) hvs hv).mono ?_
    rintro e w' ⟨u, x, K', top', I', R', rfl, hw', hd', ht, hI, hR, hx, rfl, hD, rfl⟩
    rw [hD.eq] at hw'
    exact ⟨u, I', R', rfl, hw', hd', hI, hR, hx⟩
end
/-- The same, with the blocks told, and each looked at by itself. -/
def InK (l : List Nat) : Kr → Prop
  | [] => True
  | (_, x) :: r => (∀ o, x = some o → o.inL l = true) ∧ InK l r
theorem InK.mem {l : List Nat} : ∀ {K : Kr} {i : Nat} {o : Ob}, InK l K → (i, some o) ∈ K → o.inL l = true
  | [], i, o, _, h => by simp at h
  | (j, x) :: r, i, o, hi, h => by
    rcases List.mem_cons.1 h with h | h
    · cases h; exact hi.1 o rfl
    · exact InK.mem hi.2 h
theorem inL_map {α : Type} {l : List Nat} {xs : List α} {f : α → List Ce} {sz : Nat} {ty : TypeId} {bx : Bool} (h : ∀ x, (f x).all (Ce.inB l) = true) : (Ob.b ⟨xs.map f, sz, ty, bx⟩).inL l = true := by
  simp only [Ob.inL, List.all_map]
  exact List.all_eq_true.2 fun x _ => h x
theorem inL_gB {α : Type} {l : List Nat} {xs : List α} {f : α → List Ce} {sz : Nat} {ty : TypeId} {o : Ob} (ho : (gB sz ty (xs.map f)).map Ob.b = some o) (h : ∀ x, (f x).all (Ce.inB l) = true) : o.inL l = true := by
  cases hg : gB sz ty (xs.map f) with
  | none => rw [hg] at ho; cases ho
  | some b0 =>
    rw [hg] at ho
    simp only [Option.map_some, Option.some.injEq] at ho
    subst ho
    obtain ⟨_, rfl⟩ := gB_some hg
    exact inL_map h
theorem conZ_in2 {P : Program} {c : Ce} {avs : List AV} {Kl : Kr} {top : Nat} {k : Eff → Prop} {Kp : Kr} {res : AV} {D : Kr} {t' : Nat} (l : List Nat) (hFK : FK l Kl Kp) (hlt : l.all (fun i => Nat.blt i top) = true) (hav : avs.all (AV.inB l) = true) (hcap : c.inB l = true) (hin : InK l Kp)
    (h : CallZ P top c avs Kp top fun x Kx t => x = res ∧ DK Kp Kx D ∧ t = t') (hle : Nat.ble top t' = true) (hk : k ⟨res, l, D, t'⟩) : ConZ P c avs Kl top k := by
  refine ⟨_, ?_, hk⟩
  refine Y.in_effE (Kp := ky Kp) (Kx := ky (D ++ Kp)) l hlt hav hcap (fun i b hb => ?_) (fun i hi => ?_) (fun i b hb => ?_) ⟨Nat.le_of_ble_eq_true hle, fun W I R w v vs hw hd hvs hv => ?_⟩ (fun j => by rw [ky_append])
  · obtain ⟨o, ho, _⟩ := ky_some hb
    exact hFK.out ho
  · unfold ky; rw [hFK.eq hi]
  · obtain ⟨o, ho, rfl⟩ := ky_some hb
    exact inL_y (hin.mem (kz_mem ho))
  · refine (h.run W I R w v vs hw hd (Nat.le_refl _) hvs hv).mono ?_
    rintro e w' ⟨u, x, K', top', I', R', rfl, hw', hd', ht, hI, hR, hx, rfl, hD, rfl⟩
    rw [hD.eq] at hw'
    exact ⟨u, I', R', rfl, hw', hd', hI, hR, hx⟩
theorem conZ_all {P : Program} {c : Ce} {avs : List AV} {Kl : Kr} {top : Nat} {k : Eff → Prop} {Kp : Kr} {res : AV} {D : Kr} {t' : Nat} (hFK : FK (List.range top) Kl Kp) (hav : avs.all (AV.inB (List.range top)) = true) (hcap : c.inB (List.range top) = true) (hin : InK (List.range top) Kp)
    (h : CallZ P top c avs Kp top fun x Kx t => x = res ∧ DK Kp Kx D ∧ t = t') (hle : Nat.ble top t' = true) (hk : k ⟨res, List.range top, D, t'⟩) : ConZ P c avs Kl top k :=
  conZ_in2 (List.range top) hFK (List.all_eq_true.2 fun x hx => by have := List.mem_range.1 hx; simpa [Nat.blt_eq] using this) hav hcap hin h hle hk
def onD (o : Oper) (F : Fr) (K : Kr) (top : Nat) (k : Y.Ent → S → Prop) (e : Eff) : Prop :=
  match e with
  | ⟨av, rd, kw, top'⟩ => match Nat.ble top top' with
    | true => match o.dst, kw with
      | none, [] => k ⟨o, false, ⟨av, rd, [], top'⟩, top⟩ ⟨F, K, top'⟩
      | some d, [] => k ⟨o, false, ⟨av, rd, [], top'⟩, top⟩ ⟨(d, av) :: F, K, top'⟩
      | none, [p] => k ⟨o, false, ⟨av, rd, yk [p], top'⟩, top⟩ ⟨F, p :: K, top'⟩
      | some d, [p] => k ⟨o, false, ⟨av, rd, yk [p], top'⟩, top⟩ ⟨(d, av) :: F, p :: K, top'⟩
      | dst, kw => k ⟨o, false, ⟨av, rd, yk kw, top'⟩, top⟩ ⟨Wx.put F dst av, kw ++ K, top'⟩
    | false => False
section
variable (P : Program) (T : Tab) (n : Nat)
def stepD (o : Oper) (F : Fr) (K : Kr) (top : Nat) (k : Y.Ent → S → Prop) : Prop :=
  match o with
  | ⟨dst, op, ty, pos, after, guard⟩ => match dstB n dst with
    | true => match callOf op with
      | some (f, xs) => match evf (get F) f, evs (get F) xs with
        | some (.pl (.one c)), some avs => ConZ P c avs K top (onD ⟨dst, op, ty, pos, after, guard⟩ F K top k)
        | _, _ => False
      | none => match op with
        | .defer _ => False
        | op => match isM (get F) op with
          | true => opMZ T ⟨dst, op, ty, pos, after, guard⟩ (get F) K top (onD ⟨dst, op, ty, pos, after, guard⟩ F K top k)
          | false => opA P T ⟨dst, op, ty, pos, after, guard⟩ (get F) (kb K) top fun e => onD ⟨dst, op, ty, pos, after, guard⟩ F K top k (Eff.up e)
    | false => False
def drawZ (ops : Array Oper) : List Oper → S → List Y.Ent → (List Y.Ent → S → Prop) → Prop
  | [], s, acc, k => k acc.reverse s
  | ⟨dst, op, ty, pos, after, guard⟩ :: r, ⟨F, K, top⟩, acc, k => match guard with
    | none => stepD P T n ⟨dst, op, ty, pos, after, none⟩ F K top fun x s' => drawZ ops r s' (x :: acc) k
    | some (g, want) => match dstB n dst, (ops[g]?).bind (·.dst) with
      | true, some t => match get F t with
        | some (.pl (.one (.v (.bool b)))) => match want, dst with
          | true, some d => spB b (stepD P T n ⟨dst, op, ty, pos, after, some (g, want)⟩ ((t, .val (.bool true)) :: F) K top fun x s' => drawZ ops r s' (x :: acc) k) (drawZ ops r ⟨(d, .val undef) :: (t, .val (.bool false)) :: F, K, top⟩ (⟨⟨dst, op, ty, pos, after, some (g, want)⟩, true, ⟨.val undef, [], [], top⟩, top⟩ :: acc) k)
          | false, some d => spB b (drawZ ops r ⟨(d, .val undef) :: (t, .val (.bool true)) :: F, K, top⟩ (⟨⟨dst, op, ty, pos, after, some (g, want)⟩, true, ⟨.val undef, [], [], top⟩, top⟩ :: acc) k) (stepD P T n ⟨dst, op, ty, pos, after, some (g, want)⟩ ((t, .val (.bool false)) :: F) K top fun x s' => drawZ ops r s' (x :: acc) k)
          | true, none => spB b (stepD P T n ⟨dst, op, ty, pos, after, some (g, want)⟩ ((t, .val (.bool true)) :: F) K top fun x s' => drawZ ops r s' (x :: acc) k) (drawZ ops r ⟨(t, .val (.bool false)) :: F, K, top⟩ (⟨⟨dst, op, ty, pos, after, some (g, want)⟩, true, ⟨.val undef, [], [], top⟩, top⟩ :: acc) k)
          | false, none => spB b (drawZ ops r ⟨(t, .val (.bool true)) :: F, K, top⟩ (⟨⟨dst, op, ty, pos, after, some (g, want)⟩, true, ⟨.val undef, [], [], top⟩, top⟩ :: acc) k) (stepD P T n ⟨dst, op, ty, pos, after, some (g, want)⟩ ((t, .val (.bool false)) :: F) K top fun x s' => drawZ ops r s' (x :: acc) k)
        | some (.pl (.one (.v (.tuple _)))) => match dst with
          | some d => drawZ ops r ⟨(d, .val undef) :: F, K, top⟩ (⟨⟨dst, op, ty, pos, after, some (g, want)⟩, true, ⟨.val undef, [], [], top⟩, top⟩ :: acc) k
          | none => drawZ ops r ⟨F, K, top⟩ (⟨⟨dst, op, ty, pos, after, some (g, want)⟩, true, ⟨.val undef, [], [], top⟩, top⟩ :: acc) k
        | _ => False
      | _, _ => False
end
structure apZ (ops : Array Oper) (xs : List Y.Ent) (A : Prop) : Prop where
  h : Y.apartB ops xs = true
  k : A
theorem apZ_mk {ops : Array Oper} {xs : List Y.Ent} {A : Prop} (h : Y.apartB ops xs = true) (k : A) : apZ ops xs A := ⟨h, k⟩
section
variable {P : Program} {T : Tab} {n m : Nat} {ops : Array Oper}
theorem onD_spec {o : Oper} {F : Fr} {K : Kr} {top : Nat} {k : Y.Ent → S → Prop} {e : Eff} (h : onD o F K top k e) : top ≤ e.top ∧ k ⟨o, false, e.y, top⟩ ⟨Wx.put F o.dst e.av, e.kw ++ K, e.top⟩ := by
  obtain ⟨av, rd, kw, top'⟩ := e
  unfold onD at h
  simp only at h
  split at h
  · rename_i hb
    refine ⟨by simpa [Nat.ble_eq] using hb, ?_⟩
    obtain ⟨dst, op, ty, pos, after, guard⟩ := o
    simp only [Eff.y] at h ⊢
    split at h <;> exact h
  · exact h.elim
theorem up_y (e : Wx.Eff) : (Eff.up e).y = ⟨e.av, e.rd, Y.liftK e.kw, e.top⟩ := by
  obtain ⟨av, rd, kw, t⟩ := e
  simp only [Eff.up, Eff.y, yk_upk]
theorem stepD_spec (hT : TabOk P T) {o : Oper} {F : Fr} {K : Kr} {top : Nat} {k : Y.Ent → S → Prop} (h : stepD P T n o F K top k) : dstB n o.dst = true ∧ ∃ e : Eff, Y.OpEff P o (get F) (ky K) top e.y ∧ top ≤ e.top ∧ k ⟨o, false, e.y, top⟩ ⟨Wx.put F o.dst e.av, e.kw ++ K, e.top⟩ := by
  obtain ⟨dst, op, ty, pos, after, guard⟩ := o
  unfold stepD at h
  simp only at h
  split at h
  · rename_i hd
    refine ⟨hd, ?_⟩
    split at h
    · rename_i f xs hc
      unfold callOf at hc
      split at hc
      · rename_i f' xs' ts
        simp only [Option.some.injEq, Prod.mk.injEq] at hc
        obtain ⟨rfl, rfl⟩ := hc
        split at h
        · rename_i c avs hf hxs
          obtain ⟨e, he, hk⟩ := h.h
          obtain ⟨h1, h2⟩ := onD_spec hk
          exact ⟨_, Y.e_call hf hxs he, h1, h2⟩
        · exact h.elim
      · cases hc
    · split at h
      · exact h.elim
      · rename_i hnd
        split at h
        · obtain ⟨e, he, hk⟩ := opMZ_sound hT h
          obtain ⟨h1, h2⟩ := onD_spec hk
          exact ⟨_, he, h1, h2⟩
        · obtain ⟨e, he, hk⟩ := opA_sound hT h
          obtain ⟨h1, h2⟩ := onD_spec hk
          rw [← kb_eq K] at he
          have := Y.lift_op (fun c hc => hnd c hc) he
          rw [← up_y] at this
          exact ⟨_, this, h1, h2⟩
  · exact h.elim
theorem drawZ_spec (hT : TabOk P T) {k : List Y.Ent → S → Prop} : ∀ (l : List Oper) (s : S) (acc : List Y.Ent), drawZ P T n ops l s acc k → ∃ xs s', xs.map (·.o) = l ∧ Y.Chain P ops n xs (get s.F) (ky s.K) s.top (get s'.F) (ky s'.K) s'.top ∧ k (acc.reverse ++ xs) s'
  | [], s, acc, h => ⟨[], s, rfl, ⟨rfl, rfl, rfl⟩, by simpa [drawZ] using h⟩
  | ⟨dst, op, ty, pos, after, guard⟩ :: r, ⟨F, K, top⟩, acc, h => by
    have step : ∀ (o : Oper) (F1 : Fr), get F1 = get F → (∀ e, dstB n o.dst = true → top ≤ e.top → Y.OpEff P o (get F) (ky K) top e → Y.EntOk P ops n ⟨o, false, e, top⟩ (get F) (ky K)) →
        stepD P T n o F1 K top (fun x s' => drawZ P T n ops r s' (x :: acc) k) → ∃ xs s', xs.map (·.o) = o :: r ∧ Y.Chain P ops n xs (get F) (ky K) top (get s'.F) (ky s'.K) s'.top ∧ k (acc.reverse ++ xs) s' := by
      intro o F1 hF hok hs
      obtain ⟨h0, e, h1, h2, h3⟩ := stepD_spec hT hs
      obtain ⟨xs, s', g1, g2, g3⟩ := drawZ_spec hT r _ _ h3
      rw [hF] at h1
      refine ⟨⟨o, false, e.y, top⟩ :: xs, s', by simp [g1], ⟨hok e.y h0 h2 h1, rfl, ?_⟩, by simpa using g3⟩
      rw [get_put, ky_append, hF] at g2
      exact g2
    have skip : ∀ (o : Oper) (F1 : Fr), get F1 = fput (get F) o.dst (.val undef) → Y.EntOk P ops n ⟨o, true, ⟨.val undef, [], [], top⟩, top⟩ (get F) (ky K) →
        drawZ P T n ops r ⟨F1, K, top⟩ (⟨o, true, ⟨.val undef, [], [], top⟩, top⟩ :: acc) k → ∃ xs s', xs.map (·.o) = o :: r ∧ Y.Chain P ops n xs (get F) (ky K) top (get s'.F) (ky s'.K) s'.top ∧ k (acc.reverse ++ xs) s' := by
      intro o F1 hF hok hs
      obtain ⟨xs, s', g1, g2, g3⟩ := drawZ_spec hT r _ _ hs
      refine ⟨⟨o, true, ⟨.val undef, [], [], top⟩, top⟩ :: xs, s', by simp [g1], ⟨hok, rfl, ?_⟩, by simpa using g3⟩
      simp only [hF] at g2
      exact g2
    unfold drawZ at h
    split at h
    · exact step ⟨dst, op, ty, pos, after, none⟩ F rfl (fun e h1 h2 h3 => ⟨h1, h2, h3, .inl rfl⟩) h
    · rename_i g want
      split at h
      · rename_i t hdst hgd
        split at h
        · rename_i b ht
          have hs : ∀ (want' : Bool), (b == want') = true → want = want' → ∀ e, dstB n dst = true → top ≤ e.top → Y.OpEff P ⟨dst, op, ty, pos, after, some (g, want)⟩ (get F) (ky K) top e → Y.EntOk P ops n ⟨⟨dst, op, ty, pos, after, some (g, want)⟩, false, e, top⟩ (get F) (ky K) :=
            fun want' hb hw e h1 h2 h3 => ⟨h1, h2, h3, .inr ⟨g, want, t, b, rfl, hgd, ht, by rw [hw]; exact hb⟩⟩
          have hk : (b == want) = false → Y.EntOk P ops n ⟨⟨dst, op, ty, pos, after, some (g, want)⟩, true, ⟨.val undef, [], [], top⟩, top⟩ (get F) (ky K) :=
            fun hb => ⟨hdst, Nat.le_refl _, rfl, rfl, rfl, rfl, g, want, t, rfl, hgd, .inl ⟨b, ht, hb⟩⟩
          have hu : ∀ x : AV, get F t = some x → ∀ d, get (Wx.put ((t, x) :: F) d (.val undef)) = fput (get F) d (.val undef) := fun x hx d => by rw [get_put, get_lit hx]
          split at h
          · cases b with
            | true => exact step ⟨_, op, ty, pos, after, some (g, true)⟩ _ (get_lit ht) (hs true rfl rfl) (h.t rfl)
            | false => exact skip ⟨_, op, ty, pos, after, some (g, true)⟩ _ (hu _ ht (some _)) (hk rfl) (h.f rfl)
          · cases b with
            | true => exact skip ⟨_, op, ty, pos, after, some (g, false)⟩ _ (hu _ ht (some _)) (hk rfl) (h.t rfl)
            | false => exact step ⟨_, op, ty, pos, after, some (g, false)⟩ _ (get_lit ht) (hs false rfl rfl) (h.f rfl)
          · cases b with
            | true => exact step ⟨_, op, ty, pos, after, some (g, true)⟩ _ (get_lit ht) (hs true rfl rfl) (h.t rfl)
            | false => exact skip ⟨_, op, ty, pos, after, some (g, true)⟩ _ (hu _ ht none) (hk rfl) (h.f rfl)
          · cases b with
            | true => exact skip ⟨_, op, ty, pos, after, some (g, false)⟩ _ (hu _ ht none) (hk rfl) (h.t rfl)
            | false => exact step ⟨_, op, ty, pos, after, some (g, false)⟩ _ (get_lit ht) (hs false rfl rfl) (h.f rfl)
        · rename_i l ht
          have h' : drawZ P T n ops r ⟨Wx.put F dst (.val undef), K, top⟩ (⟨⟨dst, op, ty, pos, after, some (g, want)⟩, true, ⟨.val undef, [], [], top⟩, top⟩ :: acc) k := by cases dst <;> exact h
          exact skip ⟨dst, op, ty, pos, after, some (g, want)⟩ _ (get_put _ _ _) ⟨hdst, Nat.le_refl _, rfl, rfl, rfl, rfl, g, want, t, rfl, hgd, .inr ⟨l, ht⟩⟩ h'
        · exact h.elim
      · exact h.elim
theorem drawZ_rule (hT : TabOk P T) (hmix : P.follows .mixedOrders = true) {id : Nat} {s : S} {k : S → Prop} (h : drawZ P T n ops ops.toList s [] fun xs s' => apZ ops xs (k s')) : DrawZ P n m id ops s k := by
  refine ⟨fun rd W r I R a w hr hs hd hm => ?_⟩
  obtain ⟨xs, s', h1, h2, h3⟩ := drawZ_spec hT _ _ _ h
  obtain ⟨hap, hk⟩ := h3
  simp only [List.reverse_nil, List.nil_append] at hap
  have htop := h2.at.2.2.2.1
  exact Y.chain_region hmix h1 h2 hap hs hd fun a' w' I' R' k1 k2 k3 k4 => ⟨s', I', R', k1, k2, Nat.le_trans hm htop, fun j hj => k3 j (Nat.lt_of_lt_of_le hj hm), k4, hk⟩
end
theorem mkN_nat {l c bt : Nat} {A : Nat → Nat → Prop} (h1 : l ≤ c) (h2 : c ≤ maxLen) (h3 : bt * c ≤ 140737488355328) (k : A l c) : mkN (l : Int) (c : Int) bt A := ⟨l, c, rfl, rfl, h1, h2, h3, k⟩
theorem RangeZ.red {P : Program} {n m : Nat} {rd : Option Nat} {g : Operand} {ps : Array Tmp} {a b : Code} {s : S} {Q : Exit → S → Prop} (h : RangeZ P n m rd g ps a b s Q) : RangeZ P n m rd g ps a b s Q := h
theorem CallZ.yl {P : Program} {m j : Nat} {avs : List AV} {K : Kr} {top : Nat} {k : AV → Kr → Nat → Prop} (h : CallZ P m (.yl j) avs K top k) : CallZ P m (.yl j) avs K top k := h
theorem rowN_known {α β : Type} {f : α → β} {xs : List α} {i : Nat} {x : α} {A : β → Prop} (h : xs[i]? = some x) (k : A (f x)) : rowN (xs.map f) i A := ⟨f x, by simp [h], k⟩
theorem isB_map (o : Option Blk) : isB (o.map Ob.b) = o := by cases o <;> rfl
theorem blk_sub {K : Kr} {r : Nat → Nat} {j sz : Nat} {ty : TypeId} {rows rows' : List (List Ce)} {bx : Bool} (h : kz K (r j) = some (.b ⟨rows', sz, ty, bx⟩)) (e : rows' = rows) (hf : rows.map (List.map (Ce.ren r)) = rows) : ∀ b, some (Ob.b ⟨rows, sz, ty, bx⟩) = some b → kz K (r j) = some (b.ren r) := fun b hb => by
  cases hb
  rw [h, e]
  simp only [Ob.ren, Blk.ren, hf]
theorem gB_sub {K : Kr} {r : Nat → Nat} {j sz : Nat} {ty : TypeId} {rows rows' : List (List Ce)} (h : kz K (r j) = (gB sz ty rows').map Ob.b) (e : rows' = rows) (hf : rows.map (List.map (Ce.ren r)) = rows) : ∀ b, (gB sz ty rows).map Ob.b = some b → kz K (r j) = some (b.ren r) := fun b hb => by
  cases hg : gB sz ty rows with
  | none => rw [hg] at hb; cases hb
  | some b0 =>
    rw [hg] at hb
    simp only [Option.map_some, Option.some.injEq] at hb
    subst hb
    obtain ⟨_, rfl⟩ := gB_some hg
    rw [h, e, hg]
    simp only [Option.map_some, Ob.ren, Blk.ren, hf]
theorem gB_sub' {K : Kr} {r : Nat → Nat} {j sz : Nat} {ty : TypeId} {rows rows' : List (List Ce)} (h : kz K (r j) = some (.b ⟨rows', sz, ty, false⟩)) (e : rows' = rows) (hf : rows.map (List.map (Ce.ren r)) = rows) : ∀ b, (gB sz ty rows).map Ob.b = some b → kz K (r j) = some (b.ren r) := fun b hb => by
  cases hg : gB sz ty rows with
  | none => rw [hg] at hb; cases hb
  | some b0 =>
    rw [hg] at hb
    simp only [Option.map_some, Option.some.injEq] at hb
    subst hb
    obtain ⟨_, rfl⟩ := gB_some hg
    rw [h, e]
    simp only [Ob.ren, Blk.ren, hf]
theorem lay_all {rows src : List (List Ce)} (h : src.length = rows.length) : lay rows 0 src = src := by
  unfold lay
  rw [List.take_zero, List.nil_append, Nat.zero_add, List.drop_of_length_le (by omega), List.append_nil]
theorem kb_some {K : Kr} {i : Nat} {o : Option Blk} (h : kz K i = o.map Ob.b) : kb K i = o := by rw [kb_kz, h, isB_map]
theorem ConZ.red {P : Program} {c : Ce} {avs : List AV} {K : Kr} {top : Nat} {k : Eff → Prop} (h : ConZ P c avs K top k) : ConZ P c avs K top k := h
theorem rowN_red {α : Type} {rows : List α} {q : Nat} {A : α → Prop} (h : rowN rows q A) : rowN rows q A := h
theorem rowN_known2 {α β : Type} {f : α → β} {xs : List α} {i q : Nat} {x : α} {A : β → Prop} (h : xs[i]? = some x) (e : q = i) (k : A (f x)) : rowN (xs.map f) q A := by subst e; exact rowN_known h k
end Go.Proofs.Ytllnmdmmmkoiaaa.Wx.Z
