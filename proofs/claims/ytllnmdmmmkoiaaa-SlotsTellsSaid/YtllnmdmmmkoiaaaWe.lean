/-
  A walk by computation: code, loops, calls, results.
-/
import Derived.Test.YtllnmdmmmkoiaaaWd
namespace Go.Proofs.Ytllnmdmmmkoiaaa.Wx
open Go Go.RowKit
set_option linter.unusedVariables false

def nextP (W : Wo) (n m : Nat) (I : IM) (R : RM) (A : S → Prop) (a' : Act) (w' : World) : Prop :=
  ∃ s' I' R', St n W (get s'.F) (kg s'.K) I' R' a' w' ∧ (∀ j, s'.top ≤ j → I' j = none) ∧ m ≤ s'.top ∧ (∀ j, j < m → I' j = I j) ∧ RExt R R' ∧ A s'
def PostS (W : Wo) (n m : Nat) (I : IM) (R : RM) (Q : Exit → S → Prop) (e : Exit) (a' : Act) (w' : World) : Prop := nextP W n m I R (Q e) a' w'
/-- What is asked of code from a state on. -/
def Tr (P : Program) (W : Wo) (n m : Nat) (c : Code) (s : S) (Q : Exit → S → Prop) : Prop :=
  ∀ I R a w, St n W (get s.F) (kg s.K) I R a w → (∀ j, s.top ≤ j → I j = none) → m ≤ s.top → c.wp P (PostS W n m I R Q) a w
/-- A call, in the memory at hand. -/
structure CallP (P : Program) (W : Wo) (m : Nat) (g : FuncId) (cap : List Pt) (avs : List AV) (K : Kr) (top : Nat) (k : AV → Kr → Nat → Prop) : Prop where
  fn : fnB P g = true
  run : ∀ I R w vs us, Wd W (kg K) I R w → (∀ j, top ≤ j → I j = none) → m ≤ top → All2 (AV.rel I R) avs vs → All2 (Pt.rel I) cap us →
    Calls P g (vs.toArray ++ us.toArray) w (fun e w' => ∃ v x K' top' I' R', e = .returned v ∧ Wd W (kg K') I' R' w' ∧ (∀ j, top' ≤ j → I' j = none) ∧ top ≤ top' ∧ (∀ j, j < top → I' j = I j) ∧ RExt R R' ∧ x.rel I' R' v ∧ k x K' top')
def evs (F : Nat → Option AV) : List Operand → Option (List AV)
  | [] => some []
  | x :: r => match evf F x, evs F r with
    | some v, some l => some (v :: l)
    | _, _ => none
/-- A call of a Go function: whom, and with what. -/
def callOf (op : Op) : Option (Operand × List Operand) :=
  match op with
  | .call ⟨.value f, xs, _⟩ => some (f, xs.toList)
  | _ => none
section
variable (P : Program) (T : Tab) (W : Wo) (n m : Nat)
def onE (dst : Option Tmp) (F : Fr) (K : Kr) (top : Nat) (k : S → Prop) (e : Eff) : Prop :=
  match e with
  | ⟨av, _, kw, top'⟩ => match Nat.ble top top' with
    | true => match dst, kw with
      | none, [] => k ⟨F, K, top'⟩
      | some d, [] => k ⟨(d, av) :: F, K, top'⟩
      | none, [p] => k ⟨F, p :: K, top'⟩
      | some d, [p] => k ⟨(d, av) :: F, p :: K, top'⟩
      | _, _ => k ⟨put F dst av, kw ++ K, top'⟩
    | false => False
def stepA (o : Oper) (s : S) (k : S → Prop) : Prop :=
  match o, s with
  | ⟨dst, op, ty, pos, after, guard⟩, ⟨F, K, top⟩ => match dstB n dst with
    | true => match callOf op with
      | some (f, xs) => match evf (get F) f, evs (get F) xs with
        | some (.pl (.one (.fn g cap))), some avs => CallP P W m g cap avs K top fun x K' top' => match dst with
          | some d => k ⟨(d, x) :: F, K', top'⟩
          | none => k ⟨F, K', top'⟩
        | _, _ => False
      | none => opA P T ⟨dst, op, ty, pos, after, guard⟩ (get F) (kg K) top (onE dst F K top k)
    | false => False
def runA (ops : Array Oper) : List Oper → S → (S → Prop) → Prop
  | [], s, k => k s
  | ⟨dst, op, ty, pos, after, guard⟩ :: r, ⟨F, K, top⟩, k => match guard with
    | none => stepA P T W n m ⟨dst, op, ty, pos, after, none⟩ ⟨F, K, top⟩ fun s' => runA ops r s' k
    | some (g, want) => match dstB n dst, (ops[g]?).bind (·.dst) with
      | true, some t => match get F t with
        | some (.pl (.one (.v (.bool b)))) => match want, dst with
          | true, some d => spB b (stepA P T W n m ⟨dst, op, ty, pos, after, none⟩ ⟨(t, .val (.bool true)) :: F, K, top⟩ fun s' => runA ops r s' k) (runA ops r ⟨(d, .val undef) :: (t, .val (.bool false)) :: F, K, top⟩ k)
          | false, some d => spB b (runA ops r ⟨(d, .val undef) :: (t, .val (.bool true)) :: F, K, top⟩ k) (stepA P T W n m ⟨dst, op, ty, pos, after, none⟩ ⟨(t, .val (.bool false)) :: F, K, top⟩ fun s' => runA ops r s' k)
          | true, none => spB b (stepA P T W n m ⟨dst, op, ty, pos, after, none⟩ ⟨(t, .val (.bool true)) :: F, K, top⟩ fun s' => runA ops r s' k) (runA ops r ⟨(t, .val (.bool false)) :: F, K, top⟩ k)
          | false, none => spB b (runA ops r ⟨(t, .val (.bool true)) :: F, K, top⟩ k) (stepA P T W n m ⟨dst, op, ty, pos, after, none⟩ ⟨(t, .val (.bool false)) :: F, K, top⟩ fun s' => runA ops r s' k)
        | some (.pl (.one (.v (.tuple _)))) => match dst with
          | some d => runA ops r ⟨(d, .val undef) :: F, K, top⟩ k
          | none => runA ops r ⟨F, K, top⟩ k
        | _ => False
      | _, _ => False
/-- A region that draws its order: held back. -/
structure DrawN (P : Program) (W : Wo) (n m : Nat) (id : Nat) (ops : Array Oper) (s : S) (k : S → Prop) : Prop where
  h : Tr P W n m (.region id ops true) s fun e s' => match e with | .normal => k s' | _ => False
structure LoopN (P : Program) (W : Wo) (n m : Nat) (c : Code) (s : S) (Q : Exit → S → Prop) : Prop where
  h : Tr P W n m (.loop c) s Q
def codeA : Code → S → (Exit → S → Prop) → Prop
  | .skip, s, Q => Q .normal s
  | .region id ops draw, s, Q => match draw with
    | false => runA P T W n m ops ops.toList s (Q .normal)
    | true => DrawN P W n m id ops s (Q .normal)
  | .seq a b, s, Q => codeA a s fun e s' => match e with
    | .normal => codeA b s' Q
    | e => Q e s'
  | .cond c x y, ⟨F, K, top⟩, Q => match evf (get F) c with
    | some (.pl (.one (.v (.bool b)))) => spB b (codeA x ⟨F, K, top⟩ Q) (codeA y ⟨F, K, top⟩ Q)
    | _ => False
  | .block id c, s, Q => codeA c s fun e s' => match e with
    | .exit i => match Nat.beq i id with
      | true => Q .normal s'
      | false => Q (.exit i) s'
    | e => Q e s'
  | .loop c, s, Q => LoopN P W n m c s Q
  | .exit id, s, Q => Q (.exit id) s
  | .ret, s, Q => Q .ret s
  | .label _, s, Q => Q .normal s
  | .scope c, s, Q => codeA c s fun e s' => match e with
    | .goto _ => False
    | e => Q e s'
  | _, _, _ => False
end

section
variable {P : Program} {T : Tab} {W : Wo} {n m : Nat}
theorem Tr.mono {c : Code} {s : S} {Q Q' : Exit → S → Prop} (h : Tr P W n m c s Q) (hq : ∀ e s, Q e s → Q' e s) : Tr P W n m c s Q' :=
  fun I R a w hs hd hm => wp_mono (h I R a w hs hd hm) fun e a' w' ⟨s', I', R', h1, h2, h3, h4, h5, h6⟩ => ⟨s', I', R', h1, h2, h3, h4, h5, hq _ _ h6⟩
/-- On from where a piece has come to. -/
theorem nextP.step {I : IM} {R : RM} {A B : S → Prop} {a' : Act} {w' : World} (h : nextP W n m I R A a' w') {C : Prop}
    (hk : ∀ s' I' R', St n W (get s'.F) (kg s'.K) I' R' a' w' → (∀ j, s'.top ≤ j → I' j = none) → m ≤ s'.top → (∀ j, j < m → I' j = I j) → RExt R R' → A s' → C) : C := by
  obtain ⟨s', I', R', h1, h2, h3, h4, h5, h6⟩ := h
  exact hk s' I' R' h1 h2 h3 h4 h5 h6
theorem nextP.of {I I1 : IM} {R R1 : RM} {A : S → Prop} {a' : Act} {w' : World} (h : nextP W n m I1 R1 A a' w') (hI : ∀ j, j < m → I1 j = I j) (hR : RExt R R1) : nextP W n m I R A a' w' := by
  obtain ⟨s', I', R', h1, h2, h3, h4, h5, h6⟩ := h
  exact ⟨s', I', R', h1, h2, h3, fun j hj => (h4 j hj).trans (hI j hj), hR.trans h5, h6⟩
theorem fnB_call {g : FuncId} (h : fnB P g = true) (args : Array Value) (w : World) : (callFunc g args).run P w = .ok (.enter g args) w := by
  unfold fnB at h
  split at h
  · rename_i fn hf
    simp only [Bool.and_eq_true, Bool.not_eq_true', Option.isSome_iff_ne_none] at h
    have h1 : fn.name ≠ "runtime.NumGoroutine" := by simpa using h.1
    simp [callFunc, hf, h1, h.2]
  · cases h
theorem St.evs {F : Nat → Option AV} {K : Nat → Option Blk} {I : IM} {R : RM} {a : Act} {w : World} (h : St n W F K I R a w) : ∀ {l : List Operand} {vs : List AV}, Wx.evs F l = some vs → All2 (AV.rel I R) vs (l.map a.eval)
  | [], vs, hx => by simp only [Wx.evs, Option.some.injEq] at hx; subst hx; trivial
  | x :: r, vs, hx => by
    simp only [Wx.evs] at hx
    split at hx
    · rename_i v l h1 h2
      simp only [Option.some.injEq] at hx
      subst hx
      exact ⟨h.ev h1, h.evs h2⟩
    · cases hx
/-- One operation, and on. -/
theorem stepA_sound (hT : TabOk P T) {o : Oper} {s : S} {k : S → Prop} (h : stepA P T W n m o s k) {I : IM} {R : RM} {a : Act} {w : World} (hs : St n W (get s.F) (kg s.K) I R a w) (hd : ∀ j, s.top ≤ j → I j = none) (hm : m ≤ s.top)
    {next : Act → World → Prop} {Q : Exit → Act → World → Prop} (hn : ∀ a' w', nextP W n m I R k a' w' → next a' w') : o.wp P a w next Q := by
  obtain ⟨dst, op, ty, pos, after, guard⟩ := o
  obtain ⟨F, K, top⟩ := s
  have hm : m ≤ top := hm
  have hd : ∀ j, top ≤ j → I j = none := hd
  unfold stepA at h
  simp only at h
  split at h
  · rename_i hdst
    split at h
    · rename_i f xs hc
      unfold callOf at hc
      split at hc
      · rename_i f' xs' ts
        simp only [Option.some.injEq, Prod.mk.injEq] at hc
        obtain ⟨rfl, rfl⟩ := hc
        split at h
        · rename_i g cap avs hf hxs
          obtain ⟨us, hus, hfu⟩ : ∃ vs, All2 (Pt.rel I) cap vs ∧ a.eval f' = .func (.func g) #[] vs.toArray := hs.ev hf
          have hrun : (execOp a.eval ⟨dst, .call ⟨.value f', xs', ts⟩, ty, pos, after, guard⟩).run P w = .ok (.enter g ((xs'.toList.map a.eval).toArray ++ us.toArray)) w := by
            simp only [execOp]
            rw [Sem.run_bind]
            have : xs'.map a.eval = (xs'.toList.map a.eval).toArray := by apply Array.ext'; simp
            simp [resolve, hfu, Deferred.ofValue, invoke, fnB_call h.fn, this]
          unfold Oper.wp
          rw [hrun]
          refine (h.run I R w _ _ hs.wd hd hm (hs.evs hxs) hus).mono ?_
          rintro e w' ⟨v, x, K', top', I', R', rfl, hw', hd', ht, hI, hR, hx, hk⟩
          have hk' : k ⟨Wx.put F dst x, K', top'⟩ := by cases dst <;> exact hk
          refine hn _ _ ⟨⟨Wx.put F dst x, K', top'⟩, I', R', ?_, hd', Nat.le_trans hm ht, fun j hj => hI j (Nat.lt_of_lt_of_le hj hm), hR, hk'⟩
          rw [get_put]
          refine hs.put ?_ hR hw' hdst hx
          intro j p hj
          rw [hI j (by rcases Nat.lt_or_ge j top with h' | h'; exact h'; rw [hd j h'] at hj; cases hj)]
          exact hj
        · exact h.elim
      · cases hc
    · obtain ⟨e, he, hk0⟩ := opA_sound hT h
      obtain ⟨htop, hk⟩ : top ≤ e.top ∧ k ⟨Wx.put F dst e.av, e.kw ++ K, e.top⟩ := by
        obtain ⟨av, rd, kw, top'⟩ := e
        unfold onE at hk0
        simp only at hk0
        split at hk0
        · rename_i hb
          refine ⟨by simpa [Nat.ble_eq] using hb, ?_⟩
          split at hk0 <;> exact hk0
        · exact hk0.elim
      refine he n W _ _ I R a w hs (fun _ _ => rfl) (fun _ _ => rfl) (fun j h1 h2 => ⟨hd j h1, ?_⟩) hdst next Q ?_
      · cases hq : kg K j with
        | none => rfl
        | some b => obtain ⟨p, hp, _⟩ := hs.wd.blk j b hq; rw [hd j h1] at hp; cases hp
      · intro I' R' a' w' hs' hI hfree hR
        refine hn _ _ ⟨_, I', R', ?_, fun j hj => ?_, Nat.le_trans hm htop, fun j hj => hfree j (by omega), hR, hk⟩
        · rw [get_put, kg_append]; exact hs'
        · rw [hfree j (by simp only at hj; omega)]; exact hd j (by simp only at hj; omega)
  · exact h.elim
theorem St.lit {F : Fr} {K : Nat → Option Blk} {I : IM} {R : RM} {a : Act} {w : World} (h : St n W (get F) K I R a w) {t : Nat} {x : AV} (hx : get F t = some x) : St n W (get ((t, x) :: F)) K I R a w :=
  ⟨h.size, h.defers, fun u y hy => by
    have := get_put F (some t) x
    simp only [Wx.put] at this
    rw [this] at hy
    simp only [fput] at hy
    split at hy
    · rename_i he; subst he; simp only [Option.some.injEq] at hy; subst hy; exact h.fr _ _ hx
    · exact h.fr _ _ hy, h.wd⟩
theorem wanted_guard {ops : Array Oper} {F : Fr} {K : Nat → Option Blk} {I : IM} {R : RM} {a : Act} {w : World} {o : Oper} {g t : Nat} {want b : Bool} (hg : o.guard = some (g, want)) (hd : (ops[g]?).bind (·.dst) = some t) (ht : get F t = some (.val (.bool b))) (hs : St n W (get F) K I R a w) :
    Region.wanted o (yielded ops a.tmps) = (b == want) := by
  have hv : a.eval (.tmp t) = .bool b := hs.fr t _ ht
  have hv' : a.tmps.getD t undef = .bool b := hv
  simp only [Array.getD_eq_getD_getElem?] at hv'
  have h3 : a.tmps[t]? = some (.bool b) := by
    cases hq : a.tmps[t]? with
    | none => rw [hq] at hv'; cases hv'
    | some z => rw [hq] at hv'; simp only [Option.getD_some] at hv'; rw [hv']
  simp [Region.wanted, hg, yielded, hd, h3]
theorem unwanted_guard {ops : Array Oper} {F : Nat → Option AV} {K : Nat → Option Blk} {I : IM} {R : RM} {a : Act} {w : World} {o : Oper} {g t : Nat} {want : Bool} {l : Array Value} (hg : o.guard = some (g, want)) (hd : (ops[g]?).bind (·.dst) = some t) (ht : F t = some (.val (.tuple l))) (hs : St n W F K I R a w) :
    Region.wanted o (yielded ops a.tmps) = false := by
  have hv : a.eval (.tmp t) = .tuple l := hs.fr t _ ht
  have hv' : a.tmps.getD t undef = .tuple l := hv
  simp only [Array.getD_eq_getD_getElem?] at hv'
  cases hq : a.tmps[t]? with
  | none => simp [Region.wanted, hg, yielded, hd, hq]
  | some z =>
    rw [hq] at hv'
    simp only [Option.getD_some] at hv'
    subst hv'
    simp [Region.wanted, hg, yielded, hd, hq]
theorem St.undef {F : Fr} {K : Nat → Option Blk} {I : IM} {R : RM} {a : Act} {w : World} (h : St n W (get F) K I R a w) {d : Option Nat} (hd : dstB n d = true) : St n W (get (Wx.put F d (.val undef))) K I R (a.put d undef) w := by
  rw [get_put]
  exact h.put (.refl _) (.refl _) h.wd hd rfl
theorem runA_sound (hT : TabOk P T) (ops : Array Oper) {k : S → Prop} : ∀ (l : List Oper) (s : S), runA P T W n m ops l s k → ∀ I R a w, St n W (get s.F) (kg s.K) I R a w → (∀ j, s.top ≤ j → I j = none) → m ≤ s.top →
    ∀ Q : Exit → Act → World → Prop, (∀ a' w', nextP W n m I R k a' w' → Q .normal a' w') → wpList P ops Q l a w
  | [], s, h, I, R, a, w, hs, hd, hm, Q, hn => hn a w ⟨s, I, R, hs, hd, hm, fun _ _ => rfl, .refl _, h⟩
  | o :: r, s, h, I, R, a, w, hs, hd, hm, Q, hn => by
    have step : ∀ (o' : Oper) (s1 : S), Region.wanted o' (yielded ops a.tmps) = true → stepA P T W n m { o' with guard := none } s1 (fun s' => runA P T W n m ops r s' k) → St n W (get s1.F) (kg s1.K) I R a w → s1.top = s.top → wpList P ops Q (o' :: r) a w := by
      intro o' s1 hwant h1 hs1 ht
      unfold wpList
      rw [if_pos hwant]
      refine .inl ?_
      have := stepA_sound hT h1 hs1 (by rw [ht]; exact hd) (by rw [ht]; exact hm) (next := wpList P ops Q r) (Q := Q) (by
        rintro a' w' ⟨s', I', R', g1, g2, g3, g4, g5, g6⟩
        exact runA_sound hT ops r s' g6 I' R' a' w' g1 g2 g3 Q fun a2 w2 hx => hn a2 w2 (hx.of g4 g5))
      exact this
    obtain ⟨dst, op, ty, pos, after, guard⟩ := o
    obtain ⟨F, K, top⟩ := s
    unfold runA at h
    split at h
    · exact step ⟨dst, op, ty, pos, after, none⟩ ⟨F, K, top⟩ (by simp [Region.wanted]) h hs rfl
    · rename_i g want
      split at h
      · rename_i t hdst hgd
        split at h
        · rename_i b ht
          have hw := wanted_guard (o := ⟨dst, op, ty, pos, after, some (g, want)⟩) rfl hgd ht hs
          have pass : ∀ F1 : Fr, (b == want) = false → runA P T W n m ops r ⟨F1, K, top⟩ k → St n W (get F1) (kg K) I R (a.put dst undef) w → wpList P ops Q (⟨dst, op, ty, pos, after, some (g, want)⟩ :: r) a w := by
            intro F1 hb h1 hs1
            unfold wpList
            rw [if_neg (by rw [hw, hb]; simp)]
            exact runA_sound hT ops r ⟨F1, K, top⟩ h1 I R _ w hs1 hd hm Q hn
          have hu : ∀ x : AV, get F t = some x → St n W (get (Wx.put ((t, x) :: F) dst (.val undef))) (kg K) I R (a.put dst undef) w := fun x hx => (St.lit hs hx).undef hdst
          split at h
          · cases b with
            | true => exact step ⟨_, op, ty, pos, after, some (g, true)⟩ ⟨_, K, top⟩ (by rw [hw]; rfl) (h.t rfl) (St.lit hs ht) rfl
            | false => exact pass _ rfl (h.f rfl) (hu _ ht)
          · cases b with
            | true => exact pass _ rfl (h.t rfl) (hu _ ht)
            | false => exact step ⟨_, op, ty, pos, after, some (g, false)⟩ ⟨_, K, top⟩ (by rw [hw]; rfl) (h.f rfl) (St.lit hs ht) rfl
          · cases b with
            | true => exact step ⟨_, op, ty, pos, after, some (g, true)⟩ ⟨_, K, top⟩ (by rw [hw]; rfl) (h.t rfl) (St.lit hs ht) rfl
            | false => exact pass _ rfl (h.f rfl) (hu _ ht)
          · cases b with
            | true => exact pass _ rfl (h.t rfl) (hu _ ht)
            | false => exact step ⟨_, op, ty, pos, after, some (g, false)⟩ ⟨_, K, top⟩ (by rw [hw]; rfl) (h.f rfl) (St.lit hs ht) rfl
        · rename_i l ht
          have hw := unwanted_guard (o := ⟨dst, op, ty, pos, after, some (g, want)⟩) rfl hgd ht hs
          have h' : runA P T W n m ops r ⟨Wx.put F dst (.val undef), K, top⟩ k := by cases dst <;> exact h
          unfold wpList
          rw [if_neg (by rw [hw]; simp)]
          exact runA_sound hT ops r _ h' I R _ w (hs.undef hdst) hd hm Q hn
        · exact h.elim
      · exact h.elim
theorem codeA_sound (hT : TabOk P T) : ∀ (c : Code) (s : S) (Q : Exit → S → Prop), codeA P T W n m c s Q → Tr P W n m c s Q
  | .skip, s, Q, h => fun I R a w hs hd hm => wp_skip ⟨s, I, R, hs, hd, hm, fun _ _ => rfl, .refl _, h⟩
  | .region id ops draw, s, Q, h => by
    unfold codeA at h
    cases draw with
    | false =>
      simp only at h
      intro I R a w hs hd hm
      refine wp_region_list (runA_sound hT ops _ s h I R a w hs hd hm _ fun a' w' hx => hx)
    | true =>
      simp only at h
      exact Tr.mono h.h fun e s' h => by cases e <;> first | exact h | exact h.elim
  | .seq x y, s, Q, h => fun I R a w hs hd hm => by
    unfold codeA at h
    refine wp_seq (wp_mono (codeA_sound hT x s _ h I R a w hs hd hm) ?_)
    rintro e a' w' ⟨s', I', R', h1, h2, h3, h4, h5, h6⟩
    cases e with
    | normal =>
      refine wp_mono (codeA_sound hT y s' Q h6 I' R' a' w' h1 h2 h3) ?_
      intro e2 a2 w2 hx
      exact nextP.of hx h4 h5
    | _ => exact ⟨s', I', R', h1, h2, h3, h4, h5, h6⟩
  | .cond c x y, ⟨F, K, top⟩, Q, h => fun I R a w hs hd hm => by
    unfold codeA at h
    split at h
    · rename_i b hb
      have hv : a.eval c = .bool b := hs.ev hb
      exact wp_cond_split hv (fun ht => codeA_sound hT x ⟨F, K, top⟩ Q (h.t ht) I R a w hs hd hm) (fun ht => codeA_sound hT y ⟨F, K, top⟩ Q (h.f ht) I R a w hs hd hm)
    · exact h.elim
  | .block id c, s, Q, h => fun I R a w hs hd hm => by
    unfold codeA at h
    refine wp_block (wp_mono (codeA_sound hT c s _ h I R a w hs hd hm) ?_)
    rintro e a' w' ⟨s', I', R', h1, h2, h3, h4, h5, h6⟩
    cases e with
    | exit i =>
      simp only at h6
      simp only [Exit.inBlock]
      split at h6
      · rename_i hb; rw [if_pos (Nat.eq_of_beq_eq_true hb)]; exact ⟨s', I', R', h1, h2, h3, h4, h5, h6⟩
      · rename_i hb; rw [if_neg (Nat.ne_of_beq_eq_false hb)]; exact ⟨s', I', R', h1, h2, h3, h4, h5, h6⟩
    | _ => exact ⟨s', I', R', h1, h2, h3, h4, h5, h6⟩
  | .loop c, s, Q, h => by unfold codeA at h; exact h.h
  | .exit id, s, Q, h => fun I R a w hs hd hm => wp_exit ⟨s, I, R, hs, hd, hm, fun _ _ => rfl, .refl _, h⟩
  | .ret, s, Q, h => fun I R a w hs hd hm => wp_ret ⟨s, I, R, hs, hd, hm, fun _ _ => rfl, .refl _, h⟩
  | .label l, s, Q, h => fun I R a w hs hd hm => wp_label ⟨s, I, R, hs, hd, hm, fun _ _ => rfl, .refl _, h⟩
  | .scope c, s, Q, h => fun I R a w hs hd hm => by
    unfold codeA at h
    refine wp_scope_straight (wp_mono (codeA_sound hT c s _ h I R a w hs hd hm) ?_)
    rintro e a' w' ⟨s', I', R', h1, h2, h3, h4, h5, h6⟩
    cases e with
    | goto l => exact h6.elim
    | _ => exact ⟨s', I', R', h1, h2, h3, h4, h5, h6⟩
  | .rangeFunc .., s, Q, h => by unfold codeA at h; exact h.elim
  | .goto _, s, Q, h => by unfold codeA at h; exact h.elim
  | .refuse _, s, Q, h => by unfold codeA at h; exact h.elim
end
end Go.Proofs.Ytllnmdmmmkoiaaa.Wx
