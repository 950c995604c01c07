/-
  Concrete data: code, loops, calls and regions that draw their order, reckoned by one function that the kernel runs.
-/
import Derived.Test.YtllnmdmmmkoiaaaWp
namespace Go.Proofs.Ytllnmdmmmkoiaaa.Wx
open Go Go.RowKit
set_option linter.unusedVariables false

structure ES where
  F : Bt AV
  K : Bt Blk
  top : Nat
  log : List Nat
structure CR where
  x : AV
  K : Bt Blk
  top : Nat
  log : List Nat
abbrev CallFn := FuncId → List Pt → List AV → Bt Blk → Nat → Option CR
def big : Nat := 130000
def putF (F : Bt AV) (d : Option Nat) (x : AV) : Bt AV :=
  match d with
  | none => F
  | some d => Bt.put 17 F d (some x)
def putK (K : Bt Blk) : Kr → Bt Blk
  | [] => K
  | (i, b) :: r => Bt.put 17 (putK K r) i b
def kwOk : Kr → Bool
  | [] => true
  | (i, _) :: r => match Nat.blt i big with | true => kwOk r | false => false
theorem getF_put {F : Bt AV} {d : Option Nat} {x : AV} (h : ∀ k, d = some k → k < big) : (putF F d x).get = fput F.get d x := by
  cases d with
  | none => rfl
  | some d =>
    funext t
    have := h d rfl
    simp only [big] at this
    show (Bt.put 17 F d (some x)).get t = _
    rw [Bt.get_put 17 F d (some x) t (by omega)]
    rfl
theorem getK_put {K : Bt Blk} : ∀ {kw : Kr}, kwOk kw = true → (putK K kw).get = kup K.get kw
  | [], _ => rfl
  | (i, b) :: r, h => by
    unfold kwOk at h
    split at h
    · rename_i hi
      have hi' : i < big := by simpa [Nat.blt_eq] using hi
      simp only [big] at hi'
      funext t
      show (Bt.put 17 (putK K r) i b).get t = _
      rw [Bt.get_put 17 _ i b t (by omega), getK_put h]
      rfl
    · cases h
/-- What a call comes to, in whatever memory. -/
def CallE (P : Program) (g : FuncId) (cap : List Pt) (avs : List AV) (K : Nat → Option Blk) (top : Nat) (x : AV) (K' : Nat → Option Blk) (top' : Nat) : Prop :=
  fnB P g = true ∧ top ≤ top' ∧ ∀ (W : Wo) (I : IM) (R : RM) (w : World) (vs us : List Value), Wd W K I R w → (∀ j, top ≤ j → I j = none) → All2 (AV.rel I R) avs vs → All2 (Pt.rel I) cap us →
    Calls P g (vs.toArray ++ us.toArray) w fun e w' => ∃ v I' R', e = .returned v ∧ Wd W K' I' R' w' ∧ (∀ j, top' ≤ j → I' j = none) ∧ (∀ j, j < top → I' j = I j) ∧ RExt R R' ∧ x.rel I' R' v
def CallsOk (P : Program) (C : CallFn) : Prop :=
  ∀ g cap avs K top r, C g cap avs K top = some r → CallE P g cap avs K.get top r.x r.K.get r.top ∧ ∀ j, j ∉ r.log → r.K.get j = K.get j
/-- Code, from a state to a state. -/
def Goes (P : Program) (n : Nat) (c : Code) (s : ES) (e : Exit) (s' : ES) : Prop :=
  s.top ≤ s'.top ∧ (∀ j, j ∉ s'.log → j ∉ s.log ∧ s'.K.get j = s.K.get j) ∧
  ∀ (W : Wo) (I : IM) (R : RM) (a : Act) (w : World), St n W s.F.get s.K.get I R a w → (∀ j, s.top ≤ j → I j = none) →
    c.wp P (fun e' a' w' => e' = e ∧ ∃ I' R', St n W s'.F.get s'.K.get I' R' a' w' ∧ (∀ j, s'.top ≤ j → I' j = none) ∧ (∀ j, j < s.top → I' j = I j) ∧ RExt R R') a w
/-- The same of a row of operations. -/
def GoesL (P : Program) (n : Nat) (ops : Array Oper) (l : List Oper) (s : ES) (s' : ES) : Prop :=
  s.top ≤ s'.top ∧ (∀ j, j ∉ s'.log → j ∉ s.log ∧ s'.K.get j = s.K.get j) ∧
  ∀ (W : Wo) (I : IM) (R : RM) (a : Act) (w : World), St n W s.F.get s.K.get I R a w → (∀ j, s.top ≤ j → I j = none) →
    ∀ Q : Exit → Act → World → Prop, (∀ a' w' I' R', St n W s'.F.get s'.K.get I' R' a' w' → (∀ j, s'.top ≤ j → I' j = none) → (∀ j, j < s.top → I' j = I j) → RExt R R' → Q .normal a' w') → wpList P ops Q l a w
/-- Is it asked for? -/
def wantE (ops : Array Oper) (F : Bt AV) (g : Option (Nat × Bool)) : Option Bool :=
  match g with
  | none => some true
  | some (g, want) => match (ops[g]?).bind (·.dst) with
    | some t => match F.get t with
      | some (.pl (.one (.v (.bool b)))) => some (b == want)
      | some (.pl (.one (.v (.tuple _)))) => some false
      | _ => none
    | none => none
def dstE (n : Nat) (d : Option Nat) : Bool :=
  match d with
  | none => true
  | some d => match Nat.blt d n with | true => Nat.blt d big | false => false
theorem dstE_n {n : Nat} {d : Option Nat} (h : dstE n d = true) : dstB n d = true := by
  cases d with
  | none => rfl
  | some d =>
    unfold dstE at h
    simp only at h
    split at h
    · rename_i h1; exact h1
    · cases h
theorem dstE_b {n : Nat} {d : Option Nat} (h : dstE n d = true) : ∀ k, d = some k → k < big := by
  intro k hk
  subst hk
  unfold dstE at h
  simp only at h
  split at h
  · simpa [Nat.blt_eq] using h
  · cases h
def stepE (C : CallFn) (T : Tab) (n : Nat) (o : Oper) (s : ES) : Option ES :=
  match dstE n o.dst with
  | true => match callOf o.op with
    | some (f, xs) => match evf s.F.get f, evs s.F.get xs with
      | some (.pl (.one (.fn g cap))), some avs => match C g cap avs s.K s.top with
        | some r => some ⟨putF s.F o.dst r.x, r.K, r.top, r.log ++ s.log⟩
        | none => none
      | _, _ => none
    | none => match opE T o s.F.get s.K.get s.top with
      | some e => match Nat.ble s.top e.top, kwOk e.kw with
        | true, true => some ⟨putF s.F o.dst e.av, putK s.K e.kw, e.top, e.kw.map (·.1) ++ s.log⟩
        | _, _ => none
      | none => none
  | false => none
def runE (C : CallFn) (T : Tab) (n : Nat) (ops : Array Oper) : List Oper → ES → Option ES
  | [], s => some s
  | o :: r, s => match wantE ops s.F o.guard with
    | some true => match stepE C T n { o with guard := none } s with
      | some s' => runE C T n ops r s'
      | none => none
    | some false => match dstE n o.dst with
      | true => runE C T n ops r ⟨putF s.F o.dst (.val undef), s.K, s.top, s.log⟩
      | false => none
    | none => none
/-! ### A call in a region that draws its order -/
def reachT (K : Bt Blk) : Nat → List Nat → List Nat → List Nat
  | 0, _, seen => seen
  | _ + 1, [], seen => seen
  | n + 1, i :: r, seen => match seen.contains i with
    | true => reachT K n r seen
    | false => match K.get i with
      | none => reachT K n r (i :: seen)
      | some b => reachT K n (b.rows.flatMap (fun r => r.flatMap Ce.refs2) ++ r) (i :: seen)
def restrict (K : Bt Blk) : List Nat → Bt Blk
  | [] => .e
  | i :: r => Bt.put 17 (restrict K r) i (K.get i)
def inE (K : Bt Blk) (top : Nat) (cap : List Pt) (avs : List AV) (l : List Nat) : Bool :=
  l.all (fun i => Nat.blt i top) && Nat.ble top big && avs.all (AV.inB l) && cap.all (Pt.inB l) && l.all fun i => match K.get i with
    | some b => b.rows.all fun r => r.all (Ce.inB l)
    | none => true
def dedup : List Nat → List Nat
  | [] => []
  | i :: r => match r.contains i with
    | true => dedup r
    | false => i :: dedup r
theorem mem_dedup {i : Nat} : ∀ {l : List Nat}, i ∈ dedup l ↔ i ∈ l
  | [] => Iff.rfl
  | j :: r => by
    unfold dedup
    split
    · rename_i h
      rw [mem_dedup]
      simp only [List.mem_cons]
      constructor
      · exact .inr
      · rintro (rfl | h2)
        · simpa using h
        · exact h2
    · simp only [List.mem_cons, mem_dedup]
def stepDE (C : CallFn) (T : Tab) (n : Nat) (o : Oper) (s : ES) : Option Eff :=
  match callOf o.op with
  | some (f, xs) => match evf s.F.get f, evs s.F.get xs with
    | some (.pl (.one (.fn g cap))), some avs => match inE s.K s.top cap avs (reachT s.K 2000 (cap.flatMap Pt.refs2 ++ avs.flatMap AV.refs2) []) with
      | true => match C g cap avs (restrict s.K (reachT s.K 2000 (cap.flatMap Pt.refs2 ++ avs.flatMap AV.refs2) [])) s.top with
        | some r => some ⟨r.x, reachT s.K 2000 (cap.flatMap Pt.refs2 ++ avs.flatMap AV.refs2) [], (dedup r.log).map (fun j => (j, r.K.get j)), r.top⟩
        | none => none
      | false => none
    | _, _ => none
  | none => opE T o s.F.get s.K.get s.top
def drawE (C : CallFn) (T : Tab) (n : Nat) (ops : Array Oper) : List Oper → ES → Option (List Ent × ES)
  | [], s => some ([], s)
  | o :: r, s => match dstE n o.dst, wantE ops s.F o.guard with
    | true, some true => match stepDE C T n o s with
      | some e => match Nat.ble s.top e.top, kwOk e.kw with
        | true, true => match drawE C T n ops r ⟨putF s.F o.dst e.av, putK s.K e.kw, e.top, e.kw.map (·.1) ++ s.log⟩ with
          | some (xs, s') => some (⟨o, false, e, s.top⟩ :: xs, s')
          | none => none
        | _, _ => none
      | none => none
    | true, some false => match drawE C T n ops r ⟨putF s.F o.dst (.val undef), s.K, s.top, s.log⟩ with
      | some (xs, s') => some (⟨o, true, ⟨.val undef, [], [], s.top⟩, s.top⟩ :: xs, s')
      | none => none
    | _, _ => none
def loopE (body : ES → Option (Exit × ES)) : Nat → ES → Option (Exit × ES)
  | 0, _ => none
  | f + 1, s => match body s with
    | some (.normal, s') => loopE body f s'
    | r => r
def codeE (C : CallFn) (T : Tab) (n : Nat) (lf : Nat) : Code → ES → Option (Exit × ES)
  | .skip, s => some (.normal, s)
  | .region _ ops draw, s => match draw with
    | false => match runE C T n ops ops.toList s with
      | some s' => some (.normal, s')
      | none => none
    | true => match drawE C T n ops ops.toList s with
      | some (xs, s') => match apartB ops xs with
        | true => some (.normal, s')
        | false => none
      | none => none
  | .seq a b, s => match codeE C T n lf a s with
    | some (.normal, s') => codeE C T n lf b s'
    | r => r
  | .cond c x y, s => match evf s.F.get c with
    | some (.pl (.one (.v (.bool true)))) => codeE C T n lf x s
    | some (.pl (.one (.v (.bool false)))) => codeE C T n lf y s
    | _ => none
  | .block id c, s => match codeE C T n lf c s with
    | some (.exit i, s') => match Nat.beq i id with
      | true => some (.normal, s')
      | false => some (.exit i, s')
    | r => r
  | .loop c, s => loopE (codeE C T n lf c) lf s
  | .exit id, s => some (.exit id, s)
  | .ret, s => some (.ret, s)
  | .label _, s => some (.normal, s)
  | .scope c, s => match codeE C T n lf c s with
    | some (.goto _, _) => none
    | r => r
  | _, _ => none
def resE (T : Tab) (s : ES) : List ResultVar → Option (List A0)
  | [] => some []
  | .tmp t :: r => match s.F.get t, resE T s r with
    | some (.pl x), some l => some (x :: l)
    | _, _ => none
  | .cell p t :: r => match s.F.get p, tyGet T t, resE T s r with
    | some (.pl (.one (.own i q k))), some ti, some l => match s.K.get i with
      | some b => match b.rows[q]? with
        | some row => match cut ti.row k ti.size row with
          | some v => some (v :: l)
          | none => none
        | none => none
      | none => none
    | _, _, _ => none
def argE : Nat → List AV → Bt AV
  | _, [] => .e
  | k, v :: r => Bt.put 17 (argE (k + 1) r) k (some v)
abbrev FTab := List (Nat × Func)
def ftGet : FTab → Nat → Option Func
  | [], _ => none
  | (k, x) :: F, t => match Nat.beq k t with
    | true => some x
    | false => ftGet F t
def FtOk (P : Program) (FT : FTab) : Prop := ∀ g fn, ftGet FT g = some fn → P.funcs[g]? = some fn ∧ fnB P g = true
theorem FtOk.nil {P : Program} : FtOk P [] := fun _ _ h => by simp [ftGet] at h
theorem FtOk.cons {P : Program} {FT : FTab} {g : Nat} {fn : Func} (h : P.funcs[g]? = some fn) (h2 : fnB P g = true) (hT : FtOk P FT) : FtOk P ((g, fn) :: FT) := fun u j hj => by
  simp only [ftGet] at hj
  split at hj
  · rename_i he
    simp only [Option.some.injEq] at hj
    subst hj
    rw [← Nat.eq_of_beq_eq_true he]
    exact ⟨h, h2⟩
  · exact hT u j hj
def callE (FT : FTab) (T : Tab) (lf : Nat) : Nat → CallFn
  | 0, _, _, _, _, _ => none
  | d + 1, g, cap, avs, K, top => match ftGet FT g with
    | some fn => match fn.body with
      | some c => match Nat.ble (avs ++ capA cap).length fn.ntmps, Nat.ble (avs ++ capA cap).length big with
        | true, true => match codeE (callE FT T lf d) T fn.ntmps lf c ⟨argE 0 (avs ++ capA cap), K, top, []⟩ with
          | some (.normal, s) => match resE T s fn.results.toList with
            | some xs => some ⟨retV xs, s.K, s.top, s.log⟩
            | none => none
          | some (.ret, s) => match resE T s fn.results.toList with
            | some xs => some ⟨retV xs, s.K, s.top, s.log⟩
            | none => none
          | _ => none
        | _, _ => none
      | none => none
    | none => none
section
variable {P : Program} {C : CallFn} {T : Tab} {n : Nat} {ops : Array Oper}
theorem kup_out' {K : Nat → Option Blk} : ∀ {kw : Kr} {j : Nat}, j ∉ kw.map (·.1) → kup K kw j = K j
  | [], j, _ => rfl
  | (i, b) :: r, j, h => by
    simp only [List.map_cons, List.mem_cons, not_or] at h
    simp only [kup]
    rw [if_neg h.1]
    exact kup_out' h.2
theorem wantE_run {F : Bt AV} {W : Wo} {K : Nat → Option Blk} {I : IM} {R : RM} {a : Act} {w : World} {o : Oper} {b : Bool} (h : wantE ops F o.guard = some b) (hs : St n W F.get K I R a w) : Region.wanted o (yielded ops a.tmps) = b := by
  unfold wantE at h
  split at h
  · rename_i hg
    simp only [Option.some.injEq] at h
    subst h
    simp [Region.wanted, hg]
  · rename_i g want hg
    split at h
    · rename_i t hd
      split at h
      · rename_i v ht
        simp only [Option.some.injEq] at h
        subst h
        exact wanted_guard' hg hd ht hs
      · rename_i l ht
        simp only [Option.some.injEq] at h
        subst h
        exact unwanted_guard hg hd ht hs
      · cases h
    · cases h
theorem stepE_sound (hT : TabOk P T) (hC : CallsOk P C) {o : Oper} {s s' : ES} (h : stepE C T n o s = some s') :
    s.top ≤ s'.top ∧ (∀ j, j ∉ s'.log → j ∉ s.log ∧ s'.K.get j = s.K.get j) ∧
    ∀ (W : Wo) (I : IM) (R : RM) (a : Act) (w : World), St n W s.F.get s.K.get I R a w → (∀ j, s.top ≤ j → I j = none) →
      ∀ (next : Act → World → Prop) (Q : Exit → Act → World → Prop), (∀ a' w' I' R', St n W s'.F.get s'.K.get I' R' a' w' → (∀ j, s'.top ≤ j → I' j = none) → (∀ j, j < s.top → I' j = I j) → RExt R R' → next a' w') → o.wp P a w next Q := by
  obtain ⟨dst, op, ty, pos, after, guard⟩ := o
  unfold stepE at h
  simp only at h
  split at h
  · rename_i hd
    have hdn := dstE_n hd
    have hdb := dstE_b hd
    split at h
    · rename_i f xs hc
      unfold callOf at hc
      split at hc
      · rename_i f' xs' ts
        simp only [Option.some.injEq, Prod.mk.injEq] at hc
        obtain ⟨rfl, rfl⟩ := hc
        split at h
        · rename_i g cap avs hf hxs
          split at h
          · rename_i r hr
            simp only [Option.some.injEq] at h
            subst h
            obtain ⟨⟨h1, h2, h3⟩, h4⟩ := hC _ _ _ _ _ _ hr
            refine ⟨h2, fun j hj => ?_, ?_⟩
            · simp only [List.mem_append, not_or] at hj
              exact ⟨hj.2, h4 j hj.1⟩
            · intro W I R a w hs hdom next Q hn
              obtain ⟨us, hus, hfu⟩ : ∃ vs, All2 (Pt.rel I) cap vs ∧ a.eval f' = .func (.func g) #[] vs.toArray := hs.ev hf
              have hrun : (execOp a.eval ⟨dst, .call ⟨.value f', xs', ts⟩, ty, pos, after, guard⟩).run P w = .ok (.enter g ((xs'.toList.map a.eval).toArray ++ us.toArray)) w := by
                simp only [execOp]
                rw [Sem.run_bind]
                have : xs'.map a.eval = (xs'.toList.map a.eval).toArray := by apply Array.ext'; simp
                simp [resolve, hfu, Deferred.ofValue, invoke, fnB_call h1, this]
              unfold Oper.wp
              rw [hrun]
              refine (h3 W I R w _ us hs.wd hdom (hs.evs hxs) hus).mono ?_
              rintro e w' ⟨v, I', R', rfl, hw', hd', hI, hR, hx⟩
              refine hn _ _ I' R' ?_ hd' hI hR
              simp only
              rw [getF_put hdb]
              refine hs.put ?_ hR hw' hdn hx
              intro j p hj
              rw [hI j (by rcases Nat.lt_or_ge j s.top with h' | h'; exact h'; rw [hdom j h'] at hj; cases hj)]
              exact hj
          · cases h
        · cases h
      · cases hc
    · split at h
      · rename_i e he
        split at h
        · rename_i h1 h2
          simp only [Option.some.injEq] at h
          subst h
          have hop := opE_sound hT he
          have htop : s.top ≤ e.top := Nat.le_of_ble_eq_true h1
          refine ⟨htop, fun j hj => ?_, ?_⟩
          · simp only [List.mem_append, not_or] at hj
            refine ⟨hj.2, ?_⟩
            simp only
            rw [getK_put h2]
            exact kup_out' hj.1
          · intro W I R a w hs hdom next Q hn
            refine hop n W _ _ I R a w hs (fun _ _ => rfl) (fun _ _ => rfl) (fun j h1 h2 => ⟨hdom j h1, ?_⟩) hdn next Q ?_
            · cases hq : s.K.get j with
              | none => rfl
              | some b => obtain ⟨p, hp, _⟩ := hs.wd.blk j b hq; rw [hdom j h1] at hp; cases hp
            · intro I' R' a' w' hs' hI hfree hR
              refine hn _ _ I' R' ?_ (fun j hj => ?_) (fun j hj => hfree j (by omega)) hR
              · simp only
                rw [getF_put hdb, getK_put h2]
                exact hs'
              · simp only at hj
                rw [hfree j (by omega)]; exact hdom j (by omega)
        · cases h
      · cases h
  · cases h
theorem runE_sound (hT : TabOk P T) (hC : CallsOk P C) (ops : Array Oper) : ∀ (l : List Oper) (s s' : ES), runE C T n ops l s = some s' → GoesL P n ops l s s'
  | [], s, s', h => by
    simp only [runE, Option.some.injEq] at h
    subst h
    exact ⟨Nat.le_refl _, fun j hj => ⟨hj, rfl⟩, fun W I R a w hs hd Q hn => hn a w I R hs hd (fun _ _ => rfl) (.refl _)⟩
  | o :: r, s, s', h => by
    unfold runE at h
    split at h
    · rename_i hw
      split at h
      · rename_i s1 h1
        obtain ⟨a1, a2, a3⟩ := stepE_sound hT hC h1
        obtain ⟨b1, b2, b3⟩ := runE_sound hT hC ops r s1 s' h
        refine ⟨Nat.le_trans a1 b1, fun j hj => ?_, ?_⟩
        · obtain ⟨c1, c2⟩ := b2 j hj
          obtain ⟨c3, c4⟩ := a2 j c1
          exact ⟨c3, c2.trans c4⟩
        · intro W I R a w hs hd Q hn
          unfold wpList
          rw [if_pos (wantE_run hw hs)]
          refine .inl ?_
          have := a3 W I R a w hs hd (wpList P ops Q r) Q (fun a' w' I' R' h1 h2 h3 h4 => b3 W I' R' a' w' h1 h2 Q fun a2 w2 I2 R2 g1 g2 g3 g4 => hn a2 w2 I2 R2 g1 g2 (fun j hj => (g3 j (by omega)).trans (h3 j hj)) (h4.trans g4))
          exact this
      · cases h
    · rename_i hw
      split at h
      · rename_i hd'
        obtain ⟨b1, b2, b3⟩ := runE_sound hT hC ops r _ s' h
        refine ⟨b1, b2, ?_⟩
        intro W I R a w hs hd Q hn
        unfold wpList
        rw [if_neg (by rw [wantE_run hw hs]; simp)]
        refine b3 W I R _ w ?_ hd Q hn
        simp only
        rw [getF_put (dstE_b hd')]
        exact hs.put (.refl _) (.refl _) hs.wd (dstE_n hd') rfl
      · cases h
    · cases h
end
section
open Classical
theorem in_effE {P : Program} {g : FuncId} {cap : List Pt} {avs : List AV} {Kl Kp Kx : Nat → Option Blk} {top : Nat} (l : List Nat) {res : AV} {D : Kr} {t' : Nat} (hlt : l.all (fun i => Nat.blt i top) = true) (hav : avs.all (AV.inB l) = true) (hcap : cap.all (Pt.inB l) = true)
    (hout : ∀ i b, Kp i = some b → l.contains i = true) (heq : ∀ i, l.contains i = true → Kp i = Kl i) (hK : ∀ i b, Kp i = some b → ∀ r ∈ b.rows, ∀ c ∈ r, c.inB l = true) (h : CallE P g cap avs Kp top res Kx t') (hKx : ∀ j, Kx j = kup Kp D j) : CEff P g cap avs Kl top ⟨res, l, D, t'⟩ := by
  refine ⟨h.1, fun W K I R w vs us hw hv hu hk hfree => ?_⟩
  simp only at hk hfree
  have hmem : ∀ {i : Nat}, l.contains i = true → i ∈ l := fun h => by simpa using h
  let W' : Wo := ⟨w, fun k => k < w.heap.size ∧ (W.z k ∨ ∃ i b p, l.contains i = false ∧ K i = some b ∧ I i = some p ∧ p.b = k), fun k => W.q k ∨ ∃ i b p, l.contains i = false ∧ K i = some b ∧ I i = some p ∧ p.b = k⟩
  have hKin : ∀ {i b}, Kp i = some b → l.contains i = true ∧ K i = some b := fun h =>
    let h1 := hout _ _ h; ⟨h1, (hk _ (hmem h1)).trans ((heq _ h1).symm.trans h)⟩
  have hIin : ∀ {i p}, onI l I i = some p → l.contains i = true ∧ I i = some p := fun {i p} h => by
    unfold onI at h
    split at h
    · rename_i hc; exact ⟨hc, h⟩
    · cases h
  have hwd : Wd W' Kp (onI l I) R w := by
    refine ⟨?_, ?_, ?_, hw.ro, ?_, ?_, hw.less, ⟨rfl, rfl, rfl, Nat.le_refl _, fun k hk => ⟨hk.1, rfl⟩⟩, ?_, ?_⟩
    · intro i b hb
      obtain ⟨h1, h2⟩ := hKin hb
      obtain ⟨p, hp, g1, g2, g3, g4, cs, g5, g6, g7⟩ := hw.blk i b h2
      refine ⟨p, (onI_in h1).trans hp, g1, g2, g3, g4, cs, g5, g6, fun q r k c hq hc => ?_⟩
      obtain ⟨u, hu, hr⟩ := g7 q r k c hq hc
      have hin := hK _ _ hb
      exact ⟨u, hu, Ce.rel_in (hin r (List.mem_of_getElem? hq) c (List.mem_of_getElem? hc)) hr⟩
    · intro i j bi bj p q hi hj hp hq he
      exact hw.inj i j bi bj p q (hKin hi).2 (hKin hj).2 (hIin hp).2 (hIin hq).2 he
    · intro i b p hb hp hz
      obtain ⟨h1, h2⟩ := hKin hb
      rcases hz.2 with hz | ⟨i', b', p', g1, g2, g3, g4⟩
      · exact hw.base i b p h2 (hIin hp).2 hz
      · have := hw.inj _ _ _ _ _ _ g2 h2 g3 (hIin hp).2 g4
        subst this
        rw [g1] at h1; cases h1
    · intro i b p f o hb hp
      exact hw.apart i b p f o (hKin hb).2 (hIin hp).2
    · intro b o u hu hz
      rcases hz.2 with hz | ⟨i', b', p', g1, g2, g3, g4⟩
      · exact hw.fresh b o u hu hz
      · have := hw.apart i' b' p' true o g2 g3
        rw [g4, hu] at this; cases this
    · intro f b o u hu hz
      rcases hz with hz | ⟨i', b', p', g1, g2, g3, g4⟩
      · exact hw.out f b o u hu hz
      · have := hw.apart i' b' p' f o g2 g3
        rw [g4, hu] at this; cases this
    · intro k hq
      rcases hq with hq | ⟨i', b', p', g1, g2, g3, g4⟩
      · exact ⟨hw.below.lt (hw.qz _ hq), .inl (hw.qz _ hq)⟩
      · exact ⟨g4 ▸ hw.lt g2 g3, .inr ⟨i', b', p', g1, g2, g3, g4⟩⟩
  have hdom : ∀ j, top ≤ j → onI l I j = none := fun j hj => by
    unfold onI
    split
    · rename_i hc
      have := List.all_eq_true.1 hlt j (hmem hc)
      rw [Nat.blt_eq] at this
      omega
    · rfl
  have hv' : All2 (AV.rel (onI l I) R) avs vs := hv.mono_mem fun c hc b hb => AV.rel_in (List.all_eq_true.1 hav c hc) hb
  have hu' : All2 (Pt.rel (onI l I)) cap us := hu.mono_mem fun c hc b hb => Pt.rel_in (List.all_eq_true.1 hcap c hc) hb
  refine (h.2.2 W' _ R w vs us hwd hdom hv' hu').mono ?_
  rintro e w' ⟨v, I', R', rfl, h', hd', hold, hR, hx⟩
  have htop := h.2.1
  have hI1 : ∀ {j p}, I' j = some p → j < t' ∧ ((l.contains j = true ∧ I j = some p ∧ j < top) ∨ (top ≤ j)) := fun {j p} hj => by
    have h1 : j < t' := by
      rcases Nat.lt_or_ge j t' with h1 | h1
      · exact h1
      · rw [hd' j h1] at hj; cases hj
    refine ⟨h1, ?_⟩
    rcases Nat.lt_or_ge j top with h2 | h2
    · rw [hold j h2] at hj
      exact .inl ⟨(hIin hj).1, (hIin hj).2, h2⟩
    · exact .inr h2
  let I2 : IM := fun j => if top ≤ j ∧ j < t' then I' j else I j
  have hI' : IExt I' I2 := fun j p hp => by
    obtain ⟨h1, h2⟩ := hI1 hp
    show (if top ≤ j ∧ j < t' then I' j else I j) = some p
    rcases h2 with ⟨_, h2, h3⟩ | h2
    · rw [if_neg (by omega)]; exact h2
    · rw [if_pos ⟨h2, h1⟩]; exact hp
  have hI : IExt I I2 := fun j p hp => by
    show (if top ≤ j ∧ j < t' then I' j else I j) = some p
    rw [if_neg]
    · exact hp
    · intro hj
      rw [(hfree j hj.1 hj.2).1] at hp; cases hp
  have hkey : ∀ {j b}, kup K D j = some b → (Kx j = some b) ∨ (l.contains j = false ∧ K j = some b) := fun {j b} hj => by
    by_cases hD : j ∈ D.map (·.1)
    · rcases kup_kg K D j with ⟨h1, h2⟩ | ⟨h1, h2⟩
      · rcases kup_kg Kp D j with ⟨g1, g2⟩ | ⟨g1, _⟩
        · rw [h2, ← g2, ← hKx] at hj
          exact .inl hj
        · exact absurd h1 g1
      · exact absurd hD h1
    · rw [kup_out' hD] at hj
      cases hc : l.contains j with
      | false => exact .inr ⟨rfl, hj⟩
      | true =>
        refine .inl ?_
        rw [hKx, kup_out' hD]
        exact (heq _ hc).trans ((hk j (hmem hc)).symm.trans hj)
  have hfr : ∀ {j b p}, l.contains j = false → K j = some b → I j = some p → W'.z p.b := fun {j b p} h1 h2 h3 => ⟨hw.lt h2 h3, .inr ⟨j, b, p, h1, h2, h3, rfl⟩⟩
  have hzW : ∀ {k}, W.z k → W'.z k := fun {k} hk => ⟨hw.below.lt hk, .inl hk⟩
  have hI2 : ∀ {j b p}, Kx j = some b → I2 j = some p → I' j = some p := fun {j b p} hj hp => by
    obtain ⟨p', hp', _⟩ := h'.blk j b hj
    rw [hI' _ _ hp'] at hp
    cases hp; exact hp'
  have hI3 : ∀ {j b p}, K j = some b → I2 j = some p → I j = some p := fun {j b p} hj hp => by
    obtain ⟨p', hp', _⟩ := hw.blk j b hj
    rw [hI _ _ hp'] at hp
    cases hp; exact hp'
  refine ⟨v, I2, R', rfl, ⟨?_, ?_, ?_, h'.ro, ?_, ?_, h'.less, ?_, ?_, hw.qz⟩, hI, fun j hj => if_neg hj, hR, AV.mono hI' (.refl _) hx⟩
  · intro j b hj
    rcases hkey hj with hj | ⟨h1, h2⟩
    · obtain ⟨p, hp, hb⟩ := h'.blk j b hj
      exact ⟨p, hI' _ _ hp, hb.mono hI' (.refl _) rfl⟩
    · obtain ⟨p, hp, hb⟩ := hw.blk j b h2
      exact ⟨p, hI _ _ hp, hb.mono hI hR (h'.below.block _ (hfr h1 h2 hp)).2⟩
  · intro i j bi bj p q hi hj hp hq he
    rcases hkey hi with hi | ⟨h1, hi⟩ <;> rcases hkey hj with hj | ⟨h2, hj⟩
    · exact h'.inj _ _ _ _ _ _ hi hj (hI2 hi hp) (hI2 hj hq) he
    · exact absurd (he ▸ hfr h2 hj (hI3 hj hq)) (h'.base _ _ _ hi (hI2 hi hp))
    · exact absurd (he ▸ hfr h1 hi (hI3 hi hp)) (h'.base _ _ _ hj (hI2 hj hq))
    · exact hw.inj _ _ _ _ _ _ hi hj (hI3 hi hp) (hI3 hj hq) he
  · intro j b p hj hp hz
    rcases hkey hj with hj | ⟨h1, hj⟩
    · exact h'.base _ _ _ hj (hI2 hj hp) (hzW hz)
    · exact hw.base _ _ _ hj (hI3 hj hp) hz
  · intro j b p f o hj hp
    rcases hkey hj with hj | ⟨h1, hj⟩
    · exact h'.apart _ _ _ f o hj (hI2 hj hp)
    · cases hq : R' f p.b o with
      | none => rfl
      | some u => exact absurd (Or.inr ⟨j, b, p, h1, hj, hI3 hj hp, rfl⟩) (h'.out f _ o u hq)
  · exact fun b o u hu hz => h'.fresh b o u hu (hzW hz)
  · exact ⟨h'.below.os.trans hw.below.os, h'.below.tape.trans hw.below.tape, h'.below.output.trans hw.below.output, Nat.le_trans hw.below.size h'.below.size, fun k hk => ⟨(hw.below.block k hk).1, (h'.below.block k (hzW hk)).2.trans (hw.below.block k hk).2⟩⟩
  · exact fun f b o u hu hq => h'.out f b o u hu (.inl hq)
end
theorem restrict_get {K : Bt Blk} : ∀ {l : List Nat}, (∀ i ∈ l, i < big) → ∀ j, (restrict K l).get j = if l.contains j = true then K.get j else none
  | [], _, j => rfl
  | i :: r, h, j => by
    have hi := h i List.mem_cons_self
    simp only [big] at hi
    show (Bt.put 17 (restrict K r) i (K.get i)).get j = _
    rw [Bt.get_put 17 _ _ _ _ (by omega), restrict_get (fun x hx => h x (List.mem_cons_of_mem _ hx))]
    by_cases hj : j = i
    · subst hj; simp
    · rw [if_neg hj]
      have : (i :: r).contains j = r.contains j := by simp [hj]
      rw [this]
section
variable {P : Program} {C : CallFn} {T : Tab} {n : Nat} {ops : Array Oper}
theorem mapK_get {K' : Nat → Option Blk} {K : Nat → Option Blk} : ∀ (l : List Nat) (j : Nat), kup K (l.map fun j => (j, K' j)) j = if j ∈ l then K' j else K j
  | [], j => by simp [kup]
  | i :: r, j => by
    simp only [List.map_cons, kup, mapK_get r j]
    by_cases h : j = i
    · subst h; simp
    · rw [if_neg h]
      by_cases h2 : j ∈ r
      · rw [if_pos h2, if_pos (List.mem_cons_of_mem _ h2)]
      · rw [if_neg h2, if_neg (by simp [h, h2])]
theorem stepDE_sound (hT : TabOk P T) (hC : CallsOk P C) {o : Oper} {s : ES} {e : Eff} (h : stepDE C T n o s = some e) : OpEff P o s.F.get s.K.get s.top e := by
  obtain ⟨dst, op, ty, pos, after, guard⟩ := o
  unfold stepDE at h
  simp only at h
  split at h
  · rename_i f xs hc
    unfold callOf at hc
    split at hc
    · rename_i f' xs' ts
      simp only [Option.some.injEq, Prod.mk.injEq] at hc
      obtain ⟨rfl, rfl⟩ := hc
      split at h
      · rename_i g cap avs hf hxs
        generalize hl : reachT s.K 2000 (cap.flatMap Pt.refs2 ++ avs.flatMap AV.refs2) [] = l at h
        split at h
        · rename_i hin
          split at h
          · rename_i r hr
            simp only [Option.some.injEq] at h
            subst h
            obtain ⟨h1, h2⟩ := hC _ _ _ _ _ _ hr
            simp only [inE, Bool.and_eq_true] at hin
            obtain ⟨⟨⟨⟨g1, g2⟩, g3⟩, g4⟩, g5⟩ := hin
            have hlt : ∀ i ∈ l, i < big := fun i hi => by
              have a1 := List.all_eq_true.1 g1 i hi
              have a2 := Nat.le_of_ble_eq_true g2
              rw [Nat.blt_eq] at a1
              omega
            refine e_call hf hxs (in_effE l g1 g3 g4 (fun i b hb => ?_) (fun i hi => ?_) (fun i b hb => ?_) h1 (fun j => ?_))
            · rw [restrict_get hlt] at hb
              split at hb
              · assumption
              · cases hb
            · rw [restrict_get hlt, if_pos hi]
            · rw [restrict_get hlt] at hb
              split at hb
              · rename_i hi
                have a1 := List.all_eq_true.1 g5 i (by simpa using hi)
                simp only [hb] at a1
                exact fun r hr c hc => List.all_eq_true.1 (List.all_eq_true.1 a1 r hr) c hc
              · cases hb
            · rw [mapK_get]
              by_cases hj : j ∈ r.log
              · rw [if_pos (mem_dedup.2 hj)]
              · rw [if_neg (fun hh => hj (mem_dedup.1 hh))]
                exact h2 j hj
          · cases h
        · cases h
      · cases h
    · cases hc
  · exact opE_sound hT h
theorem drawE_sound (hT : TabOk P T) (hC : CallsOk P C) : ∀ (l : List Oper) (s s' : ES) (xs : List Ent), drawE C T n ops l s = some (xs, s') →
    xs.map (·.o) = l ∧ Chain P ops n xs s.F.get s.K.get s.top s'.F.get s'.K.get s'.top ∧ ∀ j, j ∉ s'.log → j ∉ s.log ∧ s'.K.get j = s.K.get j
  | [], s, s', xs, h => by
    simp only [drawE, Option.some.injEq, Prod.mk.injEq] at h
    obtain ⟨rfl, rfl⟩ := h
    exact ⟨rfl, ⟨rfl, rfl, rfl⟩, fun j hj => ⟨hj, rfl⟩⟩
  | o :: r, s, s', xs, h => by
    have hwant : ∀ b, wantE ops s.F o.guard = some b → (o.guard = none ∧ b = true) ∨ ∃ g want t, o.guard = some (g, want) ∧ (ops[g]?).bind (·.dst) = some t ∧ ((∃ v, s.F.get t = some (.val (.bool v)) ∧ b = (v == want)) ∨ (b = false ∧ ∃ l, s.F.get t = some (.val (.tuple l)))) := by
      intro b hb
      unfold wantE at hb
      split at hb
      · rename_i hg
        simp only [Option.some.injEq] at hb
        exact .inl ⟨hg, hb.symm⟩
      · rename_i g want hg
        refine .inr ⟨g, want, ?_⟩
        split at hb
        · rename_i t hd
          refine ⟨t, hg, hd, ?_⟩
          split at hb
          · rename_i v ht
            simp only [Option.some.injEq] at hb
            exact .inl ⟨v, ht, hb.symm⟩
          · rename_i l ht
            simp only [Option.some.injEq] at hb
            exact .inr ⟨hb.symm, l, ht⟩
          · cases hb
        · cases hb
    unfold drawE at h
    split at h
    · rename_i hd hw
      split at h
      · rename_i e he
        split at h
        · rename_i hle hkw
          split at h
          · rename_i xs' s2 hr
            simp only [Option.some.injEq, Prod.mk.injEq] at h
            obtain ⟨rfl, rfl⟩ := h
            obtain ⟨h1, h2, h3⟩ := drawE_sound hT hC r _ _ _ hr
            simp only at h2 h3
            rw [getF_put (dstE_b hd), getK_put hkw] at h2
            refine ⟨by simp [h1], ⟨⟨dstE_n hd, Nat.le_of_ble_eq_true hle, stepDE_sound hT hC he, ?_⟩, rfl, h2⟩, fun j hj => ?_⟩
            · rcases hwant _ hw with ⟨hg, _⟩ | ⟨g, want, t, g1, g2, g3⟩
              · exact .inl hg
              · rcases g3 with ⟨v, g3, g4⟩ | ⟨g3, _⟩
                · exact .inr ⟨g, want, t, v, g1, g2, g3, g4.symm⟩
                · cases g3
            · obtain ⟨a1, a2⟩ := h3 j hj
              simp only [List.mem_append, not_or] at a1
              refine ⟨a1.2, a2.trans ?_⟩
              rw [getK_put hkw]
              exact kup_out' a1.1
          · cases h
        · cases h
      · cases h
    · rename_i hd hw
      split at h
      · rename_i xs' s2 hr
        simp only [Option.some.injEq, Prod.mk.injEq] at h
        obtain ⟨rfl, rfl⟩ := h
        obtain ⟨h1, h2, h3⟩ := drawE_sound hT hC r _ _ _ hr
        simp only at h2 h3
        rw [getF_put (dstE_b hd)] at h2
        refine ⟨by simp [h1], ⟨⟨dstE_n hd, Nat.le_refl _, rfl, rfl, rfl, rfl, ?_⟩, rfl, h2⟩, h3⟩
        rcases hwant _ hw with ⟨_, hg⟩ | ⟨g, want, t, g1, g2, g3⟩
        · cases hg
        · refine ⟨g, want, t, g1, g2, ?_⟩
          rcases g3 with ⟨v, g3, g4⟩ | ⟨_, l, g3⟩
          · exact .inl ⟨v, g3, g4.symm⟩
          · exact .inr ⟨l, g3⟩
      · cases h
    · cases h
theorem chain_region (hmix : P.follows .mixedOrders = true) {id : Nat} {xs : List Ent} {F F' : Nat → Option AV} {K K' : Nat → Option Blk} {top top' : Nat} (h1 : xs.map (·.o) = ops.toList) (h2 : Chain P ops n xs F K top F' K' top') (hap : apartB ops xs = true)
    {W : Wo} {I : IM} {R : RM} {a : Act} {w : World} (hs : St n W F K I R a w) (hd : ∀ j, top ≤ j → I j = none) {Q : Exit → Act → World → Prop} (hQ : ∀ a' w' I' R', St n W F' K' I' R' a' w' → (∀ j, top' ≤ j → I' j = none) → (∀ j, j < top → I' j = I j) → RExt R R' → Q .normal a' w') :
    (Code.region id ops true).wp P Q a w := by
  obtain ⟨g1, g2, g3, g4, g5, g6⟩ := h2.at
  have hemp : ∀ i, (Array.replicate ops.size false).getD i false = false := fun i => by
    simp only [Array.getD_eq_getD_getElem?, Array.getElem?_replicate]
    split <;> rfl
  have hfalse : ∀ {β : Type} (g : Ent → Nat → β → β) (t : Nat) (v : β), gv g xs 0 (fun i => (Array.replicate ops.size false).getD i false) t v = v := fun g t v => by
    rw [gv_congr g xs 0 _ (fun j => decide (j < 0)) v (fun j x _ hne => absurd (by rw [hemp]; simp) hne)]
    exact gv_none g xs 0 0 v (Nat.le_refl _)
  have e1 : fE xs (fun i => (Array.replicate ops.size false).getD i false) F = F := by funext t; exact hfalse gF t _
  have e2 : kE xs (fun i => (Array.replicate ops.size false).getD i false) K = K := by funext t; exact hfalse gK t _
  refine wp_region_any hmix (draw_sound (W := W) xs h1 hap F K top top' g4 g1 g5 g6 I R ?_ ops.size _ I R a { w with drawn := w.drawn + 1 } (by simp) ?_ ?_ ?_ (fun j hj _ => hd j hj) (fun _ _ => rfl) (.refl _))
  · intro I' R' a' w' hs' hd' hI hR
    rw [g2, g3] at hs'
    exact hQ a' w' I' R' hs' hd' hI hR
  · intro i o _ hE
    simp only [hemp] at hE
    cases hE
  · have : ∀ (N : Nat) (p : Nat → Bool), cnt N p ≤ N := by
      intro N
      induction N with
      | zero => intro p; exact Nat.le_refl _
      | succ N ih => intro p; have := ih p; simp only [cnt]; split <;> omega
    exact this _ _
  · rw [e1, e2]
    exact hs.grow ((Below.refl _ w).drew)
theorem loopE_sound {c : Code} {body : ES → Option (Exit × ES)} (hb : ∀ s e s', body s = some (e, s') → Goes P n c s e s') : ∀ (f : Nat) (s : ES) (e : Exit) (s' : ES), loopE body f s = some (e, s') → Goes P n (.loop c) s e s' := by
  intro f s e s' h
  have step : ∀ (f : Nat) (s : ES), loopE body f s = some (e, s') → s.top ≤ s'.top ∧ (∀ j, j ∉ s'.log → j ∉ s.log ∧ s'.K.get j = s.K.get j) ∧ e ≠ .normal := by
    intro f
    induction f with
    | zero => intro s h; cases h
    | succ f ih =>
      intro s h
      unfold loopE at h
      split at h
      · rename_i s1 h1
        obtain ⟨a1, a2, _⟩ := hb _ _ _ h1
        obtain ⟨b1, b2, b3⟩ := ih s1 h
        refine ⟨Nat.le_trans a1 b1, fun j hj => ?_, b3⟩
        obtain ⟨c1, c2⟩ := b2 j hj
        obtain ⟨c3, c4⟩ := a2 j c1
        exact ⟨c3, c2.trans c4⟩
      · rename_i hne
        obtain ⟨a1, a2, _⟩ := hb _ _ _ h
        refine ⟨a1, a2, ?_⟩
        rintro rfl
        exact hne _ h
  obtain ⟨s1, s2, _⟩ := step f s h
  refine ⟨s1, s2, fun W I R a w hs hd => ?_⟩
  refine wp_loop_ghost (fun k a' w' => ∃ sk, loopE body k sk = some (e, s') ∧ s.top ≤ sk.top ∧ ∃ I' R', St n W sk.F.get sk.K.get I' R' a' w' ∧ (∀ j, sk.top ≤ j → I' j = none) ∧ (∀ j, j < s.top → I' j = I j) ∧ RExt R R') f ⟨s, h, Nat.le_refl _, I, R, hs, hd, fun _ _ => rfl, .refl _⟩ ?_
  rintro k a' w' ⟨sk, hk, htk, I', R', h1, h2, h4, h5⟩
  cases k with
  | zero => cases hk
  | succ k =>
    unfold loopE at hk
    split at hk
    · rename_i s1 hb1
      obtain ⟨a1, a2, a3⟩ := hb _ _ _ hb1
      refine wp_mono (a3 W I' R' a' w' h1 h2) ?_
      rintro e2 a2 w2 ⟨rfl, I2, R2, k1, k2, k4, k5⟩
      exact ⟨k, Nat.lt_succ_self k, s1, hk, Nat.le_trans htk a1, I2, R2, k1, k2, fun j hj => (k4 j (by omega)).trans (h4 j hj), h5.trans k5⟩
    · rename_i hne
      obtain ⟨a1, a2, a3⟩ := hb _ _ _ hk
      refine wp_mono (a3 W I' R' a' w' h1 h2) ?_
      rintro e2 a2 w2 ⟨rfl, I2, R2, k1, k2, k4, k5⟩
      have fin : e2 = e2 ∧ ∃ I' R', St n W s'.F.get s'.K.get I' R' a2 w2 ∧ (∀ j, s'.top ≤ j → I' j = none) ∧ (∀ j, j < s.top → I' j = I j) ∧ RExt R R' := ⟨rfl, I2, R2, k1, k2, fun j hj => (k4 j (by omega)).trans (h4 j hj), h5.trans k5⟩
      cases e2 with
      | normal => exact absurd hk (hne _)
      | _ => exact fin
theorem codeE_sound (hT : TabOk P T) (hmix : P.follows .mixedOrders = true) (hC : CallsOk P C) {lf : Nat} : ∀ (c : Code) (s : ES) (e : Exit) (s' : ES), codeE C T n lf c s = some (e, s') → Goes P n c s e s'
  | .skip, s, e, s', h => by
    simp only [codeE, Option.some.injEq, Prod.mk.injEq] at h
    obtain ⟨rfl, rfl⟩ := h
    exact ⟨Nat.le_refl _, fun j hj => ⟨hj, rfl⟩, fun W I R a w hs hd => wp_skip ⟨rfl, I, R, hs, hd, fun _ _ => rfl, .refl _⟩⟩
  | .region id ops draw, s, e, s', h => by
    unfold codeE at h
    cases draw with
    | false =>
      simp only at h
      split at h
      · rename_i s1 h1
        simp only [Option.some.injEq, Prod.mk.injEq] at h
        obtain ⟨rfl, rfl⟩ := h
        obtain ⟨a1, a2, a3⟩ := runE_sound hT hC ops _ _ _ h1
        exact ⟨a1, a2, fun W I R a w hs hd => wp_region_list (a3 W I R a w hs hd _ fun a' w' I' R' k1 k2 k3 k4 => ⟨rfl, I', R', k1, k2, k3, k4⟩)⟩
      · cases h
    | true =>
      simp only at h
      split at h
      · rename_i xs s1 h1
        split at h
        · rename_i hap
          simp only [Option.some.injEq, Prod.mk.injEq] at h
          obtain ⟨rfl, rfl⟩ := h
          obtain ⟨a1, a2, a3⟩ := drawE_sound hT hC _ _ _ _ h1
          exact ⟨a2.at.2.2.2.1, a3, fun W I R a w hs hd => chain_region hmix a1 a2 hap hs hd fun a' w' I' R' k1 k2 k3 k4 => ⟨rfl, I', R', k1, k2, k3, k4⟩⟩
        · cases h
      · cases h
  | .seq x y, s, e, s', h => by
    unfold codeE at h
    split at h
    · rename_i s1 h1
      obtain ⟨a1, a2, a3⟩ := codeE_sound hT hmix hC x _ _ _ h1
      obtain ⟨b1, b2, b3⟩ := codeE_sound hT hmix hC y _ _ _ h
      refine ⟨Nat.le_trans a1 b1, fun j hj => ?_, fun W I R a w hs hd => wp_seq (wp_mono (a3 W I R a w hs hd) ?_)⟩
      · obtain ⟨c1, c2⟩ := b2 j hj
        obtain ⟨c3, c4⟩ := a2 j c1
        exact ⟨c3, c2.trans c4⟩
      · rintro e1 a' w' ⟨rfl, I', R', k1, k2, k3, k4⟩
        refine wp_mono (b3 W I' R' a' w' k1 k2) ?_
        rintro e2 a2 w2 ⟨rfl, I2, R2, j1, j2, j3, j4⟩
        exact ⟨rfl, I2, R2, j1, j2, fun j hj => (j3 j (by omega)).trans (k3 j hj), k4.trans j4⟩
    · rename_i hne
      obtain ⟨a1, a2, a3⟩ := codeE_sound hT hmix hC x _ _ _ h
      refine ⟨a1, a2, fun W I R a w hs hd => wp_seq (wp_mono (a3 W I R a w hs hd) ?_)⟩
      rintro e1 a' w' ⟨rfl, I', R', k1, k2, k3, k4⟩
      have fin : e1 = e1 ∧ ∃ I' R', St n W s'.F.get s'.K.get I' R' a' w' ∧ (∀ j, s'.top ≤ j → I' j = none) ∧ (∀ j, j < s.top → I' j = I j) ∧ RExt R R' := ⟨rfl, I', R', k1, k2, k3, k4⟩
      cases e1 with
      | normal => exact absurd h (hne _)
      | _ => exact fin
  | .cond c x y, s, e, s', h => by
    unfold codeE at h
    split at h
    · rename_i hc
      obtain ⟨a1, a2, a3⟩ := codeE_sound hT hmix hC x _ _ _ h
      exact ⟨a1, a2, fun W I R a w hs hd => wp_cond_split (t := true) (hs.ev hc) (fun _ => a3 W I R a w hs hd) (fun h => by cases h)⟩
    · rename_i hc
      obtain ⟨a1, a2, a3⟩ := codeE_sound hT hmix hC y _ _ _ h
      exact ⟨a1, a2, fun W I R a w hs hd => wp_cond_split (t := false) (hs.ev hc) (fun h => by cases h) (fun _ => a3 W I R a w hs hd)⟩
    · cases h
  | .block id c, s, e, s', h => by
    unfold codeE at h
    split at h
    · rename_i i s1 h1
      obtain ⟨a1, a2, a3⟩ := codeE_sound hT hmix hC c _ _ _ h1
      split at h
      · rename_i hb
        simp only [Option.some.injEq, Prod.mk.injEq] at h
        obtain ⟨rfl, rfl⟩ := h
        refine ⟨a1, a2, fun W I R a w hs hd => wp_block (wp_mono (a3 W I R a w hs hd) ?_)⟩
        rintro e1 a' w' ⟨rfl, k⟩
        simp only [Exit.inBlock]
        rw [if_pos (Nat.eq_of_beq_eq_true hb)]
        first | exact ⟨rfl, k⟩ | exact ⟨trivial, k⟩
      · rename_i hb
        simp only [Option.some.injEq, Prod.mk.injEq] at h
        obtain ⟨rfl, rfl⟩ := h
        refine ⟨a1, a2, fun W I R a w hs hd => wp_block (wp_mono (a3 W I R a w hs hd) ?_)⟩
        rintro e1 a' w' ⟨rfl, k⟩
        simp only [Exit.inBlock]
        rw [if_neg (Nat.ne_of_beq_eq_false hb)]
        first | exact ⟨rfl, k⟩ | exact ⟨trivial, k⟩
    · rename_i hne
      obtain ⟨a1, a2, a3⟩ := codeE_sound hT hmix hC c _ _ _ h
      refine ⟨a1, a2, fun W I R a w hs hd => wp_block (wp_mono (a3 W I R a w hs hd) ?_)⟩
      rintro e1 a' w' ⟨rfl, k⟩
      cases e1 with
      | exit i => exact absurd h (hne _ _)
      | _ => exact ⟨rfl, k⟩
  | .loop c, s, e, s', h => by
    unfold codeE at h
    exact loopE_sound (fun s e s' h => codeE_sound hT hmix hC c s e s' h) _ _ _ _ h
  | .exit id, s, e, s', h => by
    simp only [codeE, Option.some.injEq, Prod.mk.injEq] at h
    obtain ⟨rfl, rfl⟩ := h
    exact ⟨Nat.le_refl _, fun j hj => ⟨hj, rfl⟩, fun W I R a w hs hd => wp_exit ⟨rfl, I, R, hs, hd, fun _ _ => rfl, .refl _⟩⟩
  | .ret, s, e, s', h => by
    simp only [codeE, Option.some.injEq, Prod.mk.injEq] at h
    obtain ⟨rfl, rfl⟩ := h
    exact ⟨Nat.le_refl _, fun j hj => ⟨hj, rfl⟩, fun W I R a w hs hd => wp_ret ⟨rfl, I, R, hs, hd, fun _ _ => rfl, .refl _⟩⟩
  | .label l, s, e, s', h => by
    simp only [codeE, Option.some.injEq, Prod.mk.injEq] at h
    obtain ⟨rfl, rfl⟩ := h
    exact ⟨Nat.le_refl _, fun j hj => ⟨hj, rfl⟩, fun W I R a w hs hd => wp_label ⟨rfl, I, R, hs, hd, fun _ _ => rfl, .refl _⟩⟩
  | .scope c, s, e, s', h => by
    unfold codeE at h
    split at h
    · cases h
    · rename_i hne
      obtain ⟨a1, a2, a3⟩ := codeE_sound hT hmix hC c _ _ _ h
      refine ⟨a1, a2, fun W I R a w hs hd => wp_scope_straight (wp_mono (a3 W I R a w hs hd) ?_)⟩
      rintro e1 a' w' ⟨rfl, k⟩
      cases e1 with
      | goto l => exact absurd h (hne _ _)
      | _ => exact ⟨rfl, k⟩
  | .rangeFunc .., s, e, s', h => by unfold codeE at h; cases h
  | .goto _, s, e, s', h => by unfold codeE at h; cases h
  | .refuse _, s, e, s', h => by unfold codeE at h; cases h
theorem resE_run (hT : TabOk P T) {W : Wo} {I : IM} {R : RM} {a : Act} {w : World} {s : ES} (hs : St n W s.F.get s.K.get I R a w) : ∀ (l : List ResultVar) (xs : List A0), resE T s l = some xs → ∃ vs, (l.mapM (resF a)).run P w = .ok vs w ∧ All2 (A0.rel I R) xs vs
  | [], xs, h => by simp only [resE, Option.some.injEq] at h; subst h; exact ⟨[], rfl, trivial⟩
  | .tmp t :: r, xs, h => by
    simp only [resE] at h
    split at h
    · rename_i x l h1 h2
      simp only [Option.some.injEq] at h
      subst h
      obtain ⟨vs, g1, g2⟩ := resE_run hT hs r l h2
      have e1 : (AV.pl x).rel I R (a.tmps.getD t undef) := hs.fr t _ h1
      refine ⟨a.tmps.getD t undef :: vs, ?_, e1, g2⟩
      simp only [List.mapM_cons, resF, Sem.run_bind, Sem.run_pure, Result.andThen_ok, g1]
    · cases h
  | .cell p t :: r, xs, h => by
    simp only [resE] at h
    split at h
    · rename_i i q k ti l h1 h2 h3
      split at h
      · rename_i b hb
        split at h
        · rename_i row hr
          split at h
          · rename_i v hv
            simp only [Option.some.injEq] at h
            subst h
            obtain ⟨vs, g1, g2⟩ := resE_run hT hs r l h3
            have e1 := hs.fr p _ h1
            obtain ⟨lc, hlc, hu⟩ : ∃ lc, I i = some lc ∧ a.tmps.getD p undef = .pointer (some ⟨lc.b, q * lc.sz + k, none⟩) := e1
            obtain ⟨lc', us, hlc', hsz, r1, r2, _⟩ := hs.row hb hr
            rw [hlc] at hlc'; cases hlc'
            obtain ⟨u, r3, r4⟩ := load_run (hT _ _ h2) r1 (b := lc.b) (off := q * lc.sz) r2 hv
            refine ⟨u :: vs, ?_, r4, g2⟩
            have r3' : (loadVar t ⟨lc.b, q * lc.sz + k, none⟩).run P w = .ok u w := by
              simpa [Instr.loadAt, Instr.sureAddr] using r3
            simp only [List.mapM_cons, resF, hu, asAddr, Sem.run_bind, Sem.run_pure, Result.andThen_ok, g1, r3']
          · cases h
        · cases h
      · cases h
    · cases h
theorem resE_results (hT : TabOk P T) {W : Wo} {I : IM} {R : RM} {a : Act} {w : World} {s : ES} (hs : St n W s.F.get s.K.get I R a w) {fn : Func} {xs : List A0} (h : resE T s fn.results.toList = some xs) : ∃ v, (results fn a.tmps).run P w = .ok v w ∧ (retV xs).rel I R v := by
  obtain ⟨vs, h1, h2⟩ := resE_run hT hs _ _ h
  have hf : Go.results fn a.tmps = (do let vs ← fn.results.mapM (resF a); pure (if h : vs.size = 1 then vs[0] else .tuple vs)) := by
    unfold Go.results
    congr 1
  have hr : fn.results = fn.results.toList.toArray := by simp
  rw [hf, hr, Sem.run_bind, List.mapM_toArray]
  simp only [map_eq_pure_bind, Sem.run_bind]
  rw [h1]
  simp only [Result.andThen_ok, Sem.run_pure, List.size_toArray]
  match xs, vs, h2 with
  | [], [], _ => exact ⟨_, rfl, [], rfl, trivial⟩
  | [x], [v], h2 => exact ⟨v, rfl, h2.1⟩
  | x :: y :: r, v :: u :: q, h2 => exact ⟨.tuple (v :: u :: q).toArray, by simp, _, rfl, h2⟩
  | [], _ :: _, h2 => exact h2.elim
  | _ :: _, [], h2 => exact h2.elim
  | [x], v :: u :: q, h2 => exact h2.2.elim
  | x :: y :: r, [v], h2 => exact h2.2.elim
end
theorem get_argE : ∀ (l : List AV) (k t : Nat) (x : AV), k + l.length ≤ big → (argE k l).get t = some x → k ≤ t ∧ l[t - k]? = some x
  | [], k, t, x, _, h => by simp [argE, Bt.get] at h
  | v :: r, k, t, x, hb, h => by
    simp only [big, List.length_cons] at hb
    simp only [argE] at h
    rw [Bt.get_put 17 _ _ _ _ (by omega)] at h
    split at h
    · rename_i he
      subst he
      simp only [Option.some.injEq] at h
      subst h
      simp
    · rename_i hne
      obtain ⟨h2, h3⟩ := get_argE r (k + 1) t x (by simp only [big]; omega) h
      refine ⟨by omega, ?_⟩
      rw [show t - k = (t - (k + 1)) + 1 by omega]
      simpa using h3
theorem st_argE {n : Nat} {W : Wo} {K : Nat → Option Blk} {I : IM} {R : RM} {w : World} {avs : List AV} {vs : List Value} (hv : All2 (AV.rel I R) avs vs) (hw : Wd W K I R w) (hle : vs.length ≤ n) (hb : avs.length ≤ big) :
    St n W (argE 0 avs).get K I R { tmps := vs.toArray ++ Array.replicate (n - vs.toArray.size) undef, defers := [] } w := by
  refine ⟨by simp; omega, rfl, fun t x hx => ?_, hw⟩
  obtain ⟨_, h⟩ := get_argE _ _ _ _ (by omega) hx
  simp only [Nat.sub_zero] at h
  obtain ⟨u, hu, hr⟩ := hv.get h
  have hlt : t < vs.length := (List.getElem?_eq_some_iff.1 hu).1
  simp only [Act.eval, Array.getD_eq_getD_getElem?]
  rw [Array.getElem?_append_left (by simpa using hlt)]
  rw [List.getElem?_toArray, hu]
  exact hr
theorem callE_sound {P : Program} {FT : FTab} {T : Tab} (hF : FtOk P FT) (hT : TabOk P T) (hmix : P.follows .mixedOrders = true) {lf : Nat} : ∀ (d : Nat), CallsOk P (callE FT T lf d)
  | 0 => fun g cap avs K top r h => by cases h
  | d + 1 => fun g cap avs K top r h => by
    unfold callE at h
    split at h
    · rename_i fn hfn
      obtain ⟨hf, hfb⟩ := hF _ _ hfn
      split at h
      · rename_i c hc
        split at h
        · rename_i hle hbig
          have hle' : (avs ++ capA cap).length ≤ fn.ntmps := Nat.le_of_ble_eq_true hle
          have hbig' : (avs ++ capA cap).length ≤ big := Nat.le_of_ble_eq_true hbig
          have key : ∀ (e : Exit) (s : ES) (xs : List A0), (e = .normal ∨ e = .ret) → codeE (callE FT T lf d) T fn.ntmps lf c ⟨argE 0 (avs ++ capA cap), K, top, []⟩ = some (e, s) → resE T s fn.results.toList = some xs →
              CallE P g cap avs K.get top (retV xs) s.K.get s.top ∧ ∀ j, j ∉ s.log → s.K.get j = K.get j := by
            intro e s xs he hco hxs
            obtain ⟨a1, a2, a3⟩ := codeE_sound hT hmix (callE_sound hF hT hmix d) c _ _ _ hco
            refine ⟨⟨hfb, a1, fun W I R w vs us hw hd hvs hus => ?_⟩, fun j hj => (a2 j hj).2⟩
            have hall := hvs.append (capA_rel (R := R) hus)
            have hargs : vs.toArray ++ us.toArray = (vs ++ us).toArray := by simp
            rw [hargs]
            refine calls_of_wp hf hc (wp_mono (a3 W I R _ w (st_argE hall hw (by rw [← hall.length]; exact hle') hbig') hd) ?_)
            rintro e' a' w' ⟨rfl, I', R', k1, k2, k3, k4⟩
            have fin : a'.defers = [] ∧ ∃ v, (results fn a'.tmps).run P w' = .ok v w' ∧ (∃ v_1 I' R', Ending.returned v = .returned v_1 ∧ Wd W s.K.get I' R' w' ∧ (∀ j, s.top ≤ j → I' j = none) ∧ (∀ j, j < top → I' j = I j) ∧ RExt R R' ∧ (retV xs).rel I' R' v_1) := by
              obtain ⟨v, g1, g2⟩ := resE_results hT k1 hxs
              exact ⟨k1.defers, v, g1, v, I', R', rfl, k1.wd, k2, k3, k4, g2⟩
            rcases he with rfl | rfl
            · exact fin
            · exact fin
          split at h
          · rename_i s hco
            split at h
            · rename_i xs hxs
              simp only [Option.some.injEq] at h
              subst h
              exact key _ _ _ (.inl rfl) hco hxs
            · cases h
          · rename_i s hco
            split at h
            · rename_i xs hxs
              simp only [Option.some.injEq] at h
              subst h
              exact key _ _ _ (.inr rfl) hco hxs
            · cases h
          · cases h
        · cases h
      · cases h
    · cases h
def isT : Option CR → Bool
  | some ⟨.pl (.one (.v (.bool true))), _, _, _⟩ => true
  | _ => false
theorem isT_spec {r : Option CR} (h : isT r = true) : ∃ K top log, r = some ⟨.val (.bool true), K, top, log⟩ := by
  unfold isT at h
  split at h
  · exact ⟨_, _, _, rfl⟩
  · cases h
/-- A function of nothing that hands back true. -/
theorem con_run {P : Program} {FT : FTab} {T : Tab} (hF : FtOk P FT) (hT : TabOk P T) (hmix : P.follows .mixedOrders = true) (lf d : Nat) {g : FuncId} (h : isT (callE FT T lf d g [] [] .e 0) = true) : Con P g [] (fun x K t => x = .val (.bool true) ∧ K = [] ∧ t = 0) := by
  obtain ⟨K, top, log, hr⟩ := isT_spec h
  obtain ⟨⟨h1, h2, h3⟩, _⟩ := callE_sound hF hT hmix d _ _ _ _ _ _ hr
  refine ⟨h1, fun w vs hvs => ?_⟩
  have hvs0 : vs = [] := by cases vs with
    | nil => rfl
    | cons => exact hvs.elim
  subst hvs0
  have hw : Wd (Wo.of w) (Bt.e : Bt Blk).get (fun _ => none) (fun _ _ _ => none) w := by
    exact ⟨fun i b h => (by cases h), fun i j bi bj p q h => (by cases h), fun i b p h => (by cases h), fun f b o u h => (by cases h), fun i b p f o h => (by cases h), fun b o u h => (by cases h), fun b o u h => (by cases h), .refl _, fun _ _ _ _ _ h => h, fun _ h => h.elim⟩
  have := h3 (Wo.of w) (fun _ => none) (fun _ _ _ => none) w [] [] hw (fun _ _ => rfl) trivial trivial
  rw [show ([] : List Value).toArray ++ ([] : List Value).toArray = ([] : List Value).toArray by simp] at this
  refine this.mono ?_
  rintro e w' ⟨v, I', R', rfl, k1, k2, k3, k4, k5⟩
  refine ⟨v, .val (.bool true), [], 0, fun _ => none, fun _ _ => none, rfl, ?_, fun _ _ => rfl, (fun p hp => by cases hp), k5, rfl, rfl, rfl⟩
  exact ⟨fun i b h => (by simp [kg] at h), fun i j bi bj p q h => (by simp [kg] at h), fun i b p h => (by simp [kg] at h), fun f b o u h => (by cases h), fun i b p f o h => (by simp [kg] at h), fun b o u h => (by cases h), fun b o u h => (by cases h), k1.below, fun _ _ _ _ _ h => h, fun _ h => h.elim⟩
end Go.Proofs.Ytllnmdmmmkoiaaa.Wx
