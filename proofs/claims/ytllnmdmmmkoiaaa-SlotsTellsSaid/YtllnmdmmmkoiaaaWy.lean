/-
  The second layer: concrete data: code, loops, calls, rounds and regions that draw their order, reckoned by one function that the kernel runs.
-/
import Derived.Test.YtllnmdmmmkoiaaaWwm
namespace Go.Proofs.Ytllnmdmmmkoiaaa.Wx.Y
open Go Go.RowKit
set_option linter.unusedVariables false

structure ES where
  F : Bt AV
  K : Bt Ob
  top : Nat
  log : List Nat
structure CR where
  x : AV
  K : Bt Ob
  top : Nat
  log : List Nat
abbrev CallFn := Ce → List AV → Bt Ob → Nat → Option CR
def putK (K : Bt Ob) : Kr → Bt Ob
  | [] => K
  | (i, b) :: r => Bt.put 17 (putK K r) i b
def kwOk : Kr → Bool
  | [] => true
  | (i, _) :: r => match Nat.blt i big with | true => kwOk r | false => false
theorem getK_put {K : Bt Ob} : ∀ {kw : Kr}, kwOk kw = true → (putK K kw).get = kup K.get kw
  | [], _ => rfl
  | (i, b) :: r, h => by
    unfold kwOk at h
    split at h
    · rename_i hi
      have hi' : i < big := by simpa [Nat.blt_eq] using hi
      simp only [big] at hi'
      funext t
      show (Bt.put 17 (putK K r) i b).get t = _
      rw [Bt.get_put 17 _ i b t (by omega), getK_put h]
      rfl
    · cases h
def setK (K : Bt Ob) (j : Nat) (x : Option Ob) : Bt Ob := Bt.put 17 K j x
theorem setK_get {K : Bt Ob} {j : Nat} {x : Option Ob} (h : j < big) : (setK K j x).get = upd K.get j x := by
  simp only [big] at h
  funext t
  show (Bt.put 17 K j x).get t = _
  rw [Bt.get_put 17 K j x t (by omega)]
  rfl
def CallsOk (P : Program) (C : CallFn) : Prop :=
  ∀ c avs K top r, C c avs K top = some r → CallE P c avs K.get top r.x r.K.get r.top ∧ ∀ j, j ∉ r.log → r.K.get j = K.get j
/-- The round's loop. -/
def RdOk (I : IM) (rd : Option Nat) (r : Option Nat) : Prop :=
  match rd with
  | none => r = none
  | some j => ∃ p, I j = some p ∧ r = some p.b
theorem RdOk.mono {I I' : IM} {rd r : Option Nat} (h : RdOk I rd r) (hI : IExt I I') : RdOk I' rd r := by
  cases rd with
  | none => exact h
  | some j => obtain ⟨p, h1, h2⟩ := h; exact ⟨p, hI _ _ h1, h2⟩
theorem ext_of {I I' : IM} {top : Nat} (hd : ∀ j, top ≤ j → I j = none) (ho : ∀ j, j < top → I' j = I j) : IExt I I' := fun j p hj => by
  rw [ho j (by rcases Nat.lt_or_ge j top with h | h; exact h; rw [hd j h] at hj; cases hj)]; exact hj
/-- Code, from a state to a state. -/
def Goes (P : Program) (n : Nat) (rd : Option Nat) (c : Code) (s : ES) (e : Exit) (s' : ES) : Prop :=
  s.top ≤ s'.top ∧ (∀ j, j ∉ s'.log → j ∉ s.log ∧ s'.K.get j = s.K.get j) ∧
  ∀ (W : Wo) (I : IM) (R : RM) (a : Act) (w : World) (r : Option Nat), RdOk I rd r → St n W s.F.get s.K.get I R a w → (∀ j, s.top ≤ j → I j = none) →
    c.wpIn (fr r) 0 P (fun e' a' w' => e' = e ∧ ∃ I' R', St n W s'.F.get s'.K.get I' R' a' w' ∧ (∀ j, s'.top ≤ j → I' j = none) ∧ (∀ j, j < s.top → I' j = I j) ∧ RExt R R') a w
/-- The same of a row of operations. -/
def GoesL (P : Program) (n : Nat) (ops : Array Oper) (l : List Oper) (s : ES) (s' : ES) : Prop :=
  s.top ≤ s'.top ∧ (∀ j, j ∉ s'.log → j ∉ s.log ∧ s'.K.get j = s.K.get j) ∧
  ∀ (W : Wo) (I : IM) (R : RM) (a : Act) (w : World) (r : Option Nat), St n W s.F.get s.K.get I R a w → (∀ j, s.top ≤ j → I j = none) →
    ∀ Q : Exit → Act → World → Prop, (∀ a' w' I' R', St n W s'.F.get s'.K.get I' R' a' w' → (∀ j, s'.top ≤ j → I' j = none) → (∀ j, j < s.top → I' j = I j) → RExt R R' → Q .normal a' w') → wpListIn (fr r) 0 P ops Q l a w
def liftE (e : Wx.Eff) : Eff := ⟨e.av, e.rd, liftK e.kw, e.top⟩
def opY (T : Tab) (o : Oper) (F : Nat → Option AV) (K : Nat → Option Ob) (top : Nat) : Option Eff :=
  match opE T o F (blkOf K) top with
  | some e => some (liftE e)
  | none => match opX T o F (blkOf K) top with
    | some e => some (liftE e)
    | none => opM T o F K top
theorem opE_nd {T : Tab} {o : Oper} {F : Nat → Option AV} {K : Nat → Option Blk} {top : Nat} {e : Wx.Eff} (h : opE T o F K top = some e) : ∀ c, o.op ≠ .defer c := by
  intro c hc
  obtain ⟨dst, op, ty, pos, after, guard⟩ := o
  simp only at hc
  subst hc
  simp [opE] at h
theorem opY_sound {P : Program} {T : Tab} (hT : TabOk P T) {o : Oper} {F : Nat → Option AV} {K : Nat → Option Ob} {top : Nat} {e : Eff} (h : opY T o F K top = some e) : OpEff P o F K top e := by
  unfold opY at h
  split at h
  · rename_i e' he
    cases h
    exact lift_op (opE_nd he) (opE_sound hT he)
  · split at h
    · rename_i e' he
      cases h
      obtain ⟨h1, h2⟩ := opX_sound hT he
      exact lift_op h2 h1
    · exact opM_sound hT h
def stepE (C : CallFn) (T : Tab) (n : Nat) (o : Oper) (s : ES) : Option ES :=
  match dstE n o.dst with
  | true => match callOf o.op with
    | some (f, xs) => match evf s.F.get f, evs s.F.get xs with
      | some (.pl (.one c)), some avs => match C c avs s.K s.top with
        | some r => some ⟨putF s.F o.dst r.x, r.K, r.top, r.log ++ s.log⟩
        | none => none
      | _, _ => none
    | none => match opY T o s.F.get s.K.get s.top with
      | some e => match Nat.ble s.top e.top, kwOk e.kw with
        | true, true => some ⟨putF s.F o.dst e.av, putK s.K e.kw, e.top, e.kw.map (·.1) ++ s.log⟩
        | _, _ => none
      | none => none
  | false => none
def runE (C : CallFn) (T : Tab) (n : Nat) (ops : Array Oper) : List Oper → ES → Option ES
  | [], s => some s
  | o :: r, s => match wantE ops s.F o.guard with
    | some true => match stepE C T n { o with guard := none } s with
      | some s' => runE C T n ops r s'
      | none => none
    | some false => match dstE n o.dst with
      | true => runE C T n ops r ⟨putF s.F o.dst (.val undef), s.K, s.top, s.log⟩
      | false => none
    | none => none
def Bt.flat {α : Type} (g : α → List Nat) : Bt α → List Nat
  | .e => []
  | .n l v r => (match v with | some x => g x | none => []) ++ (Bt.flat g l ++ Bt.flat g r)
def Bt.allB {α : Type} (g : α → Bool) : Bt α → Bool
  | .e => true
  | .n l v r => (match v with | some x => g x | none => true) && (Bt.allB g l && Bt.allB g r)
theorem Bt.allB_get {α : Type} {g : α → Bool} : ∀ {t : Bt α} {k : Nat} {x : α}, Bt.allB g t = true → t.get k = some x → g x = true
  | .e, k, x, _, h => by simp [Bt.get] at h
  | .n l v r, k, x, hb, h => by
    simp only [Bt.allB, Bool.and_eq_true] at hb
    rw [Bt.get_n] at h
    split at h
    · subst h; exact hb.1
    · split at h
      · exact Bt.allB_get hb.2.1 h
      · exact Bt.allB_get hb.2.2 h
def Ob.refs : Ob → List Nat
  | .b x => x.rows.flatMap fun r => r.flatMap Ce.refs2
  | .m es => es.es.flatMap fun e => e.2.2.refs2
  | .l x => Bt.flat AV.refs2 x.F
  | .i x => [x.m]
def Ob.inB (l : List Nat) : Ob → Bool
  | .b x => x.rows.all fun r => r.all (Ce.inB l)
  | .m es => es.es.all fun e => e.2.2.inB l
  | .l x => Bt.allB (AV.inB l) x.F
  | .i x => l.contains x.m
def reachT (K : Bt Ob) : Nat → List Nat → List Nat → List Nat
  | 0, _, seen => seen
  | _ + 1, [], seen => seen
  | n + 1, i :: r, seen => match seen.contains i with
    | true => reachT K n r seen
    | false => match K.get i with
      | none => reachT K n r (i :: seen)
      | some b => reachT K n (b.refs ++ r) (i :: seen)
def restrict (K : Bt Ob) : List Nat → Bt Ob
  | [] => .e
  | i :: r => Bt.put 17 (restrict K r) i (K.get i)
def inE (K : Bt Ob) (top : Nat) (c : Ce) (avs : List AV) (l : List Nat) : Bool :=
  l.all (fun i => Nat.blt i top) && Nat.ble top big && avs.all (AV.inB l) && c.inB l && l.all fun i => match K.get i with
    | some b => b.inB l
    | none => true
def stepDE (C : CallFn) (T : Tab) (n : Nat) (o : Oper) (s : ES) : Option Eff :=
  match callOf o.op with
  | some (f, xs) => match evf s.F.get f, evs s.F.get xs with
    | some (.pl (.one c)), some avs => match inE s.K s.top c avs (reachT s.K 4000 (c.refs2 ++ avs.flatMap AV.refs2) []) with
      | true => match C c avs (restrict s.K (reachT s.K 4000 (c.refs2 ++ avs.flatMap AV.refs2) [])) s.top with
        | some r => some ⟨r.x, reachT s.K 4000 (c.refs2 ++ avs.flatMap AV.refs2) [], (dedup r.log).map (fun j => (j, r.K.get j)), r.top⟩
        | none => none
      | false => none
    | _, _ => none
  | none => opY T o s.F.get s.K.get s.top
def drawE (C : CallFn) (T : Tab) (n : Nat) (ops : Array Oper) : List Oper → ES → Option (List Ent × ES)
  | [], s => some ([], s)
  | o :: r, s => match dstE n o.dst, wantE ops s.F o.guard with
    | true, some true => match stepDE C T n o s with
      | some e => match Nat.ble s.top e.top, kwOk e.kw with
        | true, true => match drawE C T n ops r ⟨putF s.F o.dst e.av, putK s.K e.kw, e.top, e.kw.map (·.1) ++ s.log⟩ with
          | some (xs, s') => some (⟨o, false, e, s.top⟩ :: xs, s')
          | none => none
        | _, _ => none
      | none => none
    | true, some false => match drawE C T n ops r ⟨putF s.F o.dst (.val undef), s.K, s.top, s.log⟩ with
      | some (xs, s') => some (⟨o, true, ⟨.val undef, [], [], s.top⟩, s.top⟩ :: xs, s')
      | none => none
    | _, _ => none
def loopE (body : ES → Option (Exit × ES)) : Nat → ES → Option (Exit × ES)
  | 0, _ => none
  | f + 1, s => match body s with
    | some (.normal, s') => loopE body f s'
    | r => r
def rdIn (K : Bt Ob) : Option Nat → Bool
  | none => true
  | some j => match K.get j with
    | some (.l _) => true
    | _ => false
def rangeE (C : CallFn) (n : Nat) (rd : Option Nat) (g : Operand) (ps : Array Tmp) (assign body : Code) (s : ES) : Option (Exit × ES) :=
  match evf s.F.get g with
  | some (.pl (.one (.fn f cap))) => match Nat.blt s.top big, rdIn s.K rd with
    | true, true => match C (.fn f cap) [.pl (.one (.yl s.top))] (setK s.K s.top (some (.l ⟨n, s.F, ps, assign, body, .ready⟩))) (s.top + 1) with
      | some r => match r.K.get s.top with
        | some (.l lb) => match lb.st with
          | .ready => some (.normal, ⟨s.F, setK r.K s.top none, r.top, s.top :: (r.log ++ s.log)⟩)
          | .done .ret => some (.ret, ⟨s.F, setK r.K s.top none, r.top, s.top :: (r.log ++ s.log)⟩)
          | .done (.exit id) => some (.exit id, ⟨s.F, setK r.K s.top none, r.top, s.top :: (r.log ++ s.log)⟩)
          | _ => none
        | _ => none
      | none => none
    | _, _ => none
  | _ => none
def codeE (C : CallFn) (T : Tab) (n : Nat) (lf : Nat) (rd : Option Nat) : Code → ES → Option (Exit × ES)
  | .skip, s => some (.normal, s)
  | .region _ ops draw, s => match draw with
    | false => match runE C T n ops ops.toList s with
      | some s' => some (.normal, s')
      | none => none
    | true => match drawE C T n ops ops.toList s with
      | some (xs, s') => match apartB ops xs with
        | true => some (.normal, s')
        | false => none
      | none => none
  | .seq a b, s => match codeE C T n lf rd a s with
    | some (.normal, s') => codeE C T n lf rd b s'
    | r => r
  | .cond c x y, s => match evf s.F.get c with
    | some (.pl (.one (.v (.bool true)))) => codeE C T n lf rd x s
    | some (.pl (.one (.v (.bool false)))) => codeE C T n lf rd y s
    | _ => none
  | .block id c, s => match codeE C T n lf rd c s with
    | some (.exit i, s') => match Nat.beq i id with
      | true => some (.normal, s')
      | false => some (.exit i, s')
    | r => r
  | .loop c, s => loopE (codeE C T n lf rd c) lf s
  | .exit id, s => some (.exit id, s)
  | .ret, s => some (.ret, s)
  | .label _, s => some (.normal, s)
  | .rangeFunc g ps assign body, s => rangeE C n rd g ps assign body s
  | _, _ => none
def resE (T : Tab) (s : ES) : List ResultVar → Option (List A0)
  | [] => some []
  | .tmp t :: r => match s.F.get t, resE T s r with
    | some (.pl x), some l => some (x :: l)
    | _, _ => none
  | .cell p t :: r => match s.F.get p, tyGet T t, resE T s r with
    | some (.pl (.one (.own i q k))), some ti, some l => match blkOf s.K.get i with
      | some b => match b.rows[q]? with
        | some row => match cut ti.row k ti.size row with
          | some v => some (v :: l)
          | none => none
        | none => none
      | none => none
    | _, _, _ => none
def putL (n : Nat) : Bt AV → List Tmp → List AV → Option (Bt AV)
  | F, [], [] => some F
  | F, t :: ts, x :: xs => match Nat.blt t n, Nat.blt t big with
    | true, true => putL n (Bt.put 17 F t (some x)) ts xs
    | _, _ => none
  | _, _, _ => none
def roundE (X : Nat → Nat → Code → ES → Option (Exit × ES)) (j : Nat) (avs : List AV) (K : Bt Ob) (top : Nat) : Option CR :=
  match K.get j, Nat.blt j big with
  | some (.l lb), true => match lb.st with
    | .ready => match putL lb.n lb.F lb.ps.toList avs with
      | some F0 => match X lb.n j lb.assign ⟨F0, K, top, []⟩ with
        | some (.normal, s1) => match s1.K.get j with
          | some (.l lb1) => match lb1.st with
            | .ready => match X lb.n j lb.body ⟨s1.F, setK s1.K j (some (.l ⟨lb1.n, lb1.F, lb1.ps, lb1.assign, lb1.body, .busy⟩)), s1.top, s1.log⟩ with
              | some (e, s2) => match s2.K.get j with
                | some (.l lb2) => match e with
                  | .normal => some ⟨.pl (.one (.v (.bool true))), setK s2.K j (some (.l ⟨lb2.n, lb2.F, lb2.ps, lb2.assign, lb2.body, .ready⟩)), s2.top, j :: s2.log⟩
                  | .ret => some ⟨.pl (.one (.v (.bool false))), setK s2.K j (some (.l ⟨lb2.n, lb2.F, lb2.ps, lb2.assign, lb2.body, .done .ret⟩)), s2.top, j :: s2.log⟩
                  | .exit id => some ⟨.pl (.one (.v (.bool false))), setK s2.K j (some (.l ⟨lb2.n, lb2.F, lb2.ps, lb2.assign, lb2.body, .done (.exit id)⟩)), s2.top, j :: s2.log⟩
                  | _ => none
                | _ => none
              | none => none
            | _ => none
          | _ => none
        | _ => none
      | none => none
    | _ => none
  | _, _ => none
def callE (FT : FTab) (T : Tab) (lf : Nat) : Nat → CallFn
  | 0, _, _, _, _ => none
  | d + 1, c, avs, K, top => match c with
    | .yl j => roundE (fun n j c s => codeE (callE FT T lf d) T n lf (some j) c s) j avs K top
    | .fn g cap => match ftGet FT g with
      | some fn => match fn.body with
        | some c => match Nat.ble (avs ++ capA cap).length fn.ntmps, Nat.ble (avs ++ capA cap).length big with
          | true, true => match codeE (callE FT T lf d) T fn.ntmps lf none c ⟨argE 0 (avs ++ capA cap), K, top, []⟩ with
            | some (.normal, s) => match resE T s fn.results.toList with
              | some xs => some ⟨retV xs, s.K, s.top, s.log⟩
              | none => none
            | some (.ret, s) => match resE T s fn.results.toList with
              | some xs => some ⟨retV xs, s.K, s.top, s.log⟩
              | none => none
            | _ => none
          | _, _ => none
        | none => none
      | none => none
    | .mf g cap => match ftGet FT g with
      | some fn => match fn.body with
        | some c => match Nat.ble (capA cap ++ avs).length fn.ntmps, Nat.ble (capA cap ++ avs).length big with
          | true, true => match codeE (callE FT T lf d) T fn.ntmps lf none c ⟨argE 0 (capA cap ++ avs), K, top, []⟩ with
            | some (.normal, s) => match resE T s fn.results.toList with
              | some xs => some ⟨retV xs, s.K, s.top, s.log⟩
              | none => none
            | some (.ret, s) => match resE T s fn.results.toList with
              | some xs => some ⟨retV xs, s.K, s.top, s.log⟩
              | none => none
            | _ => none
          | _, _ => none
        | none => none
      | none => none
    | _ => none
section
variable {P : Program} {C : CallFn} {T : Tab} {n : Nat} {ops : Array Oper}
theorem wantE_run {F : Bt AV} {W : Wo} {K : Nat → Option Ob} {I : IM} {R : RM} {a : Act} {w : World} {o : Oper} {b : Bool} (h : wantE ops F o.guard = some b) (hs : St n W F.get K I R a w) : Region.wanted o (yielded ops a.tmps) = b := by
  unfold wantE at h
  split at h
  · rename_i hg
    simp only [Option.some.injEq] at h
    subst h
    simp [Region.wanted, hg]
  · rename_i g want hg
    split at h
    · rename_i t hd
      split at h
      · rename_i v ht
        simp only [Option.some.injEq] at h
        subst h
        exact wanted_guard' hg hd ht hs
      · rename_i l ht
        simp only [Option.some.injEq] at h
        subst h
        exact unwanted_guardA hg hd ht hs
      · cases h
    · cases h
theorem St.ev {F : Nat → Option AV} {W : Wo} {K : Nat → Option Ob} {I : IM} {R : RM} {a : Act} {w : World} (hs : St n W F K I R a w) {o : Operand} {x : AV} (h : evf F o = some x) : x.rel I R (a.eval o) := by
  have h0 : Wx.St n (stpB W (blkOf K) I R w) F (blkOf K) I R ⟨a.tmps, []⟩ w := ⟨hs.size, rfl, fun t y hy => hs.fr t y hy, wd_step hs.wz.wd⟩
  have := h0.ev h
  have he : (Act.eval a : Operand → Value) = Act.eval ⟨a.tmps, []⟩ := by funext x; cases x <;> rfl
  rw [he]; exact this
theorem St.evs {F : Nat → Option AV} {W : Wo} {K : Nat → Option Ob} {I : IM} {R : RM} {a : Act} {w : World} (hs : St n W F K I R a w) {l : List Operand} {xs : List AV} (h : evs F l = some xs) : All2 (AV.rel I R) xs (l.map a.eval) := by
  have h0 : Wx.St n (stpB W (blkOf K) I R w) F (blkOf K) I R ⟨a.tmps, []⟩ w := ⟨hs.size, rfl, fun t y hy => hs.fr t y hy, wd_step hs.wz.wd⟩
  have := h0.evs h
  have he : (Act.eval a : Operand → Value) = Act.eval ⟨a.tmps, []⟩ := by funext x; cases x <;> rfl
  rw [he]; exact this
theorem stepE_sound (hT : TabOk P T) (hC : CallsOk P C) {o : Oper} {s s' : ES} (h : stepE C T n o s = some s') :
    s.top ≤ s'.top ∧ (∀ j, j ∉ s'.log → j ∉ s.log ∧ s'.K.get j = s.K.get j) ∧
    ∀ (W : Wo) (I : IM) (R : RM) (a : Act) (w : World) (r : Option Nat), St n W s.F.get s.K.get I R a w → (∀ j, s.top ≤ j → I j = none) →
      ∀ (next : Act → World → Prop) (Q : Exit → Act → World → Prop), (∀ a' w' I' R', St n W s'.F.get s'.K.get I' R' a' w' → (∀ j, s'.top ≤ j → I' j = none) → (∀ j, j < s.top → I' j = I j) → RExt R R' → next a' w') → o.wpIn (fr r) 0 P a w next Q := by
  obtain ⟨dst, op, ty, pos, after, guard⟩ := o
  unfold stepE at h
  simp only at h
  split at h
  · rename_i hd
    have hdn := dstE_n hd
    have hdb := dstE_b hd
    split at h
    · rename_i f xs hc
      unfold callOf at hc
      split at hc
      · rename_i f' xs' ts
        simp only [Option.some.injEq, Prod.mk.injEq] at hc
        obtain ⟨rfl, rfl⟩ := hc
        split at h
        · rename_i c avs hf hxs
          split at h
          · rename_i r hr
            simp only [Option.some.injEq] at h
            subst h
            obtain ⟨⟨h2, h3⟩, h4⟩ := hC _ _ _ _ _ hr
            refine ⟨h2, fun j hj => ?_, ?_⟩
            · simp only [List.mem_append, not_or] at hj
              exact ⟨hj.2, h4 j hj.1⟩
            · intro W I R a w rr hs hdom next Q hn
              refine ups_op (h3 (mkW W a.defers w) I R w _ _ (hs.wz.mk' hs.mks) hdom (hs.evs hxs) (hs.ev hf)) ?_
              rintro e w' ⟨v, I', R', rfl, hw', hd', hI, hR, hx⟩
              obtain ⟨g1, g2⟩ := hs.wz.un hs.mks hw'
              refine ⟨v, rfl, hn _ _ I' R' ?_ hd' hI hR⟩
              simp only
              rw [getF_put hdb]
              exact hs.put (ext_of hdom hI) hR g1 g2 hdn hx
          · cases h
        · cases h
      · cases hc
    · split at h
      · rename_i e he
        split at h
        · rename_i h1 h2
          simp only [Option.some.injEq] at h
          subst h
          have hop := opY_sound hT he
          have htop : s.top ≤ e.top := Nat.le_of_ble_eq_true h1
          refine ⟨htop, fun j hj => ?_, ?_⟩
          · simp only [List.mem_append, not_or] at hj
            refine ⟨hj.2, ?_⟩
            simp only
            rw [getK_put h2]
            exact kup_out' hj.1
          · intro W I R a w rr hs hdom next Q hn
            refine hop rr n W _ _ I R a w hs (fun _ _ => rfl) (fun _ _ => rfl) (fun j h1 h2 => ⟨hdom j h1, ?_⟩) hdn next Q ?_
            · cases hq : s.K.get j with
              | none => rfl
              | some b => obtain ⟨p, hp⟩ := hs.dom hq; rw [hdom j h1] at hp; cases hp
            · intro I' R' a' w' hs' hI hfree hR
              refine hn _ _ I' R' ?_ (fun j hj => ?_) (fun j hj => hfree j (by omega)) hR
              · simp only
                rw [getF_put hdb, getK_put h2]
                exact hs'
              · simp only at hj
                rw [hfree j (by omega)]; exact hdom j (by omega)
        · cases h
      · cases h
  · cases h
theorem runE_sound (hT : TabOk P T) (hC : CallsOk P C) (ops : Array Oper) : ∀ (l : List Oper) (s s' : ES), runE C T n ops l s = some s' → GoesL P n ops l s s'
  | [], s, s', h => by
    simp only [runE, Option.some.injEq] at h
    subst h
    exact ⟨Nat.le_refl _, fun j hj => ⟨hj, rfl⟩, fun W I R a w rr hs hd Q hn => hn a w I R hs hd (fun _ _ => rfl) (.refl _)⟩
  | o :: r, s, s', h => by
    unfold runE at h
    split at h
    · rename_i hw
      split at h
      · rename_i s1 h1
        obtain ⟨a1, a2, a3⟩ := stepE_sound hT hC h1
        obtain ⟨b1, b2, b3⟩ := runE_sound hT hC ops r s1 s' h
        refine ⟨Nat.le_trans a1 b1, fun j hj => ?_, ?_⟩
        · obtain ⟨c1, c2⟩ := b2 j hj
          obtain ⟨c3, c4⟩ := a2 j c1
          exact ⟨c3, c2.trans c4⟩
        · intro W I R a w rr hs hd Q hn
          unfold wpListIn
          rw [if_pos (wantE_run hw hs)]
          have := a3 W I R a w rr hs hd (wpListIn (fr rr) 0 P ops Q r) Q (fun a' w' I' R' h1 h2 h3 h4 => b3 W I' R' a' w' rr h1 h2 Q fun a2 w2 I2 R2 g1 g2 g3 g4 => hn a2 w2 I2 R2 g1 g2 (fun j hj => (g3 j (by omega)).trans (h3 j hj)) (h4.trans g4))
          exact this
      · cases h
    · rename_i hw
      split at h
      · rename_i hd'
        obtain ⟨b1, b2, b3⟩ := runE_sound hT hC ops r _ s' h
        refine ⟨b1, b2, ?_⟩
        intro W I R a w rr hs hd Q hn
        unfold wpListIn
        rw [if_neg (by rw [wantE_run hw hs]; simp)]
        refine ⟨fun _ _ => trivial, b3 W I R _ w rr ?_ hd Q hn⟩
        simp only
        rw [getF_put (dstE_b hd')]
        exact hs.put (.refl _) (.refl _) hs.wz hs.mks (dstE_n hd') rfl
      · cases h
    · cases h
end
section
variable {W : Wo} {K : Nat → Option Ob} {I : IM} {R : RM} {w : World}
theorem Wz.injA (h : Wz W K I R w) {i j : Nat} {oi oj : Ob} {p q : Loc} (hi : K i = some oi) (hj : K j = some oj) (hp : I i = some p) (hq : I j = some q) (he : p.b = q.b) : i = j := by
  have kind : ∀ {i j : Nat} {b : Blk} {o : Ob} {p q : Loc}, K i = some (.b b) → K j = some o → o.nb = true → I i = some p → I j = some q → p.b = q.b → False := fun {i j b o p q} hi hj hn hp hq he => by
    obtain ⟨p', hp', hk⟩ := h.wd.blk i b (by simp [blkOf, hi])
    rw [hp] at hp'; cases hp'
    obtain ⟨cs, hc, _⟩ := hk.mem
    obtain ⟨q', hq', ho, _⟩ := h.ob j o hj hn
    rw [hq] at hq'; cases hq'
    obtain ⟨x, hx, hxc⟩ := ho.kind hn
    rw [← he, hc] at hx
    cases hx; cases hxc
  cases hni : oi.nb with
  | true => cases hnj : oj.nb with
    | true => exact h.inj i j oi oj p q hi hj hni hnj hp hq he
    | false => cases oj with
      | b x => exact (kind hj hi hni hq hp he.symm).elim
      | m _ => cases hnj
      | l _ => cases hnj
      | i _ => cases hnj
  | false => cases oi with
    | b x => cases hnj : oj.nb with
      | true => exact (kind hi hj hnj hp hq he).elim
      | false => cases oj with
        | b y => exact h.wd.inj i j x y p q (by simp [blkOf, hi]) (by simp [blkOf, hj]) hp hq he
        | m _ => cases hnj
        | l _ => cases hnj
        | i _ => cases hnj
    | m _ => cases hni
    | l _ => cases hni
    | i _ => cases hni
theorem Wz.roA (h : Wz W K I R w) {i : Nat} {o : Ob} {p : Loc} (hi : K i = some o) (hp : I i = some p) (f : Bool) (off : Nat) : R f p.b off = none := by
  cases hn : o.nb with
  | true =>
    cases hq : R f p.b off with
    | none => rfl
    | some u =>
      obtain ⟨x, hx, hc⟩ := cells_of_cell (h.wd.ro f _ _ u hq)
      obtain ⟨q', hq', ho, _⟩ := h.ob i o hi hn
      rw [hp] at hq'; cases hq'
      obtain ⟨y, hy, hyc⟩ := ho.kind hn
      simp only at hx
      rw [hx] at hy; cases hy
      rw [hc] at hyc; cases hyc
  | false => cases o with
    | b x => exact h.wd.apart i x p f off (by simp [blkOf, hi]) hp
    | m _ => cases hn
    | l _ => cases hn
    | i _ => cases hn
theorem Wz.zA (h : Wz W K I R w) {i : Nat} {o : Ob} {p : Loc} (hi : K i = some o) (hp : I i = some p) : ¬ W.z p.b := by
  cases hn : o.nb with
  | true =>
    obtain ⟨q', hq', ho, hz⟩ := h.ob i o hi hn
    rw [hp] at hq'; cases hq'; exact hz
  | false => cases o with
    | b x => exact h.wd.base i x p (by simp [blkOf, hi]) hp
    | m _ => cases hn
    | l _ => cases hn
    | i _ => cases hn
theorem Wz.domA (h : Wz W K I R w) {i : Nat} {o : Ob} (hi : K i = some o) : ∃ p, I i = some p := by
  cases hn : o.nb with
  | true => obtain ⟨p, hp, _⟩ := h.ob i o hi hn; exact ⟨p, hp⟩
  | false => cases o with
    | b x => obtain ⟨p, hp, _⟩ := h.wd.blk i x (by simp [blkOf, hi]); exact ⟨p, hp⟩
    | m _ => cases hn
    | l _ => cases hn
    | i _ => cases hn
end
theorem ObOk.rel_in {l : List Nat} {I : IM} {R : RM} {o : Ob} {p : Loc} {w : World} (hin : o.inB l = true) (h : ObOk I R o p w) : ObOk (onI l I) R o p w := by
  cases o with
  | b x => trivial
  | m es =>
    obtain ⟨ents, h1, h2⟩ := h.mem
    refine ⟨ents, h1, h2.mono_mem fun c hc b hb => ⟨hb.1, A0.rel_in (List.all_eq_true.1 hin c hc) hb.2⟩⟩
  | l x =>
    obtain ⟨rc, h1, h2, h3, h4, h5, h6, h7⟩ := h.mem
    exact ⟨rc, h1, h2, h3, h4, h5, h6, fun t y hy => AV.rel_in (Bt.allB_get hin hy) (h7 t y hy)⟩
  | i x => obtain ⟨pm, h1, h2⟩ := h.mem; exact ⟨pm, (onI_in hin).trans h1, h2⟩
section
open Classical
theorem in_effE {P : Program} {c : Ce} {avs : List AV} {Kl Kp Kx : Nat → Option Ob} {top : Nat} (l : List Nat) {res : AV} {D : Kr} {t' : Nat} (hlt : l.all (fun i => Nat.blt i top) = true) (hav : avs.all (AV.inB l) = true) (hcap : c.inB l = true)
    (hout : ∀ i b, Kp i = some b → l.contains i = true) (heq : ∀ i, l.contains i = true → Kp i = Kl i) (hK : ∀ i b, Kp i = some b → b.inB l = true) (h : CallX P c avs Kp top res Kx t') (hKx : ∀ j, Kx j = kup Kp D j) : CEff P c avs Kl top ⟨res, l, D, t'⟩ := by
  intro W K I R w v vs hw hv hu hk hfree
  simp only at hk hfree
  have hmem : ∀ {i : Nat}, l.contains i = true → i ∈ l := fun h => by simpa using h
  let W' : Wo := ⟨w, fun k => k < w.heap.size ∧ (W.z k ∨ ∃ i o p, l.contains i = false ∧ K i = some o ∧ I i = some p ∧ p.b = k), fun k => W.q k ∨ ∃ i b p, l.contains i = false ∧ K i = some (.b b) ∧ I i = some p ∧ p.b = k⟩
  have hKin : ∀ {i b}, Kp i = some b → l.contains i = true ∧ K i = some b := fun h =>
    let h1 := hout _ _ h; ⟨h1, (hk _ (hmem h1)).trans ((heq _ h1).symm.trans h)⟩
  have hIin : ∀ {i p}, onI l I i = some p → l.contains i = true ∧ I i = some p := fun {i p} h => by
    unfold onI at h
    split at h
    · rename_i hc; exact ⟨hc, h⟩
    · cases h
  have hnz : ∀ {i o p}, Kp i = some o → onI l I i = some p → ¬ W'.z p.b := fun {i o p} hi hp hz => by
    obtain ⟨h1, h2⟩ := hKin hi
    rcases hz.2 with hz | ⟨i', o', p', g1, g2, g3, g4⟩
    · exact hw.zA h2 (hIin hp).2 hz
    · have := hw.injA g2 h2 g3 (hIin hp).2 g4
      subst this
      rw [g1] at h1; cases h1
  have hwz : Wz W' Kp (onI l I) R w := by
    refine ⟨⟨?_, ?_, fun i b p hb hp => hnz (blkOf_some hb) hp, hw.wd.ro, ?_, ?_, hw.wd.less, ⟨rfl, rfl, rfl, Nat.le_refl _, fun k hk => ⟨hk.1, rfl⟩⟩, ?_, ?_⟩, ?_, ?_⟩
    · intro i b hb
      obtain ⟨h1, h2⟩ := hKin (blkOf_some hb)
      obtain ⟨p, hp, g1, g2, g3, g4, cs, g5, g6, g7⟩ := hw.wd.blk i b (by simp [blkOf, h2])
      refine ⟨p, (onI_in h1).trans hp, g1, g2, g3, g4, cs, g5, g6, fun q r k c hq hc => ?_⟩
      obtain ⟨u, hu, hr⟩ := g7 q r k c hq hc
      have hin := hK _ _ (blkOf_some hb)
      exact ⟨u, hu, Ce.rel_in (List.all_eq_true.1 (List.all_eq_true.1 hin r (List.mem_of_getElem? hq)) c (List.mem_of_getElem? hc)) hr⟩
    · intro i j bi bj p q hi hj hp hq he
      exact hw.injA (hKin (blkOf_some hi)).2 (hKin (blkOf_some hj)).2 (hIin hp).2 (hIin hq).2 he
    · intro i b p f o hb hp
      exact hw.roA (hKin (blkOf_some hb)).2 (hIin hp).2 f o
    · intro b o u hu hz
      rcases hz.2 with hz | ⟨i', b', p', g1, g2, g3, g4⟩
      · exact hw.wd.fresh b o u hu hz
      · have := hw.roA g2 g3 true o
        rw [g4, hu] at this; cases this
    · intro f b o u hu hz
      rcases hz with hz | ⟨i', b', p', g1, g2, g3, g4⟩
      · exact hw.wd.out f b o u hu hz
      · have := hw.roA g2 g3 f o
        rw [g4, hu] at this; cases this
    · intro k hq
      rcases hq with hq | ⟨i', b', p', g1, g2, g3, g4⟩
      · exact ⟨hw.wd.below.lt (hw.wd.qz _ hq), .inl (hw.wd.qz _ hq)⟩
      · exact ⟨g4 ▸ hw.lt g2 g3, .inr ⟨i', _, p', g1, g2, g3, g4⟩⟩
    · intro i o hi hn
      obtain ⟨h1, h2⟩ := hKin hi
      obtain ⟨p, hp, ho, _⟩ := hw.ob i o h2 hn
      exact ⟨p, (onI_in h1).trans hp, ho.rel_in (hK _ _ hi), hnz hi ((onI_in h1).trans hp)⟩
    · intro i j oi oj p q hi hj _ _ hp hq he
      exact hw.injA (hKin hi).2 (hKin hj).2 (hIin hp).2 (hIin hq).2 he
  have hdom : ∀ j, top ≤ j → onI l I j = none := fun j hj => by
    unfold onI
    split
    · rename_i hc
      have := List.all_eq_true.1 hlt j (hmem hc)
      rw [Nat.blt_eq] at this
      omega
    · rfl
  have hv' : All2 (AV.rel (onI l I) R) avs vs := hv.mono_mem fun c hc b hb => AV.rel_in (List.all_eq_true.1 hav c hc) hb
  refine (h.2 W' _ R w v vs hwz hdom hv' (Ce.rel_in hcap hu)).mono ?_
  rintro e w' ⟨u, I', R', rfl, h', hd', hold, hR, hx⟩
  have htop := h.1
  have hI1 : ∀ {j p}, I' j = some p → j < t' ∧ ((l.contains j = true ∧ I j = some p ∧ j < top) ∨ (top ≤ j)) := fun {j p} hj => by
    have h1 : j < t' := by
      rcases Nat.lt_or_ge j t' with h1 | h1
      · exact h1
      · rw [hd' j h1] at hj; cases hj
    refine ⟨h1, ?_⟩
    rcases Nat.lt_or_ge j top with h2 | h2
    · rw [hold j h2] at hj
      exact .inl ⟨(hIin hj).1, (hIin hj).2, h2⟩
    · exact .inr h2
  let I2 : IM := fun j => if top ≤ j ∧ j < t' then I' j else I j
  have hI' : IExt I' I2 := fun j p hp => by
    obtain ⟨h1, h2⟩ := hI1 hp
    show (if top ≤ j ∧ j < t' then I' j else I j) = some p
    rcases h2 with ⟨_, h2, h3⟩ | h2
    · rw [if_neg (by omega)]; exact h2
    · rw [if_pos ⟨h2, h1⟩]; exact hp
  have hI : IExt I I2 := fun j p hp => by
    show (if top ≤ j ∧ j < t' then I' j else I j) = some p
    rw [if_neg]
    · exact hp
    · intro hj
      rw [(hfree j hj.1 hj.2).1] at hp; cases hp
  have hkey : ∀ {j b}, kup K D j = some b → (Kx j = some b) ∨ (l.contains j = false ∧ K j = some b) := fun {j b} hj => by
    by_cases hD : j ∈ D.map (·.1)
    · refine .inl ?_
      rw [hKx, kup_one, ← kup1_in D j (K j) (Kp j) hD, ← kup_one]; exact hj
    · rw [kup_out' hD] at hj
      cases hc : l.contains j with
      | false => exact .inr ⟨rfl, hj⟩
      | true =>
        refine .inl ?_
        rw [hKx, kup_out' hD]
        exact (heq _ hc).trans ((hk j (hmem hc)).symm.trans hj)
  have hfr : ∀ {j b p}, l.contains j = false → K j = some b → I j = some p → W'.z p.b := fun {j b p} h1 h2 h3 => ⟨hw.lt h2 h3, .inr ⟨j, b, p, h1, h2, h3, rfl⟩⟩
  have hzW : ∀ {k}, W.z k → W'.z k := fun {k} hk => ⟨hw.wd.below.lt hk, .inl hk⟩
  have hI2 : ∀ {j b p}, Kx j = some b → I2 j = some p → I' j = some p := fun {j b p} hj hp => by
    obtain ⟨p', hp'⟩ := h'.domA hj
    rw [hI' _ _ hp'] at hp
    cases hp; exact hp'
  have hI3 : ∀ {j b p}, K j = some b → I2 j = some p → I j = some p := fun {j b p} hj hp => by
    obtain ⟨p', hp'⟩ := hw.domA hj
    rw [hI _ _ hp'] at hp
    cases hp; exact hp'
  have hinj : ∀ {i j : Nat} {bi bj : Ob} {p q : Loc}, kup K D i = some bi → kup K D j = some bj → I2 i = some p → I2 j = some q → p.b = q.b → i = j := by
    intro i j bi bj p q hi hj hp hq he
    rcases hkey hi with hi | ⟨h1, hi⟩ <;> rcases hkey hj with hj | ⟨h2, hj⟩
    · exact h'.injA hi hj (hI2 hi hp) (hI2 hj hq) he
    · exact absurd (he ▸ hfr h2 hj (hI3 hj hq)) (h'.zA hi (hI2 hi hp))
    · exact absurd (he ▸ hfr h1 hi (hI3 hi hp)) (h'.zA hj (hI2 hj hq))
    · exact hw.injA hi hj (hI3 hi hp) (hI3 hj hq) he
  refine ⟨u, I2, R', rfl, ⟨⟨?_, fun i j bi bj p q hi hj => hinj (blkOf_some hi) (blkOf_some hj), ?_, h'.wd.ro, ?_, ?_, h'.wd.less, ?_, ?_, hw.wd.qz⟩, ?_, fun i j oi oj p q hi hj _ _ => hinj hi hj⟩, hI, fun j hj => if_neg hj, hR, AV.mono hI' (.refl _) hx⟩
  · intro j b hj
    rcases hkey (blkOf_some hj) with hj | ⟨h1, h2⟩
    · obtain ⟨p, hp, hb⟩ := h'.wd.blk j b (by simp [blkOf, hj])
      exact ⟨p, hI' _ _ hp, hb.mono hI' (.refl _) rfl⟩
    · obtain ⟨p, hp, hb⟩ := hw.wd.blk j b (by simp [blkOf, h2])
      exact ⟨p, hI _ _ hp, hb.mono hI hR (h'.wd.below.block _ (hfr h1 h2 hp)).2⟩
  · intro j b p hj hp hz
    rcases hkey (blkOf_some hj) with hj | ⟨h1, hj⟩
    · exact h'.zA hj (hI2 hj hp) (hzW hz)
    · exact hw.zA hj (hI3 hj hp) hz
  · intro j b p f o hj hp
    rcases hkey (blkOf_some hj) with hj | ⟨h1, hj⟩
    · exact h'.roA hj (hI2 hj hp) f o
    · cases hq : R' f p.b o with
      | none => rfl
      | some u => exact absurd (Or.inr ⟨j, b, p, h1, hj, hI3 hj hp, rfl⟩) (h'.wd.out f _ o u hq)
  · exact fun b o u hu hz => h'.wd.fresh b o u hu (hzW hz)
  · exact ⟨h'.wd.below.os.trans hw.wd.below.os, h'.wd.below.tape.trans hw.wd.below.tape, h'.wd.below.output.trans hw.wd.below.output, Nat.le_trans hw.wd.below.size h'.wd.below.size, fun k hk => ⟨(hw.wd.below.block k hk).1, (h'.wd.below.block k (hzW hk)).2.trans (hw.wd.below.block k hk).2⟩⟩
  · exact fun f b o u hu hq => h'.wd.out f b o u hu (.inl hq)
  · intro j o hj hn
    rcases hkey hj with hj | ⟨h1, hj⟩
    · obtain ⟨p, hp, ho, hz⟩ := h'.ob j o hj hn
      exact ⟨p, hI' _ _ hp, ho.mono hI' (.refl _) rfl, fun hh => hz (hzW hh)⟩
    · obtain ⟨p, hp, ho, hz⟩ := hw.ob j o hj hn
      exact ⟨p, hI _ _ hp, ho.mono hI hR (h'.wd.below.block _ (hfr h1 hj hp)).2, hz⟩
end
theorem e_call {P : Program} {dst : Option Tmp} {f : Operand} {xs : Array Operand} {ts : Array TypeId} {ty : TypeId} {pos : String} {after : Array Edge} {guard : Option (Nat × Bool)} {F0 : Nat → Option AV} {K0 : Nat → Option Ob} {top : Nat} {c : Ce} {avs : List AV} (hf : evf F0 f = some (.c c)) (hxs : evs F0 xs.toList = some avs)
    {e : Eff} (h : CEff P c avs K0 top e) : OpEff P ⟨dst, .call ⟨.value f, xs, ts⟩, ty, pos, after, guard⟩ F0 K0 top e := by
  intro r n W F K I R a w hs hx hk hfree hd next Q hn
  have hm : ∀ z ∈ f :: xs.toList, evf F z = evf F0 z := fun z hz => hx z (by simpa [Op.operands, Call.operands] using hz)
  have hev := hs.evs (evs_agree (fun x hx => hm x (List.mem_cons_of_mem _ hx)) hxs)
  refine upsx_op (h (mkW W a.defers w) K I R w _ _ (hs.wz.mk' hs.mks) hev (hs.ev ((hm f (by simp)).trans hf)) hk hfree) ?_
  rintro e' w' ⟨v, I', R', rfl, h1, h2, h3, h4, h5⟩
  obtain ⟨g1, g2⟩ := hs.wz.un hs.mks h1
  exact ⟨v, rfl, hn I' R' _ _ (hs.put h2 h4 g1 g2 hd h5) h2 h3 h4⟩
theorem restrict_get {K : Bt Ob} : ∀ {l : List Nat}, (∀ i ∈ l, i < big) → ∀ j, (restrict K l).get j = if l.contains j = true then K.get j else none
  | [], _, j => rfl
  | i :: r, h, j => by
    have hi := h i List.mem_cons_self
    simp only [big] at hi
    show (Bt.put 17 (restrict K r) i (K.get i)).get j = _
    rw [Bt.get_put 17 _ _ _ _ (by omega), restrict_get (fun x hx => h x (List.mem_cons_of_mem _ hx))]
    by_cases hj : j = i
    · subst hj; simp
    · rw [if_neg hj]
      have : (i :: r).contains j = r.contains j := by simp [hj]
      rw [this]
section
variable {P : Program} {C : CallFn} {T : Tab} {n : Nat} {ops : Array Oper}
theorem mapK_get {K' : Nat → Option Ob} {K : Nat → Option Ob} : ∀ (l : List Nat) (j : Nat), kup K (l.map fun j => (j, K' j)) j = if j ∈ l then K' j else K j
  | [], j => by simp [kup]
  | i :: r, j => by
    simp only [List.map_cons, kup, mapK_get r j]
    by_cases h : j = i
    · subst h; simp
    · rw [if_neg h]
      by_cases h2 : j ∈ r
      · rw [if_pos h2, if_pos (List.mem_cons_of_mem _ h2)]
      · rw [if_neg h2, if_neg (by simp [h, h2])]
theorem stepDE_sound (hT : TabOk P T) (hC : CallsOk P C) {o : Oper} {s : ES} {e : Eff} (h : stepDE C T n o s = some e) : OpEff P o s.F.get s.K.get s.top e := by
  obtain ⟨dst, op, ty, pos, after, guard⟩ := o
  unfold stepDE at h
  simp only at h
  split at h
  · rename_i f xs hc
    unfold callOf at hc
    split at hc
    · rename_i f' xs' ts
      simp only [Option.some.injEq, Prod.mk.injEq] at hc
      obtain ⟨rfl, rfl⟩ := hc
      split at h
      · rename_i c avs hf hxs
        generalize hl : reachT s.K 4000 (c.refs2 ++ avs.flatMap AV.refs2) [] = l at h
        split at h
        · rename_i hin
          split at h
          · rename_i r hr
            simp only [Option.some.injEq] at h
            subst h
            obtain ⟨h1, h2⟩ := hC _ _ _ _ _ hr
            simp only [inE, Bool.and_eq_true] at hin
            obtain ⟨⟨⟨⟨g1, g2⟩, g3⟩, g4⟩, g5⟩ := hin
            have hlt : ∀ i ∈ l, i < big := fun i hi => by
              have a1 := List.all_eq_true.1 g1 i hi
              have a2 := Nat.le_of_ble_eq_true g2
              rw [Nat.blt_eq] at a1
              omega
            refine e_call hf hxs (in_effE l g1 g3 g4 (fun i b hb => ?_) (fun i hi => ?_) (fun i b hb => ?_) h1.x (fun j => ?_))
            · rw [restrict_get hlt] at hb
              split at hb
              · assumption
              · cases hb
            · rw [restrict_get hlt, if_pos hi]
            · rw [restrict_get hlt] at hb
              split at hb
              · rename_i hi
                have a1 := List.all_eq_true.1 g5 i (by simpa using hi)
                simp only [hb] at a1
                exact a1
              · cases hb
            · rw [mapK_get]
              by_cases hj : j ∈ r.log
              · rw [if_pos (mem_dedup.2 hj)]
              · rw [if_neg (fun hh => hj (mem_dedup.1 hh))]
                exact h2 j hj
          · cases h
        · cases h
      · cases h
    · cases hc
  · exact opY_sound hT h
theorem drawE_sound (hT : TabOk P T) (hC : CallsOk P C) : ∀ (l : List Oper) (s s' : ES) (xs : List Ent), drawE C T n ops l s = some (xs, s') →
    xs.map (·.o) = l ∧ Chain P ops n xs s.F.get s.K.get s.top s'.F.get s'.K.get s'.top ∧ ∀ j, j ∉ s'.log → j ∉ s.log ∧ s'.K.get j = s.K.get j
  | [], s, s', xs, h => by
    simp only [drawE, Option.some.injEq, Prod.mk.injEq] at h
    obtain ⟨rfl, rfl⟩ := h
    exact ⟨rfl, ⟨rfl, rfl, rfl⟩, fun j hj => ⟨hj, rfl⟩⟩
  | o :: r, s, s', xs, h => by
    have hwant : ∀ b, wantE ops s.F o.guard = some b → (o.guard = none ∧ b = true) ∨ ∃ g want t, o.guard = some (g, want) ∧ (ops[g]?).bind (·.dst) = some t ∧ ((∃ v, s.F.get t = some (.val (.bool v)) ∧ b = (v == want)) ∨ (b = false ∧ ∃ l, s.F.get t = some (.val (.tuple l)))) := by
      intro b hb
      unfold wantE at hb
      split at hb
      · rename_i hg
        simp only [Option.some.injEq] at hb
        exact .inl ⟨hg, hb.symm⟩
      · rename_i g want hg
        refine .inr ⟨g, want, ?_⟩
        split at hb
        · rename_i t hd
          refine ⟨t, hg, hd, ?_⟩
          split at hb
          · rename_i v ht
            simp only [Option.some.injEq] at hb
            exact .inl ⟨v, ht, hb.symm⟩
          · rename_i l ht
            simp only [Option.some.injEq] at hb
            exact .inr ⟨hb.symm, l, ht⟩
          · cases hb
        · cases hb
    unfold drawE at h
    split at h
    · rename_i hd hw
      split at h
      · rename_i e he
        split at h
        · rename_i hle hkw
          split at h
          · rename_i xs' s2 hr
            simp only [Option.some.injEq, Prod.mk.injEq] at h
            obtain ⟨rfl, rfl⟩ := h
            obtain ⟨h1, h2, h3⟩ := drawE_sound hT hC r _ _ _ hr
            simp only at h2 h3
            rw [getF_put (dstE_b hd), getK_put hkw] at h2
            refine ⟨by simp [h1], ⟨⟨dstE_n hd, Nat.le_of_ble_eq_true hle, stepDE_sound hT hC he, ?_⟩, rfl, h2⟩, fun j hj => ?_⟩
            · rcases hwant _ hw with ⟨hg, _⟩ | ⟨g, want, t, g1, g2, g3⟩
              · exact .inl hg
              · rcases g3 with ⟨v, g3, g4⟩ | ⟨g3, _⟩
                · exact .inr ⟨g, want, t, v, g1, g2, g3, g4.symm⟩
                · cases g3
            · obtain ⟨a1, a2⟩ := h3 j hj
              simp only [List.mem_append, not_or] at a1
              refine ⟨a1.2, a2.trans ?_⟩
              rw [getK_put hkw]
              exact kup_out' a1.1
          · cases h
        · cases h
      · cases h
    · rename_i hd hw
      split at h
      · rename_i xs' s2 hr
        simp only [Option.some.injEq, Prod.mk.injEq] at h
        obtain ⟨rfl, rfl⟩ := h
        obtain ⟨h1, h2, h3⟩ := drawE_sound hT hC r _ _ _ hr
        simp only at h2 h3
        rw [getF_put (dstE_b hd)] at h2
        refine ⟨by simp [h1], ⟨⟨dstE_n hd, Nat.le_refl _, rfl, rfl, rfl, rfl, ?_⟩, rfl, h2⟩, h3⟩
        rcases hwant _ hw with ⟨_, hg⟩ | ⟨g, want, t, g1, g2, g3⟩
        · cases hg
        · refine ⟨g, want, t, g1, g2, ?_⟩
          rcases g3 with ⟨v, g3, g4⟩ | ⟨_, l, g3⟩
          · exact .inl ⟨v, g3, g4.symm⟩
          · exact .inr ⟨l, g3⟩
      · cases h
    · cases h
theorem loopE_sound {rd : Option Nat} {c : Code} {body : ES → Option (Exit × ES)} (hb : ∀ s e s', body s = some (e, s') → Goes P n rd c s e s') : ∀ (f : Nat) (s : ES) (e : Exit) (s' : ES), loopE body f s = some (e, s') → Goes P n rd (.loop c) s e s' := by
  intro f s e s' h
  have step : ∀ (f : Nat) (s : ES), loopE body f s = some (e, s') → s.top ≤ s'.top ∧ (∀ j, j ∉ s'.log → j ∉ s.log ∧ s'.K.get j = s.K.get j) ∧
      ∀ (W : Wo) (I : IM) (R : RM) (a : Act) (w : World) (r : Option Nat), RdOk I rd r → St n W s.F.get s.K.get I R a w → (∀ j, s.top ≤ j → I j = none) →
        ∀ Q : Exit → Act → World → Prop, (∀ a' w' I' R', St n W s'.F.get s'.K.get I' R' a' w' → (∀ j, s'.top ≤ j → I' j = none) → (∀ j, j < s.top → I' j = I j) → RExt R R' → Q e a' w') → Code.roundsIn (fr r) 0 P c Q f a w := by
    intro f
    induction f with
    | zero => intro s h; cases h
    | succ f ih =>
      intro s h
      unfold loopE at h
      split at h
      · rename_i s1 h1
        obtain ⟨a1, a2, a3⟩ := hb _ _ _ h1
        obtain ⟨b1, b2, b3⟩ := ih s1 h
        refine ⟨Nat.le_trans a1 b1, fun j hj => ?_, fun W I R a w r hr hs hd Q hn => ?_⟩
        · obtain ⟨c1, c2⟩ := b2 j hj
          obtain ⟨c3, c4⟩ := a2 j c1
          exact ⟨c3, c2.trans c4⟩
        · rw [roundsIn_succ]
          refine wpIn_mono (a3 W I R a w r hr hs hd) ?_
          rintro e2 a2 w2 ⟨rfl, I2, R2, k1, k2, k4, k5⟩
          exact b3 W I2 R2 a2 w2 r (hr.mono (ext_of hd k4)) k1 k2 Q fun a3 w3 I3 R3 j1 j2 j4 j5 => hn a3 w3 I3 R3 j1 j2 (fun j hj => (j4 j (by omega)).trans (k4 j hj)) (k5.trans j5)
      · rename_i hne
        obtain ⟨a1, a2, a3⟩ := hb _ _ _ h
        refine ⟨a1, a2, fun W I R a w r hr hs hd Q hn => ?_⟩
        rw [roundsIn_succ]
        refine wpIn_mono (a3 W I R a w r hr hs hd) ?_
        rintro e2 a2 w2 ⟨rfl, I2, R2, k1, k2, k4, k5⟩
        have fin := hn a2 w2 I2 R2 k1 k2 k4 k5
        cases e2 with
        | normal => exact absurd h (hne _)
        | _ => exact fin
  obtain ⟨s1, s2, s3⟩ := step f s h
  exact ⟨s1, s2, fun W I R a w r hr hs hd => wpIn_loop_rounds f (s3 W I R a w r hr hs hd _ fun a' w' I' R' k1 k2 k3 k4 => ⟨rfl, I', R', k1, k2, k3, k4⟩)⟩
/-- Behind the function that was ranged over. -/
theorem range_end {W : Wo} {K : Nat → Option Ob} {I : IM} {R : RM} {w : World} {j : Nat} {lb : LB} (h : Wz W K I R w) (hk : K j = some (.l lb)) : ∃ p rc, I j = some p ∧ w.heap[p.b]? = some (.loop rc) ∧ recOk lb.st rc ∧ ∀ st, Wz W (upd K j none) I R (w.putObj p.b (.loop { rc with state := st })) := by
  obtain ⟨p, hp, ho, _⟩ := h.ob j _ hk rfl
  obtain ⟨rc, h1, _, _, _, _, h6, _⟩ := ho.mem
  exact ⟨p, rc, hp, h1, h6, fun st => h.put hk hp h1 (.inl rfl)⟩
theorem mk_put {W : Wo} {w : World} {l : Nat} {rc : Loop} {o : Obj} (hr : w.heap[l]? = some (.loop rc)) {ds : List Deferred} (h : Mk W ds w) : Mk W ds (w.putObj l o) :=
  h.mono fun D hD => World.putObj_heap_other (by rintro rfl; rw [hr] at hD; cases hD)
theorem range_core (hC : CallsOk P C) {r : Option Nat} {g : Operand} {ps : Array Tmp} {assign body : Code} {s s' : ES} {e : Exit} {f : FuncId} {cap : List Pt} {cr : CR} (hg : evf s.F.get g = some (.c (.fn f cap))) (hbig : s.top < big)
    (hcr : C (.fn f cap) [.pl (.one (.yl s.top))] (setK s.K s.top (some (.l ⟨n, s.F, ps, assign, body, .ready⟩))) (s.top + 1) = some cr)
    {lb : LB} (hlb : cr.K.get s.top = some (.l lb)) (he : (lb.st = .ready ∧ e = .normal) ∨ (lb.st = .done .ret ∧ e = .ret) ∨ ∃ id, lb.st = .done (.exit id) ∧ e = .exit id) (hs' : s' = ⟨s.F, setK cr.K s.top none, cr.top, s.top :: (cr.log ++ s.log)⟩)
    {W : Wo} {I : IM} {R : RM} {a : Act} {w : World} (hs : St n W s.F.get s.K.get I R a w) (hd : ∀ j, s.top ≤ j → I j = none) {fn : FuncId} {l : Nat} {mark : List Deferred} {w1 : World} (hen : (Instr.enterLoop fn a.tmps ps assign body r).run P w = .ok (l, mark) w1)
    (hI : I s.top = none) (hz1 : Wz W (upd s.K.get s.top (some (.l ⟨n, s.F, ps, assign, body, .ready⟩))) (Wx.ext I s.top ⟨l, 0, 0⟩) R w1) (hm1 : Mk W (mark ++ a.defers) w1) :
    ∃ (l : Nat) (mark : List Deferred) (w₁ : World) (d : Deferred) (w₁' : World) (f : FuncId) (args : Array Value) (w₂ : World),
      (Instr.enterLoop fn a.tmps ps assign body (fr r).round).run P w = .ok (l, mark) w₁ ∧
      (resolve a.eval (rangeCall g l) 0).run P w₁ = .ok d w₁' ∧
      (∀ f', Target.leads P w₁' d.target d.args = some f' → (fr r).fn f') ∧
      (invoke d.target d.args).run P w₁' = .ok (.enter f args) w₂ ∧
      ((fr r).depth.isSome = true → 1 ≤ 0) ∧
      CallsIn (fr r) (0 - 1) P f args w₂ (rangePost (fr r) 0 P l (fun e' a' w' => e' = e ∧ ∃ I' R', St n W s'.F.get s'.K.get I' R' a' w' ∧ (∀ j, s'.top ≤ j → I' j = none) ∧ (∀ j, j < s.top → I' j = I j) ∧ RExt R R') { a with defers := mark ++ a.defers }) := by
  subst hs'
  obtain ⟨us, hus, hfu⟩ : ∃ vs, All2 (Pt.rel I) cap vs ∧ a.eval g = .func (.func f) #[] vs.toArray := hs.ev hg
  have hIe : IExt I (Wx.ext I s.top ⟨l, 0, 0⟩) := .ext hI
  obtain ⟨⟨h2, h3⟩, h4⟩ := hC _ _ _ _ _ hcr
  rw [setK_get hbig] at h3
  have hd1 : ∀ j, s.top + 1 ≤ j → (Wx.ext I s.top ⟨l, 0, 0⟩) j = none := fun j hj => by
    unfold Wx.ext; rw [if_neg (by omega)]; exact hd j (by omega)
  have hyl : (AV.pl (.one (.yl s.top))).rel (Wx.ext I s.top ⟨l, 0, 0⟩) R (.func (.yield l) #[] #[]) := ⟨⟨l, 0, 0⟩, by simp [Wx.ext], rfl⟩
  have hcall := h3 (mkW W (mark ++ a.defers) w1) _ R w1 (.func (.func f) #[] us.toArray) [.func (.yield l) #[] #[]] (hz1.mk' hm1) hd1 ⟨hyl, trivial⟩ ⟨us, hus.mono fun _ _ h => Pt.mono hIe h, rfl⟩
  obtain ⟨g', fs', us', hv, hb, hcalls⟩ := hcall.resolve_right (fun ⟨_, _, _, _, _, hv, _⟩ => by cases hv)
  simp only [Value.func.injEq, Fn.func.injEq] at hv
  obtain ⟨rfl, rfl, rfl⟩ := hv
  rw [Array.empty_append] at hcalls
  refine ⟨l, mark, w1, ⟨.fn (.func f) us.toArray, #[.func (.yield l) #[] #[]]⟩, w1, f, #[.func (.yield l) #[] #[]] ++ us.toArray, w1, ?_, ?_, ?_, ?_, ?_, ?_⟩
  · rw [show (fr r).round = r from rfl]; exact hen
  · simp [resolve, hfu, Deferred.ofValue, show ∀ v, a.eval (.const v) = v from fun _ => rfl]
  · exact fun _ _ => trivial
  · simp [invoke, fnB_call hb]
  · exact fun hh => (by cases hh)
  refine calls_fr (Calls.mono hcalls ?_)
  rintro e' w3 ⟨u, I', R', rfl, hw3, hd3, ho3, hR3, _⟩
  obtain ⟨g1, g2⟩ := hz1.un hm1 hw3
  have hI' : IExt I I' := hIe.trans (ext_of hd1 ho3)
  obtain ⟨p, rc, p1, p2, p3, p4⟩ := range_end g1 hlb
  have hpl : p.b = l := by
    have : I' s.top = some ⟨l, 0, 0⟩ := (ho3 s.top (by omega)).trans (by simp [Wx.ext])
    rw [p1] at this; cases this; rfl
  have hfin : ∃ I'_1 R'_1, St n W s.F.get (setK cr.K s.top none).get I'_1 R'_1 { a with defers := mark ++ a.defers } (w3.putObj l (.loop { rc with state := .exhausted })) ∧ (∀ j, cr.top ≤ j → I'_1 j = none) ∧ (∀ j, j < s.top → I'_1 j = I j) ∧ RExt R R'_1 := by
    refine ⟨I', R', ⟨hs.size, mk_put (hpl ▸ p2) g2, fun t x hx => AV.mono hI' hR3 (hs.fr t x hx), ?_⟩, hd3, fun j hj => (ho3 j (by omega)).trans ?_, hR3⟩
    · rw [setK_get hbig, ← hpl]
      exact p4 _
    · unfold Wx.ext; rw [if_neg (by omega)]
  have hend : rc.state ≠ .busy → (Instr.endLoop l).run P w3 = .ok rc.pending (w3.putObj l (.loop { rc with state := .exhausted })) := fun hb => run_endLoop (hpl ▸ p2) hb
  rcases he with ⟨h1, rfl⟩ | ⟨h1, rfl⟩ | ⟨id, h1, rfl⟩
  · rw [h1] at p3
    refine ⟨none, _, (hend (by rw [p3.1]; exact fun h => (by cases h))).trans (by rw [p3.2]), rfl, hfin⟩
  · rw [h1] at p3
    obtain ⟨q1, c, q2, q3⟩ := p3
    cases q2
    exact ⟨some .ret, _, (hend (by rw [q1]; exact fun h => (by cases h))).trans (by rw [q3]), wpIn_ret ⟨rfl, hfin⟩⟩
  · rw [h1] at p3
    obtain ⟨q1, c, q2, q3⟩ := p3
    cases q2
    exact ⟨some (.exit id), _, (hend (by rw [q1]; exact fun h => (by cases h))).trans (by rw [q3]), wpIn_exit ⟨rfl, hfin⟩⟩
theorem rangeE_sound (hC : CallsOk P C) {rd : Option Nat} {g : Operand} {ps : Array Tmp} {assign body : Code} {s s' : ES} {e : Exit} (h : rangeE C n rd g ps assign body s = some (e, s')) : Goes P n rd (.rangeFunc g ps assign body) s e s' := by
  unfold rangeE at h
  split at h
  · rename_i f cap hg
    split at h
    · rename_i hb hin
      split at h
      · rename_i cr hcr
        have hbig : s.top < big := by simpa [Nat.blt_eq] using hb
        split at h
        · rename_i lb hlb
          have key : ∀ {e : Exit}, ((lb.st = .ready ∧ e = .normal) ∨ (lb.st = .done .ret ∧ e = .ret) ∨ ∃ id, lb.st = .done (.exit id) ∧ e = .exit id) → s' = ⟨s.F, setK cr.K s.top none, cr.top, s.top :: (cr.log ++ s.log)⟩ → Goes P n rd (.rangeFunc g ps assign body) s e s' := by
            intro e he hs'
            obtain ⟨⟨h2, h3⟩, h4⟩ := hC _ _ _ _ _ hcr
            refine ⟨by subst hs'; simp only; omega, fun j hj => ?_, fun W I R a w r hr hs hd => wpIn_rangeFunc fun fn _ => ?_⟩
            · subst hs'
              simp only [List.mem_cons, List.mem_append, not_or] at hj
              refine ⟨hj.2.2, ?_⟩
              simp only
              rw [setK_get hbig, upd_other hj.1, h4 j hj.2.1, setK_get hbig, upd_other hj.1]
            · have hKn : s.K.get s.top = none := by
                cases hq : s.K.get s.top with
                | none => rfl
                | some o => obtain ⟨p, hp⟩ := hs.dom hq; rw [hd s.top (Nat.le_refl _)] at hp; cases hp
              have hI0 := hd s.top (Nat.le_refl _)
              have lok : ∀ (W1 : World) (dd : Nat), LoopOk (Wx.ext I s.top ⟨W1.heap.size, 0, 0⟩) R ⟨n, s.F, ps, assign, body, .ready⟩ ⟨W1.heap.size, 0, 0⟩ (W1.alloc (.loop { state := .ready, pending := none, fn, tmps := a.tmps, params := ps, assign, body, defers := dd })) := fun W1 dd => ⟨_, World.alloc_heap_new _ _, rfl, rfl, rfl, hs.size, ⟨rfl, rfl⟩, fun t y hy => AV.mono (.ext hI0) (.refl _) (hs.fr t y hy)⟩
              cases rd with
              | none =>
                cases hr
                have hz0 : Wz W s.K.get I R (w.alloc (.deferred (some []))) := hs.wz.grow ((Below.refl _ w).alloc (Nat.le_refl _) _)
                refine range_core hC hg hbig hcr hlb he hs' hs hd (run_enterLoop_outer fn a.tmps ps assign body) hI0 ?_ ?_
                · have := hz0.laid hI0 hKn (lok (w.alloc (.deferred (some []))) w.heap.size)
                  rw [show (w.alloc (Obj.deferred (some []))).heap.size = w.heap.size + 1 by simp] at this
                  exact this
                · refine ⟨⟨w.heap.size, rfl, alloc_at (World.alloc_heap_new _ _), fun hz => ?_, fun d' hd' D' hD' => ?_⟩, ?_⟩
                  · exact absurd (hs.wz.wd.below.lt hz) (Nat.lt_irrefl _)
                  · have := (hs.mks.at d' hd' D' hD').1
                    have := (Array.getElem?_eq_some_iff.1 this).1
                    omega
                  · exact hs.mks.mono fun D hD => by
                      have hlt := (Array.getElem?_eq_some_iff.1 hD).1
                      rw [alloc_old _ _ (by simp; omega), alloc_old _ _ hlt]
              | some j0 =>
                obtain ⟨p0, hp0, rfl⟩ := hr
                unfold rdIn at hin
                simp only at hin
                split at hin
                · rename_i lb0 hlb0
                  obtain ⟨p1, hp1, ho1, _⟩ := hs.wz.ob j0 _ hlb0 rfl
                  rw [hp0] at hp1; cases hp1
                  obtain ⟨rc0, hrc0, _⟩ := ho1.mem
                  refine range_core hC hg hbig hcr hlb he hs' hs hd (run_enterLoop_inner hrc0 fn a.tmps ps assign body) hI0 (hs.wz.laid hI0 hKn (lok w rc0.defers)) ?_
                  exact hs.mks.mono fun D hD => alloc_old _ _ (Array.getElem?_eq_some_iff.1 hD).1
                · cases hin
          split at h
          · rename_i hst
            simp only [Option.some.injEq, Prod.mk.injEq] at h
            obtain ⟨rfl, rfl⟩ := h
            exact key (.inl ⟨hst, rfl⟩) rfl
          · rename_i hst
            simp only [Option.some.injEq, Prod.mk.injEq] at h
            obtain ⟨rfl, rfl⟩ := h
            exact key (.inr (.inl ⟨hst, rfl⟩)) rfl
          · rename_i id hst
            simp only [Option.some.injEq, Prod.mk.injEq] at h
            obtain ⟨rfl, rfl⟩ := h
            exact key (.inr (.inr ⟨id, hst, rfl⟩)) rfl
          · cases h
        · cases h
      · cases h
    · cases h
  · cases h
theorem codeE_sound (hT : TabOk P T) (hmix : P.follows .mixedOrders = true) (hC : CallsOk P C) {lf : Nat} {rd : Option Nat} : ∀ (c : Code) (s : ES) (e : Exit) (s' : ES), codeE C T n lf rd c s = some (e, s') → Goes P n rd c s e s'
  | .skip, s, e, s', h => by
    simp only [codeE, Option.some.injEq, Prod.mk.injEq] at h
    obtain ⟨rfl, rfl⟩ := h
    exact ⟨Nat.le_refl _, fun j hj => ⟨hj, rfl⟩, fun W I R a w r hr hs hd => wpIn_skip ⟨rfl, I, R, hs, hd, fun _ _ => rfl, .refl _⟩⟩
  | .region id ops draw, s, e, s', h => by
    unfold codeE at h
    cases draw with
    | false =>
      simp only at h
      split at h
      · rename_i s1 h1
        simp only [Option.some.injEq, Prod.mk.injEq] at h
        obtain ⟨rfl, rfl⟩ := h
        obtain ⟨a1, a2, a3⟩ := runE_sound hT hC ops _ _ _ h1
        exact ⟨a1, a2, fun W I R a w r hr hs hd => wpIn_region_list (a3 W I R a w r hs hd _ fun a' w' I' R' k1 k2 k3 k4 => ⟨rfl, I', R', k1, k2, k3, k4⟩)⟩
      · cases h
    | true =>
      simp only at h
      split at h
      · rename_i xs s1 h1
        split at h
        · rename_i hap
          simp only [Option.some.injEq, Prod.mk.injEq] at h
          obtain ⟨rfl, rfl⟩ := h
          obtain ⟨a1, a2, a3⟩ := drawE_sound hT hC _ _ _ _ h1
          exact ⟨a2.at.2.2.2.1, a3, fun W I R a w r hr hs hd => chain_region hmix a1 a2 hap hs hd fun a' w' I' R' k1 k2 k3 k4 => ⟨rfl, I', R', k1, k2, k3, k4⟩⟩
        · cases h
      · cases h
  | .seq x y, s, e, s', h => by
    unfold codeE at h
    split at h
    · rename_i s1 h1
      obtain ⟨a1, a2, a3⟩ := codeE_sound hT hmix hC x _ _ _ h1
      obtain ⟨b1, b2, b3⟩ := codeE_sound hT hmix hC y _ _ _ h
      refine ⟨Nat.le_trans a1 b1, fun j hj => ?_, fun W I R a w r hr hs hd => wpIn_seq (wpIn_mono (a3 W I R a w r hr hs hd) ?_)⟩
      · obtain ⟨c1, c2⟩ := b2 j hj
        obtain ⟨c3, c4⟩ := a2 j c1
        exact ⟨c3, c2.trans c4⟩
      · rintro e1 a' w' ⟨rfl, I', R', k1, k2, k3, k4⟩
        refine wpIn_mono (b3 W I' R' a' w' r (hr.mono (ext_of hd k3)) k1 k2) ?_
        rintro e2 a2 w2 ⟨rfl, I2, R2, j1, j2, j3, j4⟩
        exact ⟨rfl, I2, R2, j1, j2, fun j hj => (j3 j (by omega)).trans (k3 j hj), k4.trans j4⟩
    · rename_i hne
      obtain ⟨a1, a2, a3⟩ := codeE_sound hT hmix hC x _ _ _ h
      refine ⟨a1, a2, fun W I R a w r hr hs hd => wpIn_seq (wpIn_mono (a3 W I R a w r hr hs hd) ?_)⟩
      rintro e1 a' w' ⟨rfl, I', R', k1, k2, k3, k4⟩
      have fin : e1 = e1 ∧ ∃ I' R', St n W s'.F.get s'.K.get I' R' a' w' ∧ (∀ j, s'.top ≤ j → I' j = none) ∧ (∀ j, j < s.top → I' j = I j) ∧ RExt R R' := ⟨rfl, I', R', k1, k2, k3, k4⟩
      cases e1 with
      | normal => exact absurd h (hne _)
      | _ => exact fin
  | .cond c x y, s, e, s', h => by
    unfold codeE at h
    split at h
    · rename_i hc
      obtain ⟨a1, a2, a3⟩ := codeE_sound hT hmix hC x _ _ _ h
      exact ⟨a1, a2, fun W I R a w r hr hs hd => wpIn_cond_split (t := true) (hs.ev hc) (fun _ => a3 W I R a w r hr hs hd) (fun h => by cases h)⟩
    · rename_i hc
      obtain ⟨a1, a2, a3⟩ := codeE_sound hT hmix hC y _ _ _ h
      exact ⟨a1, a2, fun W I R a w r hr hs hd => wpIn_cond_split (t := false) (hs.ev hc) (fun h => by cases h) (fun _ => a3 W I R a w r hr hs hd)⟩
    · cases h
  | .block id c, s, e, s', h => by
    unfold codeE at h
    split at h
    · rename_i i s1 h1
      obtain ⟨a1, a2, a3⟩ := codeE_sound hT hmix hC c _ _ _ h1
      split at h
      · rename_i hb
        simp only [Option.some.injEq, Prod.mk.injEq] at h
        obtain ⟨rfl, rfl⟩ := h
        refine ⟨a1, a2, fun W I R a w r hr hs hd => wpIn_block (wpIn_mono (a3 W I R a w r hr hs hd) ?_)⟩
        rintro e1 a' w' ⟨rfl, k⟩
        simp only [Exit.inBlock]
        rw [if_pos (Nat.eq_of_beq_eq_true hb)]
        first | exact ⟨rfl, k⟩ | exact ⟨trivial, k⟩
      · rename_i hb
        simp only [Option.some.injEq, Prod.mk.injEq] at h
        obtain ⟨rfl, rfl⟩ := h
        refine ⟨a1, a2, fun W I R a w r hr hs hd => wpIn_block (wpIn_mono (a3 W I R a w r hr hs hd) ?_)⟩
        rintro e1 a' w' ⟨rfl, k⟩
        simp only [Exit.inBlock]
        rw [if_neg (Nat.ne_of_beq_eq_false hb)]
        first | exact ⟨rfl, k⟩ | exact ⟨trivial, k⟩
    · rename_i hne
      obtain ⟨a1, a2, a3⟩ := codeE_sound hT hmix hC c _ _ _ h
      refine ⟨a1, a2, fun W I R a w r hr hs hd => wpIn_block (wpIn_mono (a3 W I R a w r hr hs hd) ?_)⟩
      rintro e1 a' w' ⟨rfl, k⟩
      cases e1 with
      | exit i => exact absurd h (hne _ _)
      | _ => exact ⟨rfl, k⟩
  | .loop c, s, e, s', h => by
    unfold codeE at h
    exact loopE_sound (fun s e s' h => codeE_sound hT hmix hC c s e s' h) _ _ _ _ h
  | .exit id, s, e, s', h => by
    simp only [codeE, Option.some.injEq, Prod.mk.injEq] at h
    obtain ⟨rfl, rfl⟩ := h
    exact ⟨Nat.le_refl _, fun j hj => ⟨hj, rfl⟩, fun W I R a w r hr hs hd => wpIn_exit ⟨rfl, I, R, hs, hd, fun _ _ => rfl, .refl _⟩⟩
  | .ret, s, e, s', h => by
    simp only [codeE, Option.some.injEq, Prod.mk.injEq] at h
    obtain ⟨rfl, rfl⟩ := h
    exact ⟨Nat.le_refl _, fun j hj => ⟨hj, rfl⟩, fun W I R a w r hr hs hd => wpIn_ret ⟨rfl, I, R, hs, hd, fun _ _ => rfl, .refl _⟩⟩
  | .label l, s, e, s', h => by
    simp only [codeE, Option.some.injEq, Prod.mk.injEq] at h
    obtain ⟨rfl, rfl⟩ := h
    exact ⟨Nat.le_refl _, fun j hj => ⟨hj, rfl⟩, fun W I R a w r hr hs hd => wpIn_label ⟨rfl, I, R, hs, hd, fun _ _ => rfl, .refl _⟩⟩
  | .rangeFunc g ps assign body, s, e, s', h => by
    unfold codeE at h
    exact rangeE_sound hC h
  | .scope _, s, e, s', h => by unfold codeE at h; cases h
  | .goto _, s, e, s', h => by unfold codeE at h; cases h
  | .refuse _, s, e, s', h => by unfold codeE at h; cases h
theorem resE_run (hT : TabOk P T) {W : Wo} {I : IM} {R : RM} {a : Act} {w : World} {s : ES} (hs : St n W s.F.get s.K.get I R a w) : ∀ (l : List ResultVar) (xs : List A0), resE T s l = some xs → ∃ vs, (l.mapM (resF a)).run P w = .ok vs w ∧ All2 (A0.rel I R) xs vs
  | [], xs, h => by simp only [resE, Option.some.injEq] at h; subst h; exact ⟨[], rfl, trivial⟩
  | .tmp t :: r, xs, h => by
    simp only [resE] at h
    split at h
    · rename_i x l h1 h2
      simp only [Option.some.injEq] at h
      subst h
      obtain ⟨vs, g1, g2⟩ := resE_run hT hs r l h2
      have e1 : (AV.pl x).rel I R (a.tmps.getD t undef) := hs.fr t _ h1
      refine ⟨a.tmps.getD t undef :: vs, ?_, e1, g2⟩
      simp only [List.mapM_cons, resF, Sem.run_bind, Sem.run_pure, Result.andThen_ok, g1]
    · cases h
  | .cell p t :: r, xs, h => by
    have hx : Wx.St n (stpB W (blkOf s.K.get) I R w) s.F.get (blkOf s.K.get) I R ⟨a.tmps, []⟩ w := ⟨hs.size, rfl, fun t y hy => hs.fr t y hy, wd_step hs.wz.wd⟩
    simp only [resE] at h
    split at h
    · rename_i i q k ti l h1 h2 h3
      split at h
      · rename_i b hb
        split at h
        · rename_i row hr
          split at h
          · rename_i v hv
            simp only [Option.some.injEq] at h
            subst h
            obtain ⟨vs, g1, g2⟩ := resE_run hT hs r l h3
            have e1 := hs.fr p _ h1
            obtain ⟨lc, hlc, hu⟩ : ∃ lc, I i = some lc ∧ a.tmps.getD p undef = .pointer (some ⟨lc.b, q * lc.sz + k, none⟩) := e1
            obtain ⟨lc', us, hlc', hsz, r1, r2, _⟩ := hx.row hb hr
            rw [hlc] at hlc'; cases hlc'
            obtain ⟨u, r3, r4⟩ := load_run (hT _ _ h2) r1 (b := lc.b) (off := q * lc.sz) r2 hv
            refine ⟨u :: vs, ?_, r4, g2⟩
            have r3' : (loadVar t ⟨lc.b, q * lc.sz + k, none⟩).run P w = .ok u w := by
              simpa [Instr.loadAt, Instr.sureAddr] using r3
            simp only [List.mapM_cons, resF, hu, asAddr, Sem.run_bind, Sem.run_pure, Result.andThen_ok, g1, r3']
          · cases h
        · cases h
      · cases h
    · cases h
theorem resE_results (hT : TabOk P T) {W : Wo} {I : IM} {R : RM} {a : Act} {w : World} {s : ES} (hs : St n W s.F.get s.K.get I R a w) {fn : Func} {xs : List A0} (h : resE T s fn.results.toList = some xs) : ∃ v, (results fn a.tmps).run P w = .ok v w ∧ (retV xs).rel I R v := by
  obtain ⟨vs, h1, h2⟩ := resE_run hT hs _ _ h
  have hf : Go.results fn a.tmps = (do let vs ← fn.results.mapM (resF a); pure (if h : vs.size = 1 then vs[0] else .tuple vs)) := by
    unfold Go.results
    congr 1
  have hr : fn.results = fn.results.toList.toArray := by simp
  rw [hf, hr, Sem.run_bind, List.mapM_toArray]
  simp only [map_eq_pure_bind, Sem.run_bind]
  rw [h1]
  simp only [Result.andThen_ok, Sem.run_pure, List.size_toArray]
  match xs, vs, h2 with
  | [], [], _ => exact ⟨_, rfl, [], rfl, trivial⟩
  | [x], [v], h2 => exact ⟨v, rfl, h2.1⟩
  | x :: y :: r, v :: u :: q, h2 => exact ⟨.tuple (v :: u :: q).toArray, by simp, _, rfl, h2⟩
  | [], _ :: _, h2 => exact h2.elim
  | _ :: _, [], h2 => exact h2.elim
  | [x], v :: u :: q, h2 => exact h2.2.elim
  | x :: y :: r, [v], h2 => exact h2.2.elim
end
/-- Out of a function: its marks, one by one. -/
theorem leaves_marks {P : Program} {W : Wo} {K : Nat → Option Ob} {I : IM} {R : RM} {fn : Func} {tmps : Array Value} {Q : Ending → World → Prop} : ∀ (ds : List Deferred) (w : World), Mk W ds w → Wz W K I R w → (∀ w', Wz W K I R w' → ∃ v, (results fn tmps).run P w' = .ok v w' ∧ Q (.returned v) w') → LeavesInM (fr none) 0 P fn tmps Q ds .returning w
  | [], w, _, hw, hq => hq w hw
  | d :: ds, w, ⟨⟨D, h1, h2, h3, h4⟩, h5⟩, hw, hq => by
    refine ⟨(fun h => by cases h), .inl ⟨D, w.putObj D (.deferred none), h1, run_takeDeferred h2, leaves_marks ds _ ?_ ?_ hq⟩⟩
    · have : ∀ (es : List Deferred), (∀ d ∈ es, d ∈ ds) → Mk W es w → Mk W es (w.putObj D (.deferred none)) := by
        intro es
        induction es with
        | nil => intro _ _; trivial
        | cons e es ih =>
          rintro hs ⟨⟨D', g1, g2, g3, g4⟩, g5⟩
          exact ⟨⟨D', g1, (World.putObj_heap_other (h4 e (hs e List.mem_cons_self) D' g1)).trans g2, g3, g4⟩, ih (fun x hx => hs x (List.mem_cons_of_mem _ hx)) g5⟩
      exact this ds (fun _ h => h) h5
    · have hne : ∀ {k : Nat} {o : Obj}, w.heap[k]? = some o → (∀ x, o ≠ .deferred x) → (w.putObj D (.deferred none)).heap[k]? = some o := fun {k o} ho hn => (World.putObj_heap_other (by rintro rfl; rw [h2] at ho; cases ho; exact hn _ rfl)).trans ho
      refine ⟨wd_carry hw.wd (fun k o ho hc => hne ho fun x hx => by subst hx; cases hc) (fun k hk => World.putObj_heap_other (by rintro rfl; exact h3 hk)) rfl rfl rfl (by simp), fun i o hi hn => ?_, hw.inj⟩
      obtain ⟨p, hp, ho, hz⟩ := hw.ob i o hi hn
      obtain ⟨x, hx, hxc⟩ := ho.kind hn
      refine ⟨p, hp, ho.mono (.refl _) (.refl _) ((hne hx ?_).trans hx.symm), hz⟩
      cases o with
      | b _ => cases hn
      | m es => obtain ⟨_, h1, _⟩ := ho.mem; rw [h1] at hx; cases hx; exact fun _ h => by cases h
      | l _ => obtain ⟨_, h1, _⟩ := ho.mem; rw [h1] at hx; cases hx; exact fun _ h => by cases h
      | i _ => obtain ⟨_, _, h1⟩ := ho.mem; rw [h1] at hx; cases hx; exact fun _ h => by cases h
theorem st_argE {n : Nat} {W : Wo} {K : Nat → Option Ob} {I : IM} {R : RM} {w : World} {avs : List AV} {vs : List Value} (hv : All2 (AV.rel I R) avs vs) (hw : Wz W K I R w) (hle : vs.length ≤ n) (hb : avs.length ≤ big) :
    St n W (argE 0 avs).get K I R { tmps := vs.toArray ++ Array.replicate (n - vs.toArray.size) undef, defers := [] } w := by
  refine ⟨by simp; omega, trivial, fun t x hx => ?_, hw⟩
  obtain ⟨_, h⟩ := get_argE _ _ _ _ (by omega) hx
  simp only [Nat.sub_zero] at h
  obtain ⟨u, hu, hr⟩ := hv.get h
  have hlt : t < vs.length := (List.getElem?_eq_some_iff.1 hu).1
  simp only [Act.eval, Array.getD_eq_getD_getElem?]
  rw [Array.getElem?_append_left (by simpa using hlt)]
  rw [List.getElem?_toArray, hu]
  exact hr
/-- What yield is given goes into its slots. -/
theorem putL_sound {n : Nat} {I : IM} {R : RM} : ∀ (ts : List Tmp) (avs : List AV) (vs : List Value) (F F' : Bt AV) (tm : Array Value), putL n F ts avs = some F' → tm.size = n → (∀ t y, F.get t = some y → y.rel I R (tm.getD t undef)) → All2 (AV.rel I R) avs vs →
    ts.length = vs.length ∧ ((ts.zip vs).foldl (fun tmps (p : Tmp × Value) => tmps.setIfInBounds p.1 p.2) tm).size = n ∧ ∀ t y, F'.get t = some y → y.rel I R (((ts.zip vs).foldl (fun tmps (p : Tmp × Value) => tmps.setIfInBounds p.1 p.2) tm).getD t undef)
  | [], [], [], F, F', tm, h, hn, hf, _ => by
    simp only [putL, Option.some.injEq] at h
    subst h
    exact ⟨rfl, hn, hf⟩
  | [], [], _ :: _, _, _, _, _, _, _, hv => hv.elim
  | [], _ :: _, _, F, F', tm, h, _, _, _ => by simp [putL] at h
  | _ :: _, [], _, F, F', tm, h, _, _, _ => by simp [putL] at h
  | _ :: _, _ :: _, [], F, F', tm, _, _, _, hv => hv.elim
  | t :: ts, x :: avs, v :: vs, F, F', tm, h, hn, hf, hv => by
    unfold putL at h
    split at h
    · rename_i h1 h2
      have h1' : @LT.lt Nat _ t n := by simpa [Nat.blt_eq] using h1
      have h2' : @LT.lt Nat _ t 130000 := by simpa [Nat.blt_eq, big] using h2
      obtain ⟨g1, g2, g3⟩ := putL_sound (n := n) (I := I) (R := R) ts avs vs _ F' (tm.setIfInBounds t v) h (by simpa using hn) (fun u y hy => by
        rw [Bt.get_put 17 _ _ _ _ (by omega)] at hy
        simp only [Array.getD_eq_getD_getElem?]
        split at hy
        · rename_i he
          subst he
          simp only [Option.some.injEq] at hy
          subst hy
          rw [Array.getElem?_setIfInBounds_self_of_lt (by omega)]
          exact hv.1
        · rename_i he
          rw [Array.getElem?_setIfInBounds_ne (fun e => he e.symm)]
          have := hf u y hy
          simpa [Array.getD_eq_getD_getElem?] using this) hv.2
      exact ⟨by simp [g1], g2, g3⟩
    · cases h
theorem loop_at {W : Wo} {K : Nat → Option Ob} {I : IM} {R : RM} {w : World} {j : Nat} {lb : LB} (h : Wz W K I R w) (hk : K j = some (.l lb)) {p : Loc} (hp : I j = some p) : ∃ rc, w.heap[p.b]? = some (.loop rc) ∧ rc.params = lb.ps ∧ rc.assign = lb.assign ∧ rc.body = lb.body ∧ rc.tmps.size = lb.n ∧ recOk lb.st rc ∧ ∀ t y, lb.F.get t = some y → y.rel I R (rc.tmps.getD t undef) := by
  obtain ⟨p', hp', ho, _⟩ := h.ob j _ hk rfl
  rw [hp] at hp'; cases hp'
  exact ho.mem
/-- A record's state, written. -/
theorem loop_set {W : Wo} {K : Nat → Option Ob} {I : IM} {R : RM} {w : World} {j : Nat} {lb : LB} (h : Wz W K I R w) (hk : K j = some (.l lb)) {p : Loc} (hp : I j = some p) {rc : Loop} (hr : w.heap[p.b]? = some (.loop rc)) (st : LS) (stt : LoopState) (pend : Option Code) (hok : recOk st { rc with state := stt, pending := pend }) :
    Wz W (upd K j (some (.l ⟨lb.n, lb.F, lb.ps, lb.assign, lb.body, st⟩))) I R (w.putObj p.b (.loop { rc with state := stt, pending := pend })) := by
  obtain ⟨rc', h1, h2, h3, h4, h5, h6, h7⟩ := loop_at h hk hp
  rw [hr] at h1; cases h1
  exact h.put hk hp hr (.inr ⟨_, rfl, ⟨_, World.putObj_heap_same (Array.getElem?_eq_some_iff.1 hr).1, h2, h3, h4, h5, hok, h7⟩⟩)
theorem round_core {P : Program} {X : Nat → Nat → Code → ES → Option (Exit × ES)} (hX : ∀ n j c s e s', X n j c s = some (e, s') → Goes P n (some j) c s e s') {j : Nat} {avs : List AV} {K : Bt Ob} {top : Nat} {r : CR} (h : roundE X j avs K top = some r) : CallE P (.yl j) avs K.get top r.x r.K.get r.top ∧ ∀ i, i ∉ r.log → r.K.get i = K.get i := by
  unfold roundE at h
  split at h
  rotate_left
  · cases h
  rename_i lb hlb hb
  have hbig : j < big := by simpa [Nat.blt_eq] using hb
  split at h
  rotate_left
  · cases h
  rename_i hst
  split at h
  rotate_left
  · cases h
  rename_i F0 hF0
  split at h
  rotate_left
  · cases h
  rename_i s1 h1
  split at h
  rotate_left
  · cases h
  rename_i lb1 hlb1
  split at h
  rotate_left
  · cases h
  rename_i hst1
  split at h
  rotate_left
  · cases h
  rename_i e s2 h2
  split at h
  rotate_left
  · cases h
  rename_i lb2 hlb2
  obtain ⟨a1, a2, a3⟩ := hX _ _ _ _ _ _ h1
  obtain ⟨b1, b2, b3⟩ := hX _ _ _ _ _ _ h2
  simp only at a1 a2 a3 b1 b2 b3
  have key : ∀ (c : Option Code) (stt : LS), (∀ rc : Loop, recOk stt { rc with state := if c.isNone then .ready else .done, pending := c }) → (∀ (l : Nat) (Q : Ending → World → Prop) (a : Act) (w : World), (∃ v w', (Instr.endRound l c).run P w = .ok v w' ∧ Q (.returned v) w') → roundPost P l Q e a w) →
      r = ⟨.pl (.one (.v (.bool c.isNone))), setK s2.K j (some (.l ⟨lb2.n, lb2.F, lb2.ps, lb2.assign, lb2.body, stt⟩)), s2.top, j :: s2.log⟩ → CallE P (.yl j) avs K.get top r.x r.K.get r.top ∧ ∀ i, i ∉ r.log → r.K.get i = K.get i := by
    rintro c stt hrec hpost rfl
    refine ⟨⟨by simp only; omega, fun W I R w v vs hw hd hvs hv => ?_⟩, fun i hi => ?_⟩
    · obtain ⟨p, hp, rfl⟩ := hv
      obtain ⟨rc, r1, r2, r3, r4, r5, r6, r7⟩ := loop_at hw hlb hp
      obtain ⟨g1, g2, g3⟩ := putL_sound _ _ _ _ _ _ hF0 r5 r7 hvs
      refine .inr ⟨p.b, rc.fn, _, rc.assign, rc.body, rfl, run_yield r1 (by rw [r2]; simpa using g1.symm), roundIn_of_wpIn trivial ?_⟩
      have hfold : (rc.params.zip vs.toArray).foldl (fun tmps (x : Tmp × Value) => match x with | (t, a) => tmps.setIfInBounds t a) rc.tmps = (lb.ps.toList.zip vs).foldl (fun tmps (p : Tmp × Value) => tmps.setIfInBounds p.1 p.2) rc.tmps := by
        rw [r2, ← Array.foldl_toList]
        simp
      rw [hfold, r3, r4]
      have hst0 : St lb.n W F0.get K.get I R ⟨(lb.ps.toList.zip vs).foldl (fun tmps (p : Tmp × Value) => tmps.setIfInBounds p.1 p.2) rc.tmps, []⟩ w := ⟨g2, trivial, g3, hw⟩
      refine wpIn_mono (a3 W I R _ w (some p.b) ⟨p, hp, rfl⟩ hst0 hd) ?_
      rintro e1 x1 w1 ⟨rfl, I1, R1, k1, k2, k3, k4⟩
      have hp1 : I1 j = some p := ext_of hd k3 _ _ hp
      obtain ⟨rc1, q1, q2, q3, q4, q5, q6, q7⟩ := loop_at k1.wz hlb1 hp1
      rw [hst1] at q6
      refine ⟨_, run_beginRound q1 q6.1, ?_⟩
      have hw2 := loop_set k1.wz hlb1 hp1 q1 .busy .busy rc1.pending rfl
      have hst2 : St lb.n W s1.F.get (setK s1.K j (some (.l ⟨lb1.n, lb1.F, lb1.ps, lb1.assign, lb1.body, .busy⟩))).get I1 R1 x1 (w1.putObj p.b (.loop { rc1 with state := .busy })) := ⟨k1.size, mk_put q1 k1.mks, k1.fr, by rw [setK_get hbig]; exact hw2⟩
      refine wpIn_mono (b3 W I1 R1 x1 _ (some p.b) ⟨p, hp1, rfl⟩ hst2 k2) ?_
      rintro e2 x2 w2 ⟨rfl, I2, R2, m1, m2, m3, m4⟩
      have hp2 := ext_of k2 m3 _ _ hp1
      obtain ⟨rc2, n1, _⟩ := loop_at m1.wz hlb2 hp2
      refine hpost _ _ _ _ ⟨_, _, run_endRound c n1, .bool c.isNone, I2, R2, rfl, ?_, m2, fun i hi => (m3 i (by omega)).trans (k3 i hi), k4.trans m4, rfl⟩
      simp only
      rw [setK_get hbig]
      exact loop_set m1.wz hlb2 hp2 n1 stt _ c (hrec rc2)
    · simp only [List.mem_cons, not_or] at hi
      obtain ⟨c1, c2⟩ := b2 i hi.2
      obtain ⟨c3, c4⟩ := a2 i c1
      simp only
      rw [setK_get hbig, upd_other hi.1, c2, setK_get hbig, upd_other hi.1, c4]
  split at h
  · simp only [Option.some.injEq] at h
    exact key none .ready (fun _ => ⟨rfl, rfl⟩) (fun _ _ _ _ h => h) h.symm
  · simp only [Option.some.injEq] at h
    exact key (some .ret) (.done .ret) (fun _ => ⟨rfl, .ret, rfl, rfl⟩) (fun _ _ _ _ h => h) h.symm
  · rename_i id
    simp only [Option.some.injEq] at h
    exact key (some (.exit id)) (.done (.exit id)) (fun _ => ⟨rfl, .exit id, rfl, rfl⟩) (fun _ _ _ _ h => h) h.symm
  · cases h
theorem callE_sound {P : Program} {FT : FTab} {T : Tab} (hF : FtOk P FT) (hT : TabOk P T) (hmix : P.follows .mixedOrders = true) {lf : Nat} : ∀ (d : Nat), CallsOk P (callE FT T lf d)
  | 0 => fun c avs K top r h => by cases h
  | d + 1 => fun c avs K top r h => by
    unfold callE at h
    split at h
    · rename_i j
      exact round_core (fun n j c s e s' h => codeE_sound hT hmix (callE_sound hF hT hmix d) c s e s' h) h
    · rename_i g cap
      split at h
      · rename_i fn hfn
        obtain ⟨hf, hfb⟩ := hF _ _ hfn
        split at h
        · rename_i c hc
          split at h
          · rename_i hle hbig
            have hle' : (avs ++ capA cap).length ≤ fn.ntmps := Nat.le_of_ble_eq_true hle
            have hbig' : (avs ++ capA cap).length ≤ big := Nat.le_of_ble_eq_true hbig
            have key : ∀ (e : Exit) (s : ES) (xs : List A0), (e = .normal ∨ e = .ret) → codeE (callE FT T lf d) T fn.ntmps lf none c ⟨argE 0 (avs ++ capA cap), K, top, []⟩ = some (e, s) → resE T s fn.results.toList = some xs →
                CallE P (.fn g cap) avs K.get top (retV xs) s.K.get s.top ∧ ∀ j, j ∉ s.log → s.K.get j = K.get j := by
              intro e s xs he hco hxs
              obtain ⟨a1, a2, a3⟩ := codeE_sound hT hmix (callE_sound hF hT hmix d) c _ _ _ hco
              refine ⟨⟨a1, fun W I R w v vs hw hd hvs hv => ?_⟩, fun j hj => (a2 j hj).2⟩
              obtain ⟨us, hus, rfl⟩ : ∃ us, All2 (Pt.rel I) cap us ∧ v = .func (.func g) #[] us.toArray := hv
              have hall := hvs.append (capA_rel (R := R) hus)
              refine .inl ⟨g, #[], us.toArray, rfl, hfb, ?_⟩
              rw [Array.empty_append]
              have hargs : vs.toArray ++ us.toArray = (vs ++ us).toArray := by simp
              rw [hargs]
              refine fr_calls (r := none) (n := 0) (callsIn_of_wp_marks hf hc trivial (wpIn_mono (a3 W I R _ w none rfl (st_argE hall hw (by rw [← hall.length]; exact hle') hbig') hd) ?_))
              rintro e' a' w' ⟨rfl, I', R', k1, k2, k3, k4⟩
              have fin : LeavesInM (fr none) 0 P fn a'.tmps (fun e w' => ∃ u I' R', e = .returned u ∧ Wz W s.K.get I' R' w' ∧ (∀ j, s.top ≤ j → I' j = none) ∧ (∀ j, j < top → I' j = I j) ∧ RExt R R' ∧ (retV xs).rel I' R' u) a'.defers .returning w' := by
                refine leaves_marks _ _ k1.mks k1.wz fun w2 hw2 => ?_
                obtain ⟨v, g1, g2⟩ := resE_results hT (⟨k1.size, (trivial : Mk W (⟨a'.tmps, []⟩ : Act).defers w2), fun t x hx => k1.fr t x hx, hw2⟩ : St fn.ntmps W s.F.get s.K.get I' R' ⟨a'.tmps, []⟩ w2) hxs
                exact ⟨v, g1, v, I', R', rfl, hw2, k2, k3, k4, g2⟩
              rcases he with rfl | rfl
              · exact fin
              · exact fin
            split at h
            · rename_i s hco
              split at h
              · rename_i xs hxs
                simp only [Option.some.injEq] at h
                subst h
                exact key _ _ _ (.inl rfl) hco hxs
              · cases h
            · rename_i s hco
              split at h
              · rename_i xs hxs
                simp only [Option.some.injEq] at h
                subst h
                exact key _ _ _ (.inr rfl) hco hxs
              · cases h
            · cases h
          · cases h
        · cases h
      · cases h
    · rename_i g cap
      split at h
      · rename_i fn hfn
        obtain ⟨hf, hfb⟩ := hF _ _ hfn
        split at h
        · rename_i c hc
          split at h
          · rename_i hle hbig
            have hle' : (capA cap ++ avs).length ≤ fn.ntmps := Nat.le_of_ble_eq_true hle
            have hbig' : (capA cap ++ avs).length ≤ big := Nat.le_of_ble_eq_true hbig
            have key : ∀ (e : Exit) (s : ES) (xs : List A0), (e = .normal ∨ e = .ret) → codeE (callE FT T lf d) T fn.ntmps lf none c ⟨argE 0 (capA cap ++ avs), K, top, []⟩ = some (e, s) → resE T s fn.results.toList = some xs →
                CallE P (.mf g cap) avs K.get top (retV xs) s.K.get s.top ∧ ∀ j, j ∉ s.log → s.K.get j = K.get j := by
              intro e s xs he hco hxs
              obtain ⟨a1, a2, a3⟩ := codeE_sound hT hmix (callE_sound hF hT hmix d) c _ _ _ hco
              refine ⟨⟨a1, fun W I R w v vs hw hd hvs hv => ?_⟩, fun j hj => (a2 j hj).2⟩
              obtain ⟨us, hus, rfl⟩ : ∃ us, All2 (Pt.rel I) cap us ∧ v = .func (.func g) us.toArray #[] := hv
              have hall := (capA_rel (R := R) hus).append hvs
              refine .inl ⟨g, us.toArray, #[], rfl, hfb, ?_⟩
              have hargs : us.toArray ++ vs.toArray ++ #[] = (us ++ vs).toArray := by simp
              rw [hargs]
              refine fr_calls (r := none) (n := 0) (callsIn_of_wp_marks hf hc trivial (wpIn_mono (a3 W I R _ w none rfl (st_argE hall hw (by rw [← hall.length]; exact hle') hbig') hd) ?_))
              rintro e' a' w' ⟨rfl, I', R', k1, k2, k3, k4⟩
              have fin : LeavesInM (fr none) 0 P fn a'.tmps (fun e w' => ∃ u I' R', e = .returned u ∧ Wz W s.K.get I' R' w' ∧ (∀ j, s.top ≤ j → I' j = none) ∧ (∀ j, j < top → I' j = I j) ∧ RExt R R' ∧ (retV xs).rel I' R' u) a'.defers .returning w' := by
                refine leaves_marks _ _ k1.mks k1.wz fun w2 hw2 => ?_
                obtain ⟨v, g1, g2⟩ := resE_results hT (⟨k1.size, (trivial : Mk W (⟨a'.tmps, []⟩ : Act).defers w2), fun t x hx => k1.fr t x hx, hw2⟩ : St fn.ntmps W s.F.get s.K.get I' R' ⟨a'.tmps, []⟩ w2) hxs
                exact ⟨v, g1, v, I', R', rfl, hw2, k2, k3, k4, g2⟩
              rcases he with rfl | rfl
              · exact fin
              · exact fin
            split at h
            · rename_i s hco
              split at h
              · rename_i xs hxs
                simp only [Option.some.injEq] at h
                subst h
                exact key _ _ _ (.inl rfl) hco hxs
              · cases h
            · rename_i s hco
              split at h
              · rename_i xs hxs
                simp only [Option.some.injEq] at h
                subst h
                exact key _ _ _ (.inr rfl) hco hxs
              · cases h
            · cases h
          · cases h
        · cases h
      · cases h
    · cases h
def isT : Option CR → Bool
  | some ⟨.pl (.one (.v (.bool true))), _, _, _⟩ => true
  | _ => false
theorem isT_spec {r : Option CR} (h : isT r = true) : ∃ K top log, r = some ⟨.val (.bool true), K, top, log⟩ := by
  unfold isT at h
  split at h
  · exact ⟨_, _, _, rfl⟩
  · cases h
/-- A function of nothing that hands back true. -/
theorem con_run {P : Program} {FT : FTab} {T : Tab} (hF : FtOk P FT) (hT : TabOk P T) (hmix : P.follows .mixedOrders = true) (lf d : Nat) {g : FuncId} (hfn : fnB P g = true) (h : isT (callE FT T lf d (.fn g []) [] .e 0) = true) : Con P g [] (fun x K t => x = .val (.bool true) ∧ K = [] ∧ t = 0) := by
  obtain ⟨K, top, log, hr⟩ := isT_spec h
  obtain ⟨⟨h1, h2⟩, _⟩ := callE_sound hF hT hmix d _ _ _ _ _ hr
  refine ⟨hfn, fun w vs hvs => ?_⟩
  have hvs0 : vs = [] := by cases vs with
    | nil => rfl
    | cons => exact hvs.elim
  subst hvs0
  have hw : Wz (Wo.of w) (Bt.e : Bt Ob).get (fun _ => none) (fun _ _ _ => none) w := by
    have he : blkOf (Bt.e : Bt Ob).get = fun _ => none := rfl
    refine ⟨?_, fun i o h => (by cases h), fun i j oi oj p q h => (by cases h)⟩
    rw [he]
    exact ⟨fun i b h => (by cases h), fun i j bi bj p q h => (by cases h), fun i b p h => (by cases h), fun f b o u h => (by cases h), fun i b p f o h => (by cases h), fun b o u h => (by cases h), fun b o u h => (by cases h), .refl _, fun _ _ _ _ _ h => h, fun _ h => h.elim⟩
  have := h2 (Wo.of w) (fun _ => none) (fun _ _ _ => none) w (.func (.func g) #[] #[]) [] hw (fun _ _ => rfl) trivial ⟨[], trivial, rfl⟩
  obtain ⟨g', fs', us', hv, hb, hcalls⟩ := this.resolve_right (fun ⟨_, _, _, _, _, hv, _⟩ => by cases hv)
  simp only [Value.func.injEq, Fn.func.injEq] at hv
  obtain ⟨rfl, rfl, rfl⟩ := hv
  rw [Array.empty_append] at hcalls
  rw [show ([] : List Value).toArray ++ #[] = ([] : List Value).toArray by simp] at hcalls
  refine hcalls.mono ?_
  rintro e w' ⟨v, I', R', rfl, k1, k2, k3, k4, k5⟩
  refine ⟨v, .val (.bool true), [], 0, fun _ => none, fun _ _ => none, rfl, ?_, fun _ _ => rfl, (fun p hp => by cases hp), k5, rfl, rfl, rfl⟩
  exact ⟨fun i b h => (by simp [kg] at h), fun i j bi bj p q h => (by simp [kg] at h), fun i b p h => (by simp [kg] at h), fun f b o u h => (by cases h), fun i b p f o h => (by simp [kg] at h), fun b o u h => (by cases h), fun b o u h => (by cases h), k1.wd.below, fun _ _ _ _ _ h => h, fun _ h => h.elim⟩
def evalV : Option CR → Option AV
  | some r => match r.x.inB [], r.x.own' with
    | true, true => some r.x
    | _, _ => none
  | none => none
/-- A function of known arguments: what it hands back, by reckoning. -/
theorem con_eval {P : Program} {FT : FTab} {T : Tab} (hF : FtOk P FT) (hT : TabOk P T) (hmix : P.follows .mixedOrders = true) (lf d : Nat) {g : FuncId} {args : List A0} {x : AV} (hfn : fnB P g = true) (hlow : args.all A0.low' = true) (h : evalV (callE FT T lf d (.fn g []) (args.map .pl) .e 0) = some x) : Con P g args (fun rx rK rt => rx = x ∧ rK = [] ∧ rt = 0) := by
  unfold evalV at h
  split at h
  rotate_left
  · cases h
  rename_i r hr
  split at h
  rotate_left
  · cases h
  rename_i hin hown
  simp only [Option.some.injEq] at h
  subst h
  obtain ⟨⟨h1, h2⟩, _⟩ := callE_sound hF hT hmix d _ _ _ _ _ hr
  refine ⟨hfn, fun w vs hvs => ?_⟩
  let R0 : RM := fun fl b o => match fl with | true => none | false => w.cell? ⟨b, o, none⟩
  have hw : Wz (Wo.of w) (Bt.e : Bt Ob).get (fun _ => none) R0 w := by
    have he : blkOf (Bt.e : Bt Ob).get = fun _ => none := rfl
    refine ⟨?_, fun i o h => (by cases h), fun i j oi oj p q h => (by cases h)⟩
    rw [he]
    refine ⟨fun i b h => (by cases h), fun i j bi bj p q h => (by cases h), fun i b p h => (by cases h), ?_, fun i b p f o h => (by cases h), ?_, ?_, .refl _, fun _ _ _ _ _ h => h, fun _ h => h.elim⟩
    · intro f b o u hu
      cases f with
      | true => cases hu
      | false => exact hu
    · intro b o u hu; cases hu
    · intro b o u hu; cases hu
  have hv : All2 (AV.rel (fun _ => none) R0) (args.map .pl) vs := by
    refine All2.map _ (hvs.mono_mem fun a ha b hb => ?_)
    exact A0.rel_low (by rfl) (List.all_eq_true.1 hlow a ha) hb
  have := h2 (Wo.of w) (fun _ => none) R0 w (.func (.func g) #[] #[]) vs hw (fun _ _ => rfl) hv ⟨[], trivial, rfl⟩
  obtain ⟨g', fs', us', hv', hb, hcalls⟩ := this.resolve_right (fun ⟨_, _, _, _, _, hv, _⟩ => by cases hv)
  simp only [Value.func.injEq, Fn.func.injEq] at hv'
  obtain ⟨rfl, rfl, rfl⟩ := hv'
  rw [Array.empty_append] at hcalls
  rw [show vs.toArray ++ #[] = vs.toArray by simp] at hcalls
  refine hcalls.mono ?_
  rintro e w' ⟨v, I', R', rfl, k1, k2, k3, k4, k5⟩
  have hx := AV.rel_in hin k5
  have hI : onI [] I' = fun _ => none := by funext j; simp [onI]
  rw [hI] at hx
  refine ⟨v, r.x, [], 0, fun _ => none, R' true, rfl, ?_, fun _ _ => rfl, (fun p hp => by cases hp), AV.rel_own hown hx, rfl, rfl, rfl⟩
  have hk : Wd (Wo.of w) (kg []) (fun _ => none) R' w' := by
    exact { k1.wd with
      blk := fun i b h => (by simp [kg] at h)
      inj := fun i j bi bj p q h => (by simp [kg] at h)
      base := fun i b p h => (by simp [kg] at h)
      apart := fun i b p f o h => (by simp [kg] at h) }
  exact hk.own (fun j b h => (by simp [kg] at h))
/-- Own blocks, handed back. -/
def pickK (K : Bt Ob) : List Nat → Wx.Kr
  | [] => []
  | j :: r => match blkOf K.get j with
    | some b => (j, some b) :: pickK K r
    | none => pickK K r
theorem pickK_kg {K : Bt Ob} {i : Nat} {b : Blk} : ∀ {l : List Nat}, kg (pickK K l) i = some b → blkOf K.get i = some b
  | [], h => by simp [pickK, kg] at h
  | j :: r, h => by
    unfold pickK at h
    split at h
    · rename_i b' hb
      simp only [kg] at h
      split at h
      · rename_i he
        have : j = i := by first | exact (Nat.eq_of_beq_eq_true he) | exact he | exact he.symm
        subst this
        cases h
        exact hb
      · exact pickK_kg h
    · exact pickK_kg h
theorem pickK_lt {K : Bt Ob} {t : Nat} : ∀ {l : List Nat}, l.all (fun i => Nat.blt i t) = true → ∀ p ∈ pickK K l, p.1 < t
  | [], _, p, hp => by simp [pickK] at hp
  | j :: r, h, p, hp => by
    simp only [List.all_cons, Bool.and_eq_true, Nat.blt_eq] at h
    unfold pickK at hp
    split at hp
    · rcases List.mem_cons.1 hp with rfl | hp
      · exact h.1
      · exact pickK_lt h.2 p hp
    · exact pickK_lt h.2 p hp
def ownB (K : Bt Ob) (l : List Nat) : Bool := l.all fun j => match blkOf K.get j with
  | some b => b.rows.all fun r => r.all Ce.own'
  | none => true
def evalK : Option CR → Option (AV × Wx.Kr × Nat)
  | some r => match r.x.own', (reachT r.K 4000 r.x.refs2 []).all (fun i => Nat.blt i r.top), ownB r.K (reachT r.K 4000 r.x.refs2 []) with
    | true, true, true => some (r.x, pickK r.K (reachT r.K 4000 r.x.refs2 []), r.top)
    | _, _, _ => none
  | none => none
theorem pickK_mem {K : Bt Ob} {i : Nat} {b : Blk} : ∀ {l : List Nat}, kg (pickK K l) i = some b → i ∈ l
  | [], h => by simp [pickK, kg] at h
  | j :: r, h => by
    unfold pickK at h
    split at h
    · rename_i b' hb
      simp only [kg] at h
      split at h
      · rename_i he
        have : j = i := by first | exact (Nat.eq_of_beq_eq_true he) | exact he | exact he.symm
        subst this
        exact List.mem_cons_self
      · exact List.mem_cons_of_mem _ (pickK_mem h)
    · exact List.mem_cons_of_mem _ (pickK_mem h)
/-- A function of known arguments: what it hands back, with own blocks, by reckoning. -/
theorem con_evalK {P : Program} {FT : FTab} {T : Tab} (hF : FtOk P FT) (hT : TabOk P T) (hmix : P.follows .mixedOrders = true) (lf d : Nat) {g : FuncId} {args : List A0} {x : AV} {Kc : Wx.Kr} {tc : Nat} (hfn : fnB P g = true) (hlow : args.all A0.low' = true) (h : evalK (callE FT T lf d (.fn g []) (args.map .pl) .e 0) = some (x, Kc, tc)) : Con P g args (fun rx rK rt => rx = x ∧ rK = Kc ∧ rt = tc) := by
  unfold evalK at h
  split at h
  rotate_left
  · cases h
  rename_i r hr
  split at h
  rotate_left
  · cases h
  rename_i hown hlt hko
  simp only [Option.some.injEq, Prod.mk.injEq] at h
  obtain ⟨rfl, rfl, rfl⟩ := h
  obtain ⟨⟨h1, h2⟩, _⟩ := callE_sound hF hT hmix d _ _ _ _ _ hr
  refine ⟨hfn, fun w vs hvs => ?_⟩
  let R0 : RM := fun fl b o => match fl with | true => none | false => w.cell? ⟨b, o, none⟩
  have hw : Wz (Wo.of w) (Bt.e : Bt Ob).get (fun _ => none) R0 w := by
    have he : blkOf (Bt.e : Bt Ob).get = fun _ => none := rfl
    refine ⟨?_, fun i o h => (by cases h), fun i j oi oj p q h => (by cases h)⟩
    rw [he]
    refine ⟨fun i b h => (by cases h), fun i j bi bj p q h => (by cases h), fun i b p h => (by cases h), ?_, fun i b p f o h => (by cases h), ?_, ?_, .refl _, fun _ _ _ _ _ h => h, fun _ h => h.elim⟩
    · intro f b o u hu
      cases f with
      | true => cases hu
      | false => exact hu
    · intro b o u hu; cases hu
    · intro b o u hu; cases hu
  have hv : All2 (AV.rel (fun _ => none) R0) (args.map .pl) vs := by
    refine All2.map _ (hvs.mono_mem fun a ha b hb => ?_)
    exact A0.rel_low (by rfl) (List.all_eq_true.1 hlow a ha) hb
  have := h2 (Wo.of w) (fun _ => none) R0 w (.func (.func g) #[] #[]) vs hw (fun _ _ => rfl) hv ⟨[], trivial, rfl⟩
  obtain ⟨g', fs', us', hv', hb, hcalls⟩ := this.resolve_right (fun ⟨_, _, _, _, _, hv, _⟩ => by cases hv)
  simp only [Value.func.injEq, Fn.func.injEq] at hv'
  obtain ⟨rfl, rfl, rfl⟩ := hv'
  rw [Array.empty_append] at hcalls
  rw [show vs.toArray ++ #[] = vs.toArray by simp] at hcalls
  refine hcalls.mono ?_
  rintro e w' ⟨v, I', R', rfl, k1, k2, k3, k4, k5⟩
  refine ⟨v, r.x, _, r.top, I', R' true, rfl, ?_, k2, pickK_lt hlt, AV.rel_own hown k5, rfl, rfl, rfl⟩
  have hk : Wd (Wo.of w) (kg (pickK r.K (reachT r.K 4000 r.x.refs2 []))) I' R' w' := by
    exact { k1.wd with
      blk := fun i b h => k1.wd.blk i b (pickK_kg h)
      inj := fun i j bi bj p q h1 h2 => k1.wd.inj i j bi bj p q (pickK_kg h1) (pickK_kg h2)
      base := fun i b p h => k1.wd.base i b p (pickK_kg h)
      apart := fun i b p f o h => k1.wd.apart i b p f o (pickK_kg h) }
  refine hk.own fun j b hj row hrow c hc => ?_
  have h0 := List.all_eq_true.1 hko j (pickK_mem hj)
  rw [pickK_kg hj] at h0
  exact List.all_eq_true.1 (List.all_eq_true.1 h0 row hrow) c hc
end Go.Proofs.Ytllnmdmmmkoiaaa.Wx.Y
