import Derived.Test.YtopieffkpdlpbaaLib3
import Derived.Maps.RangeRun
import Derived.Lib.Overlaps
set_option linter.unusedVariables false
set_option linter.unusedSimpArgs false
namespace Go.Proofs.Ytopieffkpdlpbaa.Wx.Y
open Go Go.RowKit
structure ES where
 F : Bt AV
 K : Bt Ob
 top : Nat
 log : List Nat
structure CR where
 x : AV
 K : Bt Ob
 top : Nat
 log : List Nat
abbrev CallFn := Ce → List AV → Bt Ob → Nat → Option CR
def putK (K : Bt Ob) : Kr → Bt Ob
 | [] => K
 | (i, b) :: r => Bt.put 17 (putK K r) i b
def kwOk : Kr → Bool
 | [] => true
 | (i, _) :: r => match Nat.blt i big with | true => kwOk r | false => false
theorem getK_put {K : Bt Ob} : ∀ {kw : Kr}, kwOk kw = true → (putK K kw).get = kup K.get kw
 | [], _ => rfl
 | (i, b) :: r, h => by
  unfold kwOk at h
  split at h
  ·rename_i hi
   have hi' : i < big := by simpa [Nat.blt_eq] using hi
   simp only [big] at hi'
   funext t
   show (Bt.put 17 (putK K r) i b).get t = _
   rw [Bt.get_put 17 _ i b t (by omega), getK_put h]
   rfl
  ·cases h
def setK (K : Bt Ob) (j : Nat) (x : Option Ob) : Bt Ob := Bt.put 17 K j x
theorem setK_get {K : Bt Ob} {j : Nat} {x : Option Ob} (h : j < big) : (setK K j x).get = upd K.get j x := by
 simp only [big] at h
 funext t
 show (Bt.put 17 K j x).get t = _
 rw [Bt.get_put 17 K j x t (by omega)]
 rfl
def CallsOk (P : Program) (C : CallFn) : Prop :=
 ∀ c avs K top r, C c avs K top = some r → CallE P c avs K.get top r.x r.K.get r.top ∧ ∀ j, j ∉ r.log → r.K.get j = K.get j
def RdOk (I : IM) (rd : Option Nat) (r : Option Nat) : Prop :=
 match rd with
 | none => r = none
 | some j => ∃ p, I j = some p ∧ r = some p.b
theorem RdOk.mono {I I' : IM} {rd r : Option Nat} (h : RdOk I rd r) (hI : IExt I I') : RdOk I' rd r := by
 cases rd with
 | none => exact h
 | some j => obtain ⟨p, h1, h2⟩ := h; exact ⟨p, hI _ _ h1, h2⟩
theorem ext_of {I I' : IM} {top : Nat} (hd : ∀ j, top ≤ j → I j = none) (ho : ∀ j, j < top → I' j = I j) : IExt I I' := fun j p hj => by
 rw [ho j (by rcases Nat.lt_or_ge j top with h | h; exact h; rw [hd j h] at hj; cases hj)]; exact hj
def Goes (P : Program) (n : Nat) (rd : Option Nat) (c : Code) (s : ES) (e : Exit) (s' : ES) : Prop :=
 s.top ≤ s'.top ∧ (∀ j, j ∉ s'.log → j ∉ s.log ∧ s'.K.get j = s.K.get j) ∧
 ∀ (W : Wo) (I : IM) (R : RM) (a : Act) (w : World) (r : Option Nat), RdOk I rd r → St n W s.F.get s.K.get I R a w → (∀ j, s.top ≤ j → I j = none) →
  c.wpIn (fr r) 0 P (fun e' a' w' => e' = e ∧ ∃ I' R', St n W s'.F.get s'.K.get I' R' a' w' ∧ (∀ j, s'.top ≤ j → I' j = none) ∧ (∀ j, j < s.top → I' j = I j) ∧ RExt R R') a w
def GoesL (P : Program) (n : Nat) (ops : Array Oper) (l : List Oper) (s : ES) (s' : ES) : Prop :=
 s.top ≤ s'.top ∧ (∀ j, j ∉ s'.log → j ∉ s.log ∧ s'.K.get j = s.K.get j) ∧
 ∀ (W : Wo) (I : IM) (R : RM) (a : Act) (w : World) (r : Option Nat), St n W s.F.get s.K.get I R a w → (∀ j, s.top ≤ j → I j = none) →
  ∀ Q : Exit → Act → World → Prop, (∀ a' w' I' R', St n W s'.F.get s'.K.get I' R' a' w' → (∀ j, s'.top ≤ j → I' j = none) → (∀ j, j < s.top → I' j = I j) → RExt R R' → Q .normal a' w') → wpListIn (fr r) 0 P ops Q l a w
def liftE (e : Wx.Eff) : Eff := ⟨e.av, e.rd, liftK e.kw, e.top⟩
def opY (T : Tab) (o : Oper) (F : Nat → Option AV) (K : Nat → Option Ob) (top : Nat) : Option Eff :=
 match opE T o F (blkOf K) top with
 | some e => some (liftE e)
 | none => match opX T o F (blkOf K) top with
  | some e => some (liftE e)
  | none => opM T o F K top
theorem opE_nd {T : Tab} {o : Oper} {F : Nat → Option AV} {K : Nat → Option Blk} {top : Nat} {e : Wx.Eff} (h : opE T o F K top = some e) : ∀ c, o.op ≠ .defer c := by
 intro c hc
 obtain ⟨dst, op, ty, pos, after, guard⟩ := o
 simp only at hc
 subst hc
 simp [opE] at h
theorem opY_sound {P : Program} {T : Tab} (hT : TabOk P T) {o : Oper} {F : Nat → Option AV} {K : Nat → Option Ob} {top : Nat} {e : Eff} (h : opY T o F K top = some e) : OpEff P o F K top e := by
 unfold opY at h
 split at h
 ·rename_i e' he
  cases h
  exact lift_op (opE_nd he) (opE_sound hT he)
 ·split at h
  ·rename_i e' he
   cases h
   obtain ⟨h1, h2⟩ := opX_sound hT he
   exact lift_op h2 h1
  ·exact opM_sound hT h
def stepE (C : CallFn) (T : Tab) (n : Nat) (o : Oper) (s : ES) : Option ES :=
 match dstE n o.dst with
 | true => match callOf o.op with
  | some (f, xs) => match evf s.F.get f, evs s.F.get xs with
   | some (.pl (.one c)), some avs => match C c avs s.K s.top with
    | some r => some ⟨putF s.F o.dst r.x, r.K, r.top, r.log ++ s.log⟩
    | none => none
   | _, _ => none
  | none => match opY T o s.F.get s.K.get s.top with
   | some e => match Nat.ble s.top e.top, kwOk e.kw with
    | true, true => some ⟨putF s.F o.dst e.av, putK s.K e.kw, e.top, e.kw.map (·.1) ++ s.log⟩
    | _, _ => none
   | none => none
 | false => none
def runE (C : CallFn) (T : Tab) (n : Nat) (ops : Array Oper) : List Oper → ES → Option ES
 | [], s => some s
 | o :: r, s => match wantE ops s.F o.guard with
  | some true => match stepE C T n { o with guard := none } s with
   | some s' => runE C T n ops r s'
   | none => none
  | some false => match dstE n o.dst with
   | true => runE C T n ops r ⟨putF s.F o.dst (.val undef), s.K, s.top, s.log⟩
   | false => none
  | none => none
def Bt.flat {α : Type} (g : α → List Nat) : Bt α → List Nat
 | .e => []
 | .n l v r => (match v with | some x => g x | none => []) ++ (Bt.flat g l ++ Bt.flat g r)
def Bt.allB {α : Type} (g : α → Bool) : Bt α → Bool
 | .e => true
 | .n l v r => (match v with | some x => g x | none => true) && (Bt.allB g l && Bt.allB g r)
theorem Bt.allB_get {α : Type} {g : α → Bool} : ∀ {t : Bt α} {k : Nat} {x : α}, Bt.allB g t = true → t.get k = some x → g x = true
 | .e, k, x, _, h => by simp [Bt.get] at h
 | .n l v r, k, x, hb, h => by
  simp only [Bt.allB, Bool.and_eq_true] at hb
  rw [Bt.get_n] at h
  split at h
  ·subst h; exact hb.1
  ·split at h
   ·exact Bt.allB_get hb.2.1 h
   ·exact Bt.allB_get hb.2.2 h
def Ob.refs : Ob → List Nat
 | .b x => x.rows.flatMap fun r => r.flatMap Ce.refs2
 | .m es => es.es.flatMap fun e => e.2.2.refs2
 | .l x => Bt.flat AV.refs2 x.F
 | .i x => [x.m]
def Ob.inB (l : List Nat) : Ob → Bool
 | .b x => x.rows.all fun r => r.all (Ce.inB l)
 | .m es => es.es.all fun e => e.2.2.inB l
 | .l x => Bt.allB (AV.inB l) x.F
 | .i x => l.contains x.m
def reachT (K : Bt Ob) : Nat → List Nat → List Nat → List Nat
 | 0, _, seen => seen
 | _ + 1, [], seen => seen
 | n + 1, i :: r, seen => match seen.contains i with
  | true => reachT K n r seen
  | false => match K.get i with
   | none => reachT K n r (i :: seen)
   | some b => reachT K n (b.refs ++ r) (i :: seen)
def restrict (K : Bt Ob) : List Nat → Bt Ob
 | [] => .e
 | i :: r => Bt.put 17 (restrict K r) i (K.get i)
def inE (K : Bt Ob) (top : Nat) (c : Ce) (avs : List AV) (l : List Nat) : Bool :=
 l.all (fun i => Nat.blt i top) && Nat.ble top big && avs.all (AV.inB l) && c.inB l && l.all fun i => match K.get i with
  | some b => b.inB l
  | none => true
def stepDE (C : CallFn) (T : Tab) (n : Nat) (o : Oper) (s : ES) : Option Eff :=
 match callOf o.op with
 | some (f, xs) => match evf s.F.get f, evs s.F.get xs with
  | some (.pl (.one c)), some avs => match inE s.K s.top c avs (reachT s.K 4000 (c.refs2 ++ avs.flatMap AV.refs2) []) with
   | true => match C c avs (restrict s.K (reachT s.K 4000 (c.refs2 ++ avs.flatMap AV.refs2) [])) s.top with
    | some r => some ⟨r.x, reachT s.K 4000 (c.refs2 ++ avs.flatMap AV.refs2) [], (dedup r.log).map (fun j => (j, r.K.get j)), r.top⟩
    | none => none
   | false => none
  | _, _ => none
 | none => opY T o s.F.get s.K.get s.top
def drawE (C : CallFn) (T : Tab) (n : Nat) (ops : Array Oper) : List Oper → ES → Option (List Ent × ES)
 | [], s => some ([], s)
 | o :: r, s => match dstE n o.dst, wantE ops s.F o.guard with
  | true, some true => match stepDE C T n o s with
   | some e => match Nat.ble s.top e.top, kwOk e.kw with
    | true, true => match drawE C T n ops r ⟨putF s.F o.dst e.av, putK s.K e.kw, e.top, e.kw.map (·.1) ++ s.log⟩ with
     | some (xs, s') => some (⟨o, false, e, s.top⟩ :: xs, s')
     | none => none
    | _, _ => none
   | none => none
  | true, some false => match drawE C T n ops r ⟨putF s.F o.dst (.val undef), s.K, s.top, s.log⟩ with
   | some (xs, s') => some (⟨o, true, ⟨.val undef, [], [], s.top⟩, s.top⟩ :: xs, s')
   | none => none
  | _, _ => none
def loopE (body : ES → Option (Exit × ES)) : Nat → ES → Option (Exit × ES)
 | 0, _ => none
 | f + 1, s => match body s with
  | some (.normal, s') => loopE body f s'
  | r => r
def rdIn (K : Bt Ob) : Option Nat → Bool
 | none => true
 | some j => match K.get j with
  | some (.l _) => true
  | _ => false
def rangeE (C : CallFn) (n : Nat) (rd : Option Nat) (g : Operand) (ps : Array Tmp) (assign body : Code) (s : ES) : Option (Exit × ES) :=
 match evf s.F.get g with
 | some (.pl (.one (.fn f cap))) => match Nat.blt s.top big, rdIn s.K rd with
  | true, true => match C (.fn f cap) [.pl (.one (.yl s.top))] (setK s.K s.top (some (.l ⟨n, s.F, ps, assign, body, .ready⟩))) (s.top + 1) with
   | some r => match r.K.get s.top with
    | some (.l lb) => match lb.st with
     | .ready => some (.normal, ⟨s.F, setK r.K s.top none, r.top, s.top :: (r.log ++ s.log)⟩)
     | .done .ret => some (.ret, ⟨s.F, setK r.K s.top none, r.top, s.top :: (r.log ++ s.log)⟩)
     | .done (.exit id) => some (.exit id, ⟨s.F, setK r.K s.top none, r.top, s.top :: (r.log ++ s.log)⟩)
     | _ => none
    | _ => none
   | none => none
  | _, _ => none
 | _ => none
def codeE (C : CallFn) (T : Tab) (n : Nat) (lf : Nat) (rd : Option Nat) : Code → ES → Option (Exit × ES)
 | .skip, s => some (.normal, s)
 | .region _ ops draw, s => match draw with
  | false => match runE C T n ops ops.toList s with
   | some s' => some (.normal, s')
   | none => none
  | true => match drawE C T n ops ops.toList s with
   | some (xs, s') => match apartB ops xs with
    | true => some (.normal, s')
    | false => none
   | none => none
 | .seq a b, s => match codeE C T n lf rd a s with
  | some (.normal, s') => codeE C T n lf rd b s'
  | r => r
 | .cond c x y, s => match evf s.F.get c with
  | some (.pl (.one (.v (.bool true)))) => codeE C T n lf rd x s
  | some (.pl (.one (.v (.bool false)))) => codeE C T n lf rd y s
  | _ => none
 | .block id c, s => match codeE C T n lf rd c s with
  | some (.exit i, s') => match Nat.beq i id with
   | true => some (.normal, s')
   | false => some (.exit i, s')
  | r => r
 | .loop c, s => loopE (codeE C T n lf rd c) lf s
 | .exit id, s => some (.exit id, s)
 | .ret, s => some (.ret, s)
 | .label _, s => some (.normal, s)
 | .rangeFunc g ps assign body, s => rangeE C n rd g ps assign body s
 | _, _ => none
def resE (T : Tab) (s : ES) : List ResultVar → Option (List A0)
 | [] => some []
 | .tmp t :: r => match s.F.get t, resE T s r with
  | some (.pl x), some l => some (x :: l)
  | _, _ => none
 | .cell p t :: r => match s.F.get p, tyGet T t, resE T s r with
  | some (.pl (.one (.own i q k))), some ti, some l => match blkOf s.K.get i with
   | some b => match b.rows[q]? with
    | some row => match cut ti.row k ti.size row with
     | some v => some (v :: l)
     | none => none
    | none => none
   | none => none
  | _, _, _ => none
def putL (n : Nat) : Bt AV → List Tmp → List AV → Option (Bt AV)
 | F, [], [] => some F
 | F, t :: ts, x :: xs => match Nat.blt t n, Nat.blt t big with
  | true, true => putL n (Bt.put 17 F t (some x)) ts xs
  | _, _ => none
 | _, _, _ => none
def roundE (X : Nat → Nat → Code → ES → Option (Exit × ES)) (j : Nat) (avs : List AV) (K : Bt Ob) (top : Nat) : Option CR :=
 match K.get j, Nat.blt j big with
 | some (.l lb), true => match lb.st with
  | .ready => match putL lb.n lb.F lb.ps.toList avs with
   | some F0 => match X lb.n j lb.assign ⟨F0, K, top, []⟩ with
    | some (.normal, s1) => match s1.K.get j with
     | some (.l lb1) => match lb1.st with
      | .ready => match X lb.n j lb.body ⟨s1.F, setK s1.K j (some (.l ⟨lb1.n, lb1.F, lb1.ps, lb1.assign, lb1.body, .busy⟩)), s1.top, s1.log⟩ with
       | some (e, s2) => match s2.K.get j with
        | some (.l lb2) => match e with
         | .normal => some ⟨.pl (.one (.v (.bool true))), setK s2.K j (some (.l ⟨lb2.n, lb2.F, lb2.ps, lb2.assign, lb2.body, .ready⟩)), s2.top, j :: s2.log⟩
         | .ret => some ⟨.pl (.one (.v (.bool false))), setK s2.K j (some (.l ⟨lb2.n, lb2.F, lb2.ps, lb2.assign, lb2.body, .done .ret⟩)), s2.top, j :: s2.log⟩
         | .exit id => some ⟨.pl (.one (.v (.bool false))), setK s2.K j (some (.l ⟨lb2.n, lb2.F, lb2.ps, lb2.assign, lb2.body, .done (.exit id)⟩)), s2.top, j :: s2.log⟩
         | _ => none
        | _ => none
       | none => none
      | _ => none
     | _ => none
    | _ => none
   | none => none
  | _ => none
 | _, _ => none
def callE (FT : FTab) (T : Tab) (lf : Nat) : Nat → CallFn
 | 0, _, _, _, _ => none
 | d + 1, c, avs, K, top => match c with
  | .yl j => roundE (fun n j c s => codeE (callE FT T lf d) T n lf (some j) c s) j avs K top
  | .fn g cap => match ftGet FT g with
   | some fn => match fn.body with
    | some c => match Nat.ble (avs ++ capA cap).length fn.ntmps, Nat.ble (avs ++ capA cap).length big with
     | true, true => match codeE (callE FT T lf d) T fn.ntmps lf none c ⟨argE 0 (avs ++ capA cap), K, top, []⟩ with
      | some (.normal, s) => match resE T s fn.results.toList with
       | some xs => some ⟨retV xs, s.K, s.top, s.log⟩
       | none => none
      | some (.ret, s) => match resE T s fn.results.toList with
       | some xs => some ⟨retV xs, s.K, s.top, s.log⟩
       | none => none
      | _ => none
     | _, _ => none
    | none => none
   | none => none
  | .mf g cap => match ftGet FT g with
   | some fn => match fn.body with
    | some c => match Nat.ble (capA cap ++ avs).length fn.ntmps, Nat.ble (capA cap ++ avs).length big with
     | true, true => match codeE (callE FT T lf d) T fn.ntmps lf none c ⟨argE 0 (capA cap ++ avs), K, top, []⟩ with
      | some (.normal, s) => match resE T s fn.results.toList with
       | some xs => some ⟨retV xs, s.K, s.top, s.log⟩
       | none => none
      | some (.ret, s) => match resE T s fn.results.toList with
       | some xs => some ⟨retV xs, s.K, s.top, s.log⟩
       | none => none
      | _ => none
     | _, _ => none
    | none => none
   | none => none
  | _ => none
section
variable {P : Program} {C : CallFn} {T : Tab} {n : Nat} {ops : Array Oper}
theorem wantE_run {F : Bt AV} {W : Wo} {K : Nat → Option Ob} {I : IM} {R : RM} {a : Act} {w : World} {o : Oper} {b : Bool} (h : wantE ops F o.guard = some b) (hs : St n W F.get K I R a w) : Region.wanted o (yielded ops a.tmps) = b := by
 unfold wantE at h
 split at h
 ·rename_i hg
  simp only [Option.some.injEq] at h
  subst h
  simp [Region.wanted, hg]
 ·rename_i g want hg
  split at h
  ·rename_i t hd
   split at h
   ·rename_i v ht
    simp only [Option.some.injEq] at h
    subst h
    exact wanted_guard' hg hd ht hs
   ·rename_i l ht
    simp only [Option.some.injEq] at h
    subst h
    exact unwanted_guardA hg hd ht hs
   ·cases h
  ·cases h
theorem St.ev {F : Nat → Option AV} {W : Wo} {K : Nat → Option Ob} {I : IM} {R : RM} {a : Act} {w : World} (hs : St n W F K I R a w) {o : Operand} {x : AV} (h : evf F o = some x) : x.rel I R (a.eval o) := by
 have h0 : Wx.St n (stpB W (blkOf K) I R w) F (blkOf K) I R ⟨a.tmps, []⟩ w := ⟨hs.size, rfl, fun t y hy => hs.fr t y hy, wd_step hs.wz.wd⟩
 have := h0.ev h
 have he : (Act.eval a : Operand → Value) = Act.eval ⟨a.tmps, []⟩ := by funext x; cases x <;> rfl
 rw [he]; exact this
theorem St.evs {F : Nat → Option AV} {W : Wo} {K : Nat → Option Ob} {I : IM} {R : RM} {a : Act} {w : World} (hs : St n W F K I R a w) {l : List Operand} {xs : List AV} (h : evs F l = some xs) : All2 (AV.rel I R) xs (l.map a.eval) := by
 have h0 : Wx.St n (stpB W (blkOf K) I R w) F (blkOf K) I R ⟨a.tmps, []⟩ w := ⟨hs.size, rfl, fun t y hy => hs.fr t y hy, wd_step hs.wz.wd⟩
 have := h0.evs h
 have he : (Act.eval a : Operand → Value) = Act.eval ⟨a.tmps, []⟩ := by funext x; cases x <;> rfl
 rw [he]; exact this
theorem stepE_sound (hT : TabOk P T) (hC : CallsOk P C) {o : Oper} {s s' : ES} (h : stepE C T n o s = some s') :
  s.top ≤ s'.top ∧ (∀ j, j ∉ s'.log → j ∉ s.log ∧ s'.K.get j = s.K.get j) ∧
  ∀ (W : Wo) (I : IM) (R : RM) (a : Act) (w : World) (r : Option Nat), St n W s.F.get s.K.get I R a w → (∀ j, s.top ≤ j → I j = none) →
   ∀ (next : Act → World → Prop) (Q : Exit → Act → World → Prop), (∀ a' w' I' R', St n W s'.F.get s'.K.get I' R' a' w' → (∀ j, s'.top ≤ j → I' j = none) → (∀ j, j < s.top → I' j = I j) → RExt R R' → next a' w') → o.wpIn (fr r) 0 P a w next Q := by
 obtain ⟨dst, op, ty, pos, after, guard⟩ := o
 unfold stepE at h
 simp only at h
 split at h
 ·rename_i hd
  have hdn := dstE_n hd
  have hdb := dstE_b hd
  split at h
  ·rename_i f xs hc
   unfold callOf at hc
   split at hc
   ·rename_i f' xs' ts
    simp only [Option.some.injEq, Prod.mk.injEq] at hc
    obtain ⟨rfl, rfl⟩ := hc
    split at h
    ·rename_i c avs hf hxs
     split at h
     ·rename_i r hr
      simp only [Option.some.injEq] at h
      subst h
      obtain ⟨⟨h2, h3⟩, h4⟩ := hC _ _ _ _ _ hr
      refine ⟨h2, fun j hj => ?_, ?_⟩
      ·simp only [List.mem_append, not_or] at hj
       exact ⟨hj.2, h4 j hj.1⟩
      ·intro W I R a w rr hs hdom next Q hn
       refine ups_op (h3 (mkW W a.defers w) I R w _ _ (hs.wz.mk' hs.mks) hdom (hs.evs hxs) (hs.ev hf)) ?_
       rintro e w' ⟨v, I', R', rfl, hw', hd', hI, hR, hx⟩
       obtain ⟨g1, g2⟩ := hs.wz.un hs.mks hw'
       refine ⟨v, rfl, hn _ _ I' R' ?_ hd' hI hR⟩
       simp only
       rw [getF_put hdb]
       exact hs.put (ext_of hdom hI) hR g1 g2 hdn hx
     ·cases h
    ·cases h
   ·cases hc
  ·split at h
   ·rename_i e he
    split at h
    ·rename_i h1 h2
     simp only [Option.some.injEq] at h
     subst h
     have hop := opY_sound hT he
     have htop : s.top ≤ e.top := Nat.le_of_ble_eq_true h1
     refine ⟨htop, fun j hj => ?_, ?_⟩
     ·simp only [List.mem_append, not_or] at hj
      refine ⟨hj.2, ?_⟩
      simp only
      rw [getK_put h2]
      exact kup_out' hj.1
     ·intro W I R a w rr hs hdom next Q hn
      refine hop rr n W _ _ I R a w hs (fun _ _ => rfl) (fun _ _ => rfl) (fun j h1 h2 => ⟨hdom j h1, ?_⟩) hdn next Q ?_
      ·cases hq : s.K.get j with
       | none => rfl
       | some b => obtain ⟨p, hp⟩ := hs.dom hq; rw [hdom j h1] at hp; cases hp
      ·intro I' R' a' w' hs' hI hfree hR
       refine hn _ _ I' R' ?_ (fun j hj => ?_) (fun j hj => hfree j (by omega)) hR
       ·simp only
        rw [getF_put hdb, getK_put h2]
        exact hs'
       ·simp only at hj
        rw [hfree j (by omega)]; exact hdom j (by omega)
    ·cases h
   ·cases h
 ·cases h
theorem runE_sound (hT : TabOk P T) (hC : CallsOk P C) (ops : Array Oper) : ∀ (l : List Oper) (s s' : ES), runE C T n ops l s = some s' → GoesL P n ops l s s'
 | [], s, s', h => by
  simp only [runE, Option.some.injEq] at h
  subst h
  exact ⟨Nat.le_refl _, fun j hj => ⟨hj, rfl⟩, fun W I R a w rr hs hd Q hn => hn a w I R hs hd (fun _ _ => rfl) (.refl _)⟩
 | o :: r, s, s', h => by
  unfold runE at h
  split at h
  ·rename_i hw
   split at h
   ·rename_i s1 h1
    obtain ⟨a1, a2, a3⟩ := stepE_sound hT hC h1
    obtain ⟨b1, b2, b3⟩ := runE_sound hT hC ops r s1 s' h
    refine ⟨Nat.le_trans a1 b1, fun j hj => ?_, ?_⟩
    ·obtain ⟨c1, c2⟩ := b2 j hj
     obtain ⟨c3, c4⟩ := a2 j c1
     exact ⟨c3, c2.trans c4⟩
    ·intro W I R a w rr hs hd Q hn
     unfold wpListIn
     rw [if_pos (wantE_run hw hs)]
     have := a3 W I R a w rr hs hd (wpListIn (fr rr) 0 P ops Q r) Q (fun a' w' I' R' h1 h2 h3 h4 => b3 W I' R' a' w' rr h1 h2 Q fun a2 w2 I2 R2 g1 g2 g3 g4 => hn a2 w2 I2 R2 g1 g2 (fun j hj => (g3 j (by omega)).trans (h3 j hj)) (h4.trans g4))
     exact this
   ·cases h
  ·rename_i hw
   split at h
   ·rename_i hd'
    obtain ⟨b1, b2, b3⟩ := runE_sound hT hC ops r _ s' h
    refine ⟨b1, b2, ?_⟩
    intro W I R a w rr hs hd Q hn
    unfold wpListIn
    rw [if_neg (by rw [wantE_run hw hs]; simp)]
    refine ⟨fun _ _ => trivial, b3 W I R _ w rr ?_ hd Q hn⟩
    simp only
    rw [getF_put (dstE_b hd')]
    exact hs.put (.refl _) (.refl _) hs.wz hs.mks (dstE_n hd') rfl
   ·cases h
  ·cases h
end
section
variable {W : Wo} {K : Nat → Option Ob} {I : IM} {R : RM} {w : World}
theorem Wz.injA (h : Wz W K I R w) {i j : Nat} {oi oj : Ob} {p q : Loc} (hi : K i = some oi) (hj : K j = some oj) (hp : I i = some p) (hq : I j = some q) (he : p.b = q.b) : i = j := by
 have kind : ∀ {i j : Nat} {b : Blk} {o : Ob} {p q : Loc}, K i = some (.b b) → K j = some o → o.nb = true → I i = some p → I j = some q → p.b = q.b → False := fun {i j b o p q} hi hj hn hp hq he => by
  obtain ⟨p', hp', hk⟩ := h.wd.blk i b (by simp [blkOf, hi])
  rw [hp] at hp'; cases hp'
  obtain ⟨cs, hc, _⟩ := hk.mem
  obtain ⟨q', hq', ho, _⟩ := h.ob j o hj hn
  rw [hq] at hq'; cases hq'
  obtain ⟨x, hx, hxc⟩ := ho.kind hn
  rw [← he, hc] at hx
  cases hx; cases hxc
 cases hni : oi.nb with
 | true => cases hnj : oj.nb with
  | true => exact h.inj i j oi oj p q hi hj hni hnj hp hq he
  | false => cases oj with
   | b x => exact (kind hj hi hni hq hp he.symm).elim
   | m _ => cases hnj
   | l _ => cases hnj
   | i _ => cases hnj
 | false => cases oi with
  | b x => cases hnj : oj.nb with
   | true => exact (kind hi hj hnj hp hq he).elim
   | false => cases oj with
    | b y => exact h.wd.inj i j x y p q (by simp [blkOf, hi]) (by simp [blkOf, hj]) hp hq he
    | m _ => cases hnj
    | l _ => cases hnj
    | i _ => cases hnj
  | m _ => cases hni
  | l _ => cases hni
  | i _ => cases hni
theorem Wz.roA (h : Wz W K I R w) {i : Nat} {o : Ob} {p : Loc} (hi : K i = some o) (hp : I i = some p) (f : Bool) (off : Nat) : R f p.b off = none := by
 cases hn : o.nb with
 | true =>
  cases hq : R f p.b off with
  | none => rfl
  | some u =>
   obtain ⟨x, hx, hc⟩ := cells_of_cell (h.wd.ro f _ _ u hq)
   obtain ⟨q', hq', ho, _⟩ := h.ob i o hi hn
   rw [hp] at hq'; cases hq'
   obtain ⟨y, hy, hyc⟩ := ho.kind hn
   simp only at hx
   rw [hx] at hy; cases hy
   rw [hc] at hyc; cases hyc
 | false => cases o with
  | b x => exact h.wd.apart i x p f off (by simp [blkOf, hi]) hp
  | m _ => cases hn
  | l _ => cases hn
  | i _ => cases hn
theorem Wz.zA (h : Wz W K I R w) {i : Nat} {o : Ob} {p : Loc} (hi : K i = some o) (hp : I i = some p) : ¬ W.z p.b := by
 cases hn : o.nb with
 | true =>
  obtain ⟨q', hq', ho, hz⟩ := h.ob i o hi hn
  rw [hp] at hq'; cases hq'; exact hz
 | false => cases o with
  | b x => exact h.wd.base i x p (by simp [blkOf, hi]) hp
  | m _ => cases hn
  | l _ => cases hn
  | i _ => cases hn
theorem Wz.domA (h : Wz W K I R w) {i : Nat} {o : Ob} (hi : K i = some o) : ∃ p, I i = some p := by
 cases hn : o.nb with
 | true => obtain ⟨p, hp, _⟩ := h.ob i o hi hn; exact ⟨p, hp⟩
 | false => cases o with
  | b x => obtain ⟨p, hp, _⟩ := h.wd.blk i x (by simp [blkOf, hi]); exact ⟨p, hp⟩
  | m _ => cases hn
  | l _ => cases hn
  | i _ => cases hn
end
theorem ObOk.rel_in {l : List Nat} {I : IM} {R : RM} {o : Ob} {p : Loc} {w : World} (hin : o.inB l = true) (h : ObOk I R o p w) : ObOk (onI l I) R o p w := by
 cases o with
 | b x => trivial
 | m es =>
  obtain ⟨ents, h1, h2⟩ := h.mem
  refine ⟨ents, h1, h2.mono_mem fun c hc b hb => ⟨hb.1, A0.rel_in (List.all_eq_true.1 hin c hc) hb.2⟩⟩
 | l x =>
  obtain ⟨rc, h1, h2, h3, h4, h5, h6, h7⟩ := h.mem
  exact ⟨rc, h1, h2, h3, h4, h5, h6, fun t y hy => AV.rel_in (Bt.allB_get hin hy) (h7 t y hy)⟩
 | i x => obtain ⟨pm, h1, h2⟩ := h.mem; exact ⟨pm, (onI_in hin).trans h1, h2⟩
section
open Classical
theorem in_effE {P : Program} {c : Ce} {avs : List AV} {Kl Kp Kx : Nat → Option Ob} {top : Nat} (l : List Nat) {res : AV} {D : Kr} {t' : Nat} (hlt : l.all (fun i => Nat.blt i top) = true) (hav : avs.all (AV.inB l) = true) (hcap : c.inB l = true)
  (hout : ∀ i b, Kp i = some b → l.contains i = true) (heq : ∀ i, l.contains i = true → Kp i = Kl i) (hK : ∀ i b, Kp i = some b → b.inB l = true) (h : CallX P c avs Kp top res Kx t') (hKx : ∀ j, Kx j = kup Kp D j) : CEff P c avs Kl top ⟨res, l, D, t'⟩ := by
 intro W K I R w v vs hw hv hu hk hfree
 simp only at hk hfree
 have hmem : ∀ {i : Nat}, l.contains i = true → i ∈ l := fun h => by simpa using h
 let W' : Wo := ⟨w, fun k => k < w.heap.size ∧ (W.z k ∨ ∃ i o p, l.contains i = false ∧ K i = some o ∧ I i = some p ∧ p.b = k), fun k => W.q k ∨ ∃ i b p, l.contains i = false ∧ K i = some (.b b) ∧ I i = some p ∧ p.b = k⟩
 have hKin : ∀ {i b}, Kp i = some b → l.contains i = true ∧ K i = some b := fun h =>
  let h1 := hout _ _ h; ⟨h1, (hk _ (hmem h1)).trans ((heq _ h1).symm.trans h)⟩
 have hIin : ∀ {i p}, onI l I i = some p → l.contains i = true ∧ I i = some p := fun {i p} h => by
  unfold onI at h
  split at h
  ·rename_i hc; exact ⟨hc, h⟩
  ·cases h
 have hnz : ∀ {i o p}, Kp i = some o → onI l I i = some p → ¬ W'.z p.b := fun {i o p} hi hp hz => by
  obtain ⟨h1, h2⟩ := hKin hi
  rcases hz.2 with hz | ⟨i', o', p', g1, g2, g3, g4⟩
  ·exact hw.zA h2 (hIin hp).2 hz
  ·have := hw.injA g2 h2 g3 (hIin hp).2 g4
   subst this
   rw [g1] at h1; cases h1
 have hwz : Wz W' Kp (onI l I) R w := by
  refine ⟨⟨?_, ?_, fun i b p hb hp => hnz (blkOf_some hb) hp, hw.wd.ro, ?_, ?_, hw.wd.less, ⟨rfl, rfl, rfl, Nat.le_refl _, fun k hk => ⟨hk.1, rfl⟩, Nat.le_refl _⟩, ?_, ?_⟩, ?_, ?_⟩
  ·intro i b hb
   obtain ⟨h1, h2⟩ := hKin (blkOf_some hb)
   obtain ⟨p, hp, g1, g2, g3, g4, cs, g5, g6, g7⟩ := hw.wd.blk i b (by simp [blkOf, h2])
   refine ⟨p, (onI_in h1).trans hp, g1, g2, g3, g4, cs, g5, g6, fun q r k c hq hc => ?_⟩
   obtain ⟨u, hu, hr⟩ := g7 q r k c hq hc
   have hin := hK _ _ (blkOf_some hb)
   exact ⟨u, hu, Ce.rel_in (List.all_eq_true.1 (List.all_eq_true.1 hin r (List.mem_of_getElem? hq)) c (List.mem_of_getElem? hc)) hr⟩
  ·intro i j bi bj p q hi hj hp hq he
   exact hw.injA (hKin (blkOf_some hi)).2 (hKin (blkOf_some hj)).2 (hIin hp).2 (hIin hq).2 he
  ·intro i b p f o hb hp
   exact hw.roA (hKin (blkOf_some hb)).2 (hIin hp).2 f o
  ·intro b o u hu hz
   rcases hz.2 with hz | ⟨i', b', p', g1, g2, g3, g4⟩
   ·exact hw.wd.fresh b o u hu hz
   ·have := hw.roA g2 g3 true o
    rw [g4, hu] at this; cases this
  ·intro f b o u hu hz
   rcases hz with hz | ⟨i', b', p', g1, g2, g3, g4⟩
   ·exact hw.wd.out f b o u hu hz
   ·have := hw.roA g2 g3 f o
    rw [g4, hu] at this; cases this
  ·intro k hq
   rcases hq with hq | ⟨i', b', p', g1, g2, g3, g4⟩
   ·exact ⟨hw.wd.below.lt (hw.wd.qz _ hq), .inl (hw.wd.qz _ hq)⟩
   ·exact ⟨g4 ▸ hw.lt g2 g3, .inr ⟨i', _, p', g1, g2, g3, g4⟩⟩
  ·intro i o hi hn
   obtain ⟨h1, h2⟩ := hKin hi
   obtain ⟨p, hp, ho, _⟩ := hw.ob i o h2 hn
   exact ⟨p, (onI_in h1).trans hp, ho.rel_in (hK _ _ hi), hnz hi ((onI_in h1).trans hp)⟩
  ·intro i j oi oj p q hi hj _ _ hp hq he
   exact hw.injA (hKin hi).2 (hKin hj).2 (hIin hp).2 (hIin hq).2 he
 have hdom : ∀ j, top ≤ j → onI l I j = none := fun j hj => by
  unfold onI
  split
  ·rename_i hc
   have := List.all_eq_true.1 hlt j (hmem hc)
   rw [Nat.blt_eq] at this
   omega
  ·rfl
 have hv' : All2 (AV.rel (onI l I) R) avs vs := hv.mono_mem fun c hc b hb => AV.rel_in (List.all_eq_true.1 hav c hc) hb
 refine (h.2 W' _ R w v vs hwz hdom hv' (Ce.rel_in hcap hu)).mono ?_
 rintro e w' ⟨u, I', R', rfl, h', hd', hold, hR, hx⟩
 have htop := h.1
 have hI1 : ∀ {j p}, I' j = some p → j < t' ∧ ((l.contains j = true ∧ I j = some p ∧ j < top) ∨ (top ≤ j)) := fun {j p} hj => by
  have h1 : j < t' := by
   rcases Nat.lt_or_ge j t' with h1 | h1
   ·exact h1
   ·rw [hd' j h1] at hj; cases hj
  refine ⟨h1, ?_⟩
  rcases Nat.lt_or_ge j top with h2 | h2
  ·rw [hold j h2] at hj
   exact .inl ⟨(hIin hj).1, (hIin hj).2, h2⟩
  ·exact .inr h2
 let I2 : IM := fun j => if top ≤ j ∧ j < t' then I' j else I j
 have hI' : IExt I' I2 := fun j p hp => by
  obtain ⟨h1, h2⟩ := hI1 hp
  show (if top ≤ j ∧ j < t' then I' j else I j) = some p
  rcases h2 with ⟨_, h2, h3⟩ | h2
  ·rw [if_neg (by omega)]; exact h2
  ·rw [if_pos ⟨h2, h1⟩]; exact hp
 have hI : IExt I I2 := fun j p hp => by
  show (if top ≤ j ∧ j < t' then I' j else I j) = some p
  rw [if_neg]
  ·exact hp
  ·intro hj
   rw [(hfree j hj.1 hj.2).1] at hp; cases hp
 have hkey : ∀ {j b}, kup K D j = some b → (Kx j = some b) ∨ (l.contains j = false ∧ K j = some b) := fun {j b} hj => by
  by_cases hD : j ∈ D.map (·.1)
  ·refine .inl ?_
   rw [hKx, kup_one, ← kup1_in D j (K j) (Kp j) hD, ← kup_one]; exact hj
  ·rw [kup_out' hD] at hj
   cases hc : l.contains j with
   | false => exact .inr ⟨rfl, hj⟩
   | true =>
    refine .inl ?_
    rw [hKx, kup_out' hD]
    exact (heq _ hc).trans ((hk j (hmem hc)).symm.trans hj)
 have hfr : ∀ {j b p}, l.contains j = false → K j = some b → I j = some p → W'.z p.b := fun {j b p} h1 h2 h3 => ⟨hw.lt h2 h3, .inr ⟨j, b, p, h1, h2, h3, rfl⟩⟩
 have hzW : ∀ {k}, W.z k → W'.z k := fun {k} hk => ⟨hw.wd.below.lt hk, .inl hk⟩
 have hI2 : ∀ {j b p}, Kx j = some b → I2 j = some p → I' j = some p := fun {j b p} hj hp => by
  obtain ⟨p', hp'⟩ := h'.domA hj
  rw [hI' _ _ hp'] at hp
  cases hp; exact hp'
 have hI3 : ∀ {j b p}, K j = some b → I2 j = some p → I j = some p := fun {j b p} hj hp => by
  obtain ⟨p', hp'⟩ := hw.domA hj
  rw [hI _ _ hp'] at hp
  cases hp; exact hp'
 have hinj : ∀ {i j : Nat} {bi bj : Ob} {p q : Loc}, kup K D i = some bi → kup K D j = some bj → I2 i = some p → I2 j = some q → p.b = q.b → i = j := by
  intro i j bi bj p q hi hj hp hq he
  rcases hkey hi with hi | ⟨h1, hi⟩ <;> rcases hkey hj with hj | ⟨h2, hj⟩
  ·exact h'.injA hi hj (hI2 hi hp) (hI2 hj hq) he
  ·exact absurd (he ▸ hfr h2 hj (hI3 hj hq)) (h'.zA hi (hI2 hi hp))
  ·exact absurd (he ▸ hfr h1 hi (hI3 hi hp)) (h'.zA hj (hI2 hj hq))
  ·exact hw.injA hi hj (hI3 hi hp) (hI3 hj hq) he
 refine ⟨u, I2, R', rfl, ⟨⟨?_, fun i j bi bj p q hi hj => hinj (blkOf_some hi) (blkOf_some hj), ?_, h'.wd.ro, ?_, ?_, h'.wd.less, ?_, ?_, hw.wd.qz⟩, ?_, fun i j oi oj p q hi hj _ _ => hinj hi hj⟩, hI, fun j hj => if_neg hj, hR, AV.mono hI' (.refl _) hx⟩
 ·intro j b hj
  rcases hkey (blkOf_some hj) with hj | ⟨h1, h2⟩
  ·obtain ⟨p, hp, hb⟩ := h'.wd.blk j b (by simp [blkOf, hj])
   exact ⟨p, hI' _ _ hp, hb.mono hI' (.refl _) rfl⟩
  ·obtain ⟨p, hp, hb⟩ := hw.wd.blk j b (by simp [blkOf, h2])
   exact ⟨p, hI _ _ hp, hb.mono hI hR (h'.wd.below.block _ (hfr h1 h2 hp)).2⟩
 ·intro j b p hj hp hz
  rcases hkey (blkOf_some hj) with hj | ⟨h1, hj⟩
  ·exact h'.zA hj (hI2 hj hp) (hzW hz)
  ·exact hw.zA hj (hI3 hj hp) hz
 ·intro j b p f o hj hp
  rcases hkey (blkOf_some hj) with hj | ⟨h1, hj⟩
  ·exact h'.roA hj (hI2 hj hp) f o
  ·cases hq : R' f p.b o with
   | none => rfl
   | some u => exact absurd (Or.inr ⟨j, b, p, h1, hj, hI3 hj hp, rfl⟩) (h'.wd.out f _ o u hq)
 ·exact fun b o u hu hz => h'.wd.fresh b o u hu (hzW hz)
 ·exact ⟨h'.wd.below.os.trans hw.wd.below.os, h'.wd.below.tape.trans hw.wd.below.tape, h'.wd.below.output.trans hw.wd.below.output, Nat.le_trans hw.wd.below.size h'.wd.below.size, fun k hk => ⟨(hw.wd.below.block k hk).1, (h'.wd.below.block k (hzW hk)).2.trans (hw.wd.below.block k hk).2⟩, Nat.le_trans hw.wd.below.drawn h'.wd.below.drawn⟩
 ·exact fun f b o u hu hq => h'.wd.out f b o u hu (.inl hq)
 ·intro j o hj hn
  rcases hkey hj with hj | ⟨h1, hj⟩
  ·obtain ⟨p, hp, ho, hz⟩ := h'.ob j o hj hn
   exact ⟨p, hI' _ _ hp, ho.mono hI' (.refl _) rfl, fun hh => hz (hzW hh)⟩
  ·obtain ⟨p, hp, ho, hz⟩ := hw.ob j o hj hn
   exact ⟨p, hI _ _ hp, ho.mono hI hR (h'.wd.below.block _ (hfr h1 hj hp)).2, hz⟩
end
theorem e_call {P : Program} {dst : Option Tmp} {f : Operand} {xs : Array Operand} {ts : Array TypeId} {ty : TypeId} {pos : String} {after : Array Edge} {guard : Option (Nat × Bool)} {F0 : Nat → Option AV} {K0 : Nat → Option Ob} {top : Nat} {c : Ce} {avs : List AV} (hf : evf F0 f = some (.c c)) (hxs : evs F0 xs.toList = some avs)
  {e : Eff} (h : CEff P c avs K0 top e) : OpEff P ⟨dst, .call ⟨.value f, xs, ts⟩, ty, pos, after, guard⟩ F0 K0 top e := by
 intro r n W F K I R a w hs hx hk hfree hd next Q hn
 have hm : ∀ z ∈ f :: xs.toList, evf F z = evf F0 z := fun z hz => hx z (by simpa [Op.operands, Call.operands] using hz)
 have hev := hs.evs (evs_agree (fun x hx => hm x (List.mem_cons_of_mem _ hx)) hxs)
 refine upsx_op (h (mkW W a.defers w) K I R w _ _ (hs.wz.mk' hs.mks) hev (hs.ev ((hm f (by simp)).trans hf)) hk hfree) ?_
 rintro e' w' ⟨v, I', R', rfl, h1, h2, h3, h4, h5⟩
 obtain ⟨g1, g2⟩ := hs.wz.un hs.mks h1
 exact ⟨v, rfl, hn I' R' _ _ (hs.put h2 h4 g1 g2 hd h5) h2 h3 h4⟩
theorem restrict_get {K : Bt Ob} : ∀ {l : List Nat}, (∀ i ∈ l, i < big) → ∀ j, (restrict K l).get j = if l.contains j = true then K.get j else none
 | [], _, j => rfl
 | i :: r, h, j => by
  have hi := h i List.mem_cons_self
  simp only [big] at hi
  show (Bt.put 17 (restrict K r) i (K.get i)).get j = _
  rw [Bt.get_put 17 _ _ _ _ (by omega), restrict_get (fun x hx => h x (List.mem_cons_of_mem _ hx))]
  by_cases hj : j = i
  ·subst hj; simp
  ·rw [if_neg hj]
   have : (i :: r).contains j = r.contains j := by simp [hj]
   rw [this]
section
variable {P : Program} {C : CallFn} {T : Tab} {n : Nat} {ops : Array Oper}
theorem mapK_get {K' : Nat → Option Ob} {K : Nat → Option Ob} : ∀ (l : List Nat) (j : Nat), kup K (l.map fun j => (j, K' j)) j = if j ∈ l then K' j else K j
 | [], j => by simp [kup]
 | i :: r, j => by
  simp only [List.map_cons, kup, mapK_get r j]
  by_cases h : j = i
  ·subst h; simp
  ·rw [if_neg h]
   by_cases h2 : j ∈ r
   ·rw [if_pos h2, if_pos (List.mem_cons_of_mem _ h2)]
   ·rw [if_neg h2, if_neg (by simp [h, h2])]
theorem stepDE_sound (hT : TabOk P T) (hC : CallsOk P C) {o : Oper} {s : ES} {e : Eff} (h : stepDE C T n o s = some e) : OpEff P o s.F.get s.K.get s.top e := by
 obtain ⟨dst, op, ty, pos, after, guard⟩ := o
 unfold stepDE at h
 simp only at h
 split at h
 ·rename_i f xs hc
  unfold callOf at hc
  split at hc
  ·rename_i f' xs' ts
   simp only [Option.some.injEq, Prod.mk.injEq] at hc
   obtain ⟨rfl, rfl⟩ := hc
   split at h
   ·rename_i c avs hf hxs
    generalize hl : reachT s.K 4000 (c.refs2 ++ avs.flatMap AV.refs2) [] = l at h
    split at h
    ·rename_i hin
     split at h
     ·rename_i r hr
      simp only [Option.some.injEq] at h
      subst h
      obtain ⟨h1, h2⟩ := hC _ _ _ _ _ hr
      simp only [inE, Bool.and_eq_true] at hin
      obtain ⟨⟨⟨⟨g1, g2⟩, g3⟩, g4⟩, g5⟩ := hin
      have hlt : ∀ i ∈ l, i < big := fun i hi => by
       have a1 := List.all_eq_true.1 g1 i hi
       have a2 := Nat.le_of_ble_eq_true g2
       rw [Nat.blt_eq] at a1
       omega
      refine e_call hf hxs (in_effE l g1 g3 g4 (fun i b hb => ?_) (fun i hi => ?_) (fun i b hb => ?_) h1.x (fun j => ?_))
      ·rw [restrict_get hlt] at hb
       split at hb
       ·assumption
       ·cases hb
      ·rw [restrict_get hlt, if_pos hi]
      ·rw [restrict_get hlt] at hb
       split at hb
       ·rename_i hi
        have a1 := List.all_eq_true.1 g5 i (by simpa using hi)
        simp only [hb] at a1
        exact a1
       ·cases hb
      ·rw [mapK_get]
       by_cases hj : j ∈ r.log
       ·rw [if_pos (mem_dedup.2 hj)]
       ·rw [if_neg (fun hh => hj (mem_dedup.1 hh))]
        exact h2 j hj
     ·cases h
    ·cases h
   ·cases h
  ·cases hc
 ·exact opY_sound hT h
theorem drawE_sound (hT : TabOk P T) (hC : CallsOk P C) : ∀ (l : List Oper) (s s' : ES) (xs : List Ent), drawE C T n ops l s = some (xs, s') →
  xs.map (·.o) = l ∧ Chain P ops n xs s.F.get s.K.get s.top s'.F.get s'.K.get s'.top ∧ ∀ j, j ∉ s'.log → j ∉ s.log ∧ s'.K.get j = s.K.get j
 | [], s, s', xs, h => by
  simp only [drawE, Option.some.injEq, Prod.mk.injEq] at h
  obtain ⟨rfl, rfl⟩ := h
  exact ⟨rfl, ⟨rfl, rfl, rfl⟩, fun j hj => ⟨hj, rfl⟩⟩
 | o :: r, s, s', xs, h => by
  have hwant : ∀ b, wantE ops s.F o.guard = some b → (o.guard = none ∧ b = true) ∨ ∃ g want t, o.guard = some (g, want) ∧ (ops[g]?).bind (·.dst) = some t ∧ ((∃ v, s.F.get t = some (.val (.bool v)) ∧ b = (v == want)) ∨ (b = false ∧ ∃ l, s.F.get t = some (.val (.tuple l)))) := by
   intro b hb
   unfold wantE at hb
   split at hb
   ·rename_i hg
    simp only [Option.some.injEq] at hb
    exact .inl ⟨hg, hb.symm⟩
   ·rename_i g want hg
    refine .inr ⟨g, want, ?_⟩
    split at hb
    ·rename_i t hd
     refine ⟨t, hg, hd, ?_⟩
     split at hb
     ·rename_i v ht
      simp only [Option.some.injEq] at hb
      exact .inl ⟨v, ht, hb.symm⟩
     ·rename_i l ht
      simp only [Option.some.injEq] at hb
      exact .inr ⟨hb.symm, l, ht⟩
     ·cases hb
    ·cases hb
  unfold drawE at h
  split at h
  ·rename_i hd hw
   split at h
   ·rename_i e he
    split at h
    ·rename_i hle hkw
     split at h
     ·rename_i xs' s2 hr
      simp only [Option.some.injEq, Prod.mk.injEq] at h
      obtain ⟨rfl, rfl⟩ := h
      obtain ⟨h1, h2, h3⟩ := drawE_sound hT hC r _ _ _ hr
      simp only at h2 h3
      rw [getF_put (dstE_b hd), getK_put hkw] at h2
      refine ⟨by simp [h1], ⟨⟨dstE_n hd, Nat.le_of_ble_eq_true hle, stepDE_sound hT hC he, ?_⟩, rfl, h2⟩, fun j hj => ?_⟩
      ·rcases hwant _ hw with ⟨hg, _⟩ | ⟨g, want, t, g1, g2, g3⟩
       ·exact .inl hg
       ·rcases g3 with ⟨v, g3, g4⟩ | ⟨g3, _⟩
        ·exact .inr ⟨g, want, t, v, g1, g2, g3, g4.symm⟩
        ·cases g3
      ·obtain ⟨a1, a2⟩ := h3 j hj
       simp only [List.mem_append, not_or] at a1
       refine ⟨a1.2, a2.trans ?_⟩
       rw [getK_put hkw]
       exact kup_out' a1.1
     ·cases h
    ·cases h
   ·cases h
  ·rename_i hd hw
   split at h
   ·rename_i xs' s2 hr
    simp only [Option.some.injEq, Prod.mk.injEq] at h
    obtain ⟨rfl, rfl⟩ := h
    obtain ⟨h1, h2, h3⟩ := drawE_sound hT hC r _ _ _ hr
    simp only at h2 h3
    rw [getF_put (dstE_b hd)] at h2
    refine ⟨by simp [h1], ⟨⟨dstE_n hd, Nat.le_refl _, rfl, rfl, rfl, rfl, ?_⟩, rfl, h2⟩, h3⟩
    rcases hwant _ hw with ⟨_, hg⟩ | ⟨g, want, t, g1, g2, g3⟩
    ·cases hg
    ·refine ⟨g, want, t, g1, g2, ?_⟩
     rcases g3 with ⟨v, g3, g4⟩ | ⟨_, l, g3⟩
     ·exact .inl ⟨v, g3, g4.symm⟩
     ·exact .inr ⟨l, g3⟩
   ·cases h
  ·cases h
theorem loopE_sound {rd : Option Nat} {c : Code} {body : ES → Option (Exit × ES)} (hb : ∀ s e s', body s = some (e, s') → Goes P n rd c s e s') : ∀ (f : Nat) (s : ES) (e : Exit) (s' : ES), loopE body f s = some (e, s') → Goes P n rd (.loop c) s e s' := by
 intro f s e s' h
 have step : ∀ (f : Nat) (s : ES), loopE body f s = some (e, s') → s.top ≤ s'.top ∧ (∀ j, j ∉ s'.log → j ∉ s.log ∧ s'.K.get j = s.K.get j) ∧
   ∀ (W : Wo) (I : IM) (R : RM) (a : Act) (w : World) (r : Option Nat), RdOk I rd r → St n W s.F.get s.K.get I R a w → (∀ j, s.top ≤ j → I j = none) →
    ∀ Q : Exit → Act → World → Prop, (∀ a' w' I' R', St n W s'.F.get s'.K.get I' R' a' w' → (∀ j, s'.top ≤ j → I' j = none) → (∀ j, j < s.top → I' j = I j) → RExt R R' → Q e a' w') → Code.roundsIn (fr r) 0 P c Q f a w := by
  intro f
  induction f with
  | zero => intro s h; cases h
  | succ f ih =>
   intro s h
   unfold loopE at h
   split at h
   ·rename_i s1 h1
    obtain ⟨a1, a2, a3⟩ := hb _ _ _ h1
    obtain ⟨b1, b2, b3⟩ := ih s1 h
    refine ⟨Nat.le_trans a1 b1, fun j hj => ?_, fun W I R a w r hr hs hd Q hn => ?_⟩
    ·obtain ⟨c1, c2⟩ := b2 j hj
     obtain ⟨c3, c4⟩ := a2 j c1
     exact ⟨c3, c2.trans c4⟩
    ·rw [roundsIn_succ]
     refine wpIn_mono (a3 W I R a w r hr hs hd) ?_
     rintro e2 a2 w2 ⟨rfl, I2, R2, k1, k2, k4, k5⟩
     exact b3 W I2 R2 a2 w2 r (hr.mono (ext_of hd k4)) k1 k2 Q fun a3 w3 I3 R3 j1 j2 j4 j5 => hn a3 w3 I3 R3 j1 j2 (fun j hj => (j4 j (by omega)).trans (k4 j hj)) (k5.trans j5)
   ·rename_i hne
    obtain ⟨a1, a2, a3⟩ := hb _ _ _ h
    refine ⟨a1, a2, fun W I R a w r hr hs hd Q hn => ?_⟩
    rw [roundsIn_succ]
    refine wpIn_mono (a3 W I R a w r hr hs hd) ?_
    rintro e2 a2 w2 ⟨rfl, I2, R2, k1, k2, k4, k5⟩
    have fin := hn a2 w2 I2 R2 k1 k2 k4 k5
    cases e2 with
    | normal => exact absurd h (hne _)
    | _ => exact fin
 obtain ⟨s1, s2, s3⟩ := step f s h
 exact ⟨s1, s2, fun W I R a w r hr hs hd => wpIn_loop_rounds f (s3 W I R a w r hr hs hd _ fun a' w' I' R' k1 k2 k3 k4 => ⟨rfl, I', R', k1, k2, k3, k4⟩)⟩
theorem range_end {W : Wo} {K : Nat → Option Ob} {I : IM} {R : RM} {w : World} {j : Nat} {lb : LB} (h : Wz W K I R w) (hk : K j = some (.l lb)) : ∃ p rc, I j = some p ∧ w.heap[p.b]? = some (.loop rc) ∧ recOk lb.st rc ∧ ∀ st, Wz W (upd K j none) I R (w.putObj p.b (.loop { rc with state := st })) := by
 obtain ⟨p, hp, ho, _⟩ := h.ob j _ hk rfl
 obtain ⟨rc, h1, _, _, _, _, h6, _⟩ := ho.mem
 exact ⟨p, rc, hp, h1, h6, fun st => h.put hk hp h1 (.inl rfl)⟩
theorem mk_put {W : Wo} {w : World} {l : Nat} {rc : Loop} {o : Obj} (hr : w.heap[l]? = some (.loop rc)) {ds : List Deferred} (h : Mk W ds w) : Mk W ds (w.putObj l o) :=
 h.mono fun D hD => World.putObj_heap_other (by rintro rfl; rw [hr] at hD; cases hD)
theorem range_core (hC : CallsOk P C) {r : Option Nat} {g : Operand} {ps : Array Tmp} {assign body : Code} {s s' : ES} {e : Exit} {f : FuncId} {cap : List Pt} {cr : CR} (hg : evf s.F.get g = some (.c (.fn f cap))) (hbig : s.top < big)
  (hcr : C (.fn f cap) [.pl (.one (.yl s.top))] (setK s.K s.top (some (.l ⟨n, s.F, ps, assign, body, .ready⟩))) (s.top + 1) = some cr)
  {lb : LB} (hlb : cr.K.get s.top = some (.l lb)) (he : (lb.st = .ready ∧ e = .normal) ∨ (lb.st = .done .ret ∧ e = .ret) ∨ ∃ id, lb.st = .done (.exit id) ∧ e = .exit id) (hs' : s' = ⟨s.F, setK cr.K s.top none, cr.top, s.top :: (cr.log ++ s.log)⟩)
  {W : Wo} {I : IM} {R : RM} {a : Act} {w : World} (hs : St n W s.F.get s.K.get I R a w) (hd : ∀ j, s.top ≤ j → I j = none) {fn : FuncId} {l : Nat} {mark : List Deferred} {w1 : World} (hen : (Instr.enterLoop fn a.tmps ps assign body r).run P w = .ok (l, mark) w1)
  (hI : I s.top = none) (hz1 : Wz W (upd s.K.get s.top (some (.l ⟨n, s.F, ps, assign, body, .ready⟩))) (Wx.ext I s.top ⟨l, 0, 0⟩) R w1) (hm1 : Mk W (mark ++ a.defers) w1) :
  ∃ (l : Nat) (mark : List Deferred) (w₁ : World) (d : Deferred) (w₁' : World) (f : FuncId) (args : Array Value) (w₂ : World),
   (Instr.enterLoop fn a.tmps ps assign body (fr r).round).run P w = .ok (l, mark) w₁ ∧
   (resolve a.eval (rangeCall g l) 0).run P w₁ = .ok d w₁' ∧
   (∀ f', Target.leads P w₁' d.target d.args = some f' → (fr r).fn f') ∧
   (invoke d.target d.args).run P w₁' = .ok (.enter f args) w₂ ∧
   ((fr r).depth.isSome = true → 1 ≤ 0) ∧
   CallsIn (fr r) (0 - 1) P f args w₂ (rangePost (fr r) 0 P l (fun e' a' w' => e' = e ∧ ∃ I' R', St n W s'.F.get s'.K.get I' R' a' w' ∧ (∀ j, s'.top ≤ j → I' j = none) ∧ (∀ j, j < s.top → I' j = I j) ∧ RExt R R') { a with defers := mark ++ a.defers }) := by
 subst hs'
 obtain ⟨us, hus, hfu⟩ : ∃ vs, All2 (Pt.rel I) cap vs ∧ a.eval g = .func (.func f) #[] vs.toArray := hs.ev hg
 have hIe : IExt I (Wx.ext I s.top ⟨l, 0, 0⟩) := .ext hI
 obtain ⟨⟨h2, h3⟩, h4⟩ := hC _ _ _ _ _ hcr
 rw [setK_get hbig] at h3
 have hd1 : ∀ j, s.top + 1 ≤ j → (Wx.ext I s.top ⟨l, 0, 0⟩) j = none := fun j hj => by
  unfold Wx.ext; rw [if_neg (by omega)]; exact hd j (by omega)
 have hyl : (AV.pl (.one (.yl s.top))).rel (Wx.ext I s.top ⟨l, 0, 0⟩) R (.func (.yield l) #[] #[]) := ⟨⟨l, 0, 0⟩, by simp [Wx.ext], rfl⟩
 have hcall := h3 (mkW W (mark ++ a.defers) w1) _ R w1 (.func (.func f) #[] us.toArray) [.func (.yield l) #[] #[]] (hz1.mk' hm1) hd1 ⟨hyl, trivial⟩ ⟨us, hus.mono fun _ _ h => Pt.mono hIe h, rfl⟩
 obtain ⟨g', fs', us', hv, hb, hcalls⟩ := hcall.resolve_right (fun ⟨_, _, _, _, _, hv, _⟩ => by cases hv)
 simp only [Value.func.injEq, Fn.func.injEq] at hv
 obtain ⟨rfl, rfl, rfl⟩ := hv
 rw [Array.empty_append] at hcalls
 refine ⟨l, mark, w1, ⟨.fn (.func f) us.toArray, #[.func (.yield l) #[] #[]]⟩, w1, f, #[.func (.yield l) #[] #[]] ++ us.toArray, w1, ?_, ?_, ?_, ?_, ?_, ?_⟩
 ·rw [show (fr r).round = r from rfl]; exact hen
 ·simp [resolve, hfu, Deferred.ofValue, show ∀ v, a.eval (.const v) = v from fun _ => rfl]
 ·exact fun _ _ => trivial
 ·simp [invoke, fnB_call hb]
 ·exact fun hh => (by cases hh)
 refine calls_fr (Calls.mono hcalls ?_)
 rintro e' w3 ⟨u, I', R', rfl, hw3, hd3, ho3, hR3, _⟩
 obtain ⟨g1, g2⟩ := hz1.un hm1 hw3
 have hI' : IExt I I' := hIe.trans (ext_of hd1 ho3)
 obtain ⟨p, rc, p1, p2, p3, p4⟩ := range_end g1 hlb
 have hpl : p.b = l := by
  have : I' s.top = some ⟨l, 0, 0⟩ := (ho3 s.top (by omega)).trans (by simp [Wx.ext])
  rw [p1] at this; cases this; rfl
 have hfin : ∃ I'_1 R'_1, St n W s.F.get (setK cr.K s.top none).get I'_1 R'_1 { a with defers := mark ++ a.defers } (w3.putObj l (.loop { rc with state := .exhausted })) ∧ (∀ j, cr.top ≤ j → I'_1 j = none) ∧ (∀ j, j < s.top → I'_1 j = I j) ∧ RExt R R'_1 := by
  refine ⟨I', R', ⟨hs.size, mk_put (hpl ▸ p2) g2, fun t x hx => AV.mono hI' hR3 (hs.fr t x hx), ?_⟩, hd3, fun j hj => (ho3 j (by omega)).trans ?_, hR3⟩
  ·rw [setK_get hbig, ← hpl]
   exact p4 _
  ·unfold Wx.ext; rw [if_neg (by omega)]
 have hend : rc.state ≠ .busy → (Instr.endLoop l).run P w3 = .ok rc.pending (w3.putObj l (.loop { rc with state := .exhausted })) := fun hb => run_endLoop (hpl ▸ p2) hb
 rcases he with ⟨h1, rfl⟩ | ⟨h1, rfl⟩ | ⟨id, h1, rfl⟩
 ·rw [h1] at p3
  refine ⟨none, _, (hend (by rw [p3.1]; exact fun h => (by cases h))).trans (by rw [p3.2]), rfl, hfin⟩
 ·rw [h1] at p3
  obtain ⟨q1, c, q2, q3⟩ := p3
  cases q2
  exact ⟨some .ret, _, (hend (by rw [q1]; exact fun h => (by cases h))).trans (by rw [q3]), wpIn_ret ⟨rfl, hfin⟩⟩
 ·rw [h1] at p3
  obtain ⟨q1, c, q2, q3⟩ := p3
  cases q2
  exact ⟨some (.exit id), _, (hend (by rw [q1]; exact fun h => (by cases h))).trans (by rw [q3]), wpIn_exit ⟨rfl, hfin⟩⟩
theorem rangeE_sound (hC : CallsOk P C) {rd : Option Nat} {g : Operand} {ps : Array Tmp} {assign body : Code} {s s' : ES} {e : Exit} (h : rangeE C n rd g ps assign body s = some (e, s')) : Goes P n rd (.rangeFunc g ps assign body) s e s' := by
 unfold rangeE at h
 split at h
 ·rename_i f cap hg
  split at h
  ·rename_i hb hin
   split at h
   ·rename_i cr hcr
    have hbig : s.top < big := by simpa [Nat.blt_eq] using hb
    split at h
    ·rename_i lb hlb
     have key : ∀ {e : Exit}, ((lb.st = .ready ∧ e = .normal) ∨ (lb.st = .done .ret ∧ e = .ret) ∨ ∃ id, lb.st = .done (.exit id) ∧ e = .exit id) → s' = ⟨s.F, setK cr.K s.top none, cr.top, s.top :: (cr.log ++ s.log)⟩ → Goes P n rd (.rangeFunc g ps assign body) s e s' := by
      intro e he hs'
      obtain ⟨⟨h2, h3⟩, h4⟩ := hC _ _ _ _ _ hcr
      refine ⟨by subst hs'; simp only; omega, fun j hj => ?_, fun W I R a w r hr hs hd => wpIn_rangeFunc fun fn _ => ?_⟩
      ·subst hs'
       simp only [List.mem_cons, List.mem_append, not_or] at hj
       refine ⟨hj.2.2, ?_⟩
       simp only
       rw [setK_get hbig, upd_other hj.1, h4 j hj.2.1, setK_get hbig, upd_other hj.1]
      ·have hKn : s.K.get s.top = none := by
        cases hq : s.K.get s.top with
        | none => rfl
        | some o => obtain ⟨p, hp⟩ := hs.dom hq; rw [hd s.top (Nat.le_refl _)] at hp; cases hp
       have hI0 := hd s.top (Nat.le_refl _)
       have lok : ∀ (W1 : World) (dd : Nat), LoopOk (Wx.ext I s.top ⟨W1.heap.size, 0, 0⟩) R ⟨n, s.F, ps, assign, body, .ready⟩ ⟨W1.heap.size, 0, 0⟩ (W1.alloc (.loop { state := .ready, pending := none, fn, tmps := a.tmps, params := ps, assign, body, defers := dd })) := fun W1 dd => ⟨_, World.alloc_heap_new _ _, rfl, rfl, rfl, hs.size, ⟨rfl, rfl⟩, fun t y hy => AV.mono (.ext hI0) (.refl _) (hs.fr t y hy)⟩
       cases rd with
       | none =>
        cases hr
        have hz0 : Wz W s.K.get I R (w.alloc (.deferred (some []))) := hs.wz.grow ((Bel.refl _ w).alloc (Nat.le_refl _) _)
        refine range_core hC hg hbig hcr hlb he hs' hs hd (run_enterLoop_outer fn a.tmps ps assign body) hI0 ?_ ?_
        ·have := hz0.laid hI0 hKn (lok (w.alloc (.deferred (some []))) w.heap.size)
         rw [show (w.alloc (Obj.deferred (some []))).heap.size = w.heap.size + 1 by simp] at this
         exact this
        ·refine ⟨⟨w.heap.size, rfl, alloc_at (World.alloc_heap_new _ _), fun hz => ?_, fun d' hd' D' hD' => ?_⟩, ?_⟩
         ·exact absurd (hs.wz.wd.below.lt hz) (Nat.lt_irrefl _)
         ·have := (hs.mks.at d' hd' D' hD').1
          have := (Array.getElem?_eq_some_iff.1 this).1
          omega
         ·exact hs.mks.mono fun D hD => by
           have hlt := (Array.getElem?_eq_some_iff.1 hD).1
           rw [alloc_old _ _ (by simp; omega), alloc_old _ _ hlt]
       | some j0 =>
        obtain ⟨p0, hp0, rfl⟩ := hr
        unfold rdIn at hin
        simp only at hin
        split at hin
        ·rename_i lb0 hlb0
         obtain ⟨p1, hp1, ho1, _⟩ := hs.wz.ob j0 _ hlb0 rfl
         rw [hp0] at hp1; cases hp1
         obtain ⟨rc0, hrc0, _⟩ := ho1.mem
         refine range_core hC hg hbig hcr hlb he hs' hs hd (run_enterLoop_inner hrc0 fn a.tmps ps assign body) hI0 (hs.wz.laid hI0 hKn (lok w rc0.defers)) ?_
         exact hs.mks.mono fun D hD => alloc_old _ _ (Array.getElem?_eq_some_iff.1 hD).1
        ·cases hin
     split at h
     ·rename_i hst
      simp only [Option.some.injEq, Prod.mk.injEq] at h
      obtain ⟨rfl, rfl⟩ := h
      exact key (.inl ⟨hst, rfl⟩) rfl
     ·rename_i hst
      simp only [Option.some.injEq, Prod.mk.injEq] at h
      obtain ⟨rfl, rfl⟩ := h
      exact key (.inr (.inl ⟨hst, rfl⟩)) rfl
     ·rename_i id hst
      simp only [Option.some.injEq, Prod.mk.injEq] at h
      obtain ⟨rfl, rfl⟩ := h
      exact key (.inr (.inr ⟨id, hst, rfl⟩)) rfl
     ·cases h
    ·cases h
   ·cases h
  ·cases h
 ·cases h
theorem codeE_sound (hT : TabOk P T) (hmix : P.follows .mixedOrders = true) (hC : CallsOk P C) {lf : Nat} {rd : Option Nat} : ∀ (c : Code) (s : ES) (e : Exit) (s' : ES), codeE C T n lf rd c s = some (e, s') → Goes P n rd c s e s'
 | .skip, s, e, s', h => by
  simp only [codeE, Option.some.injEq, Prod.mk.injEq] at h
  obtain ⟨rfl, rfl⟩ := h
  exact ⟨Nat.le_refl _, fun j hj => ⟨hj, rfl⟩, fun W I R a w r hr hs hd => wpIn_skip ⟨rfl, I, R, hs, hd, fun _ _ => rfl, .refl _⟩⟩
 | .region id ops draw, s, e, s', h => by
  unfold codeE at h
  cases draw with
  | false =>
   simp only at h
   split at h
   ·rename_i s1 h1
    simp only [Option.some.injEq, Prod.mk.injEq] at h
    obtain ⟨rfl, rfl⟩ := h
    obtain ⟨a1, a2, a3⟩ := runE_sound hT hC ops _ _ _ h1
    exact ⟨a1, a2, fun W I R a w r hr hs hd => wpIn_region_list (a3 W I R a w r hs hd _ fun a' w' I' R' k1 k2 k3 k4 => ⟨rfl, I', R', k1, k2, k3, k4⟩)⟩
   ·cases h
  | true =>
   simp only at h
   split at h
   ·rename_i xs s1 h1
    split at h
    ·rename_i hap
     simp only [Option.some.injEq, Prod.mk.injEq] at h
     obtain ⟨rfl, rfl⟩ := h
     obtain ⟨a1, a2, a3⟩ := drawE_sound hT hC _ _ _ _ h1
     exact ⟨a2.at.2.2.2.1, a3, fun W I R a w r hr hs hd => chain_region hmix a1 a2 hap hs hd fun a' w' I' R' k1 k2 k3 k4 => ⟨rfl, I', R', k1, k2, k3, k4⟩⟩
    ·cases h
   ·cases h
 | .seq x y, s, e, s', h => by
  unfold codeE at h
  split at h
  ·rename_i s1 h1
   obtain ⟨a1, a2, a3⟩ := codeE_sound hT hmix hC x _ _ _ h1
   obtain ⟨b1, b2, b3⟩ := codeE_sound hT hmix hC y _ _ _ h
   refine ⟨Nat.le_trans a1 b1, fun j hj => ?_, fun W I R a w r hr hs hd => wpIn_seq (wpIn_mono (a3 W I R a w r hr hs hd) ?_)⟩
   ·obtain ⟨c1, c2⟩ := b2 j hj
    obtain ⟨c3, c4⟩ := a2 j c1
    exact ⟨c3, c2.trans c4⟩
   ·rintro e1 a' w' ⟨rfl, I', R', k1, k2, k3, k4⟩
    refine wpIn_mono (b3 W I' R' a' w' r (hr.mono (ext_of hd k3)) k1 k2) ?_
    rintro e2 a2 w2 ⟨rfl, I2, R2, j1, j2, j3, j4⟩
    exact ⟨rfl, I2, R2, j1, j2, fun j hj => (j3 j (by omega)).trans (k3 j hj), k4.trans j4⟩
  ·rename_i hne
   obtain ⟨a1, a2, a3⟩ := codeE_sound hT hmix hC x _ _ _ h
   refine ⟨a1, a2, fun W I R a w r hr hs hd => wpIn_seq (wpIn_mono (a3 W I R a w r hr hs hd) ?_)⟩
   rintro e1 a' w' ⟨rfl, I', R', k1, k2, k3, k4⟩
   have fin : e1 = e1 ∧ ∃ I' R', St n W s'.F.get s'.K.get I' R' a' w' ∧ (∀ j, s'.top ≤ j → I' j = none) ∧ (∀ j, j < s.top → I' j = I j) ∧ RExt R R' := ⟨rfl, I', R', k1, k2, k3, k4⟩
   cases e1 with
   | normal => exact absurd h (hne _)
   | _ => exact fin
 | .cond c x y, s, e, s', h => by
  unfold codeE at h
  split at h
  ·rename_i hc
   obtain ⟨a1, a2, a3⟩ := codeE_sound hT hmix hC x _ _ _ h
   exact ⟨a1, a2, fun W I R a w r hr hs hd => wpIn_cond_split (t := true) (hs.ev hc) (fun _ => a3 W I R a w r hr hs hd) (fun h => by cases h)⟩
  ·rename_i hc
   obtain ⟨a1, a2, a3⟩ := codeE_sound hT hmix hC y _ _ _ h
   exact ⟨a1, a2, fun W I R a w r hr hs hd => wpIn_cond_split (t := false) (hs.ev hc) (fun h => by cases h) (fun _ => a3 W I R a w r hr hs hd)⟩
  ·cases h
 | .block id c, s, e, s', h => by
  unfold codeE at h
  split at h
  ·rename_i i s1 h1
   obtain ⟨a1, a2, a3⟩ := codeE_sound hT hmix hC c _ _ _ h1
   split at h
   ·rename_i hb
    simp only [Option.some.injEq, Prod.mk.injEq] at h
    obtain ⟨rfl, rfl⟩ := h
    refine ⟨a1, a2, fun W I R a w r hr hs hd => wpIn_block (wpIn_mono (a3 W I R a w r hr hs hd) ?_)⟩
    rintro e1 a' w' ⟨rfl, k⟩
    simp only [Exit.inBlock]
    rw [if_pos (Nat.eq_of_beq_eq_true hb)]
    first | exact ⟨rfl, k⟩ | exact ⟨trivial, k⟩
   ·rename_i hb
    simp only [Option.some.injEq, Prod.mk.injEq] at h
    obtain ⟨rfl, rfl⟩ := h
    refine ⟨a1, a2, fun W I R a w r hr hs hd => wpIn_block (wpIn_mono (a3 W I R a w r hr hs hd) ?_)⟩
    rintro e1 a' w' ⟨rfl, k⟩
    simp only [Exit.inBlock]
    rw [if_neg (Nat.ne_of_beq_eq_false hb)]
    first | exact ⟨rfl, k⟩ | exact ⟨trivial, k⟩
  ·rename_i hne
   obtain ⟨a1, a2, a3⟩ := codeE_sound hT hmix hC c _ _ _ h
   refine ⟨a1, a2, fun W I R a w r hr hs hd => wpIn_block (wpIn_mono (a3 W I R a w r hr hs hd) ?_)⟩
   rintro e1 a' w' ⟨rfl, k⟩
   cases e1 with
   | exit i => exact absurd h (hne _ _)
   | _ => exact ⟨rfl, k⟩
 | .loop c, s, e, s', h => by
  unfold codeE at h
  exact loopE_sound (fun s e s' h => codeE_sound hT hmix hC c s e s' h) _ _ _ _ h
 | .exit id, s, e, s', h => by
  simp only [codeE, Option.some.injEq, Prod.mk.injEq] at h
  obtain ⟨rfl, rfl⟩ := h
  exact ⟨Nat.le_refl _, fun j hj => ⟨hj, rfl⟩, fun W I R a w r hr hs hd => wpIn_exit ⟨rfl, I, R, hs, hd, fun _ _ => rfl, .refl _⟩⟩
 | .ret, s, e, s', h => by
  simp only [codeE, Option.some.injEq, Prod.mk.injEq] at h
  obtain ⟨rfl, rfl⟩ := h
  exact ⟨Nat.le_refl _, fun j hj => ⟨hj, rfl⟩, fun W I R a w r hr hs hd => wpIn_ret ⟨rfl, I, R, hs, hd, fun _ _ => rfl, .refl _⟩⟩
 | .label l, s, e, s', h => by
  simp only [codeE, Option.some.injEq, Prod.mk.injEq] at h
  obtain ⟨rfl, rfl⟩ := h
  exact ⟨Nat.le_refl _, fun j hj => ⟨hj, rfl⟩, fun W I R a w r hr hs hd => wpIn_label ⟨rfl, I, R, hs, hd, fun _ _ => rfl, .refl _⟩⟩
 | .rangeFunc g ps assign body, s, e, s', h => by
  unfold codeE at h
  exact rangeE_sound hC h
 | .scope _, s, e, s', h => by unfold codeE at h; cases h
 | .goto _, s, e, s', h => by unfold codeE at h; cases h
 | .refuse _, s, e, s', h => by unfold codeE at h; cases h
theorem resE_run (hT : TabOk P T) {W : Wo} {I : IM} {R : RM} {a : Act} {w : World} {s : ES} (hs : St n W s.F.get s.K.get I R a w) : ∀ (l : List ResultVar) (xs : List A0), resE T s l = some xs → ∃ vs, (l.mapM (resF a)).run P w = .ok vs w ∧ All2 (A0.rel I R) xs vs
 | [], xs, h => by simp only [resE, Option.some.injEq] at h; subst h; exact ⟨[], rfl, trivial⟩
 | .tmp t :: r, xs, h => by
  simp only [resE] at h
  split at h
  ·rename_i x l h1 h2
   simp only [Option.some.injEq] at h
   subst h
   obtain ⟨vs, g1, g2⟩ := resE_run hT hs r l h2
   have e1 : (AV.pl x).rel I R (a.tmps.getD t undef) := hs.fr t _ h1
   refine ⟨a.tmps.getD t undef :: vs, ?_, e1, g2⟩
   simp only [List.mapM_cons, resF, Sem.run_bind, Sem.run_pure, Result.andThen_ok, g1]
  ·cases h
 | .cell p t :: r, xs, h => by
  have hx : Wx.St n (stpB W (blkOf s.K.get) I R w) s.F.get (blkOf s.K.get) I R ⟨a.tmps, []⟩ w := ⟨hs.size, rfl, fun t y hy => hs.fr t y hy, wd_step hs.wz.wd⟩
  simp only [resE] at h
  split at h
  ·rename_i i q k ti l h1 h2 h3
   split at h
   ·rename_i b hb
    split at h
    ·rename_i row hr
     split at h
     ·rename_i v hv
      simp only [Option.some.injEq] at h
      subst h
      obtain ⟨vs, g1, g2⟩ := resE_run hT hs r l h3
      have e1 := hs.fr p _ h1
      obtain ⟨lc, hlc, hu⟩ : ∃ lc, I i = some lc ∧ a.tmps.getD p undef = .pointer (some ⟨lc.b, q * lc.sz + k, none⟩) := e1
      obtain ⟨lc', us, hlc', hsz, r1, r2, _⟩ := hx.row hb hr
      rw [hlc] at hlc'; cases hlc'
      obtain ⟨u, r3, r4⟩ := load_run (hT _ _ h2) r1 (b := lc.b) (off := q * lc.sz) r2 hv
      refine ⟨u :: vs, ?_, r4, g2⟩
      have r3' : (loadVar t ⟨lc.b, q * lc.sz + k, none⟩).run P w = .ok u w := by
       simpa [Instr.loadAt, Instr.sureAddr] using r3
      simp only [List.mapM_cons, resF, hu, asAddr, Sem.run_bind, Sem.run_pure, Result.andThen_ok, g1, r3']
     ·cases h
    ·cases h
   ·cases h
  ·cases h
theorem resE_results (hT : TabOk P T) {W : Wo} {I : IM} {R : RM} {a : Act} {w : World} {s : ES} (hs : St n W s.F.get s.K.get I R a w) {fn : Func} {xs : List A0} (h : resE T s fn.results.toList = some xs) : ∃ v, (results fn a.tmps).run P w = .ok v w ∧ (retV xs).rel I R v := by
 obtain ⟨vs, h1, h2⟩ := resE_run hT hs _ _ h
 have hf : Go.results fn a.tmps = (do let vs ← fn.results.mapM (resF a); pure (if h : vs.size = 1 then vs[0] else .tuple vs)) := by
  unfold Go.results
  congr 1
 have hr : fn.results = fn.results.toList.toArray := by simp
 rw [hf, hr, Sem.run_bind, List.mapM_toArray]
 simp only [map_eq_pure_bind, Sem.run_bind]
 rw [h1]
 simp only [Result.andThen_ok, Sem.run_pure, List.size_toArray]
 match xs, vs, h2 with
 | [], [], _ => exact ⟨_, rfl, [], rfl, trivial⟩
 | [x], [v], h2 => exact ⟨v, rfl, h2.1⟩
 | x :: y :: r, v :: u :: q, h2 => exact ⟨.tuple (v :: u :: q).toArray, by simp, _, rfl, h2⟩
 | [], _ :: _, h2 => exact h2.elim
 | _ :: _, [], h2 => exact h2.elim
 | [x], v :: u :: q, h2 => exact h2.2.elim
 | x :: y :: r, [v], h2 => exact h2.2.elim
end
theorem leaves_marks {P : Program} {W : Wo} {K : Nat → Option Ob} {I : IM} {R : RM} {fn : Func} {tmps : Array Value} {Q : Ending → World → Prop} : ∀ (ds : List Deferred) (w : World), Mk W ds w → Wz W K I R w → (∀ w', Wz W K I R w' → ∃ v, (results fn tmps).run P w' = .ok v w' ∧ Q (.returned v) w') → LeavesInM (fr none) 0 P fn tmps Q ds .returning w
 | [], w, _, hw, hq => hq w hw
 | d :: ds, w, ⟨⟨D, h1, h2, h3, h4⟩, h5⟩, hw, hq => by
  refine ⟨(fun h => by cases h), .inl ⟨D, w.putObj D (.deferred none), h1, run_takeDeferred h2, leaves_marks ds _ ?_ ?_ hq⟩⟩
  ·have : ∀ (es : List Deferred), (∀ d ∈ es, d ∈ ds) → Mk W es w → Mk W es (w.putObj D (.deferred none)) := by
    intro es
    induction es with
    | nil => intro _ _; trivial
    | cons e es ih =>
     rintro hs ⟨⟨D', g1, g2, g3, g4⟩, g5⟩
     exact ⟨⟨D', g1, (World.putObj_heap_other (h4 e (hs e List.mem_cons_self) D' g1)).trans g2, g3, g4⟩, ih (fun x hx => hs x (List.mem_cons_of_mem _ hx)) g5⟩
   exact this ds (fun _ h => h) h5
  ·have hne : ∀ {k : Nat} {o : Obj}, w.heap[k]? = some o → (∀ x, o ≠ .deferred x) → (w.putObj D (.deferred none)).heap[k]? = some o := fun {k o} ho hn => (World.putObj_heap_other (by rintro rfl; rw [h2] at ho; cases ho; exact hn _ rfl)).trans ho
   refine ⟨wd_carry hw.wd (fun k o ho hc => hne ho fun x hx => by subst hx; cases hc) (fun k hk => World.putObj_heap_other (by rintro rfl; exact h3 hk)) rfl rfl rfl (by simp) (Nat.le_refl _), fun i o hi hn => ?_, hw.inj⟩
   obtain ⟨p, hp, ho, hz⟩ := hw.ob i o hi hn
   obtain ⟨x, hx, hxc⟩ := ho.kind hn
   refine ⟨p, hp, ho.mono (.refl _) (.refl _) ((hne hx ?_).trans hx.symm), hz⟩
   cases o with
   | b _ => cases hn
   | m es => obtain ⟨_, h1, _⟩ := ho.mem; rw [h1] at hx; cases hx; exact fun _ h => by cases h
   | l _ => obtain ⟨_, h1, _⟩ := ho.mem; rw [h1] at hx; cases hx; exact fun _ h => by cases h
   | i _ => obtain ⟨_, _, h1⟩ := ho.mem; rw [h1] at hx; cases hx; exact fun _ h => by cases h
theorem st_argE {n : Nat} {W : Wo} {K : Nat → Option Ob} {I : IM} {R : RM} {w : World} {avs : List AV} {vs : List Value} (hv : All2 (AV.rel I R) avs vs) (hw : Wz W K I R w) (hle : vs.length ≤ n) (hb : avs.length ≤ big) :
  St n W (argE 0 avs).get K I R { tmps := vs.toArray ++ Array.replicate (n - vs.toArray.size) undef, defers := [] } w := by
 refine ⟨by simp; omega, trivial, fun t x hx => ?_, hw⟩
 obtain ⟨_, h⟩ := get_argE _ _ _ _ (by omega) hx
 simp only [Nat.sub_zero] at h
 obtain ⟨u, hu, hr⟩ := hv.get h
 have hlt : t < vs.length := (List.getElem?_eq_some_iff.1 hu).1
 simp only [Act.eval, Array.getD_eq_getD_getElem?]
 rw [Array.getElem?_append_left (by simpa using hlt)]
 rw [List.getElem?_toArray, hu]
 exact hr
theorem putL_sound {n : Nat} {I : IM} {R : RM} : ∀ (ts : List Tmp) (avs : List AV) (vs : List Value) (F F' : Bt AV) (tm : Array Value), putL n F ts avs = some F' → tm.size = n → (∀ t y, F.get t = some y → y.rel I R (tm.getD t undef)) → All2 (AV.rel I R) avs vs →
  ts.length = vs.length ∧ ((ts.zip vs).foldl (fun tmps (p : Tmp × Value) => tmps.setIfInBounds p.1 p.2) tm).size = n ∧ ∀ t y, F'.get t = some y → y.rel I R (((ts.zip vs).foldl (fun tmps (p : Tmp × Value) => tmps.setIfInBounds p.1 p.2) tm).getD t undef)
 | [], [], [], F, F', tm, h, hn, hf, _ => by
  simp only [putL, Option.some.injEq] at h
  subst h
  exact ⟨rfl, hn, hf⟩
 | [], [], _ :: _, _, _, _, _, _, _, hv => hv.elim
 | [], _ :: _, _, F, F', tm, h, _, _, _ => by simp [putL] at h
 | _ :: _, [], _, F, F', tm, h, _, _, _ => by simp [putL] at h
 | _ :: _, _ :: _, [], F, F', tm, _, _, _, hv => hv.elim
 | t :: ts, x :: avs, v :: vs, F, F', tm, h, hn, hf, hv => by
  unfold putL at h
  split at h
  ·rename_i h1 h2
   have h1' : @LT.lt Nat _ t n := by simpa [Nat.blt_eq] using h1
   have h2' : @LT.lt Nat _ t 130000 := by simpa [Nat.blt_eq, big] using h2
   obtain ⟨g1, g2, g3⟩ := putL_sound (n := n) (I := I) (R := R) ts avs vs _ F' (tm.setIfInBounds t v) h (by simpa using hn) (fun u y hy => by
    rw [Bt.get_put 17 _ _ _ _ (by omega)] at hy
    simp only [Array.getD_eq_getD_getElem?]
    split at hy
    ·rename_i he
     subst he
     simp only [Option.some.injEq] at hy
     subst hy
     rw [Array.getElem?_setIfInBounds_self_of_lt (by omega)]
     exact hv.1
    ·rename_i he
     rw [Array.getElem?_setIfInBounds_ne (fun e => he e.symm)]
     have := hf u y hy
     simpa [Array.getD_eq_getD_getElem?] using this) hv.2
   exact ⟨by simp [g1], g2, g3⟩
  ·cases h
theorem loop_at {W : Wo} {K : Nat → Option Ob} {I : IM} {R : RM} {w : World} {j : Nat} {lb : LB} (h : Wz W K I R w) (hk : K j = some (.l lb)) {p : Loc} (hp : I j = some p) : ∃ rc, w.heap[p.b]? = some (.loop rc) ∧ rc.params = lb.ps ∧ rc.assign = lb.assign ∧ rc.body = lb.body ∧ rc.tmps.size = lb.n ∧ recOk lb.st rc ∧ ∀ t y, lb.F.get t = some y → y.rel I R (rc.tmps.getD t undef) := by
 obtain ⟨p', hp', ho, _⟩ := h.ob j _ hk rfl
 rw [hp] at hp'; cases hp'
 exact ho.mem
theorem loop_set {W : Wo} {K : Nat → Option Ob} {I : IM} {R : RM} {w : World} {j : Nat} {lb : LB} (h : Wz W K I R w) (hk : K j = some (.l lb)) {p : Loc} (hp : I j = some p) {rc : Loop} (hr : w.heap[p.b]? = some (.loop rc)) (st : LS) (stt : LoopState) (pend : Option Code) (hok : recOk st { rc with state := stt, pending := pend }) :
  Wz W (upd K j (some (.l ⟨lb.n, lb.F, lb.ps, lb.assign, lb.body, st⟩))) I R (w.putObj p.b (.loop { rc with state := stt, pending := pend })) := by
 obtain ⟨rc', h1, h2, h3, h4, h5, h6, h7⟩ := loop_at h hk hp
 rw [hr] at h1; cases h1
 exact h.put hk hp hr (.inr ⟨_, rfl, ⟨_, World.putObj_heap_same (Array.getElem?_eq_some_iff.1 hr).1, h2, h3, h4, h5, hok, h7⟩⟩)
theorem round_core {P : Program} {X : Nat → Nat → Code → ES → Option (Exit × ES)} (hX : ∀ n j c s e s', X n j c s = some (e, s') → Goes P n (some j) c s e s') {j : Nat} {avs : List AV} {K : Bt Ob} {top : Nat} {r : CR} (h : roundE X j avs K top = some r) : CallE P (.yl j) avs K.get top r.x r.K.get r.top ∧ ∀ i, i ∉ r.log → r.K.get i = K.get i := by
 unfold roundE at h
 split at h
 rotate_left
 ·cases h
 rename_i lb hlb hb
 have hbig : j < big := by simpa [Nat.blt_eq] using hb
 split at h
 rotate_left
 ·cases h
 rename_i hst
 split at h
 rotate_left
 ·cases h
 rename_i F0 hF0
 split at h
 rotate_left
 ·cases h
 rename_i s1 h1
 split at h
 rotate_left
 ·cases h
 rename_i lb1 hlb1
 split at h
 rotate_left
 ·cases h
 rename_i hst1
 split at h
 rotate_left
 ·cases h
 rename_i e s2 h2
 split at h
 rotate_left
 ·cases h
 rename_i lb2 hlb2
 obtain ⟨a1, a2, a3⟩ := hX _ _ _ _ _ _ h1
 obtain ⟨b1, b2, b3⟩ := hX _ _ _ _ _ _ h2
 simp only at a1 a2 a3 b1 b2 b3
 have key : ∀ (c : Option Code) (stt : LS), (∀ rc : Loop, recOk stt { rc with state := if c.isNone then .ready else .done, pending := c }) → (∀ (l : Nat) (Q : Ending → World → Prop) (a : Act) (w : World), (∃ v w', (Instr.endRound l c).run P w = .ok v w' ∧ Q (.returned v) w') → roundPost P l Q e a w) →
   r = ⟨.pl (.one (.v (.bool c.isNone))), setK s2.K j (some (.l ⟨lb2.n, lb2.F, lb2.ps, lb2.assign, lb2.body, stt⟩)), s2.top, j :: s2.log⟩ → CallE P (.yl j) avs K.get top r.x r.K.get r.top ∧ ∀ i, i ∉ r.log → r.K.get i = K.get i := by
  rintro c stt hrec hpost rfl
  refine ⟨⟨by simp only; omega, fun W I R w v vs hw hd hvs hv => ?_⟩, fun i hi => ?_⟩
  ·obtain ⟨p, hp, rfl⟩ := hv
   obtain ⟨rc, r1, r2, r3, r4, r5, r6, r7⟩ := loop_at hw hlb hp
   obtain ⟨g1, g2, g3⟩ := putL_sound _ _ _ _ _ _ hF0 r5 r7 hvs
   refine .inr ⟨p.b, rc.fn, _, rc.assign, rc.body, rfl, run_yield r1 (by rw [r2]; simpa using g1.symm), roundIn_of_wpIn trivial ?_⟩
   have hfold : (rc.params.zip vs.toArray).foldl (fun tmps (x : Tmp × Value) => match x with | (t, a) => tmps.setIfInBounds t a) rc.tmps = (lb.ps.toList.zip vs).foldl (fun tmps (p : Tmp × Value) => tmps.setIfInBounds p.1 p.2) rc.tmps := by
    rw [r2, ← Array.foldl_toList]
    simp
   rw [hfold, r3, r4]
   have hst0 : St lb.n W F0.get K.get I R ⟨(lb.ps.toList.zip vs).foldl (fun tmps (p : Tmp × Value) => tmps.setIfInBounds p.1 p.2) rc.tmps, []⟩ w := ⟨g2, trivial, g3, hw⟩
   refine wpIn_mono (a3 W I R _ w (some p.b) ⟨p, hp, rfl⟩ hst0 hd) ?_
   rintro e1 x1 w1 ⟨rfl, I1, R1, k1, k2, k3, k4⟩
   have hp1 : I1 j = some p := ext_of hd k3 _ _ hp
   obtain ⟨rc1, q1, q2, q3, q4, q5, q6, q7⟩ := loop_at k1.wz hlb1 hp1
   rw [hst1] at q6
   refine ⟨_, run_beginRound q1 q6.1, ?_⟩
   have hw2 := loop_set k1.wz hlb1 hp1 q1 .busy .busy rc1.pending rfl
   have hst2 : St lb.n W s1.F.get (setK s1.K j (some (.l ⟨lb1.n, lb1.F, lb1.ps, lb1.assign, lb1.body, .busy⟩))).get I1 R1 x1 (w1.putObj p.b (.loop { rc1 with state := .busy })) := ⟨k1.size, mk_put q1 k1.mks, k1.fr, by rw [setK_get hbig]; exact hw2⟩
   refine wpIn_mono (b3 W I1 R1 x1 _ (some p.b) ⟨p, hp1, rfl⟩ hst2 k2) ?_
   rintro e2 x2 w2 ⟨rfl, I2, R2, m1, m2, m3, m4⟩
   have hp2 := ext_of k2 m3 _ _ hp1
   obtain ⟨rc2, n1, _⟩ := loop_at m1.wz hlb2 hp2
   refine hpost _ _ _ _ ⟨_, _, run_endRound c n1, .bool c.isNone, I2, R2, rfl, ?_, m2, fun i hi => (m3 i (by omega)).trans (k3 i hi), k4.trans m4, rfl⟩
   simp only
   rw [setK_get hbig]
   exact loop_set m1.wz hlb2 hp2 n1 stt _ c (hrec rc2)
  ·simp only [List.mem_cons, not_or] at hi
   obtain ⟨c1, c2⟩ := b2 i hi.2
   obtain ⟨c3, c4⟩ := a2 i c1
   simp only
   rw [setK_get hbig, upd_other hi.1, c2, setK_get hbig, upd_other hi.1, c4]
 split at h
 ·simp only [Option.some.injEq] at h
  exact key none .ready (fun _ => ⟨rfl, rfl⟩) (fun _ _ _ _ h => h) h.symm
 ·simp only [Option.some.injEq] at h
  exact key (some .ret) (.done .ret) (fun _ => ⟨rfl, .ret, rfl, rfl⟩) (fun _ _ _ _ h => h) h.symm
 ·rename_i id
  simp only [Option.some.injEq] at h
  exact key (some (.exit id)) (.done (.exit id)) (fun _ => ⟨rfl, .exit id, rfl, rfl⟩) (fun _ _ _ _ h => h) h.symm
 ·cases h
theorem callE_sound {P : Program} {FT : FTab} {T : Tab} (hF : FtOk P FT) (hT : TabOk P T) (hmix : P.follows .mixedOrders = true) {lf : Nat} : ∀ (d : Nat), CallsOk P (callE FT T lf d)
 | 0 => fun c avs K top r h => by cases h
 | d + 1 => fun c avs K top r h => by
  unfold callE at h
  split at h
  ·rename_i j
   exact round_core (fun n j c s e s' h => codeE_sound hT hmix (callE_sound hF hT hmix d) c s e s' h) h
  ·rename_i g cap
   split at h
   ·rename_i fn hfn
    obtain ⟨hf, hfb⟩ := hF _ _ hfn
    split at h
    ·rename_i c hc
     split at h
     ·rename_i hle hbig
      have hle' : (avs ++ capA cap).length ≤ fn.ntmps := Nat.le_of_ble_eq_true hle
      have hbig' : (avs ++ capA cap).length ≤ big := Nat.le_of_ble_eq_true hbig
      have key : ∀ (e : Exit) (s : ES) (xs : List A0), (e = .normal ∨ e = .ret) → codeE (callE FT T lf d) T fn.ntmps lf none c ⟨argE 0 (avs ++ capA cap), K, top, []⟩ = some (e, s) → resE T s fn.results.toList = some xs →
        CallE P (.fn g cap) avs K.get top (retV xs) s.K.get s.top ∧ ∀ j, j ∉ s.log → s.K.get j = K.get j := by
       intro e s xs he hco hxs
       obtain ⟨a1, a2, a3⟩ := codeE_sound hT hmix (callE_sound hF hT hmix d) c _ _ _ hco
       refine ⟨⟨a1, fun W I R w v vs hw hd hvs hv => ?_⟩, fun j hj => (a2 j hj).2⟩
       obtain ⟨us, hus, rfl⟩ : ∃ us, All2 (Pt.rel I) cap us ∧ v = .func (.func g) #[] us.toArray := hv
       have hall := hvs.append (capA_rel (R := R) hus)
       refine .inl ⟨g, #[], us.toArray, rfl, hfb, ?_⟩
       rw [Array.empty_append]
       have hargs : vs.toArray ++ us.toArray = (vs ++ us).toArray := by simp
       rw [hargs]
       refine fr_calls (r := none) (n := 0) (callsIn_of_wp_marks hf hc trivial (wpIn_mono (a3 W I R _ w none rfl (st_argE hall hw (by rw [← hall.length]; exact hle') hbig') hd) ?_))
       rintro e' a' w' ⟨rfl, I', R', k1, k2, k3, k4⟩
       have fin : LeavesInM (fr none) 0 P fn a'.tmps (fun e w' => ∃ u I' R', e = .returned u ∧ Wz W s.K.get I' R' w' ∧ (∀ j, s.top ≤ j → I' j = none) ∧ (∀ j, j < top → I' j = I j) ∧ RExt R R' ∧ (retV xs).rel I' R' u) a'.defers .returning w' := by
        refine leaves_marks _ _ k1.mks k1.wz fun w2 hw2 => ?_
        obtain ⟨v, g1, g2⟩ := resE_results hT (⟨k1.size, (trivial : Mk W (⟨a'.tmps, []⟩ : Act).defers w2), fun t x hx => k1.fr t x hx, hw2⟩ : St fn.ntmps W s.F.get s.K.get I' R' ⟨a'.tmps, []⟩ w2) hxs
        exact ⟨v, g1, v, I', R', rfl, hw2, k2, k3, k4, g2⟩
       rcases he with rfl | rfl
       ·exact fin
       ·exact fin
      split at h
      ·rename_i s hco
       split at h
       ·rename_i xs hxs
        simp only [Option.some.injEq] at h
        subst h
        exact key _ _ _ (.inl rfl) hco hxs
       ·cases h
      ·rename_i s hco
       split at h
       ·rename_i xs hxs
        simp only [Option.some.injEq] at h
        subst h
        exact key _ _ _ (.inr rfl) hco hxs
       ·cases h
      ·cases h
     ·cases h
    ·cases h
   ·cases h
  ·rename_i g cap
   split at h
   ·rename_i fn hfn
    obtain ⟨hf, hfb⟩ := hF _ _ hfn
    split at h
    ·rename_i c hc
     split at h
     ·rename_i hle hbig
      have hle' : (capA cap ++ avs).length ≤ fn.ntmps := Nat.le_of_ble_eq_true hle
      have hbig' : (capA cap ++ avs).length ≤ big := Nat.le_of_ble_eq_true hbig
      have key : ∀ (e : Exit) (s : ES) (xs : List A0), (e = .normal ∨ e = .ret) → codeE (callE FT T lf d) T fn.ntmps lf none c ⟨argE 0 (capA cap ++ avs), K, top, []⟩ = some (e, s) → resE T s fn.results.toList = some xs →
        CallE P (.mf g cap) avs K.get top (retV xs) s.K.get s.top ∧ ∀ j, j ∉ s.log → s.K.get j = K.get j := by
       intro e s xs he hco hxs
       obtain ⟨a1, a2, a3⟩ := codeE_sound hT hmix (callE_sound hF hT hmix d) c _ _ _ hco
       refine ⟨⟨a1, fun W I R w v vs hw hd hvs hv => ?_⟩, fun j hj => (a2 j hj).2⟩
       obtain ⟨us, hus, rfl⟩ : ∃ us, All2 (Pt.rel I) cap us ∧ v = .func (.func g) us.toArray #[] := hv
       have hall := (capA_rel (R := R) hus).append hvs
       refine .inl ⟨g, us.toArray, #[], rfl, hfb, ?_⟩
       have hargs : us.toArray ++ vs.toArray ++ #[] = (us ++ vs).toArray := by simp
       rw [hargs]
       refine fr_calls (r := none) (n := 0) (callsIn_of_wp_marks hf hc trivial (wpIn_mono (a3 W I R _ w none rfl (st_argE hall hw (by rw [← hall.length]; exact hle') hbig') hd) ?_))
       rintro e' a' w' ⟨rfl, I', R', k1, k2, k3, k4⟩
       have fin : LeavesInM (fr none) 0 P fn a'.tmps (fun e w' => ∃ u I' R', e = .returned u ∧ Wz W s.K.get I' R' w' ∧ (∀ j, s.top ≤ j → I' j = none) ∧ (∀ j, j < top → I' j = I j) ∧ RExt R R' ∧ (retV xs).rel I' R' u) a'.defers .returning w' := by
        refine leaves_marks _ _ k1.mks k1.wz fun w2 hw2 => ?_
        obtain ⟨v, g1, g2⟩ := resE_results hT (⟨k1.size, (trivial : Mk W (⟨a'.tmps, []⟩ : Act).defers w2), fun t x hx => k1.fr t x hx, hw2⟩ : St fn.ntmps W s.F.get s.K.get I' R' ⟨a'.tmps, []⟩ w2) hxs
        exact ⟨v, g1, v, I', R', rfl, hw2, k2, k3, k4, g2⟩
       rcases he with rfl | rfl
       ·exact fin
       ·exact fin
      split at h
      ·rename_i s hco
       split at h
       ·rename_i xs hxs
        simp only [Option.some.injEq] at h
        subst h
        exact key _ _ _ (.inl rfl) hco hxs
       ·cases h
      ·rename_i s hco
       split at h
       ·rename_i xs hxs
        simp only [Option.some.injEq] at h
        subst h
        exact key _ _ _ (.inr rfl) hco hxs
       ·cases h
      ·cases h
     ·cases h
    ·cases h
   ·cases h
  ·cases h
def isT : Option CR → Bool
 | some ⟨.pl (.one (.v (.bool true))), _, _, _⟩ => true
 | _ => false
theorem isT_spec {r : Option CR} (h : isT r = true) : ∃ K top log, r = some ⟨.val (.bool true), K, top, log⟩ := by
 unfold isT at h
 split at h
 ·exact ⟨_, _, _, rfl⟩
 ·cases h
def evalV : Option CR → Option AV
 | some r => match r.x.inB [], r.x.own' with
  | true, true => some r.x
  | _, _ => none
 | none => none
theorem con_eval {P : Program} {FT : FTab} {T : Tab} (hF : FtOk P FT) (hT : TabOk P T) (hmix : P.follows .mixedOrders = true) (lf d : Nat) {g : FuncId} {args : List A0} {x : AV} (hfn : fnB P g = true) (hlow : args.all A0.low' = true) (h : evalV (callE FT T lf d (.fn g []) (args.map .pl) .e 0) = some x) : Con P g args (fun rx rK rt => rx = x ∧ rK = [] ∧ rt = 0) := by
 unfold evalV at h
 split at h
 rotate_left
 ·cases h
 rename_i r hr
 split at h
 rotate_left
 ·cases h
 rename_i hin hown
 simp only [Option.some.injEq] at h
 subst h
 obtain ⟨⟨h1, h2⟩, _⟩ := callE_sound hF hT hmix d _ _ _ _ _ hr
 refine ⟨hfn, fun w vs hvs => ?_⟩
 let R0 : RM := fun fl b o => match fl with | true => none | false => w.cell? ⟨b, o, none⟩
 have hw : Wz (Wo.of w) (Bt.e : Bt Ob).get (fun _ => none) R0 w := by
  have he : blkOf (Bt.e : Bt Ob).get = fun _ => none := rfl
  refine ⟨?_, fun i o h => (by cases h), fun i j oi oj p q h => (by cases h)⟩
  rw [he]
  refine ⟨fun i b h => (by cases h), fun i j bi bj p q h => (by cases h), fun i b p h => (by cases h), ?_, fun i b p f o h => (by cases h), ?_, ?_, .refl _, fun _ _ _ _ _ h => h, fun _ h => h.elim⟩
  ·intro f b o u hu
   cases f with
   | true => cases hu
   | false => exact hu
  ·intro b o u hu; cases hu
  ·intro b o u hu; cases hu
 have hv : All2 (AV.rel (fun _ => none) R0) (args.map .pl) vs := by
  refine All2.map _ (hvs.mono_mem fun a ha b hb => ?_)
  exact A0.rel_low (by rfl) (List.all_eq_true.1 hlow a ha) hb
 have := h2 (Wo.of w) (fun _ => none) R0 w (.func (.func g) #[] #[]) vs hw (fun _ _ => rfl) hv ⟨[], trivial, rfl⟩
 obtain ⟨g', fs', us', hv', hb, hcalls⟩ := this.resolve_right (fun ⟨_, _, _, _, _, hv, _⟩ => by cases hv)
 simp only [Value.func.injEq, Fn.func.injEq] at hv'
 obtain ⟨rfl, rfl, rfl⟩ := hv'
 rw [Array.empty_append] at hcalls
 rw [show vs.toArray ++ #[] = vs.toArray by simp] at hcalls
 refine hcalls.mono ?_
 rintro e w' ⟨v, I', R', rfl, k1, k2, k3, k4, k5⟩
 have hx := AV.rel_in hin k5
 have hI : onI [] I' = fun _ => none := by funext j; simp [onI]
 rw [hI] at hx
 refine ⟨v, r.x, [], 0, fun _ => none, R' true, rfl, ?_, fun _ _ => rfl, (fun p hp => by cases hp), AV.rel_own hown hx, rfl, rfl, rfl⟩
 have hk : Wd (Wo.of w) (kg []) (fun _ => none) R' w' := by
  exact { k1.wd with
   blk := fun i b h => (by simp [kg] at h)
   inj := fun i j bi bj p q h => (by simp [kg] at h)
   base := fun i b p h => (by simp [kg] at h)
   apart := fun i b p f o h => (by simp [kg] at h) }
 exact hk.own (fun j b h => (by simp [kg] at h))
def pickK (K : Bt Ob) : List Nat → Wx.Kr
 | [] => []
 | j :: r => match blkOf K.get j with
  | some b => (j, some b) :: pickK K r
  | none => pickK K r
theorem pickK_kg {K : Bt Ob} {i : Nat} {b : Blk} : ∀ {l : List Nat}, kg (pickK K l) i = some b → blkOf K.get i = some b
 | [], h => by simp [pickK, kg] at h
 | j :: r, h => by
  unfold pickK at h
  split at h
  ·rename_i b' hb
   simp only [kg] at h
   split at h
   ·rename_i he
    have : j = i := by first | exact (Nat.eq_of_beq_eq_true he) | exact he | exact he.symm
    subst this
    cases h
    exact hb
   ·exact pickK_kg h
  ·exact pickK_kg h
theorem pickK_lt {K : Bt Ob} {t : Nat} : ∀ {l : List Nat}, l.all (fun i => Nat.blt i t) = true → ∀ p ∈ pickK K l, p.1 < t
 | [], _, p, hp => by simp [pickK] at hp
 | j :: r, h, p, hp => by
  simp only [List.all_cons, Bool.and_eq_true, Nat.blt_eq] at h
  unfold pickK at hp
  split at hp
  ·rcases List.mem_cons.1 hp with rfl | hp
   ·exact h.1
   ·exact pickK_lt h.2 p hp
  ·exact pickK_lt h.2 p hp
def ownB (K : Bt Ob) (l : List Nat) : Bool := l.all fun j => match blkOf K.get j with
 | some b => b.rows.all fun r => r.all Ce.own'
 | none => true
def evalK : Option CR → Option (AV × Wx.Kr × Nat)
 | some r => match r.x.own', (reachT r.K 4000 r.x.refs2 []).all (fun i => Nat.blt i r.top), ownB r.K (reachT r.K 4000 r.x.refs2 []) with
  | true, true, true => some (r.x, pickK r.K (reachT r.K 4000 r.x.refs2 []), r.top)
  | _, _, _ => none
 | none => none
theorem pickK_mem {K : Bt Ob} {i : Nat} {b : Blk} : ∀ {l : List Nat}, kg (pickK K l) i = some b → i ∈ l
 | [], h => by simp [pickK, kg] at h
 | j :: r, h => by
  unfold pickK at h
  split at h
  ·rename_i b' hb
   simp only [kg] at h
   split at h
   ·rename_i he
    have : j = i := by first | exact (Nat.eq_of_beq_eq_true he) | exact he | exact he.symm
    subst this
    exact List.mem_cons_self
   ·exact List.mem_cons_of_mem _ (pickK_mem h)
  ·exact List.mem_cons_of_mem _ (pickK_mem h)
theorem con_evalK {P : Program} {FT : FTab} {T : Tab} (hF : FtOk P FT) (hT : TabOk P T) (hmix : P.follows .mixedOrders = true) (lf d : Nat) {g : FuncId} {args : List A0} {x : AV} {Kc : Wx.Kr} {tc : Nat} (hfn : fnB P g = true) (hlow : args.all A0.low' = true) (h : evalK (callE FT T lf d (.fn g []) (args.map .pl) .e 0) = some (x, Kc, tc)) : Con P g args (fun rx rK rt => rx = x ∧ rK = Kc ∧ rt = tc) := by
 unfold evalK at h
 split at h
 rotate_left
 ·cases h
 rename_i r hr
 split at h
 rotate_left
 ·cases h
 rename_i hown hlt hko
 simp only [Option.some.injEq, Prod.mk.injEq] at h
 obtain ⟨rfl, rfl, rfl⟩ := h
 obtain ⟨⟨h1, h2⟩, _⟩ := callE_sound hF hT hmix d _ _ _ _ _ hr
 refine ⟨hfn, fun w vs hvs => ?_⟩
 let R0 : RM := fun fl b o => match fl with | true => none | false => w.cell? ⟨b, o, none⟩
 have hw : Wz (Wo.of w) (Bt.e : Bt Ob).get (fun _ => none) R0 w := by
  have he : blkOf (Bt.e : Bt Ob).get = fun _ => none := rfl
  refine ⟨?_, fun i o h => (by cases h), fun i j oi oj p q h => (by cases h)⟩
  rw [he]
  refine ⟨fun i b h => (by cases h), fun i j bi bj p q h => (by cases h), fun i b p h => (by cases h), ?_, fun i b p f o h => (by cases h), ?_, ?_, .refl _, fun _ _ _ _ _ h => h, fun _ h => h.elim⟩
  ·intro f b o u hu
   cases f with
   | true => cases hu
   | false => exact hu
  ·intro b o u hu; cases hu
  ·intro b o u hu; cases hu
 have hv : All2 (AV.rel (fun _ => none) R0) (args.map .pl) vs := by
  refine All2.map _ (hvs.mono_mem fun a ha b hb => ?_)
  exact A0.rel_low (by rfl) (List.all_eq_true.1 hlow a ha) hb
 have := h2 (Wo.of w) (fun _ => none) R0 w (.func (.func g) #[] #[]) vs hw (fun _ _ => rfl) hv ⟨[], trivial, rfl⟩
 obtain ⟨g', fs', us', hv', hb, hcalls⟩ := this.resolve_right (fun ⟨_, _, _, _, _, hv, _⟩ => by cases hv)
 simp only [Value.func.injEq, Fn.func.injEq] at hv'
 obtain ⟨rfl, rfl, rfl⟩ := hv'
 rw [Array.empty_append] at hcalls
 rw [show vs.toArray ++ #[] = vs.toArray by simp] at hcalls
 refine hcalls.mono ?_
 rintro e w' ⟨v, I', R', rfl, k1, k2, k3, k4, k5⟩
 refine ⟨v, r.x, _, r.top, I', R' true, rfl, ?_, k2, pickK_lt hlt, AV.rel_own hown k5, rfl, rfl, rfl⟩
 have hk : Wd (Wo.of w) (kg (pickK r.K (reachT r.K 4000 r.x.refs2 []))) I' R' w' := by
  exact { k1.wd with
   blk := fun i b h => k1.wd.blk i b (pickK_kg h)
   inj := fun i j bi bj p q h1 h2 => k1.wd.inj i j bi bj p q (pickK_kg h1) (pickK_kg h2)
   base := fun i b p h => k1.wd.base i b p (pickK_kg h)
   apart := fun i b p f o h => k1.wd.apart i b p f o (pickK_kg h) }
 refine hk.own fun j b hj row hrow c hc => ?_
 have h0 := List.all_eq_true.1 hko j (pickK_mem hj)
 rw [pickK_kg hj] at h0
 exact List.all_eq_true.1 (List.all_eq_true.1 h0 row hrow) c hc
end Go.Proofs.Ytopieffkpdlpbaa.Wx.Y
namespace Go.Proofs.Ytopieffkpdlpbaa.Wx.Y
open Go Go.RowKit Go.MapKept
section
variable {P : Program} {o : Oper} {F0 : Nat → Option AV} {K0 : Nat → Option Ob} {top : Nat}
theorem o_range (t : TypeId) (m : Operand) (ho : o.op = .range t m) {ti : TI} (ht : tiOf P t = some ti) {kt et : TypeId} {q : IntKind} {z : Value} (hmp : ti.mp = some (kt, et, q, z)) {i : Nat} {es : MS} (hm : evf F0 m = some (.c (.mpv i))) (hk : K0 i = some (.m es)) : OpEff P o F0 K0 top ⟨.c (.own top 0 0), [i], [(top, some (.i ⟨i, es.c, [], es.c⟩))], top + 1⟩ := by
 obtain ⟨h1, h2, _⟩ := tiOf_mp ht hmp
 intro r n W F K I R a w hs hx hkk hfree hd next Q hn
 obtain ⟨hI, hK⟩ := hfree top (Nat.le_refl _) (by simp)
 obtain ⟨p, ents, e1, e2, e3, e4, _⟩ := mp_at hs ((hx m (by simp [ho, Op.operands])).trans hm) ((hkk i (by simp)).trans hk)
 have hrun : (execOp a.eval o).run P w = .ok (.value (.pointer (some ⟨w.heap.size, 0, none⟩))) (w.alloc (.mapIter (some p.b) es.c #[] es.c)) := by
  simp [execOp, ho, e2, run_range_map w t kt et p.b ents es.c h1 e3, Result.andThen]
 refine op_run (fun c hc => by rw [ho] at hc; cases hc) hrun ?_
 have hl := hs.wz.laidO (o' := .i ⟨i, es.c, [], es.c⟩) (x := .mapIter (some p.b) es.c #[] es.c) hI hK rfl ⟨p, IExt.ext hI _ _ e1, heap_alloc_new w _⟩
 refine hn _ R _ _ (St.put hs (.ext hI) (.refl _) hl (hs.mks.mono fun D hD => alloc_old w _ (Array.getElem?_eq_some_iff.1 hD).1) hd ?_) (.ext hI) ?_ (.refl _)
 ·exact ⟨⟨w.heap.size, 0, 0⟩, by simp [Wx.ext], by simp⟩
 ·intro j hj
  unfold Wx.ext
  rw [if_neg]
  rintro rfl
  exact hj ⟨Nat.le_refl _, by simp⟩
theorem it_at {n : Nat} {W : Wo} {F : Nat → Option AV} {K : Nat → Option Ob} {I : IM} {R : RM} {a : Act} {w : World} (hs : St n W F K I R a w) {it : Operand} {j : Nat} (hit : evf F it = some (.c (.own j 0 0))) {x : IS} (hj : K j = some (.i x)) {es : MS} (hm : K x.m = some (.m es)) :
  ∃ p pm ents, I j = some p ∧ I x.m = some pm ∧ a.eval it = .pointer (some ⟨p.b, 0, none⟩) ∧ w.heap[p.b]? = some (.mapIter (some pm.b) x.since x.seen.toArray x.last) ∧ w.heap[pm.b]? = some (.map ents es.c) ∧ All2 (Ek I R) es.es ents.toList := by
 obtain ⟨p, hp, hv⟩ : ∃ p, I j = some p ∧ a.eval it = .pointer (some ⟨p.b, 0 * p.sz + 0, none⟩) := hs.evM hit
 obtain ⟨p', hp', ho, _⟩ := hs.wz.ob j _ hj rfl
 rw [hp] at hp'; cases hp'
 obtain ⟨pm, h1, h2⟩ := ho.mem
 obtain ⟨p2, hp2, ho2, _⟩ := hs.wz.ob x.m _ hm rfl
 rw [h1] at hp2; cases hp2
 obtain ⟨ents, h3, h4⟩ := ho2.mem
 exact ⟨p, pm, ents, hp, h1, by simpa using hv, h2, h3, h4⟩
theorem all2_mem {α β : Type} {r : α → β → Prop} : ∀ {l : List α} {m : List β}, All2 r l m → (∀ a ∈ l, ∃ b ∈ m, r a b) ∧ ∀ b ∈ m, ∃ a ∈ l, r a b
 | [], [], _ => ⟨fun a h => by simp at h, fun b h => by simp at h⟩
 | a :: l, b :: m, h => by
  obtain ⟨h1, h2⟩ := all2_mem h.2
  refine ⟨fun x hx => ?_, fun y hy => ?_⟩
  ·rcases List.mem_cons.1 hx with rfl | hx
   ·exact ⟨b, by simp, h.1⟩
   ·obtain ⟨y, hy, hr⟩ := h1 x hx; exact ⟨y, by simp [hy], hr⟩
  ·rcases List.mem_cons.1 hy with rfl | hy
   ·exact ⟨a, by simp, h.1⟩
   ·obtain ⟨x, hx, hr⟩ := h2 y hy; exact ⟨x, by simp [hx], hr⟩
 | [], _ :: _, h => h.elim
 | _ :: _, [], h => h.elim
theorem born_map {I : IM} {R : RM} : ∀ {es : List (Value × Nat × A0)} {l : List MapEntry}, All2 (Ek I R) es l → l.map (·.born) = es.map (·.2.1)
 | [], [], _ => rfl
 | e :: es, m :: l, h => by simp only [List.map_cons, born_map h.2]; rw [h.1.1.2]
 | [], _ :: _, h => h.elim
 | _ :: _, [], h => h.elim
theorem o_entryIt (it : Operand) (ho : o.op = .entry it) {j : Nat} {x : IS} {es : MS} (hit : evf F0 it = some (.c (.own j 0 0))) (hj : K0 j = some (.i x)) (hm : K0 x.m = some (.m es)) {e : Value × Nat × A0} {l : List Nat} (he : e ∈ es.es) (hnd : (es.es.map (·.2.1)).Nodup) (hl : x.last = es.c) (hsn : x.seen = l ++ [e.2.1]) :
  OpEff P o F0 K0 top ⟨.tup [.one (.v e.1), e.2.2], [j, x.m], [], top⟩ := by
 intro r n W F K I R a w hs hx hkk hfree hd next Q hn
 obtain ⟨p, pm, ents, e1, e2, e3, e4, e5, e6⟩ := it_at hs ((hx it (by simp [ho, Op.operands])).trans hit) ((hkk j (by simp)).trans hj) ((hkk x.m (by simp)).trans hm)
 obtain ⟨m, hmm, hr⟩ := (all2_mem e6).1 e he
 have hb : m.born = e.2.1 := hr.1.2
 have g1 := run_entry_at (P := P) w p.b pm.b x.since l.toArray ents es.c m (by rw [e4, hsn, hl, hb]; simp) e5 hmm (by rw [born_map e6]; exact hnd)
 refine op_run (v := .tuple #[m.key, m.val]) (fun c hc => by rw [ho] at hc; cases hc) (by simp [execOp, ho, e3, g1, Result.andThen]) (hn I R _ _ (St.put hs (.refl _) (.refl _) hs.wz hs.mks hd ?_) (.refl _) (fun _ _ => rfl) (.refl _))
 exact ⟨[m.key, m.val], rfl, hr.1.1, hr.2, trivial⟩
theorem Wz.drew {W : Wo} {K : Nat → Option Ob} {I : IM} {R : RM} {w : World} (h : Wz W K I R w) : Wz W K I R w.drew :=
 ⟨wd_carry h.wd (fun _ _ h _ => h) (fun _ _ => rfl) rfl rfl rfl (Nat.le_refl _) (by first | exact Nat.le_refl _ | exact Nat.le_succ _), fun i o hi hn => by
  obtain ⟨p, hp, ho, hz⟩ := h.ob i o hi hn; exact ⟨p, hp, ho.mono (.refl _) (.refl _) rfl, hz⟩, h.inj⟩
theorem step_next (it : Operand) (ho : o.op = .next it false) {r : Option Nat} {n : Nat} {W : Wo} {F : Nat → Option AV} {K : Nat → Option Ob} {I : IM} {R : RM} {a : Act} {w : World} (hs : St n W F K I R a w) {j : Nat} {x : IS} {es : MS} (hit : evf F it = some (.c (.own j 0 0))) (hj : K j = some (.i x)) (hm : K x.m = some (.m es)) (hd : dstB n o.dst = true)
  (hlt : ∀ e ∈ es.es, e.2.1 < x.since) (hsc : x.since ≤ x.last) {next : Act → World → Prop} {Q : Exit → Act → World → Prop}
  (hZ : (∀ e ∈ es.es, e.2.1 ∈ x.seen) → ∀ a' w', St n W (fput F o.dst (.tup [.one (.v (.bool false))])) K I R a' w' → next a' w')
  (hA : ∀ e ∈ es.es, e.2.1 ∉ x.seen → ∀ a' w', St n W (fput F o.dst (.tup [.one (.v (.bool true)), .one (.v e.1), e.2.2])) (upd K j (some (.i ⟨x.m, x.since, x.seen ++ [e.2.1], es.c⟩))) I R a' w' → next a' w') : o.wpIn (fr r) 0 P a w next Q := by
 obtain ⟨p, pm, ents, e1, e2, e3, e4, e5, e6⟩ := it_at hs hit hj hm
 have hnd : ∀ c, o.op ≠ .defer c := fun c hc => by rw [ho] at hc; cases hc
 rcases run_next_at (P := P) w o.type p.b pm.b x.since x.last x.seen.toArray ents es.c e4 e5 (fun m hmm => by
  obtain ⟨e, he, hr⟩ := (all2_mem e6).2 m hmm
  rw [hr.1.2]; exact hlt e he) hsc with ⟨h0, hrun⟩ | ⟨m, hmm, w1, hw1, hrun⟩
 ·refine op_run (v := .tuple #[.bool false]) hnd (by simp [execOp, ho, e3, hrun, Result.andThen]) (hZ (fun e he => ?_) _ _ (St.put hs (.refl _) (.refl _) hs.wz hs.mks hd ⟨[.bool false], rfl, rfl, trivial⟩))
  obtain ⟨m, hmm, hr⟩ := (all2_mem e6).1 e he
  have : ¬ m ∈ leftOf ents x.seen.toArray := fun h => by
   rw [Array.eq_empty_of_size_eq_zero h0] at h; simp at h
  unfold leftOf at this
  rw [Array.mem_filter] at this
  have hmm' : m ∈ ents := by simpa using hmm
  simp only [hmm', true_and, Bool.not_eq_true', Bool.not_eq_false] at this
  rw [← hr.1.2]
  simpa using this
 ·have hmm' : m ∈ leftOf ents x.seen.toArray := by simpa using hmm
  unfold leftOf at hmm'
  rw [Array.mem_filter] at hmm'
  obtain ⟨e, he, hr⟩ := (all2_mem e6).2 m (by simpa using hmm'.1)
  have hb : m.born = e.2.1 := hr.1.2
  have hns : e.2.1 ∉ x.seen := by
   have := hmm'.2
   rw [hb] at this
   simpa using this
  have hwz1 : Wz W K I R w1 := by rcases hw1 with rfl | rfl; exact hs.wz; exact hs.wz.drew
  have hh1 : w1.heap = w.heap := by rcases hw1 with rfl | rfl <;> rfl
  have hmk1 : Mk W a.defers w1 := by rcases hw1 with rfl | rfl; exact hs.mks; exact hs.mks.mono fun D _ => rfl
  have hwz2 : Wz W (upd K j (some (.i ⟨x.m, x.since, x.seen ++ [e.2.1], es.c⟩))) I R (w1.putObj p.b (.mapIter (some pm.b) x.since (x.seen.toArray.push m.born) es.c)) := by
   refine hwz1.putO hj rfl e1 (by rw [hh1]; exact e4) rfl rfl ⟨pm, e2, ?_⟩
   rw [World.putObj_heap_same (by rw [hh1]; exact (Array.getElem?_eq_some_iff.1 e4).1), hb]; simp
  refine op_run (v := .tuple #[.bool true, m.key, m.val]) (w' := w1.putObj p.b (.mapIter (some pm.b) x.since (x.seen.toArray.push m.born) es.c)) hnd (by simp [execOp, ho, e3, hrun, Result.andThen, Go.ChangeMaps.setBlock, World.putObj]) (hA e he hns _ _ (St.put hs (.refl _) (.refl _) hwz2 (hmk1.mono fun D hD => World.putObj_heap_other ?_) hd ⟨[.bool true, m.key, m.val], rfl, rfl, hr.1.1, hr.2, trivial⟩))
  rintro rfl
  rw [hh1, e4] at hD; cases hD
end
end Go.Proofs.Ytopieffkpdlpbaa.Wx.Y
namespace Go.Proofs.Ytopieffkpdlpbaa.Wx.Z
open Go Go.RowKit
def toBt : Fr → Bt AV
 | [] => .e
 | (k, x) :: F => Bt.put 17 (toBt F) k (some x)
def frOk : Fr → Bool
 | [] => true
 | (k, _) :: F => match Nat.blt k big with
  | true => frOk F
  | false => false
def btOf (F : Fr) : Bt AV := match frOk F with
 | true => toBt F
 | false => .e
theorem toBt_get : ∀ {F : Fr}, frOk F = true → (toBt F).get = get F
 | [], _ => by funext t; rfl
 | (k, x) :: F, h => by
  unfold frOk at h
  split at h
  ·rename_i hk
   have hk' : @LT.lt Nat _ k 130000 := by simpa [Nat.blt_eq, big] using hk
   funext t
   have := get_put F (some k) x
   simp only [Wx.put] at this
   rw [this]
   show (Bt.put 17 (toBt F) k (some x)).get t = _
   rw [Bt.get_put 17 _ k (some x) t (by omega), toBt_get h]
   rfl
  ·cases h
theorem btOf_get {F : Fr} (h : frOk F = true) : (btOf F).get = get F := by unfold btOf; rw [h]; exact toBt_get h
theorem btOf_sub {F : Fr} {t : Nat} {y : AV} (h : (btOf F).get t = some y) : get F t = some y := by
 unfold btOf at h
 split at h
 ·rename_i hk; rw [toBt_get hk] at h; exact h
 ·simp [Bt.get] at h
structure LB where
 n : Nat
 F : Fr
 ps : Array Tmp
 assign : Code
 body : Code
 st : Y.LS
inductive Ob where
 | b (x : Blk)
 | m (es : Y.MS)
 | l (x : LB)
 | i (x : Y.IS)
def LB.y (x : LB) : Y.LB := ⟨x.n, btOf x.F, x.ps, x.assign, x.body, x.st⟩
def Ob.y : Ob → Y.Ob
 | .b x => .b x
 | .m es => .m es
 | .l x => .l x.y
 | .i x => .i x
abbrev Kr := List (Nat × Option Ob)
def kz : Kr → Nat → Option Ob
 | [], _ => none
 | (k, x) :: F, t => match Nat.beq k t with
  | true => x
  | false => kz F t
def isB : Option Ob → Option Blk
 | some (.b x) => some x
 | _ => none
def kb : Kr → Nat → Option Blk
 | [], _ => none
 | (k, x) :: F, t => match Nat.beq k t with
  | true => isB x
  | false => kb F t
def kbl : Kr → Wx.Kr
 | [] => []
 | (k, x) :: F => (k, isB x) :: kbl F
def ky (K : Kr) : Nat → Option Y.Ob := fun i => (kz K i).map Ob.y
theorem kb_kz : ∀ (K : Kr) (t : Nat), kb K t = isB (kz K t)
 | [], _ => rfl
 | (k, x) :: F, t => by
  simp only [kb, kz]
  split
  ·rfl
  ·exact kb_kz F t
theorem kb_eq (K : Kr) : Y.blkOf (ky K) = kb K := by
 funext t
 rw [kb_kz]
 unfold Y.blkOf ky
 cases kz K t with
 | none => rfl
 | some o => cases o <;> rfl
theorem kg_kbl : ∀ (K : Kr), kg (kbl K) = kb K
 | [] => rfl
 | (k, x) :: F => by
  funext t
  have := congrFun (kg_kbl F) t
  simp only [kbl, kg, kb]
  cases Nat.beq k t with
  | true => rfl
  | false => exact this
def upk : Wx.Kr → Kr
 | [] => []
 | (k, x) :: F => (k, x.map Ob.b) :: upk F
def yk : Kr → Y.Kr
 | [] => []
 | (k, x) :: F => (k, x.map Ob.y) :: yk F
theorem yk_upk : ∀ (kw : Wx.Kr), yk (upk kw) = Y.liftK kw
 | [] => rfl
 | (k, x) :: F => by
  show (k, (x.map Ob.b).map Ob.y) :: yk (upk F) = (k, x.map Y.Ob.b) :: Y.liftK F
  rw [yk_upk F]
  cases x <;> rfl
theorem ky_append (K : Kr) : ∀ (r : Kr), ky (r ++ K) = Y.kup (ky K) (yk r)
 | [] => rfl
 | (i, b) :: r => by
  funext t
  have := congrFun (ky_append K r) t
  simp only [ky] at this
  simp only [List.cons_append, ky, kz, yk, Y.kup]
  by_cases h : t = i
  ·subst h; simp
  ·have hb : Nat.beq i t = false := by rcases hb : Nat.beq i t with _ | _; · rfl
                                       · exact absurd (Nat.eq_of_beq_eq_true hb).symm h
   simp only [hb, if_neg h]
   exact this
theorem ky_up (K : Kr) (kw : Wx.Kr) : ky (upk kw ++ K) = Y.kup (ky K) (Y.liftK kw) := by rw [ky_append, yk_upk]
theorem ky_cons (K : Kr) (j : Nat) (x : Option Ob) : ky ((j, x) :: K) = Y.upd (ky K) j (x.map Ob.y) := ky_append K [(j, x)]
structure S where
 F : Fr
 K : Kr
 top : Nat
def nextP (W : Wo) (n m : Nat) (I : IM) (R : RM) (A : S → Prop) (a' : Act) (w' : World) : Prop :=
 ∃ s' I' R', Y.St n W (get s'.F) (ky s'.K) I' R' a' w' ∧ (∀ j, s'.top ≤ j → I' j = none) ∧ m ≤ s'.top ∧ (∀ j, j < m → I' j = I j) ∧ RExt R R' ∧ A s'
def Tr (P : Program) (n m : Nat) (rd : Option Nat) (c : Code) (s : S) (Q : Exit → S → Prop) : Prop :=
 ∀ (W : Wo) (r : Option Nat) (I : IM) (R : RM) (a : Act) (w : World), Y.RdOk I rd r → Y.St n W (get s.F) (ky s.K) I R a w → (∀ j, s.top ≤ j → I j = none) → m ≤ s.top → c.wpIn (Y.fr r) 0 P (fun e a' w' => nextP W n m I R (Q e) a' w') a w
structure CallZ (P : Program) (m : Nat) (c : Ce) (avs : List AV) (K : Kr) (top : Nat) (k : AV → Kr → Nat → Prop) : Prop where
 run : ∀ (W : Wo) (I : IM) (R : RM) (w : World) (v : Value) (vs : List Value), Y.Wz W (ky K) I R w → (∀ j, top ≤ j → I j = none) → m ≤ top → All2 (AV.rel I R) avs vs → c.rel I R v →
  Y.UpsX P v vs.toArray w fun e w' => ∃ u x K' top' I' R', e = .returned u ∧ Y.Wz W (ky K') I' R' w' ∧ (∀ j, top' ≤ j → I' j = none) ∧ top ≤ top' ∧ (∀ j, j < top → I' j = I j) ∧ RExt R R' ∧ x.rel I' R' u ∧ k x K' top'
structure Eff where
 av : AV
 rd : List Nat
 kw : Kr
 top : Nat
def Eff.y (e : Eff) : Y.Eff := ⟨e.av, e.rd, yk e.kw, e.top⟩
def Eff.up : Wx.Eff → Eff
 | ⟨av, rd, kw, t⟩ => ⟨av, rd, upk kw, t⟩
structure lookN (q : IntKind) (z : Value) (es : Y.MS) (x : Int) (A : A0 → Bool → Prop) : Prop where
 h : ∃ a ok, Y.lookM q (.int q x) (Y.zeroA z) es.es = some (a, ok) ∧ A a ok
structure updN (q : IntKind) (es : Y.MS) (x : Int) (a : A0) (A : Y.MS → Prop) : Prop where
 h : ∃ es', Y.updM q (.int q x) a es = some es' ∧ A es'
structure entN (q : IntKind) (z : Value) (es : Y.MS) (x : Int) (A : Y.MS → A0 → Nat → Prop) : Prop where
 h : ∃ es' a b, Y.entM q (.int q x) (Y.zeroA z) es = some (es', a, b) ∧ A es' a b
structure putN (es : Y.MS) (b : Int) (a : A0) (A : Y.MS → Prop) : Prop where
 h : ∃ es', Y.putM b a es = some es' ∧ A es'
structure mlenN (es : Y.MS) (A : Int → Prop) : Prop where
 h : ∃ n : Int, (es.es.length : Int) = n ∧ A n
def isM (F : Nat → Option AV) : Op → Bool
 | .makeMap _ _ => true
 | .mapUpdate _ _ _ _ => true
 | .insert _ _ _ _ => true
 | .mapEntry _ _ _ => true
 | .entryStore _ _ _ _ => true
 | .lookup _ _ _ _ => true
 | .range _ _ => true
 | .entry _ => true
 | .call c => match c.callee, c.args.toList with
  | .builtin .len, [m] => match evf F m with
   | some (.pl (.one (.mpv _))) => true
   | _ => false
  | _, _ => false
 | _ => false
structure entryN (es : Y.MS) (x : Y.IS) (A : Value × Nat × A0 → Prop) : Prop where
 h : (es.es.map (·.2.1)).Nodup ∧ x.last = es.c ∧ ∃ e l, e ∈ es.es ∧ x.seen = l ++ [e.2.1] ∧ A e
structure WideZ (P : Program) (o : Oper) (F : Nat → Option AV) (K : Kr) (top : Nat) (k : Eff → Prop) : Prop where
 h : ∃ e : Eff, Y.OpEff P o F (ky K) top e.y ∧ k e
section
variable (P : Program) (T : Tab)
def opMZ (o : Oper) (F : Nat → Option AV) (K : Kr) (top : Nat) (k : Eff → Prop) : Prop :=
 match o.op with
 | .makeMap _ r => match r with
  | none => k ⟨.c (.mpv top), [], [(top, some (.m ⟨[], 0⟩))], top + 1⟩
  | some _ => False
 | .mapUpdate t m x y => match tyGet T t, evf F m, evf F x, evf F y with
  | some ti, some (.pl (.one (.mpv i))), some (.pl (.one (.v (.int kk v)))), some (.pl a0) => match ti.mp, kz K i with
   | some (_, _, q, _), some (.m es) => match decide (kk = q) with
    | true => updN q es v a0 fun es' => k ⟨.val undef, [i], [(i, some (.m es'))], top⟩
    | false => False
   | _, _ => False
  | some _, some (.pl (.one (.mpv _))), some (.pl (.agg _)), some (.pl _) => WideZ P o F K top k
  | _, _, _, _ => False
 | .insert t m x y => match tyGet T t, evf F m, evf F x, evf F y with
  | some ti, some (.pl (.one (.mpv i))), some (.pl (.one (.v (.int kk v)))), some (.pl a0) => match ti.mp, kz K i with
   | some (_, _, q, _), some (.m es) => match decide (kk = q) with
    | true => updN q es v a0 fun es' => k ⟨.val undef, [i], [(i, some (.m es'))], top⟩
    | false => False
   | _, _ => False
  | some _, some (.pl (.one (.mpv _))), some (.pl (.agg _)), some (.pl _) => WideZ P o F K top k
  | _, _, _, _ => False
 | .mapEntry t m x => match tyGet T t, evf F m, evf F x with
  | some ti, some (.pl (.one (.mpv i))), some (.pl (.one (.v (.int kk v)))) => match ti.mp, kz K i with
   | some (_, _, q, z), some (.m es) => match decide (kk = q) with
    | true => entN q z es v fun es' a b => k ⟨.tup [a, .one (.v (.int .i64 b))], [i], [(i, some (.m es'))], top⟩
    | false => False
   | _, _ => False
  | some _, some (.pl (.one (.mpv _))), some (.pl (.agg _)) => WideZ P o F K top k
  | _, _, _ => False
 | .entryStore _ m s x => match evf F m, evf F s, evf F x with
  | some (.pl (.one (.mpv i))), some (.pl (.one (.v (.int _ b)))), some (.pl a0) => match kz K i with
   | some (.m es) => putN es b a0 fun es' => k ⟨.val undef, [i], [(i, some (.m es'))], top⟩
   | _ => False
  | _, _, _ => False
 | .lookup t m x cm => match tyGet T t, evf F m, evf F x with
  | some ti, some (.pl (.one (.mpv i))), some (.pl (.one (.v (.int kk v)))) => match ti.mp, kz K i with
   | some (_, _, q, z), some (.m es) => match decide (kk = q) with
    | true => lookN q z es v fun a ok => k ⟨match cm with | true => .tup [a, .one (.v (.bool ok))] | false => .pl a, [i], [], top⟩
    | false => False
   | _, _ => False
  | some _, some (.pl (.one (.mpv _))), some (.pl (.agg _)) => WideZ P o F K top k
  | _, _, _ => False
 | .range t m => match tyGet T t, evf F m with
  | some ti, some (.pl (.one (.mpv i))) => match ti.mp, kz K i with
   | some _, some (.m es) => k ⟨.c (.own top 0 0), [i], [(top, some (.i ⟨i, es.c, [], es.c⟩))], top + 1⟩
   | _, _ => False
  | _, _ => False
 | .entry it => match evf F it with
  | some (.pl (.one (.own j 0 0))) => match kz K j with
   | some (.i x) => match kz K x.m with
    | some (.m es) => entryN es x fun e => k ⟨.tup [.one (.v e.1), e.2.2], [j, x.m], [], top⟩
    | _ => False
   | _ => False
  | _ => False
 | .call c => match c.callee, c.args.toList, c.argTypes.toList with
  | .builtin .len, [m], [t] => match tyGet T t, evf F m with
   | some ti, some (.pl (.one (.mpv i))) => match ti.mp, kz K i with
    | some _, some (.m es) => mlenN es fun l => k ⟨.val (.int .i64 l), [i], [], top⟩
    | _, _ => False
   | _, _ => False
  | _, _, _ => False
 | _ => False
end
theorem ky_i {K : Kr} {i : Nat} {x : Y.IS} (h : kz K i = some (.i x)) : ky K i = some (.i x) := by simp [ky, h, Ob.y]
theorem ky_m {K : Kr} {i : Nat} {es : Y.MS} (h : kz K i = some (.m es)) : ky K i = some (.m es) := by simp [ky, h, Ob.y]
theorem isK_mk {q : IntKind} {v : Int} : Y.isK q (.v (.int q v)) = some (.int q v) := by simp [Y.isK]
theorem opMZ_sound {P : Program} {T : Tab} (hT : TabOk P T) {o : Oper} {F : Nat → Option AV} {K : Kr} {top : Nat} {k : Eff → Prop} (h : opMZ P T o F K top k) : ∃ e : Eff, Y.OpEff P o F (ky K) top e.y ∧ k e := by
 obtain ⟨dst, op, ty, pos, after, guard⟩ := o
 unfold opMZ at h
 dsimp only at h
 split at h
 ·split at h
  ·exact ⟨_, Y.o_make _ rfl, h⟩
  ·exact h.elim
 ·split at h
  ·rename_i ti i kk v a0 ht hm hx hy
   split at h
   ·rename_i kt et q z es hmp hes
    split at h
    ·rename_i hq
     have hq := of_decide_eq_true hq
     subst hq
     obtain ⟨es', h1, h2⟩ := h.h
     exact ⟨_, Y.o_update _ _ _ _ (.inl rfl) (hT _ _ ht) hmp hm (ky_m hes) hx isK_mk hy h1, h2⟩
    ·exact h.elim
   ·exact h.elim
  ·exact h.h
  ·exact h.elim
 ·split at h
  ·rename_i ti i kk v a0 ht hm hx hy
   split at h
   ·rename_i kt et q z es hmp hes
    split at h
    ·rename_i hq
     have hq := of_decide_eq_true hq
     subst hq
     obtain ⟨es', h1, h2⟩ := h.h
     exact ⟨_, Y.o_update _ _ _ _ (.inr rfl) (hT _ _ ht) hmp hm (ky_m hes) hx isK_mk hy h1, h2⟩
    ·exact h.elim
   ·exact h.elim
  ·exact h.h
  ·exact h.elim
 ·split at h
  ·rename_i ti i kk v ht hm hx
   split at h
   ·rename_i kt et q z es hmp hes
    split at h
    ·rename_i hq
     have hq := of_decide_eq_true hq
     subst hq
     obtain ⟨es', a, b, h1, h2⟩ := h.h
     exact ⟨_, Y.o_entry _ _ _ rfl (hT _ _ ht) hmp hm (ky_m hes) hx isK_mk h1, h2⟩
    ·exact h.elim
   ·exact h.elim
  ·exact h.h
  ·exact h.elim
 ·split at h
  ·rename_i i kk b a0 hm hs hx
   split at h
   ·rename_i es hes
    obtain ⟨es', h1, h2⟩ := h.h
    exact ⟨_, Y.o_entryStore _ _ _ _ rfl hm (ky_m hes) hs hx h1, h2⟩
   ·exact h.elim
  ·exact h.elim
 ·split at h
  ·rename_i cm _ _ _ ti i kk v ht hm hx
   split at h
   ·rename_i kt et q z es hmp hes
    split at h
    ·rename_i hq
     have hq := of_decide_eq_true hq
     subst hq
     obtain ⟨a, ok, h1, h2⟩ := h.h
     refine ⟨_, ?_, h2⟩
     have := Y.o_lookup (o := ⟨dst, _, ty, pos, after, guard⟩) (P := P) (top := top) _ _ _ cm rfl (hT _ _ ht) hmp hm (ky_m hes) hx isK_mk h1
     cases cm <;> exact this
    ·exact h.elim
   ·exact h.elim
  ·exact h.h
  ·exact h.elim
 ·split at h
  ·rename_i ti i ht hm
   split at h
   ·rename_i y es hmp hes
    obtain ⟨kt, et, q, z⟩ := y
    exact ⟨_, Y.o_range _ _ rfl (hT _ _ ht) hmp hm (ky_m hes), h⟩
   ·exact h.elim
  ·exact h.elim
 ·split at h
  ·rename_i j hit
   split at h
   ·rename_i x hj
    split at h
    ·rename_i es hes
     obtain ⟨h1, h2, e, l, h3, h4, h5⟩ := h.h
     exact ⟨_, Y.o_entryIt _ rfl hit (ky_i hj) (ky_m hes) h3 h1 h2 h4, h5⟩
    ·exact h.elim
   ·exact h.elim
  ·exact h.elim
 ·rename_i c
  obtain ⟨callee, args, tys⟩ := c
  obtain ⟨args⟩ := args
  obtain ⟨tys⟩ := tys
  dsimp only at h
  split at h
  ·split at h
   ·rename_i ti i ht hm
    split at h
    ·rename_i y es hmp hes
     obtain ⟨kt, et, q, z⟩ := y
     obtain ⟨l, h1, h2⟩ := h.h
     subst h1
     exact ⟨_, Y.o_len _ _ rfl (hT _ _ ht) hmp hm (ky_m hes), h2⟩
    ·exact h.elim
   ·exact h.elim
  ·exact h.elim
 ·exact h.elim
structure nextN (es : Y.MS) (x : Y.IS) (Z : Prop) (A : Value × Nat × A0 → Prop) : Prop where
 h : (∀ e ∈ es.es, e.2.1 < x.since) ∧ x.since ≤ x.last ∧ ((∀ e ∈ es.es, e.2.1 ∈ x.seen) → Z) ∧ ∀ e ∈ es.es, e.2.1 ∉ x.seen → A e
section
variable (P : Program) (T : Tab) (n m : Nat) (rd : Option Nat)
def onE (dst : Option Tmp) (F : Fr) (K : Kr) (top : Nat) (k : S → Prop) (e : Wx.Eff) : Prop :=
 match e with
 | ⟨av, _, kw, top'⟩ => match Nat.ble top top' with
  | true => match dst, kw with
   | none, [] => k ⟨F, K, top'⟩
   | some d, [] => k ⟨(d, av) :: F, K, top'⟩
   | none, [(j, b)] => k ⟨F, (j, b.map Ob.b) :: K, top'⟩
   | some d, [(j, b)] => k ⟨(d, av) :: F, (j, b.map Ob.b) :: K, top'⟩
   | _, _ => k ⟨Wx.put F dst av, upk kw ++ K, top'⟩
  | false => False
def onZ (dst : Option Tmp) (F : Fr) (K : Kr) (top : Nat) (k : S → Prop) (e : Eff) : Prop :=
 match e with
 | ⟨av, _, kw, top'⟩ => match Nat.ble top top' with
  | true => match dst, kw with
   | none, [] => k ⟨F, K, top'⟩
   | some d, [] => k ⟨(d, av) :: F, K, top'⟩
   | none, [p] => k ⟨F, p :: K, top'⟩
   | some d, [p] => k ⟨(d, av) :: F, p :: K, top'⟩
   | dst, kw => k ⟨Wx.put F dst av, kw ++ K, top'⟩
  | false => False
def nextOf : Op → Option Operand
 | .next it false => some it
 | _ => none
def stepZ (o : Oper) (s : S) (k : S → Prop) : Prop :=
 match o, s with
 | ⟨dst, op, ty, pos, after, guard⟩, ⟨F, K, top⟩ => match dstB n dst with
  | true => match callOf op with
   | some (f, xs) => match evf (get F) f, evs (get F) xs with
    | some (.pl (.one c)), some avs => CallZ P m c avs K top fun x K' top' => match dst with
     | some d => k ⟨(d, x) :: F, K', top'⟩
     | none => k ⟨F, K', top'⟩
    | _, _ => False
   | none => match op with
    | .defer _ => False
    | op => match isM (get F) op, nextOf op with
     | true, _ => opMZ P T ⟨dst, op, ty, pos, after, guard⟩ (get F) K top (onZ dst F K top k)
     | false, some it => match evf (get F) it, dst with
      | some (.pl (.one (.own j 0 0))), some d => match kz K j with
       | some (.i x) => match kz K x.m with
        | some (.m es) => nextN es x (k ⟨(d, .tup [.one (.v (.bool false))]) :: F, K, top⟩) fun e => k ⟨(d, .tup [.one (.v (.bool true)), .one (.v e.1), e.2.2]) :: F, (j, some (.i ⟨x.m, x.since, x.seen ++ [e.2.1], es.c⟩)) :: K, top⟩
        | _ => False
       | _ => False
      | _, _ => False
     | false, none => opA P T ⟨dst, op, ty, pos, after, guard⟩ (get F) (kb K) top (onE dst F K top k)
  | false => False
def runZ (ops : Array Oper) : List Oper → S → (S → Prop) → Prop
 | [], s, k => k s
 | ⟨dst, op, ty, pos, after, guard⟩ :: r, ⟨F, K, top⟩, k => match guard with
  | none => stepZ P T n m ⟨dst, op, ty, pos, after, none⟩ ⟨F, K, top⟩ fun s' => runZ ops r s' k
  | some (g, want) => match dstB n dst, (ops[g]?).bind (·.dst) with
   | true, some t => match get F t with
    | some (.pl (.one (.v (.bool b)))) => match want, dst with
     | true, some d => spB b (stepZ P T n m ⟨dst, op, ty, pos, after, none⟩ ⟨(t, .val (.bool true)) :: F, K, top⟩ fun s' => runZ ops r s' k) (runZ ops r ⟨(d, .val undef) :: (t, .val (.bool false)) :: F, K, top⟩ k)
     | false, some d => spB b (runZ ops r ⟨(d, .val undef) :: (t, .val (.bool true)) :: F, K, top⟩ k) (stepZ P T n m ⟨dst, op, ty, pos, after, none⟩ ⟨(t, .val (.bool false)) :: F, K, top⟩ fun s' => runZ ops r s' k)
     | true, none => spB b (stepZ P T n m ⟨dst, op, ty, pos, after, none⟩ ⟨(t, .val (.bool true)) :: F, K, top⟩ fun s' => runZ ops r s' k) (runZ ops r ⟨(t, .val (.bool false)) :: F, K, top⟩ k)
     | false, none => spB b (runZ ops r ⟨(t, .val (.bool true)) :: F, K, top⟩ k) (stepZ P T n m ⟨dst, op, ty, pos, after, none⟩ ⟨(t, .val (.bool false)) :: F, K, top⟩ fun s' => runZ ops r s' k)
    | some (.pl (.one (.v (.tuple _)))) => match dst with
     | some d => runZ ops r ⟨(d, .val undef) :: F, K, top⟩ k
     | none => runZ ops r ⟨F, K, top⟩ k
    | _ => False
   | _, _ => False
structure DrawZ (id : Nat) (ops : Array Oper) (s : S) (k : S → Prop) : Prop where
 h : ∀ rd, Tr P n m rd (.region id ops true) s fun e s' => match e with | .normal => k s' | _ => False
structure LoopZ (c : Code) (s : S) (Q : Exit → S → Prop) : Prop where
 h : (∀ j, rd = some j → j < m) → Tr P n m rd (.loop c) s Q
structure RangeZ (g : Operand) (ps : Array Tmp) (assign body : Code) (s : S) (Q : Exit → S → Prop) : Prop where
 h : (∀ j, rd = some j → j < m) → Tr P n m rd (.rangeFunc g ps assign body) s Q
def codeZ : Code → S → (Exit → S → Prop) → Prop
 | .skip, s, Q => Q .normal s
 | .region id ops draw, s, Q => match draw with
  | false => runZ P T n m ops ops.toList s (Q .normal)
  | true => DrawZ P n m id ops s (Q .normal)
 | .seq a b, s, Q => codeZ a s fun e s' => match e with
  | .normal => codeZ b s' Q
  | e => Q e s'
 | .cond c x y, ⟨F, K, top⟩, Q => match evf (get F) c with
  | some (.pl (.one (.v (.bool b)))) => spB b (codeZ x ⟨F, K, top⟩ Q) (codeZ y ⟨F, K, top⟩ Q)
  | _ => False
 | .block id c, s, Q => codeZ c s fun e s' => match e with
  | .exit i => match Nat.beq i id with
   | true => Q .normal s'
   | false => Q (.exit i) s'
  | e => Q e s'
 | .loop c, s, Q => LoopZ P n m rd c s Q
 | .rangeFunc g ps a b, s, Q => RangeZ P n m rd g ps a b s Q
 | .exit id, s, Q => Q (.exit id) s
 | .ret, s, Q => Q .ret s
 | .label _, s, Q => Q .normal s
 | _, _, _ => False
end
section
variable {P : Program} {T : Tab} {W : Wo} {n m : Nat} {rd : Option Nat}
theorem rd_next {I I' : IM} {r : Option Nat} (hrd : ∀ j, rd = some j → j < m) (h : Y.RdOk I rd r) (h4 : ∀ j, j < m → I' j = I j) : Y.RdOk I' rd r := by
 cases rd with
 | none => exact h
 | some j => obtain ⟨p, h1, h2⟩ := h; exact ⟨p, (h4 j (hrd j rfl)).trans h1, h2⟩
theorem nextP.of {I I1 : IM} {R R1 : RM} {A : S → Prop} {a' : Act} {w' : World} (h : nextP W n m I1 R1 A a' w') (hI : ∀ j, j < m → I1 j = I j) (hR : RExt R R1) : nextP W n m I R A a' w' := by
 obtain ⟨s', I', R', h1, h2, h3, h4, h5, h6⟩ := h
 exact ⟨s', I', R', h1, h2, h3, fun j hj => (h4 j hj).trans (hI j hj), hR.trans h5, h6⟩
theorem onE_spec {dst : Option Tmp} {F : Fr} {K : Kr} {top : Nat} {k : S → Prop} {e : Wx.Eff} (h : onE dst F K top k e) : top ≤ e.top ∧ k ⟨Wx.put F dst e.av, upk e.kw ++ K, e.top⟩ := by
 obtain ⟨av, rd, kw, top'⟩ := e
 unfold onE at h
 simp only at h
 split at h
 ·rename_i hb
  refine ⟨by simpa [Nat.ble_eq] using hb, ?_⟩
  split at h <;> exact h
 ·exact h.elim
theorem onZ_spec {dst : Option Tmp} {F : Fr} {K : Kr} {top : Nat} {k : S → Prop} {e : Eff} (h : onZ dst F K top k e) : top ≤ e.top ∧ k ⟨Wx.put F dst e.av, e.kw ++ K, e.top⟩ := by
 obtain ⟨av, rd, kw, top'⟩ := e
 unfold onZ at h
 simp only at h
 split at h
 ·rename_i hb
  refine ⟨by simpa [Nat.ble_eq] using hb, ?_⟩
  split at h <;> exact h
 ·exact h.elim
theorem stepZ_sound (hT : TabOk P T) {o : Oper} {s : S} {k : S → Prop} (h : stepZ P T n m o s k) {r : Option Nat} {I : IM} {R : RM} {a : Act} {w : World} (hs : Y.St n W (get s.F) (ky s.K) I R a w) (hd : ∀ j, s.top ≤ j → I j = none) (hm : m ≤ s.top)
  {next : Act → World → Prop} {Q : Exit → Act → World → Prop} (hn : ∀ a' w', nextP W n m I R k a' w' → next a' w') : o.wpIn (Y.fr r) 0 P a w next Q := by
 obtain ⟨dst, op, ty, pos, after, guard⟩ := o
 obtain ⟨F, K, top⟩ := s
 have hm : m ≤ top := hm
 have hd : ∀ j, top ≤ j → I j = none := hd
 have hs : Y.St n W (get F) (ky K) I R a w := hs
 unfold stepZ at h
 simp only at h
 split at h
 ·rename_i hdst
  split at h
  ·rename_i f xs hc
   unfold callOf at hc
   split at hc
   ·rename_i f' xs' ts
    simp only [Option.some.injEq, Prod.mk.injEq] at hc
    obtain ⟨rfl, rfl⟩ := hc
    split at h
    ·rename_i c avs hf hxs
     refine Y.upsx_op (h.run (Y.mkW W a.defers w) I R w _ _ (hs.wz.mk' hs.mks) hd hm (hs.evs hxs) (hs.ev hf)) ?_
     rintro e w' ⟨v, x, K', top', I', R', rfl, hw', hd', ht, hI, hR, hx, hk⟩
     obtain ⟨g1, g2⟩ := hs.wz.un hs.mks hw'
     have hk' : k ⟨Wx.put F dst x, K', top'⟩ := by cases dst <;> exact hk
     refine ⟨v, rfl, hn _ _ ⟨⟨Wx.put F dst x, K', top'⟩, I', R', ?_, hd', Nat.le_trans hm ht, fun j hj => hI j (Nat.lt_of_lt_of_le hj hm), hR, hk'⟩⟩
     simp only
     rw [get_put]
     exact hs.put (Y.ext_of hd hI) hR g1 g2 hdst hx
    ·exact h.elim
   ·cases hc
  ·split at h
   ·exact h.elim
   ·rename_i hnd
    split at h
    ·obtain ⟨e, he, hk0⟩ := opMZ_sound hT h
     obtain ⟨htop, hk⟩ := onZ_spec hk0
     refine he r n W _ _ I R a w hs (fun _ _ => rfl) (fun _ _ => rfl) (fun j h1 h2 => ⟨hd j h1, ?_⟩) hdst next Q ?_
     ·cases hq : ky K j with
      | none => rfl
      | some b => obtain ⟨p, hp⟩ := hs.dom hq; rw [hd j h1] at hp; cases hp
     ·intro I' R' a' w' hs' hI hfree hR
      simp only [Eff.y] at hfree hs'
      refine hn _ _ ⟨_, I', R', ?_, fun j hj => ?_, Nat.le_trans hm htop, fun j hj => hfree j (by omega), hR, hk⟩
      ·simp only
       rw [get_put, ky_append]; exact hs'
      ·simp only at hj
       rw [hfree j (by omega)]; exact hd j (by omega)
    ·rename_i it hmm hit
     split at h
     ·rename_i j d hev
      split at h
      ·rename_i x hj
       split at h
       ·rename_i es hes
        obtain ⟨h1, h2, h3, h4⟩ := h.h
        have hop : op = .next it false := by
         unfold nextOf at hit
         split at hit
         ·cases hit; rfl
         ·cases hit
        subst hop
        refine Y.step_next it rfl hs hev (ky_i hj) (ky_m hes) hdst h1 h2 (fun hz a' w' hs' => hn _ _ ⟨_, I, R, ?_, hd, hm, fun _ _ => rfl, .refl _, h3 hz⟩) fun e he hns a' w' hs' => hn _ _ ⟨_, I, R, ?_, hd, hm, fun _ _ => rfl, .refl _, h4 e he hns⟩
        ·have := get_put F (some d) (.tup [.one (.v (.bool false))])
         simp only [Wx.put] at this
         rw [this]; exact hs'
        ·have := get_put F (some d) (.tup [.one (.v (.bool true)), .one (.v e.1), e.2.2])
         simp only [Wx.put] at this
         simp only
         rw [this, ky_cons]; exact hs'
       ·exact h.elim
      ·exact h.elim
     ·exact h.elim
    ·rename_i hmm hnx
     obtain ⟨e, he, hk0⟩ := opA_sound hT h
     obtain ⟨htop, hk⟩ := onE_spec hk0
     rw [← kb_eq K] at he
     have hop := Y.lift_op (fun c hc => hnd c hc) he
     refine hop r n W _ _ I R a w hs (fun _ _ => rfl) (fun _ _ => rfl) (fun j h1 h2 => ⟨hd j h1, ?_⟩) hdst next Q ?_
     ·cases hq : ky K j with
      | none => rfl
      | some b => obtain ⟨p, hp⟩ := hs.dom hq; rw [hd j h1] at hp; cases hp
     ·intro I' R' a' w' hs' hI hfree hR
      simp only at hfree hs'
      refine hn _ _ ⟨_, I', R', ?_, fun j hj => ?_, Nat.le_trans hm htop, fun j hj => hfree j (by omega), hR, hk⟩
      ·simp only
       rw [get_put, ky_up]; exact hs'
      ·simp only at hj
       rw [hfree j (by omega)]; exact hd j (by omega)
 ·exact h.elim
theorem St.lit {F : Fr} {K : Nat → Option Y.Ob} {I : IM} {R : RM} {a : Act} {w : World} (h : Y.St n W (get F) K I R a w) {t : Nat} {x : AV} (hx : get F t = some x) : Y.St n W (get ((t, x) :: F)) K I R a w := by
 rw [get_lit hx]; exact h
theorem St.undef {F : Fr} {K : Nat → Option Y.Ob} {I : IM} {R : RM} {a : Act} {w : World} (h : Y.St n W (get F) K I R a w) {d : Option Nat} (hd : dstB n d = true) : Y.St n W (get (Wx.put F d (.val undef))) K I R (a.put d undef) w := by
 rw [get_put]
 exact h.put (.refl _) (.refl _) h.wz h.mks hd rfl
theorem wanted_guard {ops : Array Oper} {F : Fr} {K : Nat → Option Y.Ob} {I : IM} {R : RM} {a : Act} {w : World} {o : Oper} {g t : Nat} {want b : Bool} (hg : o.guard = some (g, want)) (hd : (ops[g]?).bind (·.dst) = some t) (ht : get F t = some (.val (.bool b))) (hs : Y.St n W (get F) K I R a w) :
  Region.wanted o (yielded ops a.tmps) = (b == want) := by
 have hv : a.eval (.tmp t) = .bool b := hs.fr t _ ht
 have hv' : a.tmps.getD t undef = .bool b := hv
 simp only [Array.getD_eq_getD_getElem?] at hv'
 have h3 : a.tmps[t]? = some (.bool b) := by
  cases hq : a.tmps[t]? with
  | none => rw [hq] at hv'; cases hv'
  | some z => rw [hq] at hv'; simp only [Option.getD_some] at hv'; rw [hv']
 simp [Region.wanted, hg, yielded, hd, h3]
theorem unwanted_guard {ops : Array Oper} {F : Fr} {K : Nat → Option Y.Ob} {I : IM} {R : RM} {a : Act} {w : World} {o : Oper} {g t : Nat} {want : Bool} {l : Array Value} (hg : o.guard = some (g, want)) (hd : (ops[g]?).bind (·.dst) = some t) (ht : get F t = some (.val (.tuple l))) (hs : Y.St n W (get F) K I R a w) :
  Region.wanted o (yielded ops a.tmps) = false := by
 have hv : a.eval (.tmp t) = .tuple l := hs.fr t _ ht
 have hv' : a.tmps.getD t undef = .tuple l := hv
 simp only [Array.getD_eq_getD_getElem?] at hv'
 cases hq : a.tmps[t]? with
 | none => simp [Region.wanted, hg, yielded, hd, hq]
 | some z =>
  rw [hq] at hv'
  simp only [Option.getD_some] at hv'
  subst hv'
  simp [Region.wanted, hg, yielded, hd, hq]
theorem runZ_sound (hT : TabOk P T) (ops : Array Oper) {k : S → Prop} {r0 : Option Nat} : ∀ (l : List Oper) (s : S), runZ P T n m ops l s k → ∀ I R a w, Y.St n W (get s.F) (ky s.K) I R a w → (∀ j, s.top ≤ j → I j = none) → m ≤ s.top →
  ∀ Q : Exit → Act → World → Prop, (∀ a' w', nextP W n m I R k a' w' → Q .normal a' w') → wpListIn (Y.fr r0) 0 P ops Q l a w
 | [], s, h, I, R, a, w, hs, hd, hm, Q, hn => hn a w ⟨s, I, R, hs, hd, hm, fun _ _ => rfl, .refl _, h⟩
 | o :: r, s, h, I, R, a, w, hs, hd, hm, Q, hn => by
  have step : ∀ (o' : Oper) (s1 : S), Region.wanted o' (yielded ops a.tmps) = true → stepZ P T n m { o' with guard := none } s1 (fun s' => runZ P T n m ops r s' k) → Y.St n W (get s1.F) (ky s1.K) I R a w → s1.top = s.top → wpListIn (Y.fr r0) 0 P ops Q (o' :: r) a w := by
   intro o' s1 hwant h1 hs1 ht
   unfold wpListIn
   rw [if_pos hwant]
   have := stepZ_sound (r := r0) hT h1 hs1 (by rw [ht]; exact hd) (by rw [ht]; exact hm) (next := wpListIn (Y.fr r0) 0 P ops Q r) (Q := Q) (by
    rintro a' w' ⟨s', I', R', g1, g2, g3, g4, g5, g6⟩
    exact runZ_sound hT ops r s' g6 I' R' a' w' g1 g2 g3 Q fun a2 w2 hx => hn a2 w2 (hx.of g4 g5))
   exact this
  obtain ⟨dst, op, ty, pos, after, guard⟩ := o
  obtain ⟨F, K, top⟩ := s
  have hs : Y.St n W (get F) (ky K) I R a w := hs
  unfold runZ at h
  split at h
  ·exact step ⟨dst, op, ty, pos, after, none⟩ ⟨F, K, top⟩ (by simp [Region.wanted]) h hs rfl
  ·rename_i g want
   split at h
   ·rename_i t hdst hgd
    split at h
    ·rename_i b ht
     have hw := wanted_guard (o := ⟨dst, op, ty, pos, after, some (g, want)⟩) rfl hgd ht hs
     have pass : ∀ F1 : Fr, (b == want) = false → runZ P T n m ops r ⟨F1, K, top⟩ k → Y.St n W (get F1) (ky K) I R (a.put dst undef) w → wpListIn (Y.fr r0) 0 P ops Q (⟨dst, op, ty, pos, after, some (g, want)⟩ :: r) a w := by
      intro F1 hb h1 hs1
      unfold wpListIn
      rw [if_neg (by rw [hw, hb]; simp)]
      exact ⟨fun _ _ => trivial, runZ_sound hT ops r ⟨F1, K, top⟩ h1 I R _ w hs1 hd hm Q hn⟩
     have hu : ∀ x : AV, get F t = some x → Y.St n W (get (Wx.put ((t, x) :: F) dst (.val undef))) (ky K) I R (a.put dst undef) w := fun x hx => St.undef (St.lit hs hx) hdst
     split at h
     ·cases b with
      | true => exact step ⟨_, op, ty, pos, after, some (g, true)⟩ ⟨_, K, top⟩ (by rw [hw]; rfl) (h.t rfl) (St.lit hs ht) rfl
      | false => exact pass _ rfl (h.f rfl) (hu _ ht)
     ·cases b with
      | true => exact pass _ rfl (h.t rfl) (hu _ ht)
      | false => exact step ⟨_, op, ty, pos, after, some (g, false)⟩ ⟨_, K, top⟩ (by rw [hw]; rfl) (h.f rfl) (St.lit hs ht) rfl
     ·cases b with
      | true => exact step ⟨_, op, ty, pos, after, some (g, true)⟩ ⟨_, K, top⟩ (by rw [hw]; rfl) (h.t rfl) (St.lit hs ht) rfl
      | false => exact pass _ rfl (h.f rfl) (hu _ ht)
     ·cases b with
      | true => exact pass _ rfl (h.t rfl) (hu _ ht)
      | false => exact step ⟨_, op, ty, pos, after, some (g, false)⟩ ⟨_, K, top⟩ (by rw [hw]; rfl) (h.f rfl) (St.lit hs ht) rfl
    ·rename_i l ht
     have hw := unwanted_guard (o := ⟨dst, op, ty, pos, after, some (g, want)⟩) rfl hgd ht hs
     have h' : runZ P T n m ops r ⟨Wx.put F dst (.val undef), K, top⟩ k := by cases dst <;> exact h
     unfold wpListIn
     rw [if_neg (by rw [hw]; simp)]
     exact ⟨fun _ _ => trivial, runZ_sound hT ops r _ h' I R _ w (St.undef hs hdst) hd hm Q hn⟩
    ·exact h.elim
   ·exact h.elim
theorem codeZ_sound (hT : TabOk P T) (hrd : ∀ j, rd = some j → j < m) : ∀ (c : Code) (s : S) (Q : Exit → S → Prop), codeZ P T n m rd c s Q → Tr P n m rd c s Q
 | .skip, s, Q, h => fun W r I R a w hr hs hd hm => wpIn_skip ⟨s, I, R, hs, hd, hm, fun _ _ => rfl, .refl _, h⟩
 | .region id ops draw, s, Q, h => by
  unfold codeZ at h
  cases draw with
  | false =>
   simp only at h
   intro W r I R a w hr hs hd hm
   exact wpIn_region_list (runZ_sound hT ops _ s h I R a w hs hd hm _ fun a' w' hx => hx)
  | true =>
   simp only at h
   intro W r I R a w hr hs hd hm
   refine wpIn_mono (h.h rd W r I R a w hr hs hd hm) ?_
   rintro e a' w' ⟨s', I', R', h1, h2, h3, h4, h5, h6⟩
   cases e <;> first | exact ⟨s', I', R', h1, h2, h3, h4, h5, h6⟩ | exact h6.elim
 | .seq x y, s, Q, h => fun W r I R a w hr hs hd hm => by
  unfold codeZ at h
  refine wpIn_seq (wpIn_mono (codeZ_sound hT hrd x s _ h W r I R a w hr hs hd hm) ?_)
  rintro e a' w' ⟨s', I', R', h1, h2, h3, h4, h5, h6⟩
  cases e with
  | normal =>
   refine wpIn_mono (codeZ_sound hT hrd y s' Q h6 W r I' R' a' w' (rd_next hrd hr h4) h1 h2 h3) ?_
   intro e2 a2 w2 hx
   exact nextP.of hx h4 h5
  | _ => exact ⟨s', I', R', h1, h2, h3, h4, h5, h6⟩
 | .cond c x y, ⟨F, K, top⟩, Q, h => fun W r I R a w hr hs hd hm => by
  unfold codeZ at h
  split at h
  ·rename_i b hb
   have hv : a.eval c = .bool b := hs.ev hb
   exact wpIn_cond_split hv (fun ht => codeZ_sound hT hrd x ⟨F, K, top⟩ Q (h.t ht) W r I R a w hr hs hd hm) (fun ht => codeZ_sound hT hrd y ⟨F, K, top⟩ Q (h.f ht) W r I R a w hr hs hd hm)
  ·exact h.elim
 | .block id c, s, Q, h => fun W r I R a w hr hs hd hm => by
  unfold codeZ at h
  refine wpIn_block (wpIn_mono (codeZ_sound hT hrd c s _ h W r I R a w hr hs hd hm) ?_)
  rintro e a' w' ⟨s', I', R', h1, h2, h3, h4, h5, h6⟩
  cases e with
  | exit i =>
   simp only at h6
   simp only [Exit.inBlock]
   split at h6
   ·rename_i hb; rw [if_pos (Nat.eq_of_beq_eq_true hb)]; exact ⟨s', I', R', h1, h2, h3, h4, h5, h6⟩
   ·rename_i hb; rw [if_neg (Nat.ne_of_beq_eq_false hb)]; exact ⟨s', I', R', h1, h2, h3, h4, h5, h6⟩
  | _ => exact ⟨s', I', R', h1, h2, h3, h4, h5, h6⟩
 | .loop c, s, Q, h => by unfold codeZ at h; exact h.h hrd
 | .rangeFunc g ps a b, s, Q, h => by unfold codeZ at h; exact h.h hrd
 | .exit id, s, Q, h => fun W r I R a w hr hs hd hm => wpIn_exit ⟨s, I, R, hs, hd, hm, fun _ _ => rfl, .refl _, h⟩
 | .ret, s, Q, h => fun W r I R a w hr hs hd hm => wpIn_ret ⟨s, I, R, hs, hd, hm, fun _ _ => rfl, .refl _, h⟩
 | .label l, s, Q, h => fun W r I R a w hr hs hd hm => wpIn_label ⟨s, I, R, hs, hd, hm, fun _ _ => rfl, .refl _, h⟩
 | .scope _, s, Q, h => by unfold codeZ at h; exact h.elim
 | .goto _, s, Q, h => by unfold codeZ at h; exact h.elim
 | .refuse _, s, Q, h => by unfold codeZ at h; exact h.elim
end
end Go.Proofs.Ytopieffkpdlpbaa.Wx.Z
namespace Go.Proofs.Ytopieffkpdlpbaa.Wx.Z
open Go Go.RowKit
def renF (r : Nat → Nat) : Fr → Fr
 | [] => []
 | (k, x) :: F => (k, x.ren r) :: renF r F
theorem get_renF {r : Nat → Nat} : ∀ {F : Fr} {t : Nat} {y : AV}, get F t = some y → get (renF r F) t = some (y.ren r)
 | [], t, y, h => by simp [get] at h
 | (k, x) :: F, t, y, h => by
  simp only [get] at h
  simp only [renF, get]
  cases hb : Nat.beq k t with
  | true => rw [hb] at h; simp only [Option.some.injEq] at h; subst h; rfl
  | false => rw [hb] at h; exact get_renF h
theorem frOk_renF {r : Nat → Nat} : ∀ {F : Fr}, frOk (renF r F) = frOk F
 | [] => rfl
 | (k, x) :: F => by
  simp only [renF, frOk]
  cases Nat.blt k big with
  | true => exact frOk_renF
  | false => rfl
theorem btOf_ren {r : Nat → Nat} {F : Fr} {t : Nat} {y : AV} (h : (btOf F).get t = some y) : (btOf (renF r F)).get t = some (y.ren r) := by
 cases hk : frOk F with
 | true =>
  rw [btOf_get (by rw [frOk_renF]; exact hk)]
  exact get_renF (btOf_sub h)
 | false =>
  unfold btOf at h
  rw [hk] at h
  simp [Bt.get] at h
def LB.ren (r : Nat → Nat) (x : LB) : LB := ⟨x.n, renF r x.F, x.ps, x.assign, x.body, x.st⟩
def Ob.ren (r : Nat → Nat) : Ob → Ob
 | .b x => .b (x.ren r)
 | .m es => .m ⟨es.es.map fun e => (e.1, e.2.1, e.2.2.ren r), es.c⟩
 | .l x => .l (x.ren r)
 | .i x => .i ⟨r x.m, x.since, x.seen, x.last⟩
theorem ObOk.ren {I : IM} {R : RM} {r : Nat → Nat} {o : Ob} {p : Loc} {w : World} (h : Y.ObOk I R (o.ren r).y p w) : Y.ObOk (fun j => I (r j)) R o.y p w := by
 cases o with
 | b x => trivial
 | m es =>
  obtain ⟨ents, h1, h2⟩ := h.mem
  exact ⟨ents, h1, (All2.of_map (fun e : Value × Nat × A0 => (e.1, e.2.1, e.2.2.ren r)) h2).mono fun e m hh => ⟨hh.1, A0.rel_ren.1 hh.2⟩⟩
 | l x =>
  obtain ⟨rc, h1, h2, h3, h4, h5, h6, h7⟩ := h.mem
  exact ⟨rc, h1, h2, h3, h4, h5, h6, fun t y hy => AV.rel_ren.1 (h7 t _ (btOf_ren hy))⟩
 | i x => obtain ⟨pm, h1, h2⟩ := h.mem; exact ⟨pm, h1, h2⟩
theorem nb_ren {r : Nat → Nat} {o : Ob} : (o.ren r).y.nb = o.y.nb := by cases o <;> rfl
def subK (r : Nat → Nat) (K : Kr) : Kr → Prop
 | [] => True
 | (j, o) :: G => (∀ b, o = some b → kz K (r j) = some (b.ren r)) ∧ subK r K G
theorem subK.get {r : Nat → Nat} {K : Kr} : ∀ {G : Kr} {j : Nat} {b : Ob}, subK r K G → kz G j = some b → kz K (r j) = some (b.ren r)
 | [], j, b, _, h => by simp [kz] at h
 | (k, y) :: G, j, b, hs, h => by
  simp only [kz] at h
  cases hb : Nat.beq k j with
  | true =>
   simp only [hb] at h
   rw [← Nat.eq_of_beq_eq_true hb]
   exact hs.1 b h
  | false =>
   simp only [hb] at h
   exact subK.get (G := G) hs.2 h
theorem subK.low {r : Nat → Nat} {K : Kr} : ∀ {G : Kr}, subK r K G → Wx.subK r (kbl K) (kbl G)
 | [], _ => trivial
 | (k, y) :: G, hs => by
  refine ⟨fun b hb => ?_, subK.low hs.2⟩
  cases y with
  | none => cases hb
  | some o => cases o with
   | b x =>
    simp only [isB, Option.some.injEq] at hb
    subst hb
    rw [kg_kbl, kb_kz, hs.1 _ rfl]
    rfl
   | m es => cases hb
   | l x => cases hb
   | i x => cases hb
structure Wk (m : Nat) (l : List Nat) (s s0 : S) : Prop where
 len : l.length = s0.top
 nd : l.Nodup
 pre : l.take m = List.range m
 mle : m ≤ s0.top
 F : subF (rn l s.top) s.F s0.F
 K : subK (rn l s.top) s.K s0.K
def Stp (m : Nat) (s s' : S) : Prop := ∀ (n : Nat) (W : Wo) (I : IM) (R : RM) (a : Act) (w : World), Y.St n W (get s.F) (ky s.K) I R a w → (∀ j, s.top ≤ j → I j = none) →
 ∃ I' R', Y.St n W (get s'.F) (ky s'.K) I' R' a w ∧ (∀ j, s'.top ≤ j → I' j = none) ∧ m ≤ s'.top ∧ (∀ j, j < m → I' j = I j) ∧ RExt R R'
section
variable {P : Program} {T : Tab} {W : Wo} {n m : Nat} {rd : Option Nat} {I : IM} {R : RM} {a : Act} {w : World} {s s0 : S}
theorem ky_some {K : Kr} {i : Nat} {o : Y.Ob} (h : ky K i = some o) : ∃ b, kz K i = some b ∧ o = b.y := by
 unfold ky at h
 cases hk : kz K i with
 | none => rw [hk] at h; cases h
 | some b => rw [hk] at h; simp only [Option.map_some, Option.some.injEq] at h; exact ⟨b, rfl, h.symm⟩
theorem ky_of {K : Kr} {i : Nat} {b : Ob} (h : kz K i = some b) : ky K i = some b.y := by unfold ky; rw [h]; rfl
theorem Wz.weak {K0 : Kr} {l : List Nat} (h : Y.Wz W (ky s.K) I R w) (nd : l.Nodup) (hK : subK (rn l s.top) s.K K0) (hd : ∀ j, s.top ≤ j → I j = none) : Y.Wz W (ky K0) (fun j => I (rn l s.top j)) R w := by
 refine ⟨?_, fun i o hi hn => ?_, fun i j oi oj p q hi hj hni hnj hp hq he => ?_⟩
 ·have h0 := h.wd
  rw [kb_eq, ← kg_kbl] at h0 ⊢
  exact Wd.weak (s := ⟨[], kbl s.K, s.top⟩) h0 nd hK.low hd
 ·obtain ⟨b, hb, rfl⟩ := ky_some hi
  obtain ⟨p, hp, ho, hz⟩ := h.ob _ _ (ky_of (hK.get hb)) (by rw [nb_ren]; exact hn)
  exact ⟨p, hp, ObOk.ren ho, hz⟩
 ·obtain ⟨b, hb, rfl⟩ := ky_some hi
  obtain ⟨c, hc, rfl⟩ := ky_some hj
  have hp' : I (rn l s.top i) = some p := hp
  have hq' : I (rn l s.top j) = some q := hq
  have e := h.inj _ _ _ _ _ _ (ky_of (hK.get hb)) (ky_of (hK.get hc)) (by rw [nb_ren]; exact hni) (by rw [nb_ren]; exact hnj) hp hq he
  exact rn_inj (s := ⟨[], [], s.top⟩) nd (by rw [show (⟨[], [], s.top⟩ : Wx.S).top = s.top from rfl, hp']; simp) (by rw [show (⟨[], [], s.top⟩ : Wx.S).top = s.top from rfl, hq']; simp) hd e
theorem Wk.stp {l : List Nat} (h : Wk m l s s0) : Stp m s s0 := fun n W I R a w hs hd => by
 refine ⟨fun j => I (rn l s.top j), R, ⟨hs.size, hs.mks, fun t x hx => AV.rel_ren.1 (hs.fr t _ (h.F.get hx)), Wz.weak hs.wz h.nd h.K hd⟩, rn_dom (s := ⟨[], [], s.top⟩) (s0 := ⟨[], [], s0.top⟩) h.len hd, h.mle, fun j hj => ?_, .refl _⟩
 have : l[j]? = some j := by
  have h1 : (l.take m)[j]? = some j := by rw [h.pre]; simp [hj]
  rwa [List.getElem?_take, if_pos hj] at h1
 simp [rn, this]
theorem Stp.trans {s1 s2 s3 : S} {m : Nat} (h : Stp m s1 s2) (k : Stp m s2 s3) : Stp m s1 s3 := fun n W I R a w hs hd => by
 obtain ⟨I1, R1, a1, a2, a3, a4, a5⟩ := h n W I R a w hs hd
 obtain ⟨I2, R2, b1, b2, b3, b4, b5⟩ := k n W I1 R1 a w a1 a2
 exact ⟨I2, R2, b1, b2, b3, fun j hj => (b4 j hj).trans (a4 j hj), a5.trans b5⟩
structure rndZ {α : Type} (m : Nat) (G : α → S) (Inv : α → Prop) (μ : α → Nat) (p : α) (s : S) : Prop where
 h : ∃ p', Inv p' ∧ μ p' < μ p ∧ Stp m s (G p')
theorem loopZ_rule {c : Code} {Q : Exit → S → Prop} {α : Type} (hT : TabOk P T) (G : α → S) (Inv : α → Prop) (μ : α → Nat) (p0 : α) (h0 : Inv p0) (hw : Stp m s (G p0))
  (hb : ∀ p, Inv p → codeZ P T n m rd c (G p) fun e s' => match e with | .normal => rndZ m G Inv μ p s' | e => Q e s') : LoopZ P n m rd c s Q := by
 refine ⟨fun hrd W r I R a w hr hs hd hm => ?_⟩
 obtain ⟨Ia, Ra, g1, g2, gm, g3, g4⟩ := hw n W I R a w hs hd
 have key : ∀ (k : Nat) (p : α), Inv p → μ p < k → ∀ (I' : IM) (R' : RM) (a' : Act) (w' : World), Y.St n W (get (G p).F) (ky (G p).K) I' R' a' w' → (∀ j, (G p).top ≤ j → I' j = none) → m ≤ (G p).top → (∀ j, j < m → I' j = I j) → RExt R R' →
   Code.roundsIn (Y.fr r) 0 P c (fun e a' w' => nextP W n m I R (Q e) a' w') k a' w' := by
  intro k
  induction k with
  | zero => intro p _ h; exact absurd h (Nat.not_lt_zero _)
  | succ k ih =>
   intro p hI hlt I' R' a' w' h1 h2 h3 h4 h5
   rw [roundsIn_succ]
   refine wpIn_mono (codeZ_sound hT hrd c (G p) _ (hb p hI) W r I' R' a' w' (rd_next hrd hr h4) h1 h2 h3) ?_
   rintro e a2 w2 ⟨s2, I2, R2, k1, k2, k3, k4, k5, k6⟩
   cases e with
   | normal =>
    obtain ⟨p', hp', hlt', hwk⟩ := k6.h
    obtain ⟨I3, R3, j1, j2, j5, j3, j4⟩ := hwk _ _ _ _ _ _ k1 k2
    exact ih p' hp' (by omega) I3 R3 a2 w2 j1 j2 j5 (fun j hj => (j3 j hj).trans ((k4 j hj).trans (h4 j hj))) ((h5.trans k5).trans j4)
   | _ => exact ⟨s2, I2, R2, k1, k2, k3, fun j hj => (k4 j hj).trans (h4 j hj), h5.trans k5, k6⟩
 exact wpIn_loop_rounds (μ p0 + 1) (key _ p0 h0 (Nat.lt_succ_self _) Ia Ra a w g1 g2 gm g3 g4)
end
section
variable (P : Program) (T : Tab) (n m : Nat) (rd : Option Nat) (c : Code) (Q : Exit → S → Prop)
def loopU : Nat → S → Prop
 | 0, _ => False
 | f + 1, s => codeZ P T n m rd c s fun e s' => match e with
  | .normal => loopU f s'
  | e => Q e s'
end
theorem loopZ_unroll {P : Program} {T : Tab} {n m : Nat} {rd : Option Nat} {s : S} {c : Code} {Q : Exit → S → Prop} (hT : TabOk P T) (fuel : Nat) (h : loopU P T n m rd c Q fuel s) : LoopZ P n m rd c s Q := by
 refine ⟨fun hrd W r I R a w hr hs hd hm => ?_⟩
 have key : ∀ (k : Nat) (s' : S), loopU P T n m rd c Q k s' → ∀ (I' : IM) (R' : RM) (a' : Act) (w' : World), Y.St n W (get s'.F) (ky s'.K) I' R' a' w' → (∀ j, s'.top ≤ j → I' j = none) → m ≤ s'.top → (∀ j, j < m → I' j = I j) → RExt R R' →
   Code.roundsIn (Y.fr r) 0 P c (fun e a' w' => nextP W n m I R (Q e) a' w') k a' w' := by
  intro k
  induction k with
  | zero => intro s' h; exact h.elim
  | succ k ih =>
   intro s' hk I' R' a' w' h1 h2 h3 h4 h5
   rw [roundsIn_succ]
   refine wpIn_mono (codeZ_sound hT hrd c s' _ hk W r I' R' a' w' (rd_next hrd hr h4) h1 h2 h3) ?_
   rintro e a2 w2 ⟨s2, I2, R2, k1, k2, k3, k4, k5, k6⟩
   cases e with
   | normal => exact ih s2 k6 I2 R2 a2 w2 k1 k2 k3 (fun j hj => (k4 j hj).trans (h4 j hj)) (h5.trans k5)
   | _ => exact ⟨s2, I2, R2, k1, k2, k3, fun j hj => (k4 j hj).trans (h4 j hj), h5.trans k5, k6⟩
 exact wpIn_loop_rounds fuel (key fuel s h I R a w hs hd hm (fun _ _ => rfl) (.refl _))
theorem callZ_in {P : Program} {T : Tab} {m : Nat} {g : FuncId} {cap : List Pt} {avs : List AV} {K : Kr} {top : Nat} {k : AV → Kr → Nat → Prop} (hT : TabOk P T) (n : Nat) (fn : Func) (c : Code) (hf : P.funcs[g]? = some fn) (hfn : fnB P g = true) (hb : fn.body = some c) (hn : fn.ntmps = n) (hle : Nat.ble (avs ++ capA cap).length n = true)
  (h : codeZ P T n top none c ⟨argF 0 (avs ++ capA cap), K, top⟩ fun e s => match s with
   | ⟨F', K', t'⟩ => match e with
    | .normal => ∃ xs, resL T ⟨F', kbl K', t'⟩ fn.results.toList = some xs ∧ k (retV xs) K' t'
    | .ret => ∃ xs, resL T ⟨F', kbl K', t'⟩ fn.results.toList = some xs ∧ k (retV xs) K' t'
    | _ => False) : CallZ P m (.fn g cap) avs K top k := by
 refine ⟨fun W I R w v vs hw hd hm hvs hv => ?_⟩
 obtain ⟨us, hus, rfl⟩ : ∃ us, All2 (Pt.rel I) cap us ∧ v = .func (.func g) #[] us.toArray := hv
 have hall := hvs.append (capA_rel (R := R) hus)
 have hle' : (avs ++ capA cap).length ≤ n := by simpa [Nat.ble_eq] using hle
 refine .inl (.inl ⟨g, #[], us.toArray, rfl, hfn, ?_⟩)
 rw [Array.empty_append]
 have hargs : vs.toArray ++ us.toArray = (vs ++ us).toArray := by simp
 rw [hargs]
 have h0 := Wx.st_args (n := n) hall hw.wd (by rw [← hall.length]; exact hle')
 subst hn
 refine Y.fr_calls (r := none) (n := 0) (callsIn_of_wp_marks hf hb trivial (wpIn_mono (codeZ_sound hT (fun _ h => by cases h) c _ _ h W none I R _ w rfl ⟨h0.size, trivial, h0.fr, hw⟩ hd (Nat.le_refl _)) ?_))
 rintro e' a' w' ⟨⟨F', K', t'⟩, I', R', k1, k2, k3, k4, k5, k6⟩
 have k1 : Y.St fn.ntmps W (get F') (ky K') I' R' a' w' := k1
 have fin : ∀ xs, resL T ⟨F', kbl K', t'⟩ fn.results.toList = some xs → k (retV xs) K' t' → LeavesInM (Y.fr none) 0 P fn a'.tmps (fun e w' => ∃ u x K' top' I' R', e = .returned u ∧ Y.Wz W (ky K') I' R' w' ∧ (∀ j, top' ≤ j → I' j = none) ∧ top ≤ top' ∧ (∀ j, j < top → I' j = I j) ∧ RExt R R' ∧ x.rel I' R' u ∧ k x K' top') a'.defers .returning w' := by
  intro xs hx hk
  refine Y.leaves_marks _ _ k1.mks k1.wz fun w2 hw2 => ?_
  have k1' : Wx.St fn.ntmps W (get F') (kg (kbl K')) I' R' ⟨a'.tmps, []⟩ w2 := ⟨k1.size, rfl, fun t x hx => k1.fr t x hx, by rw [kg_kbl, ← kb_eq]; exact hw2.wd⟩
  obtain ⟨v, g1, g2⟩ := resL_results (s := ⟨F', kbl K', t'⟩) hT k1' hx
  exact ⟨v, g1, v, _, K', t', I', R', rfl, hw2, k2, k3, k4, k5, g2, hk⟩
 cases e' with
 | normal => obtain ⟨xs, hx, hk⟩ := k6; exact fin xs hx hk
 | ret => obtain ⟨xs, hx, hk⟩ := k6; exact fin xs hx hk
 | _ => exact k6.elim
theorem callZ_con {P : Program} {m : Nat} {g : FuncId} {avs : List AV} {K : Kr} {top : Nat} {k : AV → Kr → Nat → Prop} {args : List A0} {post : AV → Wx.Kr → Nat → Prop} (hl : All2 (lowV (kb K)) avs args) (h : Con P g args post)
  (hk : ∀ x Kc tc, post x Kc tc → k (x.ren (top + ·)) (upk (shK top Kc) ++ K) (top + tc)) : CallZ P m (.fn g []) avs K top k := by
 refine ⟨fun W I R w v vs hw hd hm hvs hv => ?_⟩
 obtain ⟨us, hus, rfl⟩ : ∃ us, All2 (Pt.rel I) [] us ∧ v = .func (.func g) #[] us.toArray := hv
 refine .inl (.inl ⟨g, #[], us.toArray, rfl, h.fn, ?_⟩)
 rw [Array.empty_append]
 have base := Wx.call_con (W := Y.stpB W (Y.blkOf (ky K)) I R w) (m := m) (K := kbl K) (top := top) (k := fun x K' t => ∃ kw, K' = kw ++ kbl K ∧ k x (upk kw ++ K) t) h (by rw [kg_kbl]; exact hl) (fun x Kc tc hp => ⟨shK top Kc, rfl, hk x Kc tc hp⟩)
 refine (base.run I R w vs us (by rw [kg_kbl, ← kb_eq]; exact Y.wd_step hw.wd) hd hm hvs hus).mono ?_
 rintro e w' ⟨v, x, K', top', I', R', rfl, hw', hd', ht, hI, hR, hx, kw, rfl, hk⟩
 refine ⟨v, x, upk kw ++ K, top', I', R', rfl, ?_, hd', ht, hI, hR, hx, hk⟩
 rw [ky_up]
 rw [kg_append, kg_kbl, ← kb_eq] at hw'
 exact hw.onK (Y.ext_of hd hI) hR hw'
theorem con_ofZ {P : Program} {T : Tab} {g : FuncId} {args : List A0} {post : AV → Wx.Kr → Nat → Prop} (hT : TabOk P T) (n : Nat) (fn : Func) (c : Code) (hf : P.funcs[g]? = some fn) (hfn : fnB P g = true) (hb : fn.body = some c) (hn : fn.ntmps = n) (hle : Nat.ble args.length n = true) (hlow : args.all A0.low' = true)
  (h : codeZ P T n 0 none c ⟨argF 0 (args.map .pl), [], 0⟩ fun e s => match s with
   | ⟨F', K', t'⟩ => match e with
    | .normal => retN T fn.results.toList ⟨F', kbl K', t'⟩ post
    | .ret => retN T fn.results.toList ⟨F', kbl K', t'⟩ post
    | _ => False) : Con P g args post := by
 refine ⟨hfn, fun w vs hvs => ?_⟩
 have hle' : args.length ≤ n := by simpa [Nat.ble_eq] using hle
 let R0 : RM := fun fl b o => match fl with | true => none | false => w.cell? ⟨b, o, none⟩
 have hw : Wd (Wo.of w) (kg []) (fun _ => none) R0 w := by
  refine ⟨fun i b h => by simp [kg] at h, fun i j bi bj p q h => by simp [kg] at h, fun i b p h => by simp [kg] at h, ?_, fun i b p f o h => by simp [kg] at h, ?_, ?_, .refl _, fun _ _ _ _ _ h => h, fun _ h => h.elim⟩
  ·intro f b o u hu
   cases f with
   | true => cases hu
   | false => exact hu
  ·intro b o u hu; cases hu
  ·intro b o u hu; cases hu
 have hv : All2 (AV.rel (fun _ => none) R0) (args.map .pl) vs := by
  refine All2.map _ (hvs.mono_mem fun a ha b hb => ?_)
  exact A0.rel_low (by rfl) (List.all_eq_true.1 hlow a ha) hb
 have h0 := Wx.st_args (n := n) hv hw (by rw [← hvs.length]; exact hle')
 have hwz : Y.Wz (Wo.of w) (ky []) (fun _ => none) R0 w := ⟨by rw [kb_eq]; exact hw, fun i o h => (by cases h), fun i j oi oj p q h => (by cases h)⟩
 subst hn
 refine Y.fr_calls (r := none) (n := 0) (callsIn_of_wp_marks hf hb trivial (wpIn_mono (codeZ_sound hT (fun _ h => by cases h) c _ _ h (Wo.of w) none _ R0 _ w rfl ⟨h0.size, trivial, h0.fr, hwz⟩ (fun _ _ => rfl) (Nat.le_refl _)) ?_))
 rintro e' a' w' ⟨⟨F', K', t'⟩, I', R', h1, h2, h3, h4, h5, h6⟩
 have h1 : Y.St fn.ntmps (Wo.of w) (get F') (ky K') I' R' a' w' := h1
 have fin : retN T fn.results.toList ⟨F', kbl K', t'⟩ post → LeavesInM (Y.fr none) 0 P fn a'.tmps (fun e w' => ∃ v_1 x Kc tc I Rf, e = .returned v_1 ∧ Wd (Wo.of w) (kg Kc) I (fun _ => Rf) w' ∧ (∀ j, tc ≤ j → I j = none) ∧ (∀ p ∈ Kc, p.1 < tc) ∧ x.rel I (fun _ => Rf) v_1 ∧ post x Kc tc) a'.defers .returning w' := by
  rintro ⟨s2, hst, xs, hx, l, x, Kc, e1, e2, e3, e4, e5, e7, e6⟩
  refine Y.leaves_marks _ _ h1.mks h1.wz fun w2 hw2 => ?_
  have k1' : Wx.St fn.ntmps (Wo.of w) (get F') (kg (kbl K')) I' R' ⟨a'.tmps, []⟩ w2 := ⟨h1.size, rfl, fun t x hx => h1.fr t x hx, by rw [kg_kbl, ← kb_eq]; exact hw2.wd⟩
  obtain ⟨I2, R2, g1, g2, _, _, _⟩ := hst _ _ _ _ _ _ k1' h2
  obtain ⟨v, j1, j2⟩ := resL_results hT g1 hx
  rw [e1] at j2
  exact ⟨v, j1, v, x, Kc, l.length, _, R2 true, rfl, (g1.wd.weak e3 e2 g2).own e5, rn_dom (s0 := ⟨[], [], l.length⟩) rfl g2, e7, AV.rel_own e4 (AV.rel_ren.1 j2), e6⟩
 cases e' with
 | normal => exact fin h6
 | ret => exact fin h6
 | _ => exact h6.elim
end Go.Proofs.Ytopieffkpdlpbaa.Wx.Z
namespace Go.Proofs.Ytopieffkpdlpbaa.Wx.Z
open Go Go.RowKit
def putF (n : Nat) : Fr → List Tmp → List AV → Option Fr
 | F, [], [] => some F
 | F, t :: ts, x :: xs => match Nat.blt t n with
  | true => putF n ((t, x) :: F) ts xs
  | false => none
 | _, _, _ => none
theorem putF_sound {n : Nat} {I : IM} {R : RM} : ∀ (ts : List Tmp) (avs : List AV) (vs : List Value) (F F' : Fr) (tm : Array Value), putF n F ts avs = some F' → tm.size = n → (∀ t y, get F t = some y → y.rel I R (tm.getD t undef)) → All2 (AV.rel I R) avs vs →
  ts.length = vs.length ∧ ((ts.zip vs).foldl (fun tmps (p : Tmp × Value) => tmps.setIfInBounds p.1 p.2) tm).size = n ∧ ∀ t y, get F' t = some y → y.rel I R (((ts.zip vs).foldl (fun tmps (p : Tmp × Value) => tmps.setIfInBounds p.1 p.2) tm).getD t undef)
 | [], [], [], F, F', tm, h, hn, hf, _ => by
  simp only [putF, Option.some.injEq] at h
  subst h
  exact ⟨rfl, hn, hf⟩
 | [], [], _ :: _, _, _, _, _, _, _, hv => hv.elim
 | [], _ :: _, _, F, F', tm, h, _, _, _ => by simp [putF] at h
 | _ :: _, [], _, F, F', tm, h, _, _, _ => by simp [putF] at h
 | _ :: _, _ :: _, [], F, F', tm, _, _, _, hv => hv.elim
 | t :: ts, x :: avs, v :: vs, F, F', tm, h, hn, hf, hv => by
  unfold putF at h
  split at h
  ·rename_i h1
   have h1' : @LT.lt Nat _ t n := by simpa [Nat.blt_eq] using h1
   obtain ⟨g1, g2, g3⟩ := putF_sound (n := n) (I := I) (R := R) ts avs vs _ F' (tm.setIfInBounds t v) h (by simpa using hn) (fun u y hy => by
    have := get_put F (some t) x
    simp only [Wx.put] at this
    rw [this] at hy
    simp only [fput] at hy
    simp only [Array.getD_eq_getD_getElem?]
    split at hy
    ·rename_i he
     subst he
     simp only [Option.some.injEq] at hy
     subst hy
     rw [Array.getElem?_setIfInBounds_self_of_lt (by omega)]
     exact hv.1
    ·rename_i he
     rw [Array.getElem?_setIfInBounds_ne (fun e => he e.symm)]
     have := hf u y hy
     simpa [Array.getD_eq_getD_getElem?] using this) hv.2
   exact ⟨by simp [g1], g2, g3⟩
  ·cases h
section
variable {P : Program} {T : Tab} {n m : Nat} {rd : Option Nat}
theorem yield_rule {j : Nat} {avs : List AV} {K : Kr} {top : Nat} {k : AV → Kr → Nat → Prop} (hT : TabOk P T) (lb : LB) (F0 : Fr) (hlb : kz K j = some (.l lb)) (hst : lb.st = .ready) (hok : frOk lb.F = true) (hF0 : putF lb.n lb.F lb.ps.toList avs = some F0)
  (h : codeZ P T lb.n top (some j) lb.assign ⟨F0, K, top⟩ fun e s1 => match e with
   | .normal => match s1 with
    | ⟨F1, K1, t1⟩ => match kz K1 j with
     | some (.l ⟨n1, G1, ps1, as1, bd1, st1⟩) => match st1 with
      | .ready => codeZ P T lb.n top (some j) lb.body ⟨F1, (j, some (.l ⟨n1, G1, ps1, as1, bd1, .busy⟩)) :: K1, t1⟩ fun e s2 => match s2 with
       | ⟨F2, K2, t2⟩ => match kz K2 j with
        | some (.l ⟨n2, G2, ps2, as2, bd2, _⟩) => match e with
         | .normal => k (.val (.bool true)) ((j, some (.l ⟨n2, G2, ps2, as2, bd2, .ready⟩)) :: K2) t2
         | .ret => k (.val (.bool false)) ((j, some (.l ⟨n2, G2, ps2, as2, bd2, .done .ret⟩)) :: K2) t2
         | .exit id => k (.val (.bool false)) ((j, some (.l ⟨n2, G2, ps2, as2, bd2, .done (.exit id)⟩)) :: K2) t2
         | _ => False
        | _ => False
      | _ => False
     | _ => False
   | _ => False) : CallZ P m (.yl j) avs K top k := by
 refine ⟨fun W I R w v vs hw hd hm hvs hv => ?_⟩
 obtain ⟨p, hp, rfl⟩ : ∃ p, I j = some p ∧ v = .func (.yield p.b) #[] #[] := hv
 have hlt : j < top := by
  rcases Nat.lt_or_ge j top with h1 | h1
  ·exact h1
  ·rw [hd j h1] at hp; cases hp
 have hrd : ∀ i, some j = some i → i < top := fun i hi => by cases hi; exact hlt
 obtain ⟨rc, r1, r2, r3, r4, r5, r6, r7⟩ := Y.loop_at hw (ky_of hlb) hp
 simp only [LB.y] at r2 r3 r4 r5 r6 r7
 rw [btOf_get hok] at r7
 obtain ⟨g1, g2, g3⟩ := putF_sound _ _ _ _ _ _ hF0 r5 r7 hvs
 refine .inl (.inr ⟨p.b, rc.fn, _, rc.assign, rc.body, rfl, run_yield r1 (by rw [r2]; simpa using g1.symm), roundIn_of_wpIn trivial ?_⟩)
 have hfold : (rc.params.zip vs.toArray).foldl (fun tmps (x : Tmp × Value) => match x with | (t, a) => tmps.setIfInBounds t a) rc.tmps = (lb.ps.toList.zip vs).foldl (fun tmps (p : Tmp × Value) => tmps.setIfInBounds p.1 p.2) rc.tmps := by
  rw [r2, ← Array.foldl_toList]
  simp
 rw [hfold, r3, r4]
 refine wpIn_mono (codeZ_sound hT hrd _ _ _ h W (some p.b) I R _ w ⟨p, hp, rfl⟩ ⟨g2, trivial, g3, hw⟩ hd (Nat.le_refl _)) ?_
 rintro e1 x1 w1 ⟨⟨F1, K1, t1⟩, I1, R1, k1, k2, k3, k4, k5, k6⟩
 have k1 : Y.St lb.n W (get F1) (ky K1) I1 R1 x1 w1 := k1
 have k2 : ∀ j, t1 ≤ j → I1 j = none := k2
 have k3 : top ≤ t1 := k3
 have hI1 : ∀ i, i < top → I1 i = I i := k4
 cases e1 with
 | normal =>
  simp only at k6
  split at k6
  rotate_left
  ·exact k6.elim
  rename_i n1 G1 ps1 as1 bd1 st1 hlb1
  split at k6
  rotate_left
  ·exact k6.elim
  have hp1 : I1 j = some p := (k4 j hlt).trans hp
  obtain ⟨rc1, q1, q2, q3, q4, q5, q6, q7⟩ := Y.loop_at k1.wz (ky_of hlb1) hp1
  simp only [LB.y] at q2 q3 q4 q5 q6 q7
  refine ⟨_, run_beginRound q1 q6.1, ?_⟩
  have hw2 := Y.loop_set k1.wz (ky_of hlb1) hp1 q1 .busy .busy rc1.pending rfl
  have hst2 : Y.St lb.n W (get F1) (ky ((j, some (.l ⟨n1, G1, ps1, as1, bd1, .busy⟩)) :: K1)) I1 R1 x1 (w1.putObj p.b (.loop { rc1 with state := .busy })) := ⟨k1.size, Y.mk_put q1 k1.mks, k1.fr, by rw [ky_cons]; exact hw2⟩
  refine wpIn_mono (codeZ_sound hT hrd _ _ _ k6 W (some p.b) I1 R1 x1 _ ⟨p, hp1, rfl⟩ hst2 k2 k3) ?_
  rintro e2 x2 w2 ⟨⟨F2, K2, t2⟩, I2, R2, m1, m2, m3, m4, m5, m6⟩
  have m1 : Y.St lb.n W (get F2) (ky K2) I2 R2 x2 w2 := m1
  have hp2 : I2 j = some p := (m4 j hlt).trans hp1
  simp only at m6
  split at m6
  rotate_left
  ·exact m6.elim
  rename_i n2 G2 ps2 as2 bd2 st2 hlb2
  obtain ⟨rc2, n1, _⟩ := Y.loop_at m1.wz (ky_of hlb2) hp2
  have fin : ∀ (c : Option Code) (stt : Y.LS), (∀ rc : Loop, Y.recOk stt { rc with state := if c.isNone then .ready else .done, pending := c }) → (∀ (l : Nat) (Q : Ending → World → Prop) (a : Act) (w : World), (∃ v w', (Instr.endRound l c).run P w = .ok v w' ∧ Q (.returned v) w') → roundPost P l Q e2 a w) →
    k (.val (.bool c.isNone)) ((j, some (.l ⟨n2, G2, ps2, as2, bd2, stt⟩)) :: K2) t2 → roundPost P p.b (fun e w' => ∃ u x K' top' I' R', e = .returned u ∧ Y.Wz W (ky K') I' R' w' ∧ (∀ j, top' ≤ j → I' j = none) ∧ top ≤ top' ∧ (∀ j, j < top → I' j = I j) ∧ RExt R R' ∧ x.rel I' R' u ∧ k x K' top') e2 x2 w2 := by
   intro c stt hrec hpost hk
   refine hpost _ _ _ _ ⟨_, _, run_endRound c n1, .bool c.isNone, .val (.bool c.isNone), _, t2, I2, R2, rfl, ?_, m2, m3, fun i hi => (m4 i hi).trans (k4 i hi), k5.trans m5, rfl, hk⟩
   rw [ky_cons]
   exact Y.loop_set m1.wz (ky_of hlb2) hp2 n1 stt _ c (hrec rc2)
  cases e2 with
  | normal => exact fin none .ready (fun _ => ⟨rfl, rfl⟩) (fun _ _ _ _ h => h) m6
  | ret => exact fin (some .ret) (.done .ret) (fun _ => ⟨rfl, .ret, rfl, rfl⟩) (fun _ _ _ _ h => h) m6
  | exit id => exact fin (some (.exit id)) (.done (.exit id)) (fun _ => ⟨rfl, .exit id, rfl, rfl⟩) (fun _ _ _ _ h => h) m6
  | _ => exact m6.elim
 | _ => exact k6.elim
def subFz (F : Fr) : Fr → Prop
 | [] => True
 | (t, x) :: G => get F t = some x ∧ subFz F G
theorem subFz.get {F : Fr} : ∀ {G : Fr} {t : Nat} {x : AV}, subFz F G → Wx.get G t = some x → Wx.get F t = some x
 | [], t, x, _, h => by simp [Wx.get] at h
 | (k, y) :: G, t, x, hs, h => by
  simp only [Wx.get] at h
  cases hb : Nat.beq k t with
  | true =>
   simp only [hb, Option.some.injEq] at h
   subst h
   rw [← Nat.eq_of_beq_eq_true hb]
   exact hs.1
  | false =>
   simp only [hb] at h
   exact subFz.get hs.2 h
def rdIn (K : Kr) : Option Nat → Bool
 | none => true
 | some j => match kz K j with
  | some (.l _) => true
  | _ => false
def rangeQ (s : S) (Q : Exit → S → Prop) (K' : Kr) (top' : Nat) : Prop :=
 match s with
 | ⟨F, K, top⟩ => match kz K' top with
  | some (.l ⟨_, _, _, _, _, st⟩) => match st with
   | .ready => Q .normal ⟨F, (top, none) :: K', top'⟩
   | .done e => match e with
    | .ret => Q .ret ⟨F, (top, none) :: K', top'⟩
    | .exit id => Q (.exit id) ⟨F, (top, none) :: K', top'⟩
    | _ => False
   | _ => False
  | _ => False
structure rngN (A : Prop) : Prop where
 h : A
theorem range_rule0 {g : Operand} {ps : Array Tmp} {assign body : Code} {s : S} {Q : Exit → S → Prop} {f : FuncId} {cap : List Pt} (F0 : Fr) (hg : evf (get s.F) g = some (.c (.fn f cap))) (hsub : subFz s.F F0) (hok : frOk F0 = true) (hin : rdIn s.K rd = true)
  (h : CallZ P m (.fn f cap) [.pl (.one (.yl s.top))] ((s.top, some (.l ⟨n, F0, ps, assign, body, .ready⟩)) :: s.K) (s.top + 1) fun _ K' top' => rangeQ s Q K' top') : RangeZ P n m rd g ps assign body s Q := by
 refine ⟨fun hrd W r I R a w hr hs hd hm => wpIn_rangeFunc fun fn _ => ?_⟩
 have hKn : ky s.K s.top = none := by
  cases hq : ky s.K s.top with
  | none => rfl
  | some o => obtain ⟨p, hp⟩ := hs.dom hq; rw [hd s.top (Nat.le_refl _)] at hp; cases hp
 have hI0 := hd s.top (Nat.le_refl _)
 have lok : ∀ (W1 : World) (dd : Nat), Y.LoopOk (Wx.ext I s.top ⟨W1.heap.size, 0, 0⟩) R (LB.y ⟨n, F0, ps, assign, body, .ready⟩) ⟨W1.heap.size, 0, 0⟩ (W1.alloc (.loop { state := .ready, pending := none, fn, tmps := a.tmps, params := ps, assign, body, defers := dd })) := fun W1 dd => ⟨_, World.alloc_heap_new _ _, rfl, rfl, rfl, hs.size, ⟨rfl, rfl⟩, fun t y hy => AV.mono (.ext hI0) (.refl _) (hs.fr t y (hsub.get (btOf_sub hy)))⟩
 have core : ∀ (l : Nat) (mark : List Deferred) (w1 : World), (Instr.enterLoop fn a.tmps ps assign body r).run P w = .ok (l, mark) w1 →
   Y.Wz W (Y.upd (ky s.K) s.top (some (.l (LB.y ⟨n, F0, ps, assign, body, .ready⟩)))) (Wx.ext I s.top ⟨l, 0, 0⟩) R w1 → Y.Mk W (mark ++ a.defers) w1 →
   ∃ (l : Nat) (mark : List Deferred) (w₁ : World) (d : Deferred) (w₁' : World) (f : FuncId) (args : Array Value) (w₂ : World),
   (Instr.enterLoop fn a.tmps ps assign body (Y.fr r).round).run P w = .ok (l, mark) w₁ ∧
   (resolve a.eval (rangeCall g l) 0).run P w₁ = .ok d w₁' ∧
   (∀ f', Target.leads P w₁' d.target d.args = some f' → (Y.fr r).fn f') ∧
   (invoke d.target d.args).run P w₁' = .ok (.enter f args) w₂ ∧
   ((Y.fr r).depth.isSome = true → 1 ≤ 0) ∧
   CallsIn (Y.fr r) (0 - 1) P f args w₂ (rangePost (Y.fr r) 0 P l (fun e a' w' => nextP W n m I R (Q e) a' w') { a with defers := mark ++ a.defers }) := by
  intro l mark w1 hen hz1 hm1
  obtain ⟨us, hus, hfu⟩ : ∃ vs, All2 (Pt.rel I) cap vs ∧ a.eval g = .func (.func f) #[] vs.toArray := hs.ev hg
  have hIe : IExt I (Wx.ext I s.top ⟨l, 0, 0⟩) := .ext hI0
  have hd1 : ∀ j, s.top + 1 ≤ j → (Wx.ext I s.top ⟨l, 0, 0⟩) j = none := fun j hj => by
   unfold Wx.ext; rw [if_neg (by omega)]; exact hd j (by omega)
  have hyl : (AV.pl (.one (.yl s.top))).rel (Wx.ext I s.top ⟨l, 0, 0⟩) R (.func (.yield l) #[] #[]) := ⟨⟨l, 0, 0⟩, by simp [Wx.ext], rfl⟩
  have hz2 : Y.Wz (Y.mkW W (mark ++ a.defers) w1) (ky ((s.top, some (.l ⟨n, F0, ps, assign, body, .ready⟩)) :: s.K)) (Wx.ext I s.top ⟨l, 0, 0⟩) R w1 := by
   rw [ky_cons]; exact hz1.mk' hm1
  have hcall := h.run (Y.mkW W (mark ++ a.defers) w1) _ R w1 (.func (.func f) #[] us.toArray) [.func (.yield l) #[] #[]] hz2 hd1 (by omega) ⟨hyl, trivial⟩ ⟨us, hus.mono fun _ _ h => Pt.mono hIe h, rfl⟩
  obtain ⟨g', fs', us', hv, hb, hcalls⟩ := (hcall.resolve_right (fun ⟨_, _, _, _, _, _, _, _, _, hargs, _⟩ => by simp at hargs)).resolve_right (fun ⟨_, _, _, _, _, hv, _⟩ => by cases hv)
  simp only [Value.func.injEq, Fn.func.injEq] at hv
  obtain ⟨rfl, rfl, rfl⟩ := hv
  rw [Array.empty_append] at hcalls
  refine ⟨l, mark, w1, ⟨.fn (.func f) us.toArray, #[.func (.yield l) #[] #[]]⟩, w1, f, #[.func (.yield l) #[] #[]] ++ us.toArray, w1, ?_, ?_, ?_, ?_, ?_, ?_⟩
  ·rw [show (Y.fr r).round = r from rfl]; exact hen
  ·simp [resolve, hfu, Deferred.ofValue, show ∀ v, a.eval (.const v) = v from fun _ => rfl]
  ·exact fun _ _ => trivial
  ·simp [invoke, fnB_call hb]
  ·exact fun hh => (by cases hh)
  refine Y.calls_fr (Calls.mono hcalls ?_)
  rintro e' w3 ⟨u, x, K', top', I', R', rfl, hw3, hd3, ht3, ho3, hR3, _, hq⟩
  have hw3' : Y.Wz (Y.mkW W (mark ++ a.defers) w1) (ky K') I' R' w3 := hw3
  obtain ⟨g1, g2⟩ := hz1.un hm1 hw3'
  have hI' : IExt I I' := hIe.trans (Y.ext_of hd1 ho3)
  obtain ⟨F, K, top⟩ := s
  have hs : Y.St n W (get F) (ky K) I R a w := hs
  have hm : m ≤ top := hm
  have ht3 : top + 1 ≤ top' := ht3
  simp only at hd1 ho3 hI0 hd
  have hfin : ∀ (lb : LB) (e : Exit), kz K' top = some (.l lb) → Q e ⟨F, (top, none) :: K', top'⟩ → ∃ rc, (w3.heap[l]? = some (.loop rc) ∧ Y.recOk lb.st rc) ∧ nextP W n m I R (Q e) { a with defers := mark ++ a.defers } (w3.putObj l (.loop { rc with state := .exhausted })) := by
   intro lb e hlb hQ
   obtain ⟨p, rc, p1, p2, p3, p4⟩ := Y.range_end g1 (ky_of hlb)
   have hpl : p.b = l := by
    have : I' top = some ⟨l, 0, 0⟩ := (ho3 top (by omega)).trans (by simp [Wx.ext])
    rw [p1] at this; cases this; rfl
   refine ⟨rc, ⟨hpl ▸ p2, p3⟩, ⟨F, (top, none) :: K', top'⟩, I', R', ⟨hs.size, Y.mk_put (hpl ▸ p2) g2, fun t x hx => AV.mono hI' hR3 (hs.fr t x hx), ?_⟩, hd3, (by simp only; omega), fun j hj => (ho3 j (by omega)).trans ?_, hR3, hQ⟩
   ·rw [ky_cons, ← hpl]
    exact p4 _
   ·unfold Wx.ext; rw [if_neg (by omega)]
  unfold rangeQ at hq
  simp only at hq
  split at hq
  rotate_left
  ·exact hq.elim
  rename_i n1 G1 ps1 as1 bd1 st1 hlb
  split at hq
  ·obtain ⟨rc, ⟨p2, p3⟩, hn⟩ := hfin _ .normal hlb hq
   refine ⟨none, _, (run_endLoop p2 (by rw [p3.1]; exact fun h => (by cases h))).trans (by rw [p3.2]), hn⟩
  ·split at hq
   ·obtain ⟨rc, ⟨p2, p3⟩, hn⟩ := hfin _ .ret hlb hq
    obtain ⟨q1, c, q2, q3⟩ := p3
    cases q2
    exact ⟨some .ret, _, (run_endLoop p2 (by rw [q1]; exact fun h => (by cases h))).trans (by rw [q3]), wpIn_ret hn⟩
   ·rename_i id
    obtain ⟨rc, ⟨p2, p3⟩, hn⟩ := hfin _ (.exit id) hlb hq
    obtain ⟨q1, c, q2, q3⟩ := p3
    cases q2
    exact ⟨some (.exit id), _, (run_endLoop p2 (by rw [q1]; exact fun h => (by cases h))).trans (by rw [q3]), wpIn_exit hn⟩
   ·exact hq.elim
  ·exact hq.elim
 cases rd with
 | none =>
  cases hr
  have hz0 : Y.Wz W (ky s.K) I R (w.alloc (.deferred (some []))) := hs.wz.grow ((Bel.refl _ w).alloc (Nat.le_refl _) _)
  refine core _ _ _ (run_enterLoop_outer fn a.tmps ps assign body) ?_ ?_
  ·have := hz0.laid hI0 hKn (lok (w.alloc (.deferred (some []))) w.heap.size)
   rw [show (w.alloc (Obj.deferred (some []))).heap.size = w.heap.size + 1 by simp] at this
   exact this
  ·refine ⟨⟨w.heap.size, rfl, Y.alloc_at (World.alloc_heap_new _ _), fun hz => ?_, fun d' hd' D' hD' => ?_⟩, ?_⟩
   ·exact absurd (hs.wz.wd.below.lt hz) (Nat.lt_irrefl _)
   ·have := (hs.mks.at d' hd' D' hD').1
    have := (Array.getElem?_eq_some_iff.1 this).1
    omega
   ·exact hs.mks.mono fun D hD => by
     have hlt := (Array.getElem?_eq_some_iff.1 hD).1
     rw [Y.alloc_old _ _ (by simp; omega), Y.alloc_old _ _ hlt]
 | some j0 =>
  obtain ⟨p0, hp0, rfl⟩ := hr
  unfold rdIn at hin
  simp only at hin
  split at hin
  ·rename_i lb0 hlb0
   obtain ⟨p1, hp1, ho1, _⟩ := hs.wz.ob j0 _ (ky_of hlb0) rfl
   rw [hp0] at hp1; cases hp1
   obtain ⟨rc0, hrc0, _⟩ := ho1.mem
   refine core _ _ _ (run_enterLoop_inner hrc0 fn a.tmps ps assign body) (hs.wz.laid hI0 hKn (lok w rc0.defers)) ?_
   exact hs.mks.mono fun D hD => Y.alloc_old _ _ (Array.getElem?_eq_some_iff.1 hD).1
  ·cases hin
theorem range_rule {g : Operand} {ps : Array Tmp} {assign body : Code} {s : S} {Q : Exit → S → Prop} {f : FuncId} {cap : List Pt} (F0 : Fr) (hg : evf (get s.F) g = some (.c (.fn f cap))) (hsub : subFz s.F F0) (hok : frOk F0 = true) (hin : rdIn s.K rd = true)
  (h : ∀ lb : LB, lb = ⟨n, F0, ps, assign, body, .ready⟩ → CallZ P m (.fn f cap) [.pl (.one (.yl s.top))] ((s.top, some (.l lb)) :: s.K) (s.top + 1) fun _ K' top' => rngN (rangeQ s Q K' top')) : RangeZ P n m rd g ps assign body s Q := by
 refine range_rule0 F0 hg hsub hok hin ?_
 have := h _ rfl
 exact ⟨fun W I R w v vs h1 h2 h3 h4 h5 => (this.run W I R w v vs h1 h2 h3 h4 h5).mono fun e w' ⟨u, x, K', top', I', R', g1, g2, g3, g4, g5, g6, g7, g8⟩ => ⟨u, x, K', top', I', R', g1, g2, g3, g4, g5, g6, g7, g8.h⟩⟩
end
def Imp (c c' : Ce) : Prop := ∀ (I : IM) (R : RM) (u : Value), c.rel I R u → c'.rel I R u
theorem Imp.refl (c : Ce) : Imp c c := fun _ _ _ h => h
theorem Imp.nilg (i : Nat) : Imp (.v (.slice none 0 0)) (.gsl i []) := fun _ _ _ h => .inl ⟨rfl, h⟩
theorem Imp.nilr (fl : Bool) (sz : Nat) : Imp (.v (.slice none 0 0)) (.ro fl sz []) := fun _ _ u h => by
 have : u = .slice none 0 0 := h
 subst this; exact .nil sz
theorem Stp.cells {m : Nat} {s : S} (i : Nat) (b : Blk) (rows' : List (List Ce)) (hK : kz s.K i = some (.b b)) (hm : m ≤ s.top) (h : All2 (All2 Imp) b.rows rows') : Stp m s ⟨s.F, (i, some (.b ⟨rows', b.sz, b.ty, b.bx⟩)) :: s.K, s.top⟩ := fun n W I R a w hs hd => by
 refine ⟨I, R, ⟨hs.size, hs.mks, hs.fr, ?_⟩, hd, hm, fun _ _ => rfl, .refl _⟩
 have hlen := h.length
 have hb0 : Y.blkOf (ky s.K) i = some b := by rw [kb_eq, kb_kz, hK]; rfl
 have hnew : Y.blkOf (ky ((i, some (.b ⟨rows', b.sz, b.ty, b.bx⟩)) :: s.K)) = fun t => if t = i then some ⟨rows', b.sz, b.ty, b.bx⟩ else Y.blkOf (ky s.K) t := by
  funext t
  rw [ky_cons]
  unfold Y.blkOf Y.upd
  by_cases ht : t = i
  ·subst ht; simp [Ob.y]
  ·simp only [if_neg ht]
 have hback : ∀ {t : Nat} {b' : Blk}, Y.blkOf (ky ((i, some (.b ⟨rows', b.sz, b.ty, b.bx⟩)) :: s.K)) t = some b' → ∃ b0, Y.blkOf (ky s.K) t = some b0 ∧ (b0 = b' ∨ (t = i ∧ b0 = b ∧ b' = ⟨rows', b.sz, b.ty, b.bx⟩)) := by
  intro t b' ht
  rw [hnew] at ht
  simp only at ht
  split at ht
  ·rename_i he; subst he; cases ht; exact ⟨b, hb0, .inr ⟨rfl, rfl, rfl⟩⟩
  ·exact ⟨b', ht, .inl rfl⟩
 have hoth : ∀ {t : Nat} {o : Y.Ob}, ky ((i, some (.b ⟨rows', b.sz, b.ty, b.bx⟩)) :: s.K) t = some o → o.nb = true → ky s.K t = some o := by
  intro t o ht hn
  rw [ky_cons] at ht
  unfold Y.upd at ht
  split at ht
  ·simp only [Option.map_some, Option.some.injEq] at ht; subst ht; cases hn
  ·exact ht
 have hw := hs.wz
 refine ⟨{ hw.wd with
  blk := fun t b' ht => ?_
  inj := fun t t' bi bj p q h1 h2 hp hq he => by
   obtain ⟨c1, k1, _⟩ := hback h1
   obtain ⟨c2, k2, _⟩ := hback h2
   exact hw.wd.inj t t' c1 c2 p q k1 k2 hp hq he
  base := fun t b' p h1 hp => by obtain ⟨c1, k1, _⟩ := hback h1; exact hw.wd.base t c1 p k1 hp
  apart := fun t b' p f o h1 hp => by obtain ⟨c1, k1, _⟩ := hback h1; exact hw.wd.apart t c1 p f o k1 hp }, fun t o h1 hn => hw.ob t o (hoth h1 hn) hn, fun t t' oi oj p q h1 h2 hni hnj => hw.inj t t' oi oj p q (hoth h1 hni) (hoth h2 hnj) hni hnj⟩
 obtain ⟨c1, k1, hc⟩ := hback ht
 obtain ⟨p, hp, hk⟩ := hw.wd.blk t c1 k1
 rcases hc with rfl | ⟨rfl, rfl, rfl⟩
 ·exact ⟨p, hp, hk⟩
 ·obtain ⟨g1, g2, g3, g4, cs, g5, g6, g7⟩ := hk
  refine ⟨p, hp, g1, by simp only; omega, g3, fun r hr => ?_, cs, g5, g6, fun q r k c hq hc => ?_⟩
  ·obtain ⟨r0, hr0, hrr⟩ := h.mem hr
   rw [← hrr.length]; exact g4 r0 hr0
  ·have hq' : rows'[q]? = some r := hq
   have hlt : q < c1.rows.length := by
    have := (List.getElem?_eq_some_iff.1 hq').1; omega
   obtain ⟨r', hr', hrel⟩ := h.get (List.getElem?_eq_getElem hlt)
   rw [hq'] at hr'; cases hr'
   have hlt2 : k < c1.rows[q].length := by
    have := (List.getElem?_eq_some_iff.1 hc).1; rw [hrel.length]; exact this
   obtain ⟨c', hc', hi⟩ := hrel.get (List.getElem?_eq_getElem hlt2)
   rw [hc] at hc'; cases hc'
   obtain ⟨u, hu, hr⟩ := g7 q _ k _ (List.getElem?_eq_getElem hlt) (List.getElem?_eq_getElem hlt2)
   exact ⟨u, hu, hi I R u hr⟩
end Go.Proofs.Ytopieffkpdlpbaa.Wx.Z
namespace Go.Proofs.Ytopieffkpdlpbaa.Wx.Z
open Go Go.RowKit
structure ConZ (P : Program) (c : Ce) (avs : List AV) (K : Kr) (top : Nat) (k : Eff → Prop) : Prop where
 h : ∃ e : Eff, Y.CEff P c avs (ky K) top e.y ∧ k e
section
variable {P : Program}
theorem conZ_mk {g : FuncId} {avs : List AV} {K : Kr} {top : Nat} {k : Eff → Prop} {args : List A0} {res : AV} {Kc : Wx.Kr} {tc : Nat} (hl : All2 (lowV (kb K)) avs args) (h : Con P g args (fun x K t => x = res ∧ K = Kc ∧ t = tc)) (hk : k ⟨res.ren (top + ·), avs.flatMap AV.refs, upk (shK top Kc), top + tc⟩) : ConZ P (.fn g []) avs K top k := by
 refine ⟨_, ?_, hk⟩
 obtain ⟨hfn, hrun⟩ := con_eff (K0 := kb K) (top := top) h hl
 intro W K' I R w v vs hw hvs hv hrd hfree
 simp only [Eff.y] at hrd hfree
 obtain ⟨us, hus, rfl⟩ : ∃ us, All2 (Pt.rel I) [] us ∧ v = .func (.func g) #[] us.toArray := hv
 refine .inl (.inl ⟨g, #[], us.toArray, rfl, hfn, ?_⟩)
 rw [Array.empty_append]
 refine (hrun (Y.stpB W (Y.blkOf K') I R w) (Y.blkOf K') I R w vs us (Y.wd_step hw.wd) hvs hus (fun i hi => by
  rw [← kb_eq]; unfold Y.blkOf; rw [hrd i hi]) (fun j h1 h2 => ⟨(hfree j h1 h2).1, by unfold Y.blkOf; rw [(hfree j h1 h2).2]⟩)).mono ?_
 rintro e' w' ⟨u, I', R', rfl, h1, h2, h3, h4, h5⟩
 refine ⟨u, I', R', rfl, ?_, h2, h3, h4, h5⟩
 simp only [Eff.y, yk_upk]
 exact hw.onK h2 h4 h1
inductive FK (l : List Nat) : Kr → Kr → Prop
 | nil : FK l [] []
 | keep {p : Nat × Option Ob} {K K' : Kr} (h : l.contains p.1 = true) (k : FK l K K') : FK l (p :: K) (p :: K')
 | drop {p : Nat × Option Ob} {K K' : Kr} (h : l.contains p.1 = false) (k : FK l K K') : FK l (p :: K) K'
inductive DK (K : Kr) : Kr → Kr → Prop
 | nil : DK K K []
 | cons {p : Nat × Option Ob} {K' D : Kr} (k : DK K K' D) : DK K (p :: K') (p :: D)
theorem DK.eq {K K' D : Kr} (h : DK K K' D) : K' = D ++ K := by
 induction h with
 | nil => rfl
 | cons _ ih => rw [ih]; rfl
theorem FK.out {l : List Nat} {K K' : Kr} (h : FK l K K') : ∀ {i : Nat} {b : Ob}, kz K' i = some b → l.contains i = true := by
 induction h with
 | nil => intro i b h; simp [kz] at h
 | keep h k ih =>
  rename_i p K K'
  intro i b hb
  obtain ⟨p1, p2⟩ := p
  simp only [kz] at hb
  split at hb
  ·rename_i he
   rw [← Nat.eq_of_beq_eq_true he]; exact h
  ·exact ih hb
 | drop h k ih => exact ih
theorem FK.eq {l : List Nat} {K K' : Kr} (h : FK l K K') : ∀ {i : Nat}, l.contains i = true → kz K' i = kz K i := by
 induction h with
 | nil => intro i _; rfl
 | keep h k ih =>
  rename_i p K K'
  intro i hi
  obtain ⟨p1, p2⟩ := p
  simp only [kz]
  cases Nat.beq p1 i with
  | true => rfl
  | false => exact ih hi
 | drop h k ih =>
  rename_i p K K'
  intro i hi
  obtain ⟨p1, p2⟩ := p
  simp only [kz]
  cases hb : Nat.beq p1 i with
  | true =>
   have := Nat.eq_of_beq_eq_true hb
   subst this
   rw [hi] at h; cases h
  | false => exact ih hi
theorem kz_mem : ∀ {K : Kr} {i : Nat} {b : Ob}, kz K i = some b → (i, some b) ∈ K
 | [], i, b, h => by simp [kz] at h
 | (k, y) :: G, i, b, h => by
  simp only [kz] at h
  cases hb : Nat.beq k i with
  | true =>
   rw [hb] at h
   have := Nat.eq_of_beq_eq_true hb
   subst this
   simp only at h; subst h
   exact List.mem_cons_self
  | false => rw [hb] at h; exact List.mem_cons_of_mem _ (kz_mem h)
def frIn (l : List Nat) : Fr → Bool
 | [] => true
 | (_, x) :: F => x.inB l && frIn l F
def Ob.inL (l : List Nat) : Ob → Bool
 | .b x => x.rows.all fun r => r.all (Ce.inB l)
 | .m es => es.es.all fun e => e.2.2.inB l
 | .l x => frIn l x.F && Bt.allB' l x.F
 | .i x => l.contains x.m
where Bt.allB' (l : List Nat) (F : Fr) : Bool := Y.Bt.allB (AV.inB l) (btOf F)
theorem inL_y {l : List Nat} {o : Ob} (h : o.inL l = true) : o.y.inB l = true := by
 cases o with
 | b x => exact h
 | m es => exact h
 | l x =>
  simp only [Ob.inL, Bool.and_eq_true] at h
  exact h.2
 | i x => exact h
def Ob.refs : Ob → List Nat
 | .b x => x.rows.flatMap fun r => r.flatMap Ce.refs2
 | .m es => es.es.flatMap fun e => e.2.2.refs2
 | .l x => x.F.flatMap fun p => p.2.refs2
 | .i x => [x.m]
end
def InK (l : List Nat) : Kr → Prop
 | [] => True
 | (_, x) :: r => (∀ o, x = some o → o.inL l = true) ∧ InK l r
theorem InK.mem {l : List Nat} : ∀ {K : Kr} {i : Nat} {o : Ob}, InK l K → (i, some o) ∈ K → o.inL l = true
 | [], i, o, _, h => by simp at h
 | (j, x) :: r, i, o, hi, h => by
  rcases List.mem_cons.1 h with h | h
  ·cases h; exact hi.1 o rfl
  ·exact InK.mem hi.2 h
theorem inL_map {α : Type} {l : List Nat} {xs : List α} {f : α → List Ce} {sz : Nat} {ty : TypeId} {bx : Bool} (h : ∀ x, (f x).all (Ce.inB l) = true) : (Ob.b ⟨xs.map f, sz, ty, bx⟩).inL l = true := by
 simp only [Ob.inL, List.all_map]
 exact List.all_eq_true.2 fun x _ => h x
theorem inL_gB {α : Type} {l : List Nat} {xs : List α} {f : α → List Ce} {sz : Nat} {ty : TypeId} {o : Ob} (ho : (gB sz ty (xs.map f)).map Ob.b = some o) (h : ∀ x, (f x).all (Ce.inB l) = true) : o.inL l = true := by
 cases hg : gB sz ty (xs.map f) with
 | none => rw [hg] at ho; cases ho
 | some b0 =>
  rw [hg] at ho
  simp only [Option.map_some, Option.some.injEq] at ho
  subst ho
  obtain ⟨_, rfl⟩ := gB_some hg
  exact inL_map h
theorem conZ_in2 {P : Program} {c : Ce} {avs : List AV} {Kl : Kr} {top : Nat} {k : Eff → Prop} {Kp : Kr} {res : AV} {D : Kr} {t' : Nat} (l : List Nat) (hFK : FK l Kl Kp) (hlt : l.all (fun i => Nat.blt i top) = true) (hav : avs.all (AV.inB l) = true) (hcap : c.inB l = true) (hin : InK l Kp)
  (h : CallZ P top c avs Kp top fun x Kx t => x = res ∧ DK Kp Kx D ∧ t = t') (hle : Nat.ble top t' = true) (hk : k ⟨res, l, D, t'⟩) : ConZ P c avs Kl top k := by
 refine ⟨_, ?_, hk⟩
 refine Y.in_effE (Kp := ky Kp) (Kx := ky (D ++ Kp)) l hlt hav hcap (fun i b hb => ?_) (fun i hi => ?_) (fun i b hb => ?_) ⟨Nat.le_of_ble_eq_true hle, fun W I R w v vs hw hd hvs hv => ?_⟩ (fun j => by rw [ky_append])
 ·obtain ⟨o, ho, _⟩ := ky_some hb
  exact hFK.out ho
 ·unfold ky; rw [hFK.eq hi]
 ·obtain ⟨o, ho, rfl⟩ := ky_some hb
  exact inL_y (hin.mem (kz_mem ho))
 ·refine (h.run W I R w v vs hw hd (Nat.le_refl _) hvs hv).mono ?_
  rintro e w' ⟨u, x, K', top', I', R', rfl, hw', hd', ht, hI, hR, hx, rfl, hD, rfl⟩
  rw [hD.eq] at hw'
  exact ⟨u, I', R', rfl, hw', hd', hI, hR, hx⟩
theorem conZ_all {P : Program} {c : Ce} {avs : List AV} {Kl : Kr} {top : Nat} {k : Eff → Prop} {Kp : Kr} {res : AV} {D : Kr} {t' : Nat} (hFK : FK (List.range top) Kl Kp) (hav : avs.all (AV.inB (List.range top)) = true) (hcap : c.inB (List.range top) = true) (hin : InK (List.range top) Kp)
  (h : CallZ P top c avs Kp top fun x Kx t => x = res ∧ DK Kp Kx D ∧ t = t') (hle : Nat.ble top t' = true) (hk : k ⟨res, List.range top, D, t'⟩) : ConZ P c avs Kl top k :=
 conZ_in2 (List.range top) hFK (List.all_eq_true.2 fun x hx => by have := List.mem_range.1 hx; simpa [Nat.blt_eq] using this) hav hcap hin h hle hk
def onD (o : Oper) (F : Fr) (K : Kr) (top : Nat) (k : Y.Ent → S → Prop) (e : Eff) : Prop :=
 match e with
 | ⟨av, rd, kw, top'⟩ => match Nat.ble top top' with
  | true => match o.dst, kw with
   | none, [] => k ⟨o, false, ⟨av, rd, [], top'⟩, top⟩ ⟨F, K, top'⟩
   | some d, [] => k ⟨o, false, ⟨av, rd, [], top'⟩, top⟩ ⟨(d, av) :: F, K, top'⟩
   | none, [p] => k ⟨o, false, ⟨av, rd, yk [p], top'⟩, top⟩ ⟨F, p :: K, top'⟩
   | some d, [p] => k ⟨o, false, ⟨av, rd, yk [p], top'⟩, top⟩ ⟨(d, av) :: F, p :: K, top'⟩
   | dst, kw => k ⟨o, false, ⟨av, rd, yk kw, top'⟩, top⟩ ⟨Wx.put F dst av, kw ++ K, top'⟩
  | false => False
section
variable (P : Program) (T : Tab) (n : Nat)
def stepD (o : Oper) (F : Fr) (K : Kr) (top : Nat) (k : Y.Ent → S → Prop) : Prop :=
 match o with
 | ⟨dst, op, ty, pos, after, guard⟩ => match dstB n dst with
  | true => match callOf op with
   | some (f, xs) => match evf (get F) f, evs (get F) xs with
    | some (.pl (.one c)), some avs => ConZ P c avs K top (onD ⟨dst, op, ty, pos, after, guard⟩ F K top k)
    | _, _ => False
   | none => match op with
    | .defer _ => False
    | op => match isM (get F) op with
     | true => opMZ P T ⟨dst, op, ty, pos, after, guard⟩ (get F) K top (onD ⟨dst, op, ty, pos, after, guard⟩ F K top k)
     | false => opA P T ⟨dst, op, ty, pos, after, guard⟩ (get F) (kb K) top fun e => onD ⟨dst, op, ty, pos, after, guard⟩ F K top k (Eff.up e)
  | false => False
def drawZ (ops : Array Oper) : List Oper → S → List Y.Ent → (List Y.Ent → S → Prop) → Prop
 | [], s, acc, k => k acc.reverse s
 | ⟨dst, op, ty, pos, after, guard⟩ :: r, ⟨F, K, top⟩, acc, k => match guard with
  | none => stepD P T n ⟨dst, op, ty, pos, after, none⟩ F K top fun x s' => drawZ ops r s' (x :: acc) k
  | some (g, want) => match dstB n dst, (ops[g]?).bind (·.dst) with
   | true, some t => match get F t with
    | some (.pl (.one (.v (.bool b)))) => match want, dst with
     | true, some d => spB b (stepD P T n ⟨dst, op, ty, pos, after, some (g, want)⟩ ((t, .val (.bool true)) :: F) K top fun x s' => drawZ ops r s' (x :: acc) k) (drawZ ops r ⟨(d, .val undef) :: (t, .val (.bool false)) :: F, K, top⟩ (⟨⟨dst, op, ty, pos, after, some (g, want)⟩, true, ⟨.val undef, [], [], top⟩, top⟩ :: acc) k)
     | false, some d => spB b (drawZ ops r ⟨(d, .val undef) :: (t, .val (.bool true)) :: F, K, top⟩ (⟨⟨dst, op, ty, pos, after, some (g, want)⟩, true, ⟨.val undef, [], [], top⟩, top⟩ :: acc) k) (stepD P T n ⟨dst, op, ty, pos, after, some (g, want)⟩ ((t, .val (.bool false)) :: F) K top fun x s' => drawZ ops r s' (x :: acc) k)
     | true, none => spB b (stepD P T n ⟨dst, op, ty, pos, after, some (g, want)⟩ ((t, .val (.bool true)) :: F) K top fun x s' => drawZ ops r s' (x :: acc) k) (drawZ ops r ⟨(t, .val (.bool false)) :: F, K, top⟩ (⟨⟨dst, op, ty, pos, after, some (g, want)⟩, true, ⟨.val undef, [], [], top⟩, top⟩ :: acc) k)
     | false, none => spB b (drawZ ops r ⟨(t, .val (.bool true)) :: F, K, top⟩ (⟨⟨dst, op, ty, pos, after, some (g, want)⟩, true, ⟨.val undef, [], [], top⟩, top⟩ :: acc) k) (stepD P T n ⟨dst, op, ty, pos, after, some (g, want)⟩ ((t, .val (.bool false)) :: F) K top fun x s' => drawZ ops r s' (x :: acc) k)
    | some (.pl (.one (.v (.tuple _)))) => match dst with
     | some d => drawZ ops r ⟨(d, .val undef) :: F, K, top⟩ (⟨⟨dst, op, ty, pos, after, some (g, want)⟩, true, ⟨.val undef, [], [], top⟩, top⟩ :: acc) k
     | none => drawZ ops r ⟨F, K, top⟩ (⟨⟨dst, op, ty, pos, after, some (g, want)⟩, true, ⟨.val undef, [], [], top⟩, top⟩ :: acc) k
    | _ => False
   | _, _ => False
end
structure apZ (ops : Array Oper) (xs : List Y.Ent) (A : Prop) : Prop where
 h : Y.apartB ops xs = true
 k : A
theorem apZ_mk {ops : Array Oper} {xs : List Y.Ent} {A : Prop} (h : Y.apartB ops xs = true) (k : A) : apZ ops xs A := ⟨h, k⟩
section
variable {P : Program} {T : Tab} {n m : Nat} {ops : Array Oper}
theorem onD_spec {o : Oper} {F : Fr} {K : Kr} {top : Nat} {k : Y.Ent → S → Prop} {e : Eff} (h : onD o F K top k e) : top ≤ e.top ∧ k ⟨o, false, e.y, top⟩ ⟨Wx.put F o.dst e.av, e.kw ++ K, e.top⟩ := by
 obtain ⟨av, rd, kw, top'⟩ := e
 unfold onD at h
 simp only at h
 split at h
 ·rename_i hb
  refine ⟨by simpa [Nat.ble_eq] using hb, ?_⟩
  obtain ⟨dst, op, ty, pos, after, guard⟩ := o
  simp only [Eff.y] at h ⊢
  split at h <;> exact h
 ·exact h.elim
theorem up_y (e : Wx.Eff) : (Eff.up e).y = ⟨e.av, e.rd, Y.liftK e.kw, e.top⟩ := by
 obtain ⟨av, rd, kw, t⟩ := e
 simp only [Eff.up, Eff.y, yk_upk]
theorem stepD_spec (hT : TabOk P T) {o : Oper} {F : Fr} {K : Kr} {top : Nat} {k : Y.Ent → S → Prop} (h : stepD P T n o F K top k) : dstB n o.dst = true ∧ ∃ e : Eff, Y.OpEff P o (get F) (ky K) top e.y ∧ top ≤ e.top ∧ k ⟨o, false, e.y, top⟩ ⟨Wx.put F o.dst e.av, e.kw ++ K, e.top⟩ := by
 obtain ⟨dst, op, ty, pos, after, guard⟩ := o
 unfold stepD at h
 simp only at h
 split at h
 ·rename_i hd
  refine ⟨hd, ?_⟩
  split at h
  ·rename_i f xs hc
   unfold callOf at hc
   split at hc
   ·rename_i f' xs' ts
    simp only [Option.some.injEq, Prod.mk.injEq] at hc
    obtain ⟨rfl, rfl⟩ := hc
    split at h
    ·rename_i c avs hf hxs
     obtain ⟨e, he, hk⟩ := h.h
     obtain ⟨h1, h2⟩ := onD_spec hk
     exact ⟨_, Y.e_call hf hxs he, h1, h2⟩
    ·exact h.elim
   ·cases hc
  ·split at h
   ·exact h.elim
   ·rename_i hnd
    split at h
    ·obtain ⟨e, he, hk⟩ := opMZ_sound hT h
     obtain ⟨h1, h2⟩ := onD_spec hk
     exact ⟨_, he, h1, h2⟩
    ·obtain ⟨e, he, hk⟩ := opA_sound hT h
     obtain ⟨h1, h2⟩ := onD_spec hk
     rw [← kb_eq K] at he
     have := Y.lift_op (fun c hc => hnd c hc) he
     rw [← up_y] at this
     exact ⟨_, this, h1, h2⟩
 ·exact h.elim
theorem drawZ_spec (hT : TabOk P T) {k : List Y.Ent → S → Prop} : ∀ (l : List Oper) (s : S) (acc : List Y.Ent), drawZ P T n ops l s acc k → ∃ xs s', xs.map (·.o) = l ∧ Y.Chain P ops n xs (get s.F) (ky s.K) s.top (get s'.F) (ky s'.K) s'.top ∧ k (acc.reverse ++ xs) s'
 | [], s, acc, h => ⟨[], s, rfl, ⟨rfl, rfl, rfl⟩, by simpa [drawZ] using h⟩
 | ⟨dst, op, ty, pos, after, guard⟩ :: r, ⟨F, K, top⟩, acc, h => by
  have step : ∀ (o : Oper) (F1 : Fr), get F1 = get F → (∀ e, dstB n o.dst = true → top ≤ e.top → Y.OpEff P o (get F) (ky K) top e → Y.EntOk P ops n ⟨o, false, e, top⟩ (get F) (ky K)) →
    stepD P T n o F1 K top (fun x s' => drawZ P T n ops r s' (x :: acc) k) → ∃ xs s', xs.map (·.o) = o :: r ∧ Y.Chain P ops n xs (get F) (ky K) top (get s'.F) (ky s'.K) s'.top ∧ k (acc.reverse ++ xs) s' := by
   intro o F1 hF hok hs
   obtain ⟨h0, e, h1, h2, h3⟩ := stepD_spec hT hs
   obtain ⟨xs, s', g1, g2, g3⟩ := drawZ_spec hT r _ _ h3
   rw [hF] at h1
   refine ⟨⟨o, false, e.y, top⟩ :: xs, s', by simp [g1], ⟨hok e.y h0 h2 h1, rfl, ?_⟩, by simpa using g3⟩
   rw [get_put, ky_append, hF] at g2
   exact g2
  have skip : ∀ (o : Oper) (F1 : Fr), get F1 = fput (get F) o.dst (.val undef) → Y.EntOk P ops n ⟨o, true, ⟨.val undef, [], [], top⟩, top⟩ (get F) (ky K) →
    drawZ P T n ops r ⟨F1, K, top⟩ (⟨o, true, ⟨.val undef, [], [], top⟩, top⟩ :: acc) k → ∃ xs s', xs.map (·.o) = o :: r ∧ Y.Chain P ops n xs (get F) (ky K) top (get s'.F) (ky s'.K) s'.top ∧ k (acc.reverse ++ xs) s' := by
   intro o F1 hF hok hs
   obtain ⟨xs, s', g1, g2, g3⟩ := drawZ_spec hT r _ _ hs
   refine ⟨⟨o, true, ⟨.val undef, [], [], top⟩, top⟩ :: xs, s', by simp [g1], ⟨hok, rfl, ?_⟩, by simpa using g3⟩
   simp only [hF] at g2
   exact g2
  unfold drawZ at h
  split at h
  ·exact step ⟨dst, op, ty, pos, after, none⟩ F rfl (fun e h1 h2 h3 => ⟨h1, h2, h3, .inl rfl⟩) h
  ·rename_i g want
   split at h
   ·rename_i t hdst hgd
    split at h
    ·rename_i b ht
     have hs : ∀ (want' : Bool), (b == want') = true → want = want' → ∀ e, dstB n dst = true → top ≤ e.top → Y.OpEff P ⟨dst, op, ty, pos, after, some (g, want)⟩ (get F) (ky K) top e → Y.EntOk P ops n ⟨⟨dst, op, ty, pos, after, some (g, want)⟩, false, e, top⟩ (get F) (ky K) :=
      fun want' hb hw e h1 h2 h3 => ⟨h1, h2, h3, .inr ⟨g, want, t, b, rfl, hgd, ht, by rw [hw]; exact hb⟩⟩
     have hk : (b == want) = false → Y.EntOk P ops n ⟨⟨dst, op, ty, pos, after, some (g, want)⟩, true, ⟨.val undef, [], [], top⟩, top⟩ (get F) (ky K) :=
      fun hb => ⟨hdst, Nat.le_refl _, rfl, rfl, rfl, rfl, g, want, t, rfl, hgd, .inl ⟨b, ht, hb⟩⟩
     have hu : ∀ x : AV, get F t = some x → ∀ d, get (Wx.put ((t, x) :: F) d (.val undef)) = fput (get F) d (.val undef) := fun x hx d => by rw [get_put, get_lit hx]
     split at h
     ·cases b with
      | true => exact step ⟨_, op, ty, pos, after, some (g, true)⟩ _ (get_lit ht) (hs true rfl rfl) (h.t rfl)
      | false => exact skip ⟨_, op, ty, pos, after, some (g, true)⟩ _ (hu _ ht (some _)) (hk rfl) (h.f rfl)
     ·cases b with
      | true => exact skip ⟨_, op, ty, pos, after, some (g, false)⟩ _ (hu _ ht (some _)) (hk rfl) (h.t rfl)
      | false => exact step ⟨_, op, ty, pos, after, some (g, false)⟩ _ (get_lit ht) (hs false rfl rfl) (h.f rfl)
     ·cases b with
      | true => exact step ⟨_, op, ty, pos, after, some (g, true)⟩ _ (get_lit ht) (hs true rfl rfl) (h.t rfl)
      | false => exact skip ⟨_, op, ty, pos, after, some (g, true)⟩ _ (hu _ ht none) (hk rfl) (h.f rfl)
     ·cases b with
      | true => exact skip ⟨_, op, ty, pos, after, some (g, false)⟩ _ (hu _ ht none) (hk rfl) (h.t rfl)
      | false => exact step ⟨_, op, ty, pos, after, some (g, false)⟩ _ (get_lit ht) (hs false rfl rfl) (h.f rfl)
    ·rename_i l ht
     have h' : drawZ P T n ops r ⟨Wx.put F dst (.val undef), K, top⟩ (⟨⟨dst, op, ty, pos, after, some (g, want)⟩, true, ⟨.val undef, [], [], top⟩, top⟩ :: acc) k := by cases dst <;> exact h
     exact skip ⟨dst, op, ty, pos, after, some (g, want)⟩ _ (get_put _ _ _) ⟨hdst, Nat.le_refl _, rfl, rfl, rfl, rfl, g, want, t, rfl, hgd, .inr ⟨l, ht⟩⟩ h'
    ·exact h.elim
   ·exact h.elim
theorem drawZ_rule (hT : TabOk P T) (hmix : P.follows .mixedOrders = true) {id : Nat} {s : S} {k : S → Prop} (h : drawZ P T n ops ops.toList s [] fun xs s' => apZ ops xs (k s')) : DrawZ P n m id ops s k := by
 refine ⟨fun rd W r I R a w hr hs hd hm => ?_⟩
 obtain ⟨xs, s', h1, h2, h3⟩ := drawZ_spec hT _ _ _ h
 obtain ⟨hap, hk⟩ := h3
 simp only [List.reverse_nil, List.nil_append] at hap
 have htop := h2.at.2.2.2.1
 exact Y.chain_region hmix h1 h2 hap hs hd fun a' w' I' R' k1 k2 k3 k4 => ⟨s', I', R', k1, k2, Nat.le_trans hm htop, fun j hj => k3 j (Nat.lt_of_lt_of_le hj hm), k4, hk⟩
end
theorem RangeZ.red {P : Program} {n m : Nat} {rd : Option Nat} {g : Operand} {ps : Array Tmp} {a b : Code} {s : S} {Q : Exit → S → Prop} (h : RangeZ P n m rd g ps a b s Q) : RangeZ P n m rd g ps a b s Q := h
theorem CallZ.yl {P : Program} {m j : Nat} {avs : List AV} {K : Kr} {top : Nat} {k : AV → Kr → Nat → Prop} (h : CallZ P m (.yl j) avs K top k) : CallZ P m (.yl j) avs K top k := h
theorem rowN_known {α β : Type} {f : α → β} {xs : List α} {i : Nat} {x : α} {A : β → Prop} (h : xs[i]? = some x) (k : A (f x)) : rowN (xs.map f) i A := ⟨f x, by simp [h], k⟩
theorem isB_map (o : Option Blk) : isB (o.map Ob.b) = o := by cases o <;> rfl
theorem blk_sub {K : Kr} {r : Nat → Nat} {j sz : Nat} {ty : TypeId} {rows rows' : List (List Ce)} {bx : Bool} (h : kz K (r j) = some (.b ⟨rows', sz, ty, bx⟩)) (e : rows' = rows) (hf : rows.map (List.map (Ce.ren r)) = rows) : ∀ b, some (Ob.b ⟨rows, sz, ty, bx⟩) = some b → kz K (r j) = some (b.ren r) := fun b hb => by
 cases hb
 rw [h, e]
 simp only [Ob.ren, Blk.ren, hf]
theorem gB_sub {K : Kr} {r : Nat → Nat} {j sz : Nat} {ty : TypeId} {rows rows' : List (List Ce)} (h : kz K (r j) = (gB sz ty rows').map Ob.b) (e : rows' = rows) (hf : rows.map (List.map (Ce.ren r)) = rows) : ∀ b, (gB sz ty rows).map Ob.b = some b → kz K (r j) = some (b.ren r) := fun b hb => by
 cases hg : gB sz ty rows with
 | none => rw [hg] at hb; cases hb
 | some b0 =>
  rw [hg] at hb
  simp only [Option.map_some, Option.some.injEq] at hb
  subst hb
  obtain ⟨_, rfl⟩ := gB_some hg
  rw [h, e, hg]
  simp only [Option.map_some, Ob.ren, Blk.ren, hf]
theorem gB_sub' {K : Kr} {r : Nat → Nat} {j sz : Nat} {ty : TypeId} {rows rows' : List (List Ce)} (h : kz K (r j) = some (.b ⟨rows', sz, ty, false⟩)) (e : rows' = rows) (hf : rows.map (List.map (Ce.ren r)) = rows) : ∀ b, (gB sz ty rows).map Ob.b = some b → kz K (r j) = some (b.ren r) := fun b hb => by
 cases hg : gB sz ty rows with
 | none => rw [hg] at hb; cases hb
 | some b0 =>
  rw [hg] at hb
  simp only [Option.map_some, Option.some.injEq] at hb
  subst hb
  obtain ⟨_, rfl⟩ := gB_some hg
  rw [h, e]
  simp only [Ob.ren, Blk.ren, hf]
theorem kb_some {K : Kr} {i : Nat} {o : Option Blk} (h : kz K i = o.map Ob.b) : kb K i = o := by rw [kb_kz, h, isB_map]
theorem ConZ.red {P : Program} {c : Ce} {avs : List AV} {K : Kr} {top : Nat} {k : Eff → Prop} (h : ConZ P c avs K top k) : ConZ P c avs K top k := h
end Go.Proofs.Ytopieffkpdlpbaa.Wx.Z
namespace Go.Proofs.Ytopieffkpdlpbaa.Wx.Z
open Go Go.RowKit
def ImpV : AV → AV → Prop
 | .pl (.one c), .pl (.one c') => Imp c c'
 | x, y => x = y
theorem ImpV.rel {x y : AV} (h : ImpV x y) {I : IM} {R : RM} {u : Value} (hx : x.rel I R u) : y.rel I R u := by
 unfold ImpV at h
 split at h
 ·exact h I R u hx
 ·subst h; exact hx
def subFi (F : Fr) : Fr → Prop
 | [] => True
 | (t, x) :: G => (∃ y, get F t = some y ∧ ImpV y x) ∧ subFi F G
def subKz (K : Kr) : Kr → Prop
 | [] => True
 | (j, o) :: G => kz K j = o ∧ subKz K G
def ImpO : Ob → Ob → Prop
 | .b x, .b y => (x.sz = y.sz ∧ x.ty = y.ty ∧ x.bx = y.bx) ∧ All2 (All2 Imp) x.rows y.rows
 | x, y => x = y
def subKi (K : Kr) : Kr → Prop
 | [] => True
 | (j, o) :: G => (∀ b, o = some b → ∃ b0, kz K j = some b0 ∧ ImpO b0 b) ∧ subKi K G
theorem subFi.get {F : Fr} : ∀ {G : Fr} {t : Nat} {x : AV}, subFi F G → Wx.get G t = some x → ∃ y, Wx.get F t = some y ∧ ImpV y x
 | [], t, x, _, h => by simp [Wx.get] at h
 | (k, y) :: G, t, x, hs, h => by
  simp only [Wx.get] at h
  cases hb : Nat.beq k t with
  | true =>
   simp only [hb, Option.some.injEq] at h
   subst h
   rw [← Nat.eq_of_beq_eq_true hb]
   exact hs.1
  | false =>
   simp only [hb] at h
   exact subFi.get hs.2 h
theorem get_append {F G : Fr} {t : Nat} {x : AV} (h : Wx.get (F ++ G) t = some x) : Wx.get F t = some x ∨ (Wx.get F t = none ∧ Wx.get G t = some x) := by
 induction F with
 | nil => exact .inr ⟨rfl, h⟩
 | cons p F ih =>
  obtain ⟨k, y⟩ := p
  simp only [List.cons_append, Wx.get] at h ⊢
  cases hb : Nat.beq k t with
  | true => simp only [hb] at h; exact .inl h
  | false => simp only [hb] at h; exact ih h
theorem kz_append {F G : Kr} {t : Nat} {x : Ob} (h : kz (F ++ G) t = some x) : kz F t = some x ∨ kz G t = some x := by
 induction F with
 | nil => exact .inr h
 | cons p F ih =>
  obtain ⟨k, y⟩ := p
  simp only [List.cons_append, kz] at h ⊢
  cases hb : Nat.beq k t with
  | true => simp only [hb] at h; exact .inl h
  | false => simp only [hb] at h; exact ih h
theorem subKz.get {K : Kr} : ∀ {G : Kr} {j : Nat} {b : Ob}, subKz K G → kz G j = some b → kz K j = some b
 | [], j, b, _, h => by simp [kz] at h
 | (k, y) :: G, j, b, hs, h => by
  simp only [kz] at h
  cases hb : Nat.beq k j with
  | true =>
   simp only [hb] at h
   subst h
   rw [← Nat.eq_of_beq_eq_true hb]
   exact hs.1
  | false =>
   simp only [hb] at h
   exact subKz.get (G := G) hs.2 h
theorem subKi.get {K : Kr} : ∀ {G : Kr} {j : Nat} {b : Ob}, subKi K G → kz G j = some b → ∃ b0, kz K j = some b0 ∧ ImpO b0 b
 | [], j, b, _, h => by simp [kz] at h
 | (k, y) :: G, j, b, hs, h => by
  simp only [kz] at h
  cases hb : Nat.beq k j with
  | true =>
   simp only [hb] at h
   rw [← Nat.eq_of_beq_eq_true hb]
   exact hs.1 b h
  | false =>
   simp only [hb] at h
   exact subKi.get (G := G) hs.2 h
theorem ImpO.refl (o : Ob) : ImpO o o := by
 cases o with
 | b x => exact ⟨⟨rfl, rfl, rfl⟩, All2.of_get rfl fun i a b h1 h2 => by rw [h1] at h2; cases h2; exact All2.of_get rfl fun i a b h1 h2 => by rw [h1] at h2; cases h2; exact Imp.refl _⟩
 | m es => exact rfl
 | l x => exact rfl
 | i x => exact rfl
section
variable {P : Program} {T : Tab} {W : Wo} {n m : Nat} {rd : Option Nat} {I : IM} {R : RM} {a : Act} {w : World} {s s0 : S}
theorem All2.get' {α β : Type} {r : α → β → Prop} : ∀ {l : List α} {m : List β} {i : Nat} {b : β}, All2 r l m → m[i]? = some b → ∃ a, l[i]? = some a ∧ r a b
 | [], [], i, a, _, h => by simp at h
 | x :: l, y :: m, 0, b, hh, h => by simp at h; subst h; exact ⟨x, rfl, hh.1⟩
 | x :: l, y :: m, i + 1, b, hh, h => by simpa using All2.get' (i := i) hh.2 (by simpa using h)
 | [], _ :: _, _, _, hh, _ => hh.elim
 | _ :: _, [], _, _, hh, _ => hh.elim
theorem Bk.imp {x y : Blk} {p : Loc} (h1 : x.sz = y.sz ∧ x.ty = y.ty ∧ x.bx = y.bx) (h2 : All2 (All2 Imp) x.rows y.rows) (hk : Bk I R x p w) : Bk I R y p w := by
 have hlen := h2.length
 obtain ⟨g1, g2, g3, g4, cs, g5, g6, g7⟩ := hk
 refine ⟨g1.trans h1.1, by rw [← hlen]; exact g2, g3, fun r hr => ?_, cs, by rw [← h1.2.1]; exact g5, g6, fun q r k c hq hk => ?_⟩
 ·obtain ⟨q, hq⟩ := List.getElem?_of_mem hr
  obtain ⟨r0, hr0, hrr⟩ := All2.get' h2 hq
  rw [← hrr.length, g4 r0 (List.mem_of_getElem? hr0), h1.1]
 ·obtain ⟨r0, hr0, hrr⟩ := All2.get' h2 hq
  obtain ⟨c0, hc0, hcc⟩ := All2.get' hrr hk
  obtain ⟨u, hu, hur⟩ := g7 _ _ _ _ hr0 hc0
  exact ⟨u, hu, hcc _ _ _ hur⟩
theorem imp_stp (s s0 : S) (hF : ∀ t x, get s0.F t = some x → ∃ y, get s.F t = some y ∧ ImpV y x) (hK : ∀ j b, kz s0.K j = some b → ∃ b0, kz s.K j = some b0 ∧ ImpO b0 b) (ht : s.top ≤ s0.top) (hm : m ≤ s0.top) : Stp m s s0 := fun n W I R a w hs hd => by
 refine ⟨I, R, ⟨hs.size, hs.mks, fun t x hx => ?_, ?_⟩, fun j hj => hd j (Nat.le_trans ht hj), hm, fun _ _ => rfl, .refl _⟩
 ·obtain ⟨y, hy, hi⟩ := hF t x hx
  exact hi.rel (hs.fr t y hy)
 ·have hz := hs.wz
  have key : ∀ {j : Nat} {b : Blk}, Y.blkOf (ky s0.K) j = some b → ∃ b0, Y.blkOf (ky s.K) j = some b0 ∧ (b0.sz = b.sz ∧ b0.ty = b.ty ∧ b0.bx = b.bx) ∧ All2 (All2 Imp) b0.rows b.rows := by
   intro j b hb
   rw [kb_eq, kb_kz] at hb
   cases hk : kz s0.K j with
   | none => rw [hk] at hb; cases hb
   | some o =>
    rw [hk] at hb
    obtain ⟨o0, ho0, hio⟩ := hK j o hk
    cases o with
    | b x =>
     simp only [isB, Option.some.injEq] at hb
     subst hb
     cases o0 with
     | b y => exact ⟨y, by rw [kb_eq, kb_kz, ho0]; rfl, hio.1, hio.2⟩
     | m es => cases hio
     | l z => cases hio
     | i z => cases hio
    | m es => cases hb
    | l z => cases hb
    | i z => cases hb
  have keyO : ∀ {j : Nat} {o : Y.Ob}, ky s0.K j = some o → o.nb = true → ky s.K j = some o := by
   intro j o ho hn
   obtain ⟨b, hb, rfl⟩ := ky_some ho
   obtain ⟨o0, ho0, hio⟩ := hK j b hb
   cases b with
   | b x => cases hn
   | m es => cases o0 with
    | b y => cases hio
    | m es' => cases hio; exact ky_of ho0
    | l z => cases hio
    | i z => cases hio
   | l x => cases o0 with
    | b y => cases hio
    | m es' => cases hio
    | l z => cases hio; exact ky_of ho0
    | i z => cases hio
   | i x => cases o0 with
    | b y => cases hio
    | m es' => cases hio
    | l z => cases hio
    | i z => cases hio; exact ky_of ho0
  refine ⟨⟨?_, ?_, ?_, hz.wd.ro, ?_, hz.wd.fresh, hz.wd.less, hz.wd.below, hz.wd.out, hz.wd.qz⟩, fun i o hi hn => hz.ob i o (keyO hi hn) hn, fun i j oi oj p q hi hj hni hnj => hz.inj i j oi oj p q (keyO hi hni) (keyO hj hnj) hni hnj⟩
  ·intro i b hi
   obtain ⟨b0, hb0, h1, h2⟩ := key hi
   obtain ⟨p, hp, hk⟩ := hz.wd.blk i b0 hb0
   exact ⟨p, hp, Bk.imp h1 h2 hk⟩
  ·intro i j bi bj p q hi hj
   obtain ⟨b0, hb0, _⟩ := key hi
   obtain ⟨b1, hb1, _⟩ := key hj
   exact hz.wd.inj i j b0 b1 p q hb0 hb1
  ·intro i b p hi
   obtain ⟨b0, hb0, _⟩ := key hi
   exact hz.wd.base i b0 p hb0
  ·intro i b p f o hi
   obtain ⟨b0, hb0, _⟩ := key hi
   exact hz.wd.apart i b0 p f o hb0
theorem loopK {c : Code} {Q : Exit → S → Prop} {α : Type} (hT : TabOk P T) (ch : α → Fr) (chK : α → Kr) (Inv : α → Prop) (μ : α → Nat) (p0 : α) (top : Nat) (Fk : Fr) (hF : subFz s.F Fk) (Kk : Kr) (hK : subKz s.K Kk)
  (hch : subFi s.F (ch p0)) (hchK : subKi s.K (chK p0)) (ht : Nat.ble s.top top = true) (hm : Nat.ble m top = true) (h0 : Inv p0)
  (hb : ∀ p, Inv p → codeZ P T n m rd c ⟨ch p ++ Fk, chK p ++ Kk, top⟩ fun e s' => match e with | .normal => rndZ m (fun p => (⟨ch p ++ Fk, chK p ++ Kk, top⟩ : S)) Inv μ p s' | e => Q e s') : LoopZ P n m rd c s Q :=
 loopZ_rule hT (fun p => ⟨ch p ++ Fk, chK p ++ Kk, top⟩) Inv μ p0 h0 (imp_stp _ _ (fun t x hx => by
  rcases get_append hx with h | ⟨_, h⟩
  ·exact hch.get h
  ·exact ⟨x, hF.get h, by unfold ImpV; split; · exact Imp.refl _
                          · rfl⟩) (fun j b hb => by
  rcases kz_append hb with h | h
  ·exact hchK.get h
  ·exact ⟨b, hK.get h, ImpO.refl _⟩) (Nat.le_of_ble_eq_true ht) (Nat.le_of_ble_eq_true hm)) hb
def memB (a : Nat) : List Nat → Bool
 | [] => false
 | b :: l => Nat.beq a b || memB a l
def nodB : List Nat → Bool
 | [] => true
 | a :: l => !memB a l && nodB l
theorem memB_of {a : Nat} : ∀ {l : List Nat}, a ∈ l → memB a l = true
 | [], h => by simp at h
 | b :: l, h => by
  rcases List.mem_cons.1 h with rfl | h
  ·simp [memB]
  ·simp [memB, memB_of h]
theorem nodB_spec : ∀ {l : List Nat}, nodB l = true → l.Nodup
 | [], _ => List.nodup_nil
 | a :: l, h => by
  simp only [nodB, Bool.and_eq_true, Bool.not_eq_true'] at h
  refine List.nodup_cons.2 ⟨fun hm => ?_, nodB_spec h.2⟩
  rw [memB_of hm] at h; cases h.1
theorem rndK {α : Type} {G : α → S} {Inv : α → Prop} {μ : α → Nat} {p : α} {s : S} (p' : α) (l : S → List Nat) (hl : (l s).length = (G p').top) (nd : nodB (l s) = true) (pre : (l s).take m = List.range m) (mle : Nat.ble m (G p').top = true)
  (hF : subF (rn (l s) s.top) s.F (G p').F) (hK : subK (rn (l s) s.top) s.K (G p').K) (hI : Inv p') (hμ : μ p' < μ p) : rndZ m G Inv μ p s := ⟨p', hI, hμ, Wk.stp ⟨hl, nodB_spec nd, pre, Nat.le_of_ble_eq_true mle, hF, hK⟩⟩
end
open Classical in
noncomputable def fzR (W : Wo) (R : RM) (w : World) : RM := fun f b o => if W.z b then R f b o else w.cell? ⟨b, o, none⟩
theorem fz_all {W : Wo} {K : Nat → Option Blk} {I : IM} {R : RM} {w : World} (h : Wd W K I R w) : Wd W (kg []) I (fzR W R w) w ∧ RExt R (fzR W R w) := by
 refine ⟨⟨fun i b h => by simp [kg] at h, fun i j bi bj p q h => by simp [kg] at h, fun i b p h => by simp [kg] at h, ?_, fun i b p f o h => by simp [kg] at h, ?_, ?_, h.below, ?_, h.qz⟩, ?_⟩
 ·intro f b o u hu
  unfold fzR at hu
  split at hu
  ·exact h.ro f b o u hu
  ·exact hu
 ·intro b o u hu hz
  unfold fzR at hu
  rw [if_pos hz] at hu
  exact h.fresh b o u hu hz
 ·intro b o u hu
  unfold fzR at hu ⊢
  split
  ·rename_i hz; rw [if_pos hz] at hu; exact h.less b o u hu
  ·rename_i hz; rw [if_neg hz] at hu; exact hu
 ·intro f b o u hu hq
  unfold fzR at hu
  rw [if_pos (h.qz b hq)] at hu
  exact h.out f b o u hu hq
 ·intro f b o u hu
  unfold fzR
  split
  ·exact hu
  ·exact h.ro f b o u hu
def frzN : Value → Ce → Prop
 | .slice none 0 0, d => d = .v (.slice none 0 0) ∨ ∃ sz, d = .ro true sz []
 | x, d => d = .v x
def frzC (K : Nat → Option Blk) : Ce → Ce → Prop
 | .v x, d => frzN x d
 | .ro true sz rows, d => d = .ro true sz rows
 | .osl i q l _, d => match K i with
  | some b => ∃ rows, d = .ro true b.sz rows ∧ rows.length = l ∧ ((b.rows.drop q).take l).map (List.map RT.ofT) = rows.map (List.map some)
  | none => False
 | .gsl i rows, d => ∃ sz ty rows', d = .ro true sz rows' ∧ K i = gB sz ty rows ∧ rows.map (List.map RT.ofT) = rows'.map (List.map some)
 | _, _ => False
def frzA (K : Nat → Option Blk) : A0 → A0 → Prop
 | .one c, .one d => frzC K c d
 | .agg cs, .agg ds => All2 (frzC K) cs ds
 | _, _ => False
def Ce.fz' : Ce → Bool
 | .v _ => true
 | .ro true _ _ => true
 | _ => false
def A0.fz' : A0 → Bool
 | .one c => Ce.fz' c
 | .agg cs => cs.all Ce.fz'
def AV.fz' : AV → Bool
 | .pl a => A0.fz' a
 | .tup l => l.all A0.fz'
theorem fz_rel {I I' : IM} {R : RM} {c : Ce} {u : Value} (h : Ce.fz' c = true) (hr : c.rel I R u) : c.rel I' (fun _ => R true) u := by
 cases c with
 | v x => exact hr
 | ro fl sz rows => cases fl with
  | true => exact hr
  | false => cases h
 | _ => cases h
theorem fzA_rel {I I' : IM} {R : RM} {c : A0} {u : Value} (h : A0.fz' c = true) (hr : c.rel I R u) : c.rel I' (fun _ => R true) u := by
 cases c with
 | one c => exact fz_rel h hr
 | agg cs =>
  obtain ⟨vs, h1, h2⟩ := hr
  exact ⟨vs, h1, h2.mono_mem fun c hc b => fz_rel (List.all_eq_true.1 h c hc)⟩
theorem fzV_rel {I I' : IM} {R : RM} {c : AV} {u : Value} (h : AV.fz' c = true) (hr : c.rel I R u) : c.rel I' (fun _ => R true) u := by
 cases c with
 | pl c => exact fzA_rel h hr
 | tup cs =>
  obtain ⟨vs, h1, h2⟩ := hr
  exact ⟨vs, h1, h2.mono_mem fun c hc b => fzA_rel (List.all_eq_true.1 h c hc)⟩
theorem frzC_own {K : Nat → Option Blk} {c d : Ce} (h : frzC K c d) : Ce.fz' d = true := by
 cases c with
 | v x =>
  replace h : frzN x d := h
  unfold frzN at h
  split at h
  ·rcases h with rfl | ⟨sz, rfl⟩ <;> rfl
  ·cases h; rfl
 | ro fl sz rows => cases fl with
  | true => cases h; rfl
  | false => exact h.elim
 | osl i q l cp =>
  simp only [frzC] at h
  split at h
  ·obtain ⟨rows, rfl, _⟩ := h; rfl
  ·exact h.elim
 | gsl i rows => obtain ⟨sz, ty, rows', rfl, _⟩ := h; rfl
 | _ => exact h.elim
theorem frzC_rel {K : Nat → Option Blk} {W : Wo} {I : IM} {R : RM} {w : World} (hw : Wd W K I R w) {c d : Ce} {u : Value} (h : frzC K c d) (hr : c.rel I R u) : d.rel I (fzR W R w) u := by
 have hx := (fz_all hw).2
 have hcell : ∀ {i : Nat} {b : Blk} {p : Loc}, K i = some b → I i = some p → ∀ o u, w.cell? ⟨p.b, o, none⟩ = some u → fzR W R w true p.b o = some u := fun hb hp o u hu => by
  unfold fzR; rw [if_neg (hw.base _ _ _ hb hp)]; exact hu
 cases c with
 | v x =>
  replace h : frzN x d := h
  unfold frzN at h
  split at h
  ·rcases h with rfl | ⟨sz, rfl⟩
   ·exact hr
   ·cases hr; exact .nil sz
  ·cases h; exact hr
 | ro fl sz rows => cases fl with
  | true => cases h; exact Ce.mono (.refl _) hx hr
  | false => exact h.elim
 | osl i q l cp =>
  simp only [frzC] at h
  split at h
  ·rename_i b hb
   obtain ⟨rows, rfl, hlen, hmap⟩ := h
   obtain ⟨p, c', hp, rfl, hnc, hqc, _⟩ := hr
   obtain ⟨p', hp', hk⟩ := hw.blk i b hb
   rw [hp] at hp'; cases hp'
   subst hlen
   exact hk.rd RT.ofT (R0 := fzR W R w true) (fun c t u h1 h2 => (RT.ofT_rel h1 h2).mono (fun b o u h => hx _ _ _ _ h)) (hcell hb hp) q c' rows hnc hmap
  ·exact h.elim
 | gsl i rows =>
  obtain ⟨sz, ty, rows', rfl, hK, hmap⟩ := h
  rcases hr with ⟨rfl, rfl⟩ | ⟨hne, p, c', hp, rfl, h1, h2⟩
  ·have : rows' = [] := by cases rows' <;> first | rfl | simp at hmap
   subst this
   exact .nil sz
  ·rw [gB_ne hne] at hK
   obtain ⟨p', hp', hk⟩ := hw.blk i _ hK
   rw [hp] at hp'; cases hp'
   have hlen : rows.length = rows'.length := by have := congrArg List.length hmap; simpa using this
   have := hk.rd RT.ofT (R0 := fzR W R w true) (fun c t u h1 h2 => (RT.ofT_rel h1 h2).mono (fun b o u h => hx _ _ _ _ h)) (hcell hK hp) 0 c' rows' (by omega) (by simpa [← hlen] using hmap)
   rw [Nat.zero_mul, ← hlen] at this
   exact this
 | _ => exact h.elim
theorem frz_list {K : Nat → Option Blk} {W : Wo} {I : IM} {R : RM} {w : World} (hw : Wd W K I R w) : ∀ {cs ds : List Ce} {vs : List Value}, All2 (frzC K) cs ds → All2 (Ce.rel I R) cs vs → All2 (Ce.rel I (fzR W R w)) ds vs
 | [], [], [], _, _ => trivial
 | c :: cs, d :: ds, v :: vs, h, hr => ⟨frzC_rel hw h.1 hr.1, frz_list hw h.2 hr.2⟩
 | [], [], _ :: _, _, hr => hr.elim
 | [], _ :: _, _, h, _ => h.elim
 | _ :: _, [], _, h, _ => h.elim
 | _ :: _, _ :: _, [], _, hr => hr.elim
theorem frzA_rel {K : Nat → Option Blk} {W : Wo} {I : IM} {R : RM} {w : World} (hw : Wd W K I R w) {c d : A0} {u : Value} (h : frzA K c d) (hr : c.rel I R u) : d.rel I (fzR W R w) u := by
 cases c with
 | one c => cases d with
  | one d => exact frzC_rel hw h hr
  | agg ds => exact h.elim
 | agg cs => cases d with
  | one d => exact h.elim
  | agg ds => obtain ⟨vs, h1, h2⟩ := hr; exact ⟨vs, h1, frz_list hw h h2⟩
theorem frzA_own {K : Nat → Option Blk} {c d : A0} (h : frzA K c d) : A0.fz' d = true := by
 cases c with
 | one c => cases d with
  | one d => exact frzC_own h
  | agg ds => exact h.elim
 | agg cs => cases d with
  | one d => exact h.elim
  | agg ds =>
   have h' : All2 (frzC K) cs ds := h
   clear h
   show ds.all Ce.fz' = true
   induction cs generalizing ds with
   | nil => cases ds with
    | nil => rfl
    | cons => exact h'.elim
   | cons c cs ih => cases ds with
    | nil => exact h'.elim
    | cons d ds => rw [List.all_cons, frzC_own h'.1, ih ds h'.2]; rfl
theorem frzL_rel {K : Nat → Option Blk} {W : Wo} {I : IM} {R : RM} {w : World} (hw : Wd W K I R w) : ∀ {cs ds : List A0} {vs : List Value}, All2 (frzA K) cs ds → All2 (A0.rel I R) cs vs → All2 (A0.rel I (fzR W R w)) ds vs
 | [], [], [], _, _ => trivial
 | c :: cs, d :: ds, v :: vs, h, hr => ⟨frzA_rel hw h.1 hr.1, frzL_rel hw h.2 hr.2⟩
 | [], [], _ :: _, _, hr => hr.elim
 | [], _ :: _, _, h, _ => h.elim
 | _ :: _, [], _, h, _ => h.elim
 | _ :: _, _ :: _, [], _, hr => hr.elim
theorem frzL_own {K : Nat → Option Blk} : ∀ {cs ds : List A0}, All2 (frzA K) cs ds → ds.all A0.fz' = true
 | [], [], _ => rfl
 | c :: cs, d :: ds, h => by rw [List.all_cons, frzA_own h.1, frzL_own h.2]; rfl
 | [], _ :: _, h => h.elim
 | _ :: _, [], h => h.elim
theorem retV_frz {K : Nat → Option Blk} {W : Wo} {I : IM} {R : RM} {w : World} (hw : Wd W K I R w) {xs ys : List A0} {u : Value} (h : All2 (frzA K) xs ys) (hr : (retV xs).rel I R u) : (retV ys).rel I (fzR W R w) u ∧ AV.fz' (retV ys) = true := by
 match xs, ys, h with
 | [], [], _ => exact ⟨by obtain ⟨vs, h1, h2⟩ := hr; exact ⟨vs, h1, by cases vs with | nil => trivial | cons => exact h2.elim⟩, rfl⟩
 | [x], [y], h => exact ⟨frzA_rel hw h.1 hr, frzA_own h.1⟩
 | x :: x2 :: xs, y :: y2 :: ys, h =>
  obtain ⟨vs, h1, h2⟩ := hr
  exact ⟨⟨vs, h1, frzL_rel hw h h2⟩, frzL_own h⟩
 | [], _ :: _, h => exact h.elim
 | _ :: _, [], h => exact h.elim
 | [_], _ :: _ :: _, h => exact h.2.elim
 | _ :: _ :: _, [_], h => exact h.2.elim
structure retF (T : Tab) (rs : List ResultVar) (s : Wx.S) (post : AV → Prop) : Prop where
 h : ∃ xs, resL T s rs = some xs ∧ ∃ ys, All2 (frzA (kg s.K)) xs ys ∧ post (retV ys)
theorem con_ofF {P : Program} {T : Tab} {g : FuncId} {args : List A0} {post : AV → Prop} (hT : TabOk P T) (n : Nat) (fn : Func) (c : Code) (hf : P.funcs[g]? = some fn) (hfn : fnB P g = true) (hb : fn.body = some c) (hn : fn.ntmps = n) (hle : Nat.ble args.length n = true) (hlow : args.all A0.low' = true)
  (h : codeZ P T n 0 none c ⟨argF 0 (args.map .pl), [], 0⟩ fun e s => match s with
   | ⟨F', K', t'⟩ => match e with
    | .normal => retF T fn.results.toList ⟨F', kbl K', t'⟩ post
    | .ret => retF T fn.results.toList ⟨F', kbl K', t'⟩ post
    | _ => False) : Con P g args (fun x K t => post x ∧ K = [] ∧ t = 0) := by
 refine ⟨hfn, fun w vs hvs => ?_⟩
 have hle' : args.length ≤ n := by simpa [Nat.ble_eq] using hle
 let R0 : RM := fun fl b o => match fl with | true => none | false => w.cell? ⟨b, o, none⟩
 have hw : Wd (Wo.of w) (kg []) (fun _ => none) R0 w := by
  refine ⟨fun i b h => by simp [kg] at h, fun i j bi bj p q h => by simp [kg] at h, fun i b p h => by simp [kg] at h, ?_, fun i b p f o h => by simp [kg] at h, ?_, ?_, .refl _, fun _ _ _ _ _ h => h, fun _ h => h.elim⟩
  ·intro f b o u hu
   cases f with
   | true => cases hu
   | false => exact hu
  ·intro b o u hu; cases hu
  ·intro b o u hu; cases hu
 have hv : All2 (AV.rel (fun _ => none) R0) (args.map .pl) vs := by
  refine All2.map _ (hvs.mono_mem fun a ha b hb => ?_)
  exact A0.rel_low (by rfl) (List.all_eq_true.1 hlow a ha) hb
 have h0 := Wx.st_args (n := n) hv hw (by rw [← hvs.length]; exact hle')
 have hwz : Y.Wz (Wo.of w) (ky []) (fun _ => none) R0 w := ⟨by rw [kb_eq]; exact hw, fun i o h => (by cases h), fun i j oi oj p q h => (by cases h)⟩
 subst hn
 refine Y.fr_calls (r := none) (n := 0) (callsIn_of_wp_marks hf hb trivial (wpIn_mono (codeZ_sound hT (fun _ h => by cases h) c _ _ h (Wo.of w) none _ R0 _ w rfl ⟨h0.size, trivial, h0.fr, hwz⟩ (fun _ _ => rfl) (Nat.le_refl _)) ?_))
 rintro e' a' w' ⟨⟨F', K', t'⟩, I', R', h1, h2, h3, h4, h5, h6⟩
 have h1 : Y.St fn.ntmps (Wo.of w) (get F') (ky K') I' R' a' w' := h1
 have fin : retF T fn.results.toList ⟨F', kbl K', t'⟩ post → LeavesInM (Y.fr none) 0 P fn a'.tmps (fun e w' => ∃ v_1 x Kc tc I Rf, e = .returned v_1 ∧ Wd (Wo.of w) (kg Kc) I (fun _ => Rf) w' ∧ (∀ j, tc ≤ j → I j = none) ∧ (∀ p ∈ Kc, p.1 < tc) ∧ x.rel I (fun _ => Rf) v_1 ∧ (post x ∧ Kc = [] ∧ tc = 0)) a'.defers .returning w' := by
  rintro ⟨xs, hx, ys, hy, hp⟩
  refine Y.leaves_marks _ _ h1.mks h1.wz fun w2 hw2 => ?_
  have k1' : Wx.St fn.ntmps (Wo.of w) (get F') (kg (kbl K')) I' R' ⟨a'.tmps, []⟩ w2 := ⟨h1.size, rfl, fun t x hx => h1.fr t x hx, by rw [kg_kbl, ← kb_eq]; exact hw2.wd⟩
  obtain ⟨v, j1, j2⟩ := resL_results hT k1' hx
  obtain ⟨g1, g2⟩ := retV_frz k1'.wd hy j2
  have g3 := (fz_all k1'.wd).1
  have g4 := (g3.weak (s := ⟨[], [], t'⟩) (K0 := []) (l := []) List.nodup_nil trivial h2).own (fun j b h => by simp [kg] at h)
  refine ⟨v, j1, v, _, [], 0, _, fzR (Wo.of w) R' w2 true, rfl, g4, fun j _ => ?_, by simp, fzV_rel g2 g1, hp, rfl, rfl⟩
  simp only [rn, List.getElem?_nil]
  exact h2 _ (Nat.le_add_right _ _)
 cases e' with
 | normal => exact fin h6
 | ret => exact fin h6
 | _ => exact h6.elim
theorem low_nil {K : Nat → Option Blk} {α : Type} {f : α → List RT} {sz : Nat} : lowC K (.v (.slice none 0 0)) (.ro false sz (([] : List α).map f)) := .inr ⟨_, rfl⟩
theorem low_osln {α : Type} {l : List α} {f : α → List Ce} {g : α → List RT} {sz n : Nat} (hn : n = l.length) (h : ∀ x, (f x).map RT.of = (g x).map some) : ∃ rows, Ce.ro false sz (l.map g) = Ce.ro false sz rows ∧ rows.length = n ∧ (((l.map f).drop 0).take n).map (List.map RT.of) = rows.map (List.map some) := by
 subst hn; exact low_osl h
theorem low_gslm {K : Nat → Option Blk} {α : Type} {l : List α} {f : α → List Ce} {g : α → List RT} {i sz : Nat} {ty : TypeId} (h : K i = gB sz ty (l.map f)) (hf : ∀ x, (f x).map RT.of = (g x).map some) : lowC K (.gsl i (l.map f)) (.ro false sz (l.map g)) :=
 ⟨sz, ty, _, rfl, h, by rw [List.map_map, List.map_map]; exact List.map_congr_left fun x _ => hf x⟩
section
variable {K : Nat → Option Blk}
theorem frz_one {c d : Ce} (h : frzC K c d) : frzA K (.one c) (.one d) := h
theorem frz_agg {cs ds : List Ce} (h : All2 (frzC K) cs ds) : frzA K (.agg cs) (.agg ds) := h
theorem frz_nil {sz : Nat} : frzC K (.v (.slice none 0 0)) (.ro true sz []) := .inr ⟨_, rfl⟩
theorem frz_gsl {α : Type} {l : List α} {f : α → List Ce} {g : α → List RT} {i sz : Nat} {ty : TypeId} (h : K i = gB sz ty (l.map f)) (hf : ∀ x, (f x).map RT.ofT = (g x).map some) : frzC K (.gsl i (l.map f)) (.ro true sz (l.map g)) :=
 ⟨sz, ty, _, rfl, h, by rw [List.map_map, List.map_map]; exact List.map_congr_left fun x _ => hf x⟩
theorem frz_osl {α : Type} {l : List α} {f : α → List Ce} {g : α → List RT} {i sz n : Nat} {ty : TypeId} {bx : Bool} {c : Option Nat} (h : K i = some ⟨l.map f, sz, ty, bx⟩) (hn : n = l.length) (hf : ∀ x, (f x).map RT.ofT = (g x).map some) : frzC K (.osl i 0 n c) (.ro true sz (l.map g)) := by
 simp only [frzC, h]
 subst hn
 exact ⟨_, rfl, by simp, by rw [List.drop_zero, List.take_of_length_le (by simp), List.map_map, List.map_map]; exact List.map_congr_left fun x _ => hf x⟩
theorem gB_snoc {sz : Nat} {ty : TypeId} {rows : List (List Ce)} {r : List Ce} : gB sz ty (rows ++ [r]) = some ⟨rows ++ [r], sz, ty, false⟩ := gB_ne (by simp)
end
theorem retF1 {T : Tab} {rs : List ResultVar} {s : Wx.S} {x : A0} (xs : List A0) (h : resL T s rs = some xs) (hf : All2 (frzA (kg s.K)) xs [x]) : retF T rs s (fun rx => rx = .pl x) := ⟨xs, h, [x], hf, rfl⟩
theorem retF2 {T : Tab} {rs : List ResultVar} {s : Wx.S} {x y : A0} {l : List A0} (xs : List A0) (h : resL T s rs = some xs) (hf : All2 (frzA (kg s.K)) xs (x :: y :: l)) : retF T rs s (fun rx => rx = .tup (x :: y :: l)) := ⟨xs, h, _, hf, rfl⟩
theorem retF0 {T : Tab} {rs : List ResultVar} {s : Wx.S} (xs : List A0) (h : resL T s rs = some xs) (hf : All2 (frzA (kg s.K)) xs []) : retF T rs s (fun rx => rx = .tup []) := ⟨xs, h, _, hf, rfl⟩
section
variable {K : Nat → Option Blk}
theorem fq_int {k : IntKind} {a b : Int} (h : a = b) : frzC K (.v (.int k a)) (.v (.int k b)) := by subst h; rfl
theorem fq_bool {a b : Bool} (h : a = b) : frzC K (.v (.bool a)) (.v (.bool b)) := by subst h; rfl
theorem fq_ro {α : Type} {l l' : List α} {g : α → List RT} {sz : Nat} (h : l = l') : frzC K (.ro true sz (l.map g)) (.ro true sz (l'.map g)) := by subst h; rfl
theorem fq_gsl {α : Type} {l l' : List α} {f : α → List Ce} {g : α → List RT} {i sz : Nat} {ty : TypeId} (h : K i = gB sz ty (l.map f)) (hf : ∀ x, (f x).map RT.ofT = (g x).map some) (e : l = l') : frzC K (.gsl i (l.map f)) (.ro true sz (l'.map g)) := by subst e; exact frz_gsl h hf
theorem fq_src {α : Type} {l l' : List α} {g : α → List RT} {fl : Bool} {i sz n : Nat} {ty : TypeId} {bx : Bool} {c : Option Nat} (h : K i = some ⟨(l.map g).map (List.map (RT.ce fl)), sz, ty, bx⟩) (hn : n = (l.map g).length) (hf : ∀ x, ((g x).map (RT.ce fl)).map RT.ofT = (g x).map some) (e : l = l') : frzC K (.osl i 0 n c) (.ro true sz (l'.map g)) := by
 subst e hn
 simp only [frzC, h]
 exact ⟨_, rfl, by simp, by rw [List.drop_zero, List.take_of_length_le (by simp), List.map_map, List.map_map, List.map_map]; exact List.map_congr_left fun x _ => hf x⟩
end
def S.idAt (s : S) (t : Nat) : Nat := match get s.F t with
 | some (.pl (.one (.gsl i _))) => i
 | some (.pl (.one (.osl i _ _ _))) => i
 | some (.pl (.one (.own i _ _))) => i
 | some (.pl (.one (.mpv i))) => i
 | _ => 0
def S.idIn (s : S) (i k : Nat) : Nat := match kb s.K i with
 | some b => match b.rows with
  | [r] => match r[k]? with
   | some (.gsl i _) => i
   | some (.osl i _ _ _) => i
   | some (.own i _ _) => i
   | some (.mpv i) => i
   | _ => 0
  | _ => 0
 | none => 0
end Go.Proofs.Ytopieffkpdlpbaa.Wx.Z
namespace Go.Proofs.Ytopieffkpdlpbaa.Wx.Z
open Go Go.RowKit
def fzC (j : Nat) (o : Option Blk) (c c' : Ce) : Prop := Imp c c' ∨
 (∃ q l cp b rows, c = .osl j q l cp ∧ o = some b ∧ c' = .ro true b.sz rows ∧ rows.length = l ∧ ((b.rows.drop q).take l).map (List.map RT.ofT) = rows.map (List.map some)) ∨
 (∃ sz ty r rows, c = .gsl j r ∧ o = gB sz ty r ∧ c' = .ro true sz rows ∧ r.map (List.map RT.ofT) = rows.map (List.map some))
theorem ImpV.refl (x : AV) : ImpV x x := by
 unfold ImpV
 split
 ·exact Imp.refl _
 ·rfl
def fzV (j : Nat) (o : Option Blk) : AV → AV → Prop
 | .pl (.one c), .pl (.one c') => fzC j o c c'
 | .pl (.agg c), .pl (.agg c') => All2 (fzC j o) c c'
 | x, y => x = y
section
variable {W : Wo} {n m : Nat} {s s0 : S}
def subFf (j : Nat) (o : Option Blk) (F : Fr) : Fr → Prop
 | [] => True
 | (t, x) :: G => (∃ y, get F t = some y ∧ fzV j o y x) ∧ subFf j o F G
theorem subFf.get {j : Nat} {o : Option Blk} {F : Fr} : ∀ {G : Fr} {t : Nat} {x : AV}, subFf j o F G → Wx.get G t = some x → ∃ y, Wx.get F t = some y ∧ fzV j o y x
 | [], t, x, _, h => by simp [Wx.get] at h
 | (k, y) :: G, t, x, hs, h => by
  simp only [Wx.get] at h
  cases hb : Nat.beq k t with
  | true =>
   simp only [hb, Option.some.injEq] at h
   subst h
   rw [← Nat.eq_of_beq_eq_true hb]
   exact hs.1
  | false =>
   simp only [hb] at h
   exact subFf.get hs.2 h
theorem All2.self {α : Type} {r : α → α → Prop} (h : ∀ a, r a a) : ∀ l : List α, All2 r l l
 | [] => trivial
 | a :: l => ⟨h a, All2.self h l⟩
theorem rndZ_stp {α : Type} {G : α → S} {Inv : α → Prop} {μ : α → Nat} {p : α} {s s1 : S} (h : Stp m s s1) (k : rndZ m G Inv μ p s1) : rndZ m G Inv μ p s := by
 obtain ⟨p', h1, h2, h3⟩ := k.h
 exact ⟨p', h1, h2, h.trans h3⟩
theorem imp_eq {rows rows' : List (List Ce)} (h : rows = rows') : All2 (All2 Imp) rows rows' := by subst h; exact All2.self (All2.self Imp.refl) _
theorem rnd_rw {α : Type} {G : α → S} {Inv : α → Prop} {μ : α → Nat} {p : α} {s : S} (i : Nat) {rows : List (List Ce)} (rows' : List (List Ce)) {sz : Nat} {ty : TypeId} {bx : Bool} (hm : Nat.ble m s.top = true) (hi : kz s.K i = some (.b ⟨rows, sz, ty, bx⟩)) (e : rows = rows')
  (k : rndZ m G Inv μ p ⟨s.F, (i, some (.b ⟨rows', sz, ty, bx⟩)) :: s.K, s.top⟩) : rndZ m G Inv μ p s :=
 rndZ_stp (imp_stp s ⟨s.F, (i, some (.b ⟨rows', sz, ty, bx⟩)) :: s.K, s.top⟩ (fun t x hx => ⟨x, hx, ImpV.refl x⟩) (fun j b hb => by
  have hb' : kz ((i, some (.b ⟨rows', sz, ty, bx⟩)) :: s.K) j = some b := hb
  simp only [kz] at hb'
  cases hc : Nat.beq i j with
  | true =>
   rw [hc] at hb'
   cases hb'
   rw [← Nat.eq_of_beq_eq_true hc]
   exact ⟨_, hi, ⟨rfl, rfl, rfl⟩, imp_eq e⟩
  | false => rw [hc] at hb'; exact ⟨b, hb', ImpO.refl b⟩) (Nat.le_refl _) (Nat.le_of_ble_eq_true hm)) k
end
theorem callZ_mk {P : Program} {m : Nat} {g : FuncId} {avs : List AV} {K : Kr} {top : Nat} {k : AV → Kr → Nat → Prop} {args : List A0} {res : AV} {Kc : Wx.Kr} {tc : Nat} (zlow : All2 (lowV (kb K)) avs args) (h : Con P g args (fun x K t => x = res ∧ K = Kc ∧ t = tc)) (zk : k (res.ren (top + ·)) (upk (shK top Kc) ++ K) (top + tc)) : CallZ P m (.fn g []) avs K top k :=
 callZ_con zlow h (by rintro _ _ _ ⟨rfl, rfl, rfl⟩; exact zk)
theorem conZ_mz {P : Program} {g : FuncId} {avs : List AV} {K : Kr} {top : Nat} {k : Eff → Prop} {args : List A0} {res : AV} {Kc : Wx.Kr} {tc : Nat} (zlow : All2 (lowV (kb K)) avs args) (h : Con P g args (fun x K t => x = res ∧ K = Kc ∧ t = tc)) (zk : k ⟨res.ren (top + ·), avs.flatMap AV.refs, upk (shK top Kc), top + tc⟩) : ConZ P (.fn g []) avs K top k :=
 conZ_mk zlow h zk
section
variable {j : Nat} {o : Option Blk}
end
theorem frz_oslw {α : Type} {K : Nat → Option Blk} {l : List α} {f : α → List Ce} {g : α → List RT} {rows : List (List Ce)} {j n sz : Nat} {ty : TypeId} {bx : Bool} {c : Option Nat} (h : K j = some ⟨rows, sz, ty, bx⟩) (hn : n = l.length) (hr : rows.take n = l.map f) (hf : ∀ x, (f x).map RT.ofT = (g x).map some) : frzC K (.osl j 0 n c) (.ro true sz (l.map g)) := by
 simp only [frzC, h]
 exact ⟨_, rfl, by simp [hn], by rw [List.drop_zero, hr, List.map_map, List.map_map]; exact List.map_congr_left fun x _ => hf x⟩
theorem slN_lo {x : Int} {len : Nat} {cap : Option Nat} {A : Nat → Nat → Prop} (l : Nat) (e : x = (l : Int)) (h1 : l ≤ len) (k : A l len) : slN (some x) none len cap A := ⟨l, len, e, rfl, h1, .inl (Nat.le_refl _), k⟩
end Go.Proofs.Ytopieffkpdlpbaa.Wx.Z
namespace Go.Proofs.Ytopieffkpdlpbaa.Wx.Z
open Go Go.RowKit
end Go.Proofs.Ytopieffkpdlpbaa.Wx.Z
namespace Go.Proofs.Ytopieffkpdlpbaa.Wx.Z
open Go Go.RowKit
end Go.Proofs.Ytopieffkpdlpbaa.Wx.Z
namespace Go.Proofs.Ytopieffkpdlpbaa.Wx.Z
open Go Go.RowKit
end Go.Proofs.Ytopieffkpdlpbaa.Wx.Z
namespace Go.Proofs.Ytopieffkpdlpbaa.Wx.Z
open Go Go.RowKit
end Go.Proofs.Ytopieffkpdlpbaa.Wx.Z
namespace Go.Proofs.Ytopieffkpdlpbaa.Wx.Z
open Go Go.RowKit
end Go.Proofs.Ytopieffkpdlpbaa.Wx.Z
