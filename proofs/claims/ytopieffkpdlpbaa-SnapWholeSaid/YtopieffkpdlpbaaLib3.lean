import Derived.Test.YtopieffkpdlpbaaLib2
import Derived.ProofKit
import Derived.OpenShut
import Derived.ChangeArms
import Derived.WideShapes
import Derived.Carry
import Derived.RangeFuncIn
import Derived.RangeFuncRecord
import Derived.RangeFuncNested
import Derived.RangeFuncLeaves
import Derived.RangeFuncCalls
import Derived.RangeFuncOwn
import Derived.OrdersIn
import Derived.TacticsIn
import Derived.LoopNIn
import Derived.MapKept
import Derived.Maps.Keyed
set_option linter.unusedVariables false
set_option linter.unusedSimpArgs false
namespace Go.Proofs.Ytopieffkpdlpbaa.Wx
open Go Go.RowKit
structure ES where
 F : Bt AV
 K : Bt Blk
 top : Nat
 log : List Nat
structure CR where
 x : AV
 K : Bt Blk
 top : Nat
 log : List Nat
abbrev CallFn := FuncId → List Pt → List AV → Bt Blk → Nat → Option CR
def big : Nat := 130000
def putF (F : Bt AV) (d : Option Nat) (x : AV) : Bt AV :=
 match d with
 | none => F
 | some d => Bt.put 17 F d (some x)
def putK (K : Bt Blk) : Kr → Bt Blk
 | [] => K
 | (i, b) :: r => Bt.put 17 (putK K r) i b
def kwOk : Kr → Bool
 | [] => true
 | (i, _) :: r => match Nat.blt i big with | true => kwOk r | false => false
theorem getF_put {F : Bt AV} {d : Option Nat} {x : AV} (h : ∀ k, d = some k → k < big) : (putF F d x).get = fput F.get d x := by
 cases d with
 | none => rfl
 | some d =>
  funext t
  have := h d rfl
  simp only [big] at this
  show (Bt.put 17 F d (some x)).get t = _
  rw [Bt.get_put 17 F d (some x) t (by omega)]
  rfl
def CallE (P : Program) (g : FuncId) (cap : List Pt) (avs : List AV) (K : Nat → Option Blk) (top : Nat) (x : AV) (K' : Nat → Option Blk) (top' : Nat) : Prop :=
 fnB P g = true ∧ top ≤ top' ∧ ∀ (W : Wo) (I : IM) (R : RM) (w : World) (vs us : List Value), Wd W K I R w → (∀ j, top ≤ j → I j = none) → All2 (AV.rel I R) avs vs → All2 (Pt.rel I) cap us →
  Calls P g (vs.toArray ++ us.toArray) w fun e w' => ∃ v I' R', e = .returned v ∧ Wd W K' I' R' w' ∧ (∀ j, top' ≤ j → I' j = none) ∧ (∀ j, j < top → I' j = I j) ∧ RExt R R' ∧ x.rel I' R' v
def CallsOk (P : Program) (C : CallFn) : Prop :=
 ∀ g cap avs K top r, C g cap avs K top = some r → CallE P g cap avs K.get top r.x r.K.get r.top ∧ ∀ j, j ∉ r.log → r.K.get j = K.get j
def Goes (P : Program) (n : Nat) (c : Code) (s : ES) (e : Exit) (s' : ES) : Prop :=
 s.top ≤ s'.top ∧ (∀ j, j ∉ s'.log → j ∉ s.log ∧ s'.K.get j = s.K.get j) ∧
 ∀ (W : Wo) (I : IM) (R : RM) (a : Act) (w : World), St n W s.F.get s.K.get I R a w → (∀ j, s.top ≤ j → I j = none) →
  c.wp P (fun e' a' w' => e' = e ∧ ∃ I' R', St n W s'.F.get s'.K.get I' R' a' w' ∧ (∀ j, s'.top ≤ j → I' j = none) ∧ (∀ j, j < s.top → I' j = I j) ∧ RExt R R') a w
def GoesL (P : Program) (n : Nat) (ops : Array Oper) (l : List Oper) (s : ES) (s' : ES) : Prop :=
 s.top ≤ s'.top ∧ (∀ j, j ∉ s'.log → j ∉ s.log ∧ s'.K.get j = s.K.get j) ∧
 ∀ (W : Wo) (I : IM) (R : RM) (a : Act) (w : World), St n W s.F.get s.K.get I R a w → (∀ j, s.top ≤ j → I j = none) →
  ∀ Q : Exit → Act → World → Prop, (∀ a' w' I' R', St n W s'.F.get s'.K.get I' R' a' w' → (∀ j, s'.top ≤ j → I' j = none) → (∀ j, j < s.top → I' j = I j) → RExt R R' → Q .normal a' w') → wpList P ops Q l a w
def wantE (ops : Array Oper) (F : Bt AV) (g : Option (Nat × Bool)) : Option Bool :=
 match g with
 | none => some true
 | some (g, want) => match (ops[g]?).bind (·.dst) with
  | some t => match F.get t with
   | some (.pl (.one (.v (.bool b)))) => some (b == want)
   | some (.pl (.one (.v (.tuple _)))) => some false
   | _ => none
  | none => none
def dstE (n : Nat) (d : Option Nat) : Bool :=
 match d with
 | none => true
 | some d => match Nat.blt d n with | true => Nat.blt d big | false => false
theorem dstE_n {n : Nat} {d : Option Nat} (h : dstE n d = true) : dstB n d = true := by
 cases d with
 | none => rfl
 | some d =>
  unfold dstE at h
  simp only at h
  split at h
  ·rename_i h1; exact h1
  ·cases h
theorem dstE_b {n : Nat} {d : Option Nat} (h : dstE n d = true) : ∀ k, d = some k → k < big := by
 intro k hk
 subst hk
 unfold dstE at h
 simp only at h
 split at h
 ·simpa [Nat.blt_eq] using h
 ·cases h
def stepE (C : CallFn) (T : Tab) (n : Nat) (o : Oper) (s : ES) : Option ES :=
 match dstE n o.dst with
 | true => match callOf o.op with
  | some (f, xs) => match evf s.F.get f, evs s.F.get xs with
   | some (.pl (.one (.fn g cap))), some avs => match C g cap avs s.K s.top with
    | some r => some ⟨putF s.F o.dst r.x, r.K, r.top, r.log ++ s.log⟩
    | none => none
   | _, _ => none
  | none => match opE T o s.F.get s.K.get s.top with
   | some e => match Nat.ble s.top e.top, kwOk e.kw with
    | true, true => some ⟨putF s.F o.dst e.av, putK s.K e.kw, e.top, e.kw.map (·.1) ++ s.log⟩
    | _, _ => none
   | none => none
 | false => none
def runE (C : CallFn) (T : Tab) (n : Nat) (ops : Array Oper) : List Oper → ES → Option ES
 | [], s => some s
 | o :: r, s => match wantE ops s.F o.guard with
  | some true => match stepE C T n { o with guard := none } s with
   | some s' => runE C T n ops r s'
   | none => none
  | some false => match dstE n o.dst with
   | true => runE C T n ops r ⟨putF s.F o.dst (.val undef), s.K, s.top, s.log⟩
   | false => none
  | none => none
def reachT (K : Bt Blk) : Nat → List Nat → List Nat → List Nat
 | 0, _, seen => seen
 | _ + 1, [], seen => seen
 | n + 1, i :: r, seen => match seen.contains i with
  | true => reachT K n r seen
  | false => match K.get i with
   | none => reachT K n r (i :: seen)
   | some b => reachT K n (b.rows.flatMap (fun r => r.flatMap Ce.refs2) ++ r) (i :: seen)
def restrict (K : Bt Blk) : List Nat → Bt Blk
 | [] => .e
 | i :: r => Bt.put 17 (restrict K r) i (K.get i)
def inE (K : Bt Blk) (top : Nat) (cap : List Pt) (avs : List AV) (l : List Nat) : Bool :=
 l.all (fun i => Nat.blt i top) && Nat.ble top big && avs.all (AV.inB l) && cap.all (Pt.inB l) && l.all fun i => match K.get i with
  | some b => b.rows.all fun r => r.all (Ce.inB l)
  | none => true
def dedup : List Nat → List Nat
 | [] => []
 | i :: r => match r.contains i with
  | true => dedup r
  | false => i :: dedup r
theorem mem_dedup {i : Nat} : ∀ {l : List Nat}, i ∈ dedup l ↔ i ∈ l
 | [] => Iff.rfl
 | j :: r => by
  unfold dedup
  split
  ·rename_i h
   rw [mem_dedup]
   simp only [List.mem_cons]
   constructor
   ·exact .inr
   ·rintro (rfl | h2)
    ·simpa using h
    ·exact h2
  ·simp only [List.mem_cons, mem_dedup]
def stepDE (C : CallFn) (T : Tab) (n : Nat) (o : Oper) (s : ES) : Option Eff :=
 match callOf o.op with
 | some (f, xs) => match evf s.F.get f, evs s.F.get xs with
  | some (.pl (.one (.fn g cap))), some avs => match inE s.K s.top cap avs (reachT s.K 2000 (cap.flatMap Pt.refs2 ++ avs.flatMap AV.refs2) []) with
   | true => match C g cap avs (restrict s.K (reachT s.K 2000 (cap.flatMap Pt.refs2 ++ avs.flatMap AV.refs2) [])) s.top with
    | some r => some ⟨r.x, reachT s.K 2000 (cap.flatMap Pt.refs2 ++ avs.flatMap AV.refs2) [], (dedup r.log).map (fun j => (j, r.K.get j)), r.top⟩
    | none => none
   | false => none
  | _, _ => none
 | none => opE T o s.F.get s.K.get s.top
def drawE (C : CallFn) (T : Tab) (n : Nat) (ops : Array Oper) : List Oper → ES → Option (List Ent × ES)
 | [], s => some ([], s)
 | o :: r, s => match dstE n o.dst, wantE ops s.F o.guard with
  | true, some true => match stepDE C T n o s with
   | some e => match Nat.ble s.top e.top, kwOk e.kw with
    | true, true => match drawE C T n ops r ⟨putF s.F o.dst e.av, putK s.K e.kw, e.top, e.kw.map (·.1) ++ s.log⟩ with
     | some (xs, s') => some (⟨o, false, e, s.top⟩ :: xs, s')
     | none => none
    | _, _ => none
   | none => none
  | true, some false => match drawE C T n ops r ⟨putF s.F o.dst (.val undef), s.K, s.top, s.log⟩ with
   | some (xs, s') => some (⟨o, true, ⟨.val undef, [], [], s.top⟩, s.top⟩ :: xs, s')
   | none => none
  | _, _ => none
def loopE (body : ES → Option (Exit × ES)) : Nat → ES → Option (Exit × ES)
 | 0, _ => none
 | f + 1, s => match body s with
  | some (.normal, s') => loopE body f s'
  | r => r
def codeE (C : CallFn) (T : Tab) (n : Nat) (lf : Nat) : Code → ES → Option (Exit × ES)
 | .skip, s => some (.normal, s)
 | .region _ ops draw, s => match draw with
  | false => match runE C T n ops ops.toList s with
   | some s' => some (.normal, s')
   | none => none
  | true => match drawE C T n ops ops.toList s with
   | some (xs, s') => match apartB ops xs with
    | true => some (.normal, s')
    | false => none
   | none => none
 | .seq a b, s => match codeE C T n lf a s with
  | some (.normal, s') => codeE C T n lf b s'
  | r => r
 | .cond c x y, s => match evf s.F.get c with
  | some (.pl (.one (.v (.bool true)))) => codeE C T n lf x s
  | some (.pl (.one (.v (.bool false)))) => codeE C T n lf y s
  | _ => none
 | .block id c, s => match codeE C T n lf c s with
  | some (.exit i, s') => match Nat.beq i id with
   | true => some (.normal, s')
   | false => some (.exit i, s')
  | r => r
 | .loop c, s => loopE (codeE C T n lf c) lf s
 | .exit id, s => some (.exit id, s)
 | .ret, s => some (.ret, s)
 | .label _, s => some (.normal, s)
 | .scope c, s => match codeE C T n lf c s with
  | some (.goto _, _) => none
  | r => r
 | _, _ => none
def resE (T : Tab) (s : ES) : List ResultVar → Option (List A0)
 | [] => some []
 | .tmp t :: r => match s.F.get t, resE T s r with
  | some (.pl x), some l => some (x :: l)
  | _, _ => none
 | .cell p t :: r => match s.F.get p, tyGet T t, resE T s r with
  | some (.pl (.one (.own i q k))), some ti, some l => match s.K.get i with
   | some b => match b.rows[q]? with
    | some row => match cut ti.row k ti.size row with
     | some v => some (v :: l)
     | none => none
    | none => none
   | none => none
  | _, _, _ => none
def argE : Nat → List AV → Bt AV
 | _, [] => .e
 | k, v :: r => Bt.put 17 (argE (k + 1) r) k (some v)
abbrev FTab := List (Nat × Func)
def ftGet : FTab → Nat → Option Func
 | [], _ => none
 | (k, x) :: F, t => match Nat.beq k t with
  | true => some x
  | false => ftGet F t
def FtOk (P : Program) (FT : FTab) : Prop := ∀ g fn, ftGet FT g = some fn → P.funcs[g]? = some fn ∧ fnB P g = true
theorem FtOk.nil {P : Program} : FtOk P [] := fun _ _ h => by simp [ftGet] at h
theorem FtOk.cons {P : Program} {FT : FTab} {g : Nat} {fn : Func} (h : P.funcs[g]? = some fn) (h2 : fnB P g = true) (hT : FtOk P FT) : FtOk P ((g, fn) :: FT) := fun u j hj => by
 simp only [ftGet] at hj
 split at hj
 ·rename_i he
  simp only [Option.some.injEq] at hj
  subst hj
  rw [← Nat.eq_of_beq_eq_true he]
  exact ⟨h, h2⟩
 ·exact hT u j hj
def callE (FT : FTab) (T : Tab) (lf : Nat) : Nat → CallFn
 | 0, _, _, _, _, _ => none
 | d + 1, g, cap, avs, K, top => match ftGet FT g with
  | some fn => match fn.body with
   | some c => match Nat.ble (avs ++ capA cap).length fn.ntmps, Nat.ble (avs ++ capA cap).length big with
    | true, true => match codeE (callE FT T lf d) T fn.ntmps lf c ⟨argE 0 (avs ++ capA cap), K, top, []⟩ with
     | some (.normal, s) => match resE T s fn.results.toList with
      | some xs => some ⟨retV xs, s.K, s.top, s.log⟩
      | none => none
     | some (.ret, s) => match resE T s fn.results.toList with
      | some xs => some ⟨retV xs, s.K, s.top, s.log⟩
      | none => none
     | _ => none
    | _, _ => none
   | none => none
  | none => none
section
variable {P : Program} {C : CallFn} {T : Tab} {n : Nat} {ops : Array Oper}
end
section
open Classical
end
section
variable {P : Program} {C : CallFn} {T : Tab} {n : Nat} {ops : Array Oper}
theorem mapK_get {K' : Nat → Option Blk} {K : Nat → Option Blk} : ∀ (l : List Nat) (j : Nat), kup K (l.map fun j => (j, K' j)) j = if j ∈ l then K' j else K j
 | [], j => by simp [kup]
 | i :: r, j => by
  simp only [List.map_cons, kup, mapK_get r j]
  by_cases h : j = i
  ·subst h; simp
  ·rw [if_neg h]
   by_cases h2 : j ∈ r
   ·rw [if_pos h2, if_pos (List.mem_cons_of_mem _ h2)]
   ·rw [if_neg h2, if_neg (by simp [h, h2])]
end
theorem get_argE : ∀ (l : List AV) (k t : Nat) (x : AV), k + l.length ≤ big → (argE k l).get t = some x → k ≤ t ∧ l[t - k]? = some x
 | [], k, t, x, _, h => by simp [argE, Bt.get] at h
 | v :: r, k, t, x, hb, h => by
  simp only [big, List.length_cons] at hb
  simp only [argE] at h
  rw [Bt.get_put 17 _ _ _ _ (by omega)] at h
  split at h
  ·rename_i he
   subst he
   simp only [Option.some.injEq] at h
   subst h
   simp
  ·rename_i hne
   obtain ⟨h2, h3⟩ := get_argE r (k + 1) t x (by simp only [big]; omega) h
   refine ⟨by omega, ?_⟩
   rw [show t - k = (t - (k + 1)) + 1 by omega]
   simpa using h3
def isT : Option CR → Bool
 | some ⟨.pl (.one (.v (.bool true))), _, _, _⟩ => true
 | _ => false
end Go.Proofs.Ytopieffkpdlpbaa.Wx
namespace Go.Proofs.Ytopieffkpdlpbaa
open Go Go.RowKit Wx
noncomputable def ftab : FTab := [(3, Try.f3), (4, Try.f4), (5, Try.f5), (6, Try.f6), (7, Try.f7), (8, Try.f8), (9, Try.f9), (10, Try.f10), (11, Try.f11), (12, Try.f12), (13, Try.f13), (14, Try.f14), (15, Try.f15), (16, Try.f16), (17, Try.f17), (18, Try.f18), (19, Try.f19), (20, Try.f20), (21, Try.f21), (22, Try.f22), (23, Try.f23), (24, Try.f24), (25, Try.f25), (26, Try.f26), (27, Try.f27), (28, Try.f28), (29, Try.f29), (30, Try.f30), (31, Try.f31), (32, Try.f32), (33, Try.f33), (34, Try.f34), (35, Try.f35), (36, Try.f36), (37, Try.f37), (38, Try.f38), (39, Try.f39), (40, Try.f40), (41, Try.f41), (42, Try.f42), (43, Try.f43), (44, Try.f44), (45, Try.f45), (46, Try.f46), (47, Try.f47), (48, Try.f48), (49, Try.f49), (50, Try.f50), (51, Try.f51), (52, Try.f52), (53, Try.f53), (54, Try.f54), (55, Try.f55), (56, Try.f56), (57, Try.f57), (58, Try.f58), (59, Try.f59), (60, Try.f60), (61, Try.f61), (62, Try.f62), (63, Try.f63), (64, Try.f64), (65, Try.f65), (66, Try.f66), (67, Try.f67), (68, Try.f68), (69, Try.f69), (70, Try.f70), (71, Try.f71), (72, Try.f72), (73, Try.f73), (74, Try.f74), (75, Try.f75), (76, Try.f76), (77, Try.f77), (78, Try.f78), (79, Try.f79), (80, Try.f80), (81, Try.f81), (82, Try.f82), (83, Try.f83), (84, Try.f84), (85, Try.f85), (86, Try.f86), (87, Try.f87), (88, Try.f88), (89, Try.f89), (90, Try.f90), (91, Try.f91), (92, Try.f92), (93, Try.f93), (94, Try.f94), (95, Try.f95), (96, Try.f96), (97, Try.f97), (98, Try.f98), (99, Try.f99), (100, Try.f100), (101, Try.f101), (102, Try.f102), (103, Try.f103), (104, Try.f104), (105, Try.f105), (106, Try.f106), (107, Try.f107), (108, Try.f108), (109, Try.f109), (110, Try.f110), (111, Try.f111), (112, Try.f112), (113, Try.f113), (114, Try.f114), (115, Try.f115), (116, Try.f116), (117, Try.f117), (118, Try.f118), (119, Try.f119), (120, Try.f120), (121, Try.f121), (122, Try.f122), (123, Try.f123), (124, Try.f124), (125, Try.f125), (126, Try.f126), (127, Try.f127), (128, Try.f128), (129, Try.f129), (130, Try.f130), (131, Try.f131), (132, Try.f132), (133, Try.f133), (134, Try.f134), (135, Try.f135)]
theorem ftabOk : FtOk Try.prog ftab := .cons Try.func3 (by kernel_rfl) (.cons Try.func4 (by kernel_rfl) (.cons Try.func5 (by kernel_rfl) (.cons Try.func6 (by kernel_rfl) (.cons Try.func7 (by kernel_rfl) (.cons Try.func8 (by kernel_rfl) (.cons Try.func9 (by kernel_rfl) (.cons Try.func10 (by kernel_rfl) (.cons Try.func11 (by kernel_rfl) (.cons Try.func12 (by kernel_rfl) (.cons Try.func13 (by kernel_rfl) (.cons Try.func14 (by kernel_rfl) (.cons Try.func15 (by kernel_rfl) (.cons Try.func16 (by kernel_rfl) (.cons Try.func17 (by kernel_rfl) (.cons Try.func18 (by kernel_rfl) (.cons Try.func19 (by kernel_rfl) (.cons Try.func20 (by kernel_rfl) (.cons Try.func21 (by kernel_rfl) (.cons Try.func22 (by kernel_rfl) (.cons Try.func23 (by kernel_rfl) (.cons Try.func24 (by kernel_rfl) (.cons Try.func25 (by kernel_rfl) (.cons Try.func26 (by kernel_rfl) (.cons Try.func27 (by kernel_rfl) (.cons Try.func28 (by kernel_rfl) (.cons Try.func29 (by kernel_rfl) (.cons Try.func30 (by kernel_rfl) (.cons Try.func31 (by kernel_rfl) (.cons Try.func32 (by kernel_rfl) (.cons Try.func33 (by kernel_rfl) (.cons Try.func34 (by kernel_rfl) (.cons Try.func35 (by kernel_rfl) (.cons Try.func36 (by kernel_rfl) (.cons Try.func37 (by kernel_rfl) (.cons Try.func38 (by kernel_rfl) (.cons Try.func39 (by kernel_rfl) (.cons Try.func40 (by kernel_rfl) (.cons Try.func41 (by kernel_rfl) (.cons Try.func42 (by kernel_rfl) (.cons Try.func43 (by kernel_rfl) (.cons Try.func44 (by kernel_rfl) (.cons Try.func45 (by kernel_rfl) (.cons Try.func46 (by kernel_rfl) (.cons Try.func47 (by kernel_rfl) (.cons Try.func48 (by kernel_rfl) (.cons Try.func49 (by kernel_rfl) (.cons Try.func50 (by kernel_rfl) (.cons Try.func51 (by kernel_rfl) (.cons Try.func52 (by kernel_rfl) (.cons Try.func53 (by kernel_rfl) (.cons Try.func54 (by kernel_rfl) (.cons Try.func55 (by kernel_rfl) (.cons Try.func56 (by kernel_rfl) (.cons Try.func57 (by kernel_rfl) (.cons Try.func58 (by kernel_rfl) (.cons Try.func59 (by kernel_rfl) (.cons Try.func60 (by kernel_rfl) (.cons Try.func61 (by kernel_rfl) (.cons Try.func62 (by kernel_rfl) (.cons Try.func63 (by kernel_rfl) (.cons Try.func64 (by kernel_rfl) (.cons Try.func65 (by kernel_rfl) (.cons Try.func66 (by kernel_rfl) (.cons Try.func67 (by kernel_rfl) (.cons Try.func68 (by kernel_rfl) (.cons Try.func69 (by kernel_rfl) (.cons Try.func70 (by kernel_rfl) (.cons Try.func71 (by kernel_rfl) (.cons Try.func72 (by kernel_rfl) (.cons Try.func73 (by kernel_rfl) (.cons Try.func74 (by kernel_rfl) (.cons Try.func75 (by kernel_rfl) (.cons Try.func76 (by kernel_rfl) (.cons Try.func77 (by kernel_rfl) (.cons Try.func78 (by kernel_rfl) (.cons Try.func79 (by kernel_rfl) (.cons Try.func80 (by kernel_rfl) (.cons Try.func81 (by kernel_rfl) (.cons Try.func82 (by kernel_rfl) (.cons Try.func83 (by kernel_rfl) (.cons Try.func84 (by kernel_rfl) (.cons Try.func85 (by kernel_rfl) (.cons Try.func86 (by kernel_rfl) (.cons Try.func87 (by kernel_rfl) (.cons Try.func88 (by kernel_rfl) (.cons Try.func89 (by kernel_rfl) (.cons Try.func90 (by kernel_rfl) (.cons Try.func91 (by kernel_rfl) (.cons Try.func92 (by kernel_rfl) (.cons Try.func93 (by kernel_rfl) (.cons Try.func94 (by kernel_rfl) (.cons Try.func95 (by kernel_rfl) (.cons Try.func96 (by kernel_rfl) (.cons Try.func97 (by kernel_rfl) (.cons Try.func98 (by kernel_rfl) (.cons Try.func99 (by kernel_rfl) (.cons Try.func100 (by kernel_rfl) (.cons Try.func101 (by kernel_rfl) (.cons Try.func102 (by kernel_rfl) (.cons Try.func103 (by kernel_rfl) (.cons Try.func104 (by kernel_rfl) (.cons Try.func105 (by kernel_rfl) (.cons Try.func106 (by kernel_rfl) (.cons Try.func107 (by kernel_rfl) (.cons Try.func108 (by kernel_rfl) (.cons Try.func109 (by kernel_rfl) (.cons Try.func110 (by kernel_rfl) (.cons Try.func111 (by kernel_rfl) (.cons Try.func112 (by kernel_rfl) (.cons Try.func113 (by kernel_rfl) (.cons Try.func114 (by kernel_rfl) (.cons Try.func115 (by kernel_rfl) (.cons Try.func116 (by kernel_rfl) (.cons Try.func117 (by kernel_rfl) (.cons Try.func118 (by kernel_rfl) (.cons Try.func119 (by kernel_rfl) (.cons Try.func120 (by kernel_rfl) (.cons Try.func121 (by kernel_rfl) (.cons Try.func122 (by kernel_rfl) (.cons Try.func123 (by kernel_rfl) (.cons Try.func124 (by kernel_rfl) (.cons Try.func125 (by kernel_rfl) (.cons Try.func126 (by kernel_rfl) (.cons Try.func127 (by kernel_rfl) (.cons Try.func128 (by kernel_rfl) (.cons Try.func129 (by kernel_rfl) (.cons Try.func130 (by kernel_rfl) (.cons Try.func131 (by kernel_rfl) (.cons Try.func132 (by kernel_rfl) (.cons Try.func133 (by kernel_rfl) (.cons Try.func134 (by kernel_rfl) (.cons Try.func135 (by kernel_rfl) (.nil)))))))))))))))))))))))))))))))))))))))))))))))))))))))))))))))))))))))))))))))))))))))))))))))))))))))))))))))))))))))))))))))))))))
end Go.Proofs.Ytopieffkpdlpbaa
namespace Go.Proofs.Ytopieffkpdlpbaa.Wx
open Go Go.RowKit Go.WideShapes
inductive TD where
 | int (k : IntKind)
 | bool
 | str
 | sl (e : TD) (te sz : Nat)
 | st (fs : TD)
 | arr (n : Nat) (e : TD) (te sz : Nat)
 | nil
 | cons (ft sz : Nat) (f rest : TD)
def tdOk (P : Program) : TD → Bool → Nat → List Field → Nat → Bool
 | .int k, false, t, _, _ => match P.underlying t with | some (.int k') => decide (k = k') | _ => false
 | .bool, false, t, _, _ => match P.underlying t with | some .bool => true | _ => false
 | .str, false, t, _, _ => match P.underlying t with | some .string => true | _ => false
 | .sl e te sz, false, t, _, _ => match P.underlying t with | some (.slice e') => Nat.beq e' te && Nat.beq (P.cellsOf te) sz && Nat.blt 0 sz && tdOk P e false te [] 0 | _ => false
 | .st fs, false, t, _, _ => match P.underlying t with | some (.struct fl) => tdOk P fs true (P.cellsOf t) fl.toList 0 | _ => false
 | .arr n e te sz, false, t, _, _ => match P.underlying t with | some (.array n' e') => Nat.beq n' n && Nat.beq e' te && Nat.beq (P.cellsOf te) sz && Nat.beq (P.cellsOf t) (n * sz) && tdOk P e false te [] 0 | _ => false
 | .nil, true, t, fl, off => match fl with | [] => Nat.beq t off | _ => false
 | .cons ft sz f rest, true, t, fl, off => match fl with | x :: fl' => Nat.beq x.type ft && Nat.beq x.offset off && Nat.beq (P.cellsOf ft) sz && tdOk P f false ft [] 0 && tdOk P rest true t fl' (off + sz) | [] => false
 | _, _, _, _, _ => false
def RowF : TD → List RT → Prop
 | .int k, r => ∃ z, r = [.v (.int k z)] ∧ (Lit.int k z).wf = true
 | .bool, r => ∃ b, r = [.v (.bool b)]
 | .str, r => ∃ s, r = [.v (.string s)] ∧ s.size ≤ maxLen
 | .sl e _ sz, r => ∃ rows, r = [.ro sz rows] ∧ rows.length ≤ maxLen ∧ ∀ row ∈ rows, RowF e row
 | .st fs, r => RowF fs r
 | .arr n e _ sz, r => ∃ rows : List (List RT), r = rows.flatten ∧ rows.length = n ∧ ∀ row ∈ rows, RowF e row ∧ row.length = sz
 | .nil, r => r = []
 | .cons _ sz f rest, r => ∃ a b, r = a ++ b ∧ a.length = sz ∧ RowF f a ∧ RowF rest b
def TD.isRow : TD → Bool
 | .st _ => true
 | .arr .. => true
 | _ => false
def FitA (td : TD) (a : A0) : Prop :=
 match td.isRow with
 | true => ∃ row, RowF td row ∧ a = .agg (row.map (RT.ce false))
 | false => ∃ r, RowF td [r] ∧ a = .one (r.ce false)
section
variable {H : Type} {enc : TypeId × Value → H} {P : Program} {w : World} {spare : Nat → Bool} {held : Bool}
def Opens (enc : TypeId × Value → H) (P : Program) (w : World) (spare : Nat → Bool) (held : Bool) (td : TD) (md : Bool) (t : Nat) (fl : List Field) (off : Nat) : Prop :=
 match md with
 | true => ∀ (n : Nat) (cs : List Value), cs.length = t → (∀ f ∈ fl, ∃ y, DataW.trod enc P w 0 spare held n f.type ((cs.drop f.offset).take (P.cellsOf f.type)) = some y) →
   off ≤ t ∧ ∃ row, RowF td row ∧ All2 (Rd fun b o => w.cell? ⟨b, o, none⟩) row (cs.drop off)
 | false => ∀ (n : Nat) (cs : List Value) (x : DataW H × List MemPlace), DataW.trod enc P w 0 spare held n t cs = some x → ∃ row, RowF td row ∧ All2 (Rd fun b o => w.cell? ⟨b, o, none⟩) row cs
theorem list_choose {α : Type} {p : Nat → α → Prop} : ∀ (n : Nat), (∀ i, i < n → ∃ a, p i a) → ∃ l : List α, l.length = n ∧ ∀ i a, l[i]? = some a → p i a
 | 0, _ => ⟨[], rfl, fun i a h => by simp at h⟩
 | n + 1, h => by
  obtain ⟨l, h1, h2⟩ := list_choose n fun i hi => h i (by omega)
  obtain ⟨a, ha⟩ := h n (by omega)
  refine ⟨l ++ [a], by simp [h1], fun i b hb => ?_⟩
  rcases Nat.lt_or_ge i n with hi | hi
  ·rw [List.getElem?_append_left (by omega)] at hb; exact h2 i b hb
  ·have : i = n := by
    have := (List.getElem?_eq_some_iff.1 hb).1
    simp at this; omega
   subst this
   rw [List.getElem?_append_right (by omega), h1] at hb
   simp at hb; subst hb; exact ha
theorem all2_rows {β : Type} {rel : RT → β → Prop} {sz : Nat} : ∀ {rows : List (List RT)} {us : List β}, us.length = rows.length * sz → (∀ (i : Nat) (r : List RT), rows[i]? = some r → All2 rel r ((us.drop (i * sz)).take sz)) → All2 rel rows.flatten us
 | [], us, hl, _ => by
  have : us = [] := List.eq_nil_of_length_eq_zero (by simpa using hl)
  subst this; trivial
 | r :: rows, us, hl, h => by
  have h0 := h 0 r rfl
  simp only [Nat.zero_mul, List.drop_zero] at h0
  simp only [List.length_cons, Nat.add_mul, Nat.one_mul] at hl
  have hr : All2 rel rows.flatten (us.drop sz) := all2_rows (sz := sz) (by rw [List.length_drop]; omega) fun i r' hr' => by
   have := h (i + 1) r' (by simpa using hr')
   rw [List.drop_drop, show sz + i * sz = (i + 1) * sz by rw [Nat.add_mul, Nat.one_mul, Nat.add_comm]]
   exact this
  have := h0.append hr
  rwa [List.take_append_drop] at this
theorem opens : ∀ (td : TD) (md : Bool) (t : Nat) (fl : List Field) (off : Nat), tdOk P td md t fl off = true → Opens enc P w spare held td md t fl off
 | .int k, false, t, fl, off, h => fun n cs x hx => by
  unfold tdOk at h
  split at h
  ·rename_i k' ht
   have := of_decide_eq_true h
   subst this
   obtain ⟨z, rfl, _, hw⟩ := DataW.trod_int ht hx
   exact ⟨_, ⟨z, rfl, hw⟩, .v _, trivial⟩
  ·cases h
 | .bool, false, t, fl, off, h => fun n cs x hx => by
  unfold tdOk at h
  split at h
  ·rename_i ht
   obtain ⟨z, rfl, _⟩ := DataW.trod_bool ht hx
   exact ⟨_, ⟨z, rfl⟩, .v _, trivial⟩
  ·cases h
 | .str, false, t, fl, off, h => fun n cs x hx => by
  unfold tdOk at h
  split at h
  ·rename_i ht
   obtain ⟨z, rfl, _, hz⟩ := DataW.trod_string ht hx
   exact ⟨_, ⟨z, rfl, hz⟩, .v _, trivial⟩
  ·cases h
 | .sl e te sz, false, t, fl, off, h => fun n cs x hx => by
  unfold tdOk at h
  split at h
  ·rename_i e' ht
   simp only [Bool.and_eq_true] at h
   obtain ⟨⟨⟨h1, h2⟩, h3⟩, h4⟩ := h
   have h1 := Nat.eq_of_beq_eq_true h1
   have h2 := Nat.eq_of_beq_eq_true h2
   subst h1 h2
   have hpos : 0 < P.cellsOf e' := by simpa [Nat.blt_eq] using h3
   have ih : ∀ (n : Nat) (cs : List Value) (x : DataW H × List MemPlace), DataW.trod enc P w 0 spare held n e' cs = some x → ∃ row, RowF e row ∧ All2 (Rd fun b o => w.cell? ⟨b, o, none⟩) row cs := opens e false e' [] 0 h4
   rcases DataW.trod_slice ht hx with ⟨rfl, _⟩ | ⟨a, len, cap, elems, rest, m, _, rfl, rfl, hb, hl, hm, hlen, hel, hsp, hns⟩
   ·exact ⟨_, ⟨[], rfl, by simp, by simp⟩, .nil _, trivial⟩
   ·obtain ⟨prs, hp1, hp2⟩ := list_choose (p := fun i (q : List RT × List Value) => RowF e q.1 ∧ All2 (Rd fun b o => w.cell? ⟨b, o, none⟩) q.1 q.2 ∧ q.2.length = P.cellsOf e' ∧ ∀ k, k < P.cellsOf e' → w.cell? ((a.add (i * P.cellsOf e')).add k) = q.2[k]?) len (fun i hi => by
     have h5 := hel i hi
     have h6 : elems[i]? = some (elems[i]'(by omega)) := List.getElem?_eq_getElem _
     rw [h6, Option.bind_eq_some_iff] at h5
     obtain ⟨cs', hc1, hc2⟩ := h5
     obtain ⟨_, hc3, hc4⟩ := World.cells?_some hc1
     obtain ⟨row, hr1, hr2⟩ := ih _ _ _ hc2
     exact ⟨(row, cs'), hr1, hr2, hc3, hc4⟩)
    have hrows : ∀ row ∈ prs.map (·.1), RowF e row := fun row hr => by
     obtain ⟨q, hq, rfl⟩ := List.mem_map.1 hr
     obtain ⟨i, hi⟩ := List.getElem?_of_mem hq
     exact (hp2 i q hi).1
    refine ⟨[.ro (P.cellsOf e') (prs.map (·.1))], ⟨_, rfl, by simp; omega, hrows⟩, ?_, trivial⟩
    cases hprs : prs with
    | nil =>
     rw [hprs] at hp1
     simp only [List.length_nil] at hp1
     subst hp1
     exact .emp _ _ _
    | cons q0 qs =>
     have hq0 := hp2 0 q0 (by rw [hprs]; rfl)
     have hsp0 : a.spot = none := by
      have h7 := hq0.2.2.2 0 hpos
      have h8 : q0.2[0]? = some (q0.2[0]'(by omega)) := List.getElem?_eq_getElem _
      rw [h8] at h7
      have := World.cell?_spot h7
      obtain ⟨b, o, sp⟩ := a
      simpa [Addr.add] using this
     obtain ⟨b, o, sp⟩ := a
     simp only at hsp0
     subst hsp0
     rw [← hprs]
     have hpl : prs.length = (prs.map (·.1)).length := by simp
     rw [show (Value.slice (some ⟨b, o, none⟩) len cap) = Value.slice (some ⟨b, o, none⟩) (prs.map (·.1)).length cap by rw [← hpl, hp1]]
     refine .ro (P.cellsOf e') (prs.map (·.1)) b o cap (fun q k => (((prs[q]?).bind fun p => p.2[k]?).getD undef)) ?_ (by simp; omega) ?_ ?_
     ·intro row hrow
      obtain ⟨q, hq, rfl⟩ := List.mem_map.1 hrow
      obtain ⟨i, hi⟩ := List.getElem?_of_mem hq
      have h9 := hp2 i q hi
      rw [h9.2.1.length, h9.2.2.1]
     ·intro q row k t hq hk
      simp only [List.getElem?_map, Option.map_eq_some_iff] at hq
      obtain ⟨pr, hpr, rfl⟩ := hq
      obtain ⟨g1, g2, g3, g4⟩ := hp2 q pr hpr
      obtain ⟨u, hu, hr⟩ := g2.get hk
      have hkl := (List.getElem?_eq_some_iff.1 hu).1
      have := g4 k (by omega)
      simp only [Addr.add_mid] at this
      rw [this, hpr]
      simp [hu]
     ·intro q row k t hq hk
      simp only [List.getElem?_map, Option.map_eq_some_iff] at hq
      obtain ⟨pr, hpr, rfl⟩ := hq
      obtain ⟨g1, g2, g3, g4⟩ := hp2 q pr hpr
      obtain ⟨u, hu, hr⟩ := g2.get hk
      rw [hpr]
      simpa [hu] using hr
  ·cases h
 | .st fs, false, t, fl, off, h => fun n cs x hx => by
  unfold tdOk at h
  split at h
  ·rename_i fl0 ht
   obtain ⟨xs, m, _, rfl, hl, hxl, hf⟩ := DataW.trod_struct ht hx
   have ih := opens fs true (P.cellsOf t) fl0.toList 0 h
   obtain ⟨_, row, h1, h2⟩ := ih m cs hl (fun f hfm => by
    obtain ⟨i, hi⟩ := List.getElem?_of_mem hfm
    have hi' : fl0[i]? = some f := by simpa using hi
    have hlt := (Array.getElem?_eq_some_iff.1 hi').1
    exact ⟨xs[i]'(by omega), (hf i f hi').trans (List.getElem?_eq_getElem _)⟩)
   exact ⟨row, h1, by simpa using h2⟩
  ·cases h
 | .arr n0 e te sz, false, t, fl, off, h => fun n cs x hx => by
  unfold tdOk at h
  split at h
  ·rename_i n' e' ht
   simp only [Bool.and_eq_true] at h
   obtain ⟨⟨⟨⟨h0, h1⟩, h2⟩, h3⟩, h4⟩ := h
   have h0 := Nat.eq_of_beq_eq_true h0
   have h1 := Nat.eq_of_beq_eq_true h1
   have h2 := Nat.eq_of_beq_eq_true h2
   have h3 := Nat.eq_of_beq_eq_true h3
   subst h0 h1 h2
   have ih : ∀ (n : Nat) (cs : List Value) (x : DataW H × List MemPlace), DataW.trod enc P w 0 spare held n e' cs = some x → ∃ row, RowF e row ∧ All2 (Rd fun b o => w.cell? ⟨b, o, none⟩) row cs := opens e false e' [] 0 h4
   obtain ⟨xs, m, _, rfl, hl, hxl, hf⟩ := DataW.trod_array ht hx
   rw [h3] at hl
   obtain ⟨rows, hp1, hp2⟩ := list_choose (p := fun i (r : List RT) => RowF e r ∧ All2 (Rd fun b o => w.cell? ⟨b, o, none⟩) r ((cs.drop (i * P.cellsOf e')).take (P.cellsOf e')) ∧ r.length = P.cellsOf e') n' (fun i hi => by
    have h5 := hf i hi
    have h6 : xs[i]? = some (xs[i]'(by omega)) := List.getElem?_eq_getElem _
    rw [h6] at h5
    obtain ⟨row, hr1, hr2⟩ := ih _ _ _ h5
    refine ⟨row, hr1, hr2, ?_⟩
    rw [hr2.length, List.length_take, List.length_drop, hl]
    have h7 := Nat.mul_le_mul_right (P.cellsOf e') (show i + 1 ≤ n' from hi)
    rw [Nat.add_mul] at h7
    omega)
   refine ⟨rows.flatten, ⟨rows, rfl, hp1, fun row hrow => ?_⟩, all2_rows (sz := P.cellsOf e') (by rw [hl, hp1]) fun i r hr => (hp2 i r hr).2.1⟩
   obtain ⟨i, hi⟩ := List.getElem?_of_mem hrow
   exact ⟨(hp2 i row hi).1, (hp2 i row hi).2.2⟩
  ·cases h
 | .nil, true, t, fl, off, h => fun n cs hl hf => by
  unfold tdOk at h
  split at h
  ·have := Nat.eq_of_beq_eq_true h
   subst this
   exact ⟨Nat.le_refl _, [], rfl, by rw [List.drop_eq_nil_of_le (by omega)]; trivial⟩
  ·cases h
 | .cons ft sz f rest, true, t, fl, off, h => fun n cs hl hf => by
  unfold tdOk at h
  split at h
  ·rename_i fl0 x fl'
   simp only [Bool.and_eq_true] at h
   obtain ⟨⟨⟨⟨h0, h1⟩, h2⟩, h3⟩, h4⟩ := h
   have h0 := Nat.eq_of_beq_eq_true h0
   have h1 := Nat.eq_of_beq_eq_true h1
   have h2 := Nat.eq_of_beq_eq_true h2
   subst h0 h1 h2
   obtain ⟨g1, row2, g2, g3⟩ := opens rest true t fl' _ h4 n cs hl (fun f hfm => hf f (List.mem_cons_of_mem _ hfm))
   obtain ⟨y, hy⟩ := hf x List.mem_cons_self
   obtain ⟨row1, g4, g5⟩ := opens f false x.type [] 0 h3 _ _ _ hy
   refine ⟨by omega, row1 ++ row2, ⟨row1, row2, rfl, ?_, g4, g2⟩, ?_⟩
   ·rw [g5.length, List.length_take, List.length_drop, hl]; omega
   ·have := g5.append g3
    rw [← List.drop_drop, List.take_append_drop] at this
    exact this
  ·cases h
 | .int _, true, _, _, _, h => by unfold tdOk at h; cases h
 | .bool, true, _, _, _, h => by unfold tdOk at h; cases h
 | .str, true, _, _, _, h => by unfold tdOk at h; cases h
 | .sl .., true, _, _, _, h => by unfold tdOk at h; cases h
 | .st _, true, _, _, _, h => by unfold tdOk at h; cases h
 | .arr .., true, _, _, _, h => by unfold tdOk at h; cases h
 | .nil, false, _, _, _, h => by unfold tdOk at h; cases h
 | .cons .., false, _, _, _, h => by unfold tdOk at h; cases h
theorem all2_ce {rows : List RT} {vs : List Value} {R : RM} {fl : Bool} (h : All2 (Rd (R fl)) rows vs) : All2 (Ce.rel (fun _ => none) R) (rows.map (RT.ce fl)) vs :=
 All2.map _ (h.mono fun _ _ hh => RT.ce_rel hh)
theorem fit_of {r : Reach} {b0 : Nat} {td : TD} {t : Nat} {v : Value} {d : DataW H} {ps : List MemPlace} (h : tdOk P td false t [] 0 = true) (hval : Value.okWide P w r b0 t v) (hd : DataW.Trod enc P w 0 spare held t v d ps) :
  ∃ a, FitA td a ∧ a.rel (fun _ => none) (fun _ b o => w.cell? ⟨b, o, none⟩) v := by
 obtain ⟨n, hn⟩ := hd
 obtain ⟨row, h1, h2⟩ := opens td false t [] 0 h n _ _ hn
 have one : td.isRow = false → v.oneCell' = true → ∃ a, FitA td a ∧ a.rel (fun _ => none) (fun _ b o => w.cell? ⟨b, o, none⟩) v := fun hr ho => by
  rw [cells_one ho] at h2
  cases row with
  | nil => exact h2.elim
  | cons r rest =>
   cases rest with
   | cons => exact h2.2.elim
   | nil => exact ⟨.one (r.ce false), by unfold FitA; rw [hr]; exact ⟨r, h1, rfl⟩, RT.ce_rel (R := fun _ b o => w.cell? ⟨b, o, none⟩) h2.1⟩
 have agg : td.isRow = true → ∀ cs, v = .agg cs → ∃ a, FitA td a ∧ a.rel (fun _ => none) (fun _ b o => w.cell? ⟨b, o, none⟩) v := fun hr cs hv => by
  subst hv
  refine ⟨.agg (row.map (RT.ce false)), by unfold FitA; rw [hr]; exact ⟨row, h1, rfl⟩, cs.toList, by simp, ?_⟩
  exact all2_ce (R := fun _ b o => w.cell? ⟨b, o, none⟩) (by simpa [Value.cells] using h2)
 cases td with
 | int k =>
  unfold tdOk at h
  split at h
  ·rename_i ht; obtain ⟨z, rfl⟩ := okWide_int ht hval; exact one rfl rfl
  ·cases h
 | bool =>
  unfold tdOk at h
  split at h
  ·rename_i ht; obtain ⟨z, rfl⟩ := okWide_bool ht hval; exact one rfl rfl
  ·cases h
 | str =>
  unfold tdOk at h
  split at h
  ·rename_i ht; obtain ⟨z, rfl⟩ := okWide_string ht hval; exact one rfl rfl
  ·cases h
 | sl e te sz =>
  unfold tdOk at h
  split at h
  ·rename_i ht; obtain ⟨a, l, c, rfl⟩ := okWide_slice ht hval; exact one rfl rfl
  ·cases h
 | st fs =>
  unfold tdOk at h
  split at h
  ·rename_i ht; obtain ⟨cs, rfl, _⟩ := okWide_struct ht hval; exact agg rfl _ rfl
  ·cases h
 | arr n0 e te sz =>
  unfold tdOk at h
  split at h
  ·rename_i ht
   simp only [Value.okWide, ht] at hval
   obtain ⟨cs, rfl, _⟩ := hval
   exact agg rfl _ rfl
  ·cases h
 | nil => unfold tdOk at h; cases h
 | cons => unfold tdOk at h; cases h
end
section
variable {H : Type} {enc : TypeId × Value → H} {P : Program}
theorem fits_of {w : World} {r : Reach} {b0 : Nat} : ∀ {tds : List TD} {ts : List TypeId} {vs : List Value} {ds : List (DataW H)} {ps : List MemPlace}, All2 (fun td t => tdOk P td false t [] 0 = true) tds ts → DataW.TrodAll enc P w 0 (fun _ => true) true ts vs ds ps →
  (∀ (j : Nat) t v, ts[j]? = some t → vs[j]? = some v → Value.okWide P w r b0 t v) → ∃ asx, All2 FitA tds asx ∧ All2 (A0.rel (fun _ => none) (fun _ b o => w.cell? ⟨b, o, none⟩)) asx vs
 | [], [], [], [], ps, _, _, _ => ⟨[], trivial, trivial⟩
 | td :: tds, t :: ts, v :: vs, d :: ds, ps, ht, hd, hv => by
  obtain ⟨p, q, h1, h2, _⟩ := hd
  obtain ⟨a, g1, g2⟩ := fit_of ht.1 (hv 0 t v rfl rfl) h1
  obtain ⟨asx, g3, g4⟩ := fits_of ht.2 h2 fun j t' v' h3 h4 => hv (j + 1) t' v' (by simpa using h3) (by simpa using h4)
  exact ⟨a :: asx, ⟨g1, g3⟩, g2, g4⟩
 | [], _ :: _, _, _, _, ht, _, _ => ht.elim
 | _ :: _, [], _, _, _, ht, _, _ => ht.elim
 | [], [], _ :: _, _, _, _, hd, _ => by cases hd
 | [], [], [], _ :: _, _, _, hd, _ => by cases hd
 | _ :: _, _ :: _, [], _, _, _, hd, _ => by cases hd
 | _ :: _, _ :: _, _ :: _, [], _, _, hd, _ => by cases hd
theorem kept_of {W W' : World} (hl : laidOutB P = true) (hb : Below W.heap.size W W') : ∀ {ts : List TypeId} {vs : List Value} {ds : List (DataW H)} {ps : List MemPlace}, (ts.all fun t => P.readableRec t && Nat.blt t P.types.size) = true → DataW.TrodAll enc P W 0 (fun _ => true) true ts vs ds ps →
  DataW.TrodAll enc P W' 0 (fun b => decide (b < W.heap.size)) true ts vs ds ps
 | [], [], [], ps, _, h => h
 | t :: ts, v :: vs, d :: ds, ps, hr, h => by
  obtain ⟨p, q, h1, h2, h3⟩ := h
  simp only [List.all_cons, Bool.and_eq_true] at hr
  have lt : ∀ x ∈ p, x.block < W.heap.size := by obtain ⟨m, hm⟩ := h1; exact DataW.trod_lt m _ _ _ hm
  exact ⟨p, q, Below.trod hl hr.1.1 (by simpa [Nat.blt_eq] using hr.1.2) h1 hb lt, kept_of hl hb hr.2 h2, h3⟩
 | [], _ :: _, _, _, _, h => by cases h
 | [], [], _ :: _, _, _, h => by cases h
 | _ :: _, [], _, _, _, h => by cases h
 | _ :: _, _ :: _, [], _, _, h => by cases h
end
end Go.Proofs.Ytopieffkpdlpbaa.Wx
namespace Go.Proofs.Ytopieffkpdlpbaa.Wx
open Go Go.RowKit
theorem splQ : (∀ (α : Type) [BEq α] [ReflBEq α] (a : α), (a == a) = true) ∧ (∀ (α : Type) [BEq α] [LawfulBEq α] (a : α), (a != a) = false) ∧ (∀ b : Bool, (true != b) = !b) ∧ (∀ b : Bool, (false != b) = b) ∧ (∀ b : Bool, (b != true) = !b) ∧ (∀ b : Bool, (b != false) = b) ∧ (∀ b : Bool, (true == b) = b) ∧ (∀ b : Bool, (false == b) = !b) ∧ ((!true) = false) ∧ ((!false) = true) ∧ (∀ b : Bool, (!!b) = b) ∧ (∀ h : Decidable True, @decide True h = true) ∧ (∀ h : Decidable False, @decide False h = false) :=
 ⟨fun _ => beq_self_eq_true, fun _ => bne_self_eq_false, fun b => by cases b <;> rfl, fun b => by cases b <;> rfl, fun b => by cases b <;> rfl, fun b => by cases b <;> rfl, fun b => by cases b <;> rfl, fun b => by cases b <;> rfl, rfl, rfl, fun b => by cases b <;> rfl, fun h => decide_true h, fun h => decide_false h⟩
theorem spB_cong {b b' : Bool} {A B : Prop} (e : b = b') (h : spB b' A B) : spB b A B := by rw [e]; exact h
theorem spB_dec {p : Prop} [Decidable p] {A B : Prop} (h1 : p → A) (h2 : ¬ p → B) : spB (decide p) A B := ⟨fun h => h1 (of_decide_eq_true h), fun h => h2 (of_decide_eq_false h)⟩
theorem spB_beq {α : Type} [DecidableEq α] {x y : α} {A B : Prop} (h1 : x = y → A) (h2 : ¬ x = y → B) : spB (x == y) A B := ⟨fun h => h1 (by simpa using h), fun h => h2 (by simpa using h)⟩
theorem spB_bne {α : Type} [DecidableEq α] {x y : α} {A B : Prop} (h1 : ¬ x = y → A) (h2 : x = y → B) : spB (x != y) A B := ⟨fun h => h1 (by simpa using h), fun h => h2 (by simpa using h)⟩
theorem spB_not {b : Bool} {A B : Prop} (h : spB b B A) : spB (!b) A B := ⟨fun hh => h.f (by simpa using hh), fun hh => h.t (by simpa using hh)⟩
theorem u64_in (z : Int) (h : 0 ≤ z ∧ z ≤ 18446744073709551615) : IntKind.u64.wrap z = z := by
 simp [IntKind.wrap, IntKind.bits, IntKind.signed]
 omega
theorem wr_u64 {z : Int} {A : Int → Prop} (h1 : 0 ≤ z ∧ z ≤ 18446744073709551615) (h2 : A z) : wr .u64 z A := ⟨z, u64_in z h1, h2⟩
theorem vN_mk {z : Int} {A : Int → Prop} (h : A z) : vN z A := ⟨_, rfl, h⟩
theorem rowN_map {α : Type} {f : α → List RT} {xs : List α} {i : Nat} {A : List RT → Prop} (hi : i < xs.length) (h : ∀ x, xs[i]? = some x → A (f x)) : rowN (xs.map f) i A :=
 ⟨f xs[i], by simp [hi], h _ (List.getElem?_eq_getElem hi)⟩
theorem rows_map {e : TD} {α : Type} (en : α → List RT) (ok : α → Prop) (h : ∀ row, RowF e row → ∃ x, row = en x ∧ ok x) : ∀ rows : List (List RT), (∀ row ∈ rows, RowF e row) → ∃ xs : List α, rows = xs.map en ∧ ∀ x ∈ xs, ok x
 | [], _ => ⟨[], rfl, by simp⟩
 | r :: rows, hr => by
  obtain ⟨x, rfl, hx⟩ := h r (hr r List.mem_cons_self)
  obtain ⟨xs, rfl, hxs⟩ := rows_map en ok h rows fun row hrow => hr row (List.mem_cons_of_mem _ hrow)
  exact ⟨x :: xs, rfl, fun y hy => by
   rcases List.mem_cons.1 hy with rfl | hy
   ·exact hx
   ·exact hxs y hy⟩
theorem fit_ints {k : IntKind} {te : Nat} {a : A0} (h : FitA (.sl (.int k) te 1) a) : ∃ zs : List Int, a = .one (.ro false 1 (zs.map fun z => [RT.v (.int k z)])) ∧ zs.length ≤ maxLen ∧ ∀ z ∈ zs, (Lit.int k z).wf = true := by
 obtain ⟨r, ⟨rows, hr, hl, hrows⟩, rfl⟩ := h
 simp only [List.cons.injEq, and_true] at hr
 subst hr
 obtain ⟨zs, rfl, hz⟩ := rows_map (e := .int k) (fun z => [RT.v (.int k z)]) (fun z => (Lit.int k z).wf = true) (fun row hrow => hrow) rows hrows
 exact ⟨zs, rfl, by simpa using hl, hz⟩
theorem bool_t {p : Prop} [Decidable p] (h : p) : true = decide p := (decide_eq_true h).symm
theorem bool_f {p : Prop} [Decidable p] (h : ¬ p) : false = decide p := (decide_eq_false h).symm
theorem bool_p {p q : Prop} [Decidable p] [Decidable q] (h : p ↔ q) : decide p = decide q := decide_eq_decide.2 h
theorem slN_hi {x : Int} {len : Nat} {cap : Option Nat} {A : Nat → Nat → Prop} (h : Nat) (e : x = (h : Int)) (h1 : h ≤ len) (k : A 0 h) : slN none (some x) len cap A := ⟨0, h, rfl, e, Nat.zero_le _, .inl h1, k⟩
theorem one_all {src : List (List Ce)} (h : src.all (fun r => r.all Ce.single) = true) : ∀ r ∈ src, ∀ c ∈ r, c.single = true := fun r hr c hc => List.all_eq_true.1 (List.all_eq_true.1 h r hr) c hc
theorem one_map {α : Type} {l : List α} {f : α → List Ce} (h : ∀ x, (f x).all Ce.single = true) : ∀ r ∈ l.map f, ∀ c ∈ r, c.single = true := fun r hr c hc => by
 obtain ⟨x, _, rfl⟩ := List.mem_map.1 hr
 exact List.all_eq_true.1 (h x) c hc
theorem one_map2 {α : Type} {l : List α} {f : α → List RT} {g : List RT → List Ce} (h : ∀ x, (g (f x)).all Ce.single = true) : ∀ r ∈ (l.map f).map g, ∀ c ∈ r, c.single = true := by
 rw [List.map_map]; exact one_map h
theorem eqN_mk2 {α : Type} {a b : α} {A : Prop} (h : a = b) (k : A) : eqN a b A := ⟨h, k⟩
def intNat : Int → Option Nat
 | .ofNat n => some n
 | _ => none
theorem ixN_lit {j : Int} {m : Nat} {A : Nat → Prop} (n : Nat) (h : intNat j = some n) (h1 : Nat.ble (n + 1) m = true) (k : A n) : ixN j m A := by
 cases j with
 | ofNat i => simp only [intNat, Option.some.injEq] at h; subst h; exact ⟨i, rfl, Nat.le_of_ble_eq_true h1, k⟩
 | negSucc i => cases h
theorem ixN_litp {j : Int} {m : Nat} {A : Nat → Prop} (n : Nat) (h : intNat j = some n) (h1 : n < m) (k : A n) : ixN j m A := by
 cases j with
 | ofNat i => simp only [intNat, Option.some.injEq] at h; subst h; exact ⟨i, rfl, h1, k⟩
 | negSucc i => cases h
theorem LN : (∀ (α : Type) (n : Nat) (l : List α), (l.take n).length = min n l.length) ∧ (∀ (α : Type) (n : Nat) (l : List α), (l.drop n).length = l.length - n) ∧ (∀ (α : Type) (n : Nat) (x : α), (List.replicate n x).length = n) ∧ (∀ (α β : Type) (f : α → β) (l : List α), (l.map f).length = l.length) ∧ (∀ (α : Type) (l m : List α), (l ++ m).length = l.length + m.length) ∧ (∀ (α : Type), ([] : List α).length = 0) ∧ (∀ (α : Type) (x : α) (l : List α), (x :: l).length = l.length + 1) ∧ (∀ (α : Type) (n : Nat) (x : α) (l : List α), (l.set n x).length = l.length) ∧ maxLen = 9223372036854775807 :=
 ⟨fun _ _ _ => List.length_take, fun _ _ _ => List.length_drop, fun _ _ _ => List.length_replicate, fun _ _ _ _ => List.length_map _, fun _ _ _ => List.length_append, fun _ => rfl, fun _ _ _ => rfl, fun _ _ _ _ => List.length_set, rfl⟩
theorem drop_cons {α : Type} {xs : List α} {i : Nat} {x : α} (h : xs[i]? = some x) : xs.drop i = x :: xs.drop (i + 1) := by
 obtain ⟨h1, h2⟩ := List.getElem?_eq_some_iff.1 h
 rw [← h2]; exact List.drop_eq_getElem_cons h1
theorem take_snoc {α : Type} {xs : List α} {i : Nat} {x : α} (h : xs[i]? = some x) : xs.take (i + 1) = xs.take i ++ [x] := by
 rw [List.take_add_one, h]; rfl
theorem take_end {α : Type} {xs : List α} {i : Nat} (h : ¬ i < xs.length) : xs.take i = xs := List.take_of_length_le (by omega)
theorem eq_step {α : Type} {a b : List α} {i : Nat} {x y : α} (h : a.take i = b.take i) (ha : a[i]? = some x) (hb : b[i]? = some y) (e : x = y) : a.take (i + 1) = b.take (i + 1) := by
 rw [take_snoc ha, take_snoc hb, h, e]
theorem ne_at {α : Type} {a b : List α} {i : Nat} {x y : α} (ha : a[i]? = some x) (hb : b[i]? = some y) (h : ¬ x = y) : ¬ a = b := fun e => by
 subst e; rw [ha] at hb; cases hb; exact h rfl
theorem eq_end {α : Type} {a b : List α} {i : Nat} (hl : a.length = b.length) (h : a.take i = b.take i) (hi : ¬ i < a.length) : a = b := by
 rw [take_end hi, take_end (by omega)] at h; exact h
theorem ne_len {α : Type} {a b : List α} (h : ¬ a.length = b.length) : ¬ a = b := fun e => h (by rw [e])
theorem getElem?_some' {α : Type} {xs : List α} {i : Nat} (h : i < xs.length) : ∃ x, xs[i]? = some x := ⟨xs[i], List.getElem?_eq_getElem h⟩
theorem ren_map {α : Type} {f : α → List Ce} {l : List α} {r : Nat → Nat} (h : ∀ x, (f x).map (Ce.ren r) = f x) : (l.map f).map (List.map (Ce.ren r)) = l.map f := by
 rw [List.map_map]; exact List.map_congr_left fun x _ => h x
theorem blk_sub {K : Kr} {r : Nat → Nat} {j sz : Nat} {ty : TypeId} {rows rows' : List (List Ce)} {bx : Bool} (h : kg K (r j) = some ⟨rows', sz, ty, bx⟩) (e : rows' = rows) (hf : rows.map (List.map (Ce.ren r)) = rows) : ∀ b, some (⟨rows, sz, ty, bx⟩ : Blk) = some b → kg K (r j) = some (b.ren r) := fun b hb => by
 cases hb
 rw [h, e]
 simp only [Blk.ren, hf]
theorem own_map {α : Type} {l : List α} {f : α → List Ce} (h : ∀ x, (f x).all Ce.own' = true) : ∀ r ∈ l.map f, ∀ c ∈ r, c.own' = true := fun r hr c hc => by
 obtain ⟨x, _, rfl⟩ := List.mem_map.1 hr
 exact List.all_eq_true.1 (h x) c hc
theorem own_one {rows : List (List Ce)} {sz : Nat} {ty : TypeId} {bx : Bool} (h : ∀ r ∈ rows, ∀ c ∈ r, c.own' = true) : Kr.own' [(0, some ⟨rows, sz, ty, bx⟩)] := by
 intro j b hb
 rcases j with _ | j
 ·cases hb; exact h
 ·cases hb
theorem ret1b {T : Tab} {rs : List ResultVar} {s : S} {post : AV → Kr → Nat → Prop} (i : Nat) (x : AV) (rows : List (List Ce)) (sz : Nat) (ty : TypeId) (bx : Bool) (xs : List A0) (h : resL T s rs = some xs) {rows' : List (List Ce)} (hx : retV xs = x.ren (rn [i] s.top)) (hK : kg s.K i = some ⟨rows', sz, ty, bx⟩) (e : rows' = rows) (hf : rows.map (List.map (Ce.ren (rn [i] s.top))) = rows) (ho : x.own' = true) (ho2 : ∀ r ∈ rows, ∀ c ∈ r, c.own' = true) (hp : post x [(0, some ⟨rows, sz, ty, bx⟩)] 1) : retN T rs s post :=
 ret1 xs h [i] x [(0, some ⟨rows, sz, ty, bx⟩)] hx ⟨blk_sub (r := rn [i] s.top) (j := 0) hK e hf, trivial⟩ (by simp) ho (own_one ho2) (by simp) hp
theorem low_map {α : Type} {l : List α} {f : α → List Ce} {g : α → List RT} (h : ∀ x, (f x).map RT.of = (g x).map some) : (((l.map f).drop 0).take l.length).map (List.map RT.of) = (l.map g).map (List.map some) := by
 rw [List.drop_zero, List.take_of_length_le (by simp), List.map_map, List.map_map]
 exact List.map_congr_left fun x _ => h x
theorem low_mapr {α : Type} {l : List α} {f : α → List Ce} {g : α → List RT} {r : Nat → Nat} (h : ∀ x, ((f x).map (Ce.ren r)).map RT.of = (g x).map some) : ((((l.map f).map (List.map (Ce.ren r))).drop 0).take l.length).map (List.map RT.of) = (l.map g).map (List.map some) := by
 rw [List.map_map]; exact low_map h
theorem low_osl {α : Type} {l : List α} {f : α → List Ce} {g : α → List RT} {sz : Nat} (h : ∀ x, (f x).map RT.of = (g x).map some) : ∃ rows, Ce.ro false sz (l.map g) = Ce.ro false sz rows ∧ rows.length = l.length ∧ (((l.map f).drop 0).take l.length).map (List.map RT.of) = rows.map (List.map some) := ⟨_, rfl, by simp, low_map h⟩
theorem low_oslr {α : Type} {l : List α} {f : α → List Ce} {g : α → List RT} {sz : Nat} {r : Nat → Nat} (h : ∀ x, ((f x).map (Ce.ren r)).map RT.of = (g x).map some) : ∃ rows, Ce.ro false sz (l.map g) = Ce.ro false sz rows ∧ rows.length = l.length ∧ ((((l.map f).map (List.map (Ce.ren r))).drop 0).take l.length).map (List.map RT.of) = rows.map (List.map some) := ⟨_, rfl, by simp, low_mapr h⟩
theorem map_ce {α : Type} {l : List α} {f : α → List Ce} {g : α → List RT} {fl : Bool} (h : ∀ x, (g x).map (RT.ce fl) = f x) : (l.map g).map (List.map (RT.ce fl)) = l.map f := by
 rw [List.map_map]; exact List.map_congr_left fun x _ => h x
end Go.Proofs.Ytopieffkpdlpbaa.Wx
namespace Go.Proofs.Ytopieffkpdlpbaa.Wx
open Go Go.RowKit
def loB (F : Nat → Option AV) : Option Operand → Option Nat
 | none => some 0
 | some y => match evf F y with
  | some (.pl (.one (.v (.int _ j)))) => natOf j
  | _ => none
theorem loB_spec {F : Nat → Option AV} {lo : Option Operand} {l : Nat} (h : loB F lo = some l) : bndo F lo l 0 := by
 cases lo with
 | none => simp only [loB, Option.some.injEq] at h; exact h.symm
 | some y =>
  simp only [loB] at h
  split at h
  ·rename_i k j hy; exact ⟨k, by rw [hy, natOf_spec h]⟩
  ·cases h
def strB : List (List Ce) → Option (List Int)
 | [] => some []
 | [.v (.int .u8 z)] :: r => match strB r with
  | some l => some (z :: l)
  | none => none
 | _ => none
theorem strB_spec : ∀ {src : List (List Ce)} {xs : List Int}, strB src = some xs → src = xs.map (fun z => [Ce.v (.int .u8 z)])
 | [], xs, h => by simp only [strB, Option.some.injEq] at h; subst h; rfl
 | r :: src, xs, h => by
  unfold strB at h
  split at h
  ·rename_i h1; cases h1
  ·rename_i z r' heq
   cases heq
   split at h
   ·rename_i l hl; simp only [Option.some.injEq] at h; subst h; rw [strB_spec hl]; rfl
   ·cases h
  ·cases h
def opX (T : Tab) (o : Oper) (F : Nat → Option AV) (K : Nat → Option Blk) (top : Nat) : Option Eff :=
 match o.op with
 | .build t ps => match tyGet T t with
  | some ti => match ti.arr, evb F ps.toList with
   | some (m, s, r), some avs => match fillC ((List.range m).map fun i => (i * s, s, r)) (ti.zero.map .v) avs with
    | some out => some ⟨.pl (.agg out), [], [], top⟩
    | none => none
   | _, _ => none
  | none => none
 | .index t x y => match tyGet T t, evf F x, evf F y with
  | some ti, some (.pl (.agg cs)), some (.pl (.one (.v (.int k j)))) => match ti.arr, natOf j with
   | some (m, s, r), some j' => match Nat.blt j' m, cut r (j' * s) s cs with
    | true, some v => some ⟨.pl v, [], [], top⟩
    | _, _ => none
   | _, _ => none
  | _, _, _ => none
 | .slice t x lo (some hi) (some mx) => match tyGet T t, evf F x, loB F lo, evf F hi, evf F mx with
  | some ti, some (.pl (.one (.osl i q m c))), some l, some (.pl (.one (.v (.int _ h)))), some (.pl (.one (.v (.int _ mm)))) => match ti.elem, K i, natOf h, natOf mm with
   | some (_, s, _), some b, some h', some mm' => match Nat.beq b.sz s, Nat.ble l h', Nat.ble h' mm', (Nat.ble mm' m || (match c with | some c0 => Nat.ble mm' c0 | none => false)) with
    | true, true, true, true => some ⟨.c (.osl i (if mm' = l then q else q + l) (h' - l) (some (mm' - l))), [i], [], top⟩
    | _, _, _, _ => none
   | _, _, _, _ => none
  | _, _, _, _, _ => none
 | .makeFunc (.func f) fst caps => match caps.toList, ptsOf F fst.toList with
  | [], some ps => some ⟨.c (.mf f ps), [], [], top⟩
  | _, _ => none
 | .unOp .neg _ x => match evf F x with
  | some (.pl (.one (.v (.int k p)))) => some ⟨.val (.int k (k.wrap (0 - p))), [], [], top⟩
  | _ => none
 | .binOp op t x y _ => match evf F x, evf F y with
  | some (.pl (.one (.v (.int kx p)))), some (.pl (.one (.v (.int ky q)))) => match decide (kx = ky), bitOp op kx p q with
   | true, some r => some ⟨.val (.int kx r), [], [], top⟩
   | _, _ => none
  | some (.pl (.one c)), some (.pl (.one (.v (.pointer none)))) => match tyGet T t, ptrNil c, op with
   | some ti, some r, .eql => match Nat.beq ti.kd 4 with
    | true => some ⟨.val (.bool r), [], [], top⟩
    | false => none
   | some ti, some r, .neq => match Nat.beq ti.kd 4 with
    | true => some ⟨.val (.bool (!r)), [], [], top⟩
    | false => none
   | _, _, _ => none
  | some (.pl (.one (.v (.string p)))), some (.pl (.one (.v (.string q)))) => match op with
   | .eql => some ⟨.val (.bool (p.toList == q.toList)), [], [], top⟩
   | .neq => some ⟨.val (.bool (!(p.toList == q.toList))), [], [], top⟩
   | _ => none
  | _, _ => none
 | .convert s d x => match tyGet T s, tyGet T d, evf F x with
  | some ti, some tj, some (.pl (.one cx)) => match ti.elem, Nat.beq tj.kd 3 with
   | some (e, 1, _), true => match tyGet T e, srcOf0 K 1 cx with
    | some te, some (src, m, rd) => match te.ikind, strB src with
     | some .u8, some xs => match Nat.beq m xs.length with
      | true => some ⟨.val (.string (strOfNums xs)), rd, [], top⟩
      | false => none
     | _, _ => none
    | _, _ => none
   | _, _ => none
  | _, _, _ => none
 | .call ⟨.builtin .clear, args, tys⟩ => match args.toList, tys.toList with
  | [x], [t] => match tyGet T t, evf F x with
   | some ti, some (.pl (.one (.osl i q m0 _))) => match ti.elem, K i with
    | some (e, s, _), some b => match tyGet T e, Nat.beq b.sz s, Nat.ble (q + m0) b.rows.length with
     | some te, true, true => match te.zero.all fun v => v.oneCell' with
      | true => some ⟨.tup [], [i], [(i, some ⟨lay b.rows q (List.replicate m0 (te.zero.map .v)), b.sz, b.ty, b.bx⟩)], top⟩
      | false => none
     | _, _, _ => none
    | _, _ => none
   | _, _ => none
  | _, _ => none
 | _ => none
theorem opX_sound {P : Program} {T : Tab} {o : Oper} {F : Nat → Option AV} {K : Nat → Option Blk} {top : Nat} {e : Eff} (hT : TabOk P T) (h : opX T o F K top = some e) : OpEff P o F K top e ∧ ∀ c, o.op ≠ .defer c := by
 obtain ⟨dst, op, ty, pos, after, guard⟩ := o
 unfold opX at h
 dsimp only at h
 split at h
 ·refine ⟨?_, fun c hc => by cases hc⟩
  split at h
  ·rename_i ti ht
   split at h
   ·rename_i m s r avs hel hx
    split at h
    ·rename_i out hout; cases h; exact (y_builda _ _ rfl ti (hT _ _ ht) m s r hel avs hx out hout).eff
    ·cases h
   ·cases h
  ·cases h
 ·refine ⟨?_, fun c hc => by cases hc⟩
  split at h
  ·rename_i ti cs k j ht hx hy
   split at h
   ·rename_i m s r j' hel hj
    split at h
    ·rename_i v hlt hv; cases h; exact (y_indexv _ _ _ rfl ti (hT _ _ ht) m s r hel cs hx k j hy j' (natOf_spec hj) (by simpa [Nat.blt_eq] using hlt) v hv).eff
    ·cases h
   ·cases h
  ·cases h
 ·refine ⟨?_, fun c hc => by cases hc⟩
  rename_i t x lo hi mx
  split at h
  ·rename_i ti i q m c l kh hh km mm ht hx hlo hhi hmx
   split at h
   ·rename_i e s bt b h' mm' hel hb hh' hmm'
    split at h
    ·rename_i g1 g2 g3 g4
     cases h
     have e1 := natOf_spec hh'
     have e2 := natOf_spec hmm'
     subst e1 e2
     refine (y_sl3 _ _ _ _ _ rfl ti (hT _ _ ht) e s bt hel i q m c hx b hb g1 l h' mm' (loB_spec hlo) kh km hhi hmx (Nat.le_of_ble_eq_true g2) (Nat.le_of_ble_eq_true g3) ?_).eff
     rcases (Bool.or_eq_true _ _).mp g4 with g4 | g4
     ·exact .inl (Nat.le_of_ble_eq_true g4)
     ·split at g4
      ·exact .inr ⟨_, rfl, Nat.le_of_ble_eq_true g4⟩
      ·cases g4
    ·cases h
   ·cases h
  ·cases h
 ·refine ⟨?_, fun c hc => by cases hc⟩
  rename_i f fst caps
  obtain ⟨caps⟩ := caps
  dsimp only at h
  split at h
  ·rename_i ps hps; cases h; exact (y_meth _ _ rfl ps (ptsOf_all hps)).eff
  ·cases h
 ·refine ⟨?_, fun c hc => by cases hc⟩
  split at h
  ·rename_i k p hx; cases h; exact (y_neg _ _ rfl k p hx).eff
  ·cases h
 ·refine ⟨?_, fun c hc => by cases hc⟩
  rename_i op t x y yt
  split at h
  ·rename_i kx p ky q hx hy
   split at h
   ·rename_i r hd hr
    have := of_decide_eq_true hd
    subst this
    cases h; exact (y_bits _ _ _ _ _ rfl _ _ _ hx hy r hr).eff
   ·cases h
  ·rename_i c hx hy
   split at h
   ·rename_i ti r ht hr
    split at h
    ·rename_i hk; cases h; exact (y_eqP _ _ _ _ _ rfl ti (hT _ _ ht) (Nat.eq_of_beq_eq_true hk) c hx hy r hr _ (.inl ⟨rfl, rfl⟩)).eff
    ·cases h
   ·rename_i ti r ht hr
    split at h
    ·rename_i hk; cases h; exact (y_eqP _ _ _ _ _ rfl ti (hT _ _ ht) (Nat.eq_of_beq_eq_true hk) c hx hy r hr _ (.inr ⟨rfl, rfl⟩)).eff
    ·cases h
   ·cases h
  ·rename_i p q hx hy
   split at h
   ·cases h; exact (y_eqStr _ _ _ _ _ rfl p q hx hy _ (.inl ⟨rfl, rfl⟩)).eff
   ·cases h; exact (y_eqStr _ _ _ _ _ rfl p q hx hy _ (.inr ⟨rfl, rfl⟩)).eff
   ·cases h
  ·cases h
 ·refine ⟨?_, fun c hc => by cases hc⟩
  split at h
  ·rename_i ti tj cx hti htj hx
   split at h
   ·rename_i e bt hel hkd
    split at h
    ·rename_i te src m rd hte hsrc
     split at h
     ·rename_i xs hk hxs
      split at h
      ·rename_i hm
       cases h
       exact (y_str _ _ _ rfl ti (hT _ _ hti) e bt hel te (hT _ _ hte) hk tj (hT _ _ htj) (Nat.eq_of_beq_eq_true hkd) cx hx xs src m rd (srcOf_of0 hsrc) (strB_spec hxs) (Nat.eq_of_beq_eq_true hm)).eff
      ·cases h
     ·cases h
    ·cases h
   ·cases h
  ·cases h
 ·refine ⟨?_, fun c hc => by cases hc⟩
  split at h
  ·rename_i x t ha hty
   split at h
   ·rename_i ti i q m0 cp ht hx
    split at h
    ·rename_i e s bt b hel hb
     split at h
     ·rename_i te hte hs hfit
      split at h
      ·rename_i hone
       cases h
       exact e_clear x t (by rw [toList_one ha, toList_one hty]) ti (hT _ _ ht) e s bt hel te (hT _ _ hte) i q m0 cp hx b hb hs (Nat.le_of_ble_eq_true hfit) hone
      ·cases h
     ·cases h
    ·cases h
   ·cases h
  ·cases h
 ·cases h
end Go.Proofs.Ytopieffkpdlpbaa.Wx
namespace Go.Proofs.Ytopieffkpdlpbaa.Wx.Y
open Go Go.RowKit
def fr (r : Option Nat) : Fence := { Fence.wide with round := r }
section
variable {P : Program} {r : Option Nat}
theorem calls_fr {n : Nat} {f : FuncId} {args : Array Value} {w : World} {R : Ending → World → Prop} (h : Calls P f args w R) : CallsIn (fr r) n P f args w R := by
 have h0 : CallsIn Fence.wide n P f args w R := callsIn_wide.2 h
 cases r with
 | none => exact h0
 | some l => exact h0.inRound l
theorem fr_calls {n : Nat} {f : FuncId} {args : Array Value} {w : World} {R : Ending → World → Prop} (h : CallsIn (fr r) n P f args w R) : Calls P f args w R := by
 cases r with
 | none => exact callsIn_wide.1 h
 | some l =>
  have : CallsIn Fence.wide n P f args w R := CallsIn.outOfRound (l := l) h
  exact callsIn_wide.1 this
theorem rows_fr {n : Nat} {row : String} {args : Array Value} {w : World} {R : Value → World → Prop} (h : Rows P row args w R) : RowsIn (fr r) n P row args w R := by
 intro c cs hroom
 obtain ⟨v, w', h1, h2⟩ := h c cs
 exact ⟨v, w', h1, by
  cases r with
  | none => exact stepsIn_wide.2 h2
  | some l => exact stepsIn_wide.2 h2⟩
theorem upon_in {o : Oper} {a : Act} {next : Act → World → Prop} {Q : Exit → Act → World → Prop} {x : Result Next} (h : o.upon P a next Q x) : o.uponIn (fr r) 0 P a next Q x := by
 cases x with
 | ok v w =>
  cases v with
  | value v => exact h
  | skip => exact h
  | defer d => exact h
  | enter f args => exact ⟨fun hh => (by cases hh), calls_fr h⟩
  | row row args => exact ⟨fun hh => (by cases hh), rows_fr h⟩
  | _ => exact h.elim
 | halt v w =>
  cases v with
  | panic v => exact h
  | _ => exact h.elim
theorem op_in {o : Oper} (hnd : ∀ c, o.op ≠ .defer c) {a : Act} {w : World} {next : Act → World → Prop} {Q : Exit → Act → World → Prop} (h : o.wp P a w next Q) : o.wpIn (fr r) 0 P a w next Q := by
 refine ⟨fun _ _ => trivial, ?_⟩
 rw [show (fr r).round = r from rfl, Oper.semAt_eq _ _ _ hnd]
 exact upon_in h
end
inductive LS where
 | ready
 | busy
 | done (e : Exit)
structure LB where
 n : Nat
 F : Bt AV
 ps : Array Tmp
 assign : Code
 body : Code
 st : LS
structure MS where
 es : List (Value × Nat × A0)
 c : Nat
structure IS where
 m : Nat
 since : Nat
 seen : List Nat
 last : Nat
inductive Ob where
 | b (x : Blk)
 | m (es : MS)
 | l (x : LB)
 | i (x : IS)
def Ob.nb : Ob → Bool
 | .b _ => false
 | _ => true
def jumpOf : Exit → Option Code
 | .ret => some .ret
 | .exit id => some (.exit id)
 | _ => none
def recOk (st : LS) (rc : Loop) : Prop :=
 match st with
 | .ready => rc.state = .ready ∧ rc.pending = none
 | .busy => rc.state = .busy
 | .done e => rc.state = .done ∧ ∃ c, jumpOf e = some c ∧ rc.pending = some c
structure LoopOk (I : IM) (R : RM) (x : LB) (p : Loc) (w : World) : Prop where
 mem : ∃ rc : Loop, w.heap[p.b]? = some (.loop rc) ∧ rc.params = x.ps ∧ rc.assign = x.assign ∧ rc.body = x.body ∧ rc.tmps.size = x.n ∧ recOk x.st rc ∧ ∀ t y, x.F.get t = some y → y.rel I R (rc.tmps.getD t undef)
structure MapOk (I : IM) (R : RM) (es : MS) (p : Loc) (w : World) : Prop where
 mem : ∃ (ents : Array MapEntry), w.heap[p.b]? = some (.map ents es.c) ∧ All2 (fun (e : Value × Nat × A0) (m : MapEntry) => (m.key = e.1 ∧ m.born = e.2.1) ∧ e.2.2.rel I R m.val) es.es ents.toList
structure ItOk (I : IM) (x : IS) (p : Loc) (w : World) : Prop where
 mem : ∃ pm, I x.m = some pm ∧ w.heap[p.b]? = some (.mapIter (some pm.b) x.since x.seen.toArray x.last)
def ObOk (I : IM) (R : RM) (o : Ob) (p : Loc) (w : World) : Prop :=
 match o with
 | .b _ => True
 | .m es => MapOk I R es p w
 | .l x => LoopOk I R x p w
 | .i x => ItOk I x p w
def blkOf (K : Nat → Option Ob) (i : Nat) : Option Blk :=
 match K i with
 | some (.b x) => some x
 | _ => none
theorem blkOf_some {K : Nat → Option Ob} {i : Nat} {b : Blk} (h : blkOf K i = some b) : K i = some (.b b) := by
 unfold blkOf at h
 split at h
 ·rename_i x hx; cases h; exact hx
 ·cases h
theorem ObOk.kind {I : IM} {R : RM} {o : Ob} {p : Loc} {w : World} (h : ObOk I R o p w) (hn : o.nb = true) : ∃ x, w.heap[p.b]? = some x ∧ x.isCells = false := by
 cases o with
 | b x => cases hn
 | m es => obtain ⟨ents, h1, _⟩ := h.mem; exact ⟨_, h1, rfl⟩
 | l x => obtain ⟨rc, h1, _⟩ := h.mem; exact ⟨_, h1, rfl⟩
 | i x => obtain ⟨pm, _, h1⟩ := h.mem; exact ⟨_, h1, rfl⟩
theorem ObOk.mono {I I' : IM} {R R' : RM} {o : Ob} {p : Loc} {w w' : World} (h : ObOk I R o p w) (hI : IExt I I') (hR : RExt R R') (hw : w'.heap[p.b]? = w.heap[p.b]?) : ObOk I' R' o p w' := by
 cases o with
 | b x => trivial
 | m es =>
  obtain ⟨ents, h1, h2⟩ := h.mem
  exact ⟨ents, hw.trans h1, h2.mono fun _ _ hh => ⟨hh.1, A0.mono hI hR hh.2⟩⟩
 | l x =>
  obtain ⟨rc, h1, h2, h3, h4, h5, h6, h7⟩ := h.mem
  exact ⟨rc, hw.trans h1, h2, h3, h4, h5, h6, fun t y hy => AV.mono hI hR (h7 t y hy)⟩
 | i x => obtain ⟨pm, h0, h1⟩ := h.mem; exact ⟨pm, hI _ _ h0, hw.trans h1⟩
def Mk (W : Wo) : List Deferred → World → Prop
 | [], _ => True
 | d :: ds, w => (∃ D, d.target = .collected D ∧ w.heap[D]? = some (.deferred (some [])) ∧ ¬ W.z D ∧ ∀ d' ∈ ds, ∀ D', d'.target = .collected D' → D' ≠ D) ∧ Mk W ds w
theorem Mk.mono {W : Wo} {w w' : World} : ∀ {ds : List Deferred}, Mk W ds w → (∀ D : Nat, w.heap[D]? = some (Obj.deferred (some [])) → w'.heap[D]? = w.heap[D]?) → Mk W ds w'
 | [], _, _ => trivial
 | d :: ds, ⟨⟨D, h1, h2, h3, h4⟩, h5⟩, hh => ⟨⟨D, h1, (hh D h2).trans h2, h3, h4⟩, Mk.mono h5 hh⟩
structure Wz (W : Wo) (K : Nat → Option Ob) (I : IM) (R : RM) (w : World) : Prop where
 wd : Wd W (blkOf K) I R w
 ob : ∀ i o, K i = some o → o.nb = true → ∃ p, I i = some p ∧ ObOk I R o p w ∧ ¬ W.z p.b
 inj : ∀ i j oi oj p q, K i = some oi → K j = some oj → oi.nb = true → oj.nb = true → I i = some p → I j = some q → p.b = q.b → i = j
structure St (n : Nat) (W : Wo) (F : Nat → Option AV) (K : Nat → Option Ob) (I : IM) (R : RM) (a : Act) (w : World) : Prop where
 size : a.tmps.size = n
 mks : Mk W a.defers w
 fr : ∀ t x, F t = some x → x.rel I R (a.eval (.tmp t))
 wz : Wz W K I R w
def ownedB (K : Nat → Option Blk) (I : IM) (k : Nat) : Prop := ∃ i b p, K i = some b ∧ I i = some p ∧ p.b = k
def stpB (W : Wo) (K : Nat → Option Blk) (I : IM) (R : RM) (w : World) : Wo := ⟨w, fun k => k < w.heap.size ∧ ¬ ownedB K I k ∧ ∀ o, R true k o = none, W.q⟩
section
variable {W : Wo} {K K' : Nat → Option Blk} {I I' : IM} {R R' : RM} {w w' : World}
theorem z_stp (h : Wd W K I R w) {k : Nat} (hk : W.z k) : (stpB W K I R w).z k := by
 refine ⟨h.below.lt hk, ?_, fun o => ?_⟩
 ·rintro ⟨i, b, p, h1, h2, rfl⟩; exact h.base i b p h1 h2 hk
 ·cases hq : R true k o with
  | none => rfl
  | some u => exact absurd hk (h.fresh k o u hq)
theorem wd_step (h : Wd W K I R w) : Wd (stpB W K I R w) K I R w :=
 { h with
  base := fun i b p h1 h2 hz => hz.2.1 ⟨i, b, p, h1, h2, rfl⟩
  fresh := fun b o u hu hz => by rw [hz.2.2 o] at hu; cases hu
  below := ⟨rfl, rfl, rfl, Nat.le_refl _, fun k hk => ⟨hk.1, rfl⟩, Nat.le_refl _⟩
  out := h.out
  qz := fun k hk => z_stp h (h.qz k hk) }
theorem wd_back (h0 : Wd W K I R w) (h : Wd (stpB W K I R w) K' I' R' w') : Wd W K' I' R' w' :=
 { h with
  base := fun i b p h1 h2 hz => h.base i b p h1 h2 (z_stp h0 hz)
  fresh := fun b o u hu hz => h.fresh b o u hu (z_stp h0 hz)
  below := ⟨h.below.os.trans h0.below.os, h.below.tape.trans h0.below.tape, h.below.output.trans h0.below.output, Nat.le_trans h0.below.size h.below.size, fun k hk => ⟨(h0.below.block k hk).1, (h.below.block k (z_stp h0 hk)).2.trans (h0.below.block k hk).2⟩, Nat.le_trans h0.below.drawn h.below.drawn⟩
  out := h.out
  qz := h0.qz }
theorem wd_kind (h : Wd W K I R w) {k : Nat} {o : Obj} (hk : w.heap[k]? = some o) (hc : o.isCells = false) : (stpB W K I R w).z k := by
 refine ⟨(Array.getElem?_eq_some_iff.1 hk).1, ?_, fun off => ?_⟩
 ·rintro ⟨i, b, p, h1, h2, rfl⟩
  obtain ⟨p', hp', hb⟩ := h.blk i b h1
  rw [h2] at hp'; cases hp'
  obtain ⟨cs, hm, _⟩ := hb.mem
  rw [hk] at hm; cases hm; cases hc
 ·cases hq : R true k off with
  | none => rfl
  | some u =>
   obtain ⟨o', ho', hc'⟩ := cells_of_cell (h.ro true k off u hq)
   simp only at ho'
   rw [hk] at ho'; cases ho'
   rw [hc] at hc'; cases hc'
theorem wd_same (h0 : Wd W K I R w) (h : Wd (stpB W K I R w) K' I' R' w') {k : Nat} {o : Obj} (hk : w.heap[k]? = some o) (hc : o.isCells = false) : w'.heap[k]? = w.heap[k]? :=
 (h.below.block k (wd_kind h0 hk hc)).2
end
abbrev Kr := List (Nat × Option Ob)
def kup (K : Nat → Option Ob) : Kr → Nat → Option Ob
 | [] => K
 | (i, b) :: r => fun t => if t = i then b else kup K r t
def liftK (kw : Wx.Kr) : Kr := kw.map fun p => (p.1, p.2.map Ob.b)
theorem kup_lift {K : Nat → Option Ob} : ∀ {kw : Wx.Kr} {i : Nat}, (i ∈ kw.map (·.1) ∧ ∃ b : Option Blk, kup K (liftK kw) i = b.map Ob.b) ∨ (i ∉ kw.map (·.1) ∧ kup K (liftK kw) i = K i)
 | [], i => .inr ⟨by simp, rfl⟩
 | (j, b) :: r, i => by
  simp only [liftK, List.map_cons, kup]
  by_cases h : i = j
  ·subst h; exact .inl ⟨by simp, b, by simp⟩
  ·rw [if_neg h]
   rcases kup_lift (K := K) (kw := r) (i := i) with ⟨h1, h2⟩ | ⟨h1, h2⟩
   ·exact .inl ⟨List.mem_cons_of_mem _ h1, h2⟩
   ·exact .inr ⟨by simp only [List.mem_cons, not_or]; exact ⟨h, h1⟩, h2⟩
theorem blkOf_lift {K : Nat → Option Ob} : ∀ {kw : Wx.Kr}, blkOf (kup K (liftK kw)) = Wx.kup (blkOf K) kw
 | [] => rfl
 | (j, b) :: r => by
  funext i
  simp only [liftK, List.map_cons, kup, Wx.kup, blkOf]
  by_cases h : i = j
  ·subst h
   simp only [if_true]
   cases b <;> rfl
  ·simp only [if_neg h]
   have := congrFun (blkOf_lift (K := K) (kw := r)) i
   simpa [blkOf, liftK] using this
structure Eff where
 av : AV
 rd : List Nat
 kw : Kr
 top : Nat
def OpEff (P : Program) (o : Oper) (F0 : Nat → Option AV) (K0 : Nat → Option Ob) (top : Nat) (e : Eff) : Prop :=
 ∀ (r : Option Nat) (n : Nat) (W : Wo) (F : Nat → Option AV) (K : Nat → Option Ob) (I : IM) (R : RM) (a : Act) (w : World), St n W F K I R a w → (∀ x ∈ o.op.operands.toList, evf F x = evf F0 x) → (∀ i ∈ e.rd, K i = K0 i) → (∀ j, top ≤ j → j < e.top → I j = none ∧ K j = none) → dstB n o.dst = true →
  ∀ (next : Act → World → Prop) (Q : Exit → Act → World → Prop), (∀ I' R' a' w', St n W (fput F o.dst e.av) (kup K e.kw) I' R' a' w' → IExt I I' → (∀ j, ¬ (top ≤ j ∧ j < e.top) → I' j = I j) → RExt R R' → next a' w') → o.wpIn (fr r) 0 P a w next Q
theorem St.dom {n : Nat} {W : Wo} {F : Nat → Option AV} {K : Nat → Option Ob} {I : IM} {R : RM} {a : Act} {w : World} (h : St n W F K I R a w) {i : Nat} {o : Ob} (hk : K i = some o) : ∃ p, I i = some p := by
 cases ho : o.nb with
 | true => obtain ⟨p, hp, _⟩ := h.wz.ob i o hk ho; exact ⟨p, hp⟩
 | false =>
  cases o with
  | b x => obtain ⟨p, hp, _⟩ := h.wz.wd.blk i x (by simp [blkOf, hk]); exact ⟨p, hp⟩
  | _ => cases ho
theorem Wz.onK {W : Wo} {K : Nat → Option Ob} {kw : Wx.Kr} {I I' : IM} {R R' : RM} {w w' : World} (h : Wz W K I R w) (hI : IExt I I') (hR : RExt R R') (h' : Wd (stpB W (blkOf K) I R w) (Wx.kup (blkOf K) kw) I' R' w') : Wz W (kup K (liftK kw)) I' R' w' := by
 have hsame : ∀ {i : Nat} {o : Ob}, kup K (liftK kw) i = some o → o.nb = true → K i = some o := fun {i o} hi hn => by
  rcases kup_lift (K := K) (kw := kw) (i := i) with ⟨_, b, h2⟩ | ⟨_, h2⟩
  ·rw [h2] at hi
   cases b with
   | none => cases hi
   | some b => simp only [Option.map_some, Option.some.injEq] at hi; subst hi; cases hn
  ·rw [← h2]; exact hi
 refine ⟨by rw [blkOf_lift]; exact wd_back h.wd h', fun i o hi hn => ?_, fun i j oi oj p q hi hj hni hnj hp hq he => ?_⟩
 ·obtain ⟨p, hp, ho, hz⟩ := h.ob i o (hsame hi hn) hn
  obtain ⟨x, hx, hc⟩ := ho.kind hn
  exact ⟨p, hI _ _ hp, ho.mono hI hR (wd_same h.wd h' hx hc), hz⟩
 ·obtain ⟨p', hp', _⟩ := h.ob i oi (hsame hi hni) hni
  obtain ⟨q', hq', _⟩ := h.ob j oj (hsame hj hnj) hnj
  rw [hI _ _ hp'] at hp; cases hp
  rw [hI _ _ hq'] at hq; cases hq
  exact h.inj i j oi oj _ _ (hsame hi hni) (hsame hj hnj) hni hnj hp' hq' he
theorem lift_op {P : Program} {o : Oper} {F0 : Nat → Option AV} {K0 : Nat → Option Ob} {top : Nat} {e : Wx.Eff} (hnd : ∀ c, o.op ≠ .defer c) (h : Wx.OpEff P o F0 (blkOf K0) top e) : OpEff P o F0 K0 top ⟨e.av, e.rd, liftK e.kw, e.top⟩ := by
 intro r n W F K I R a w hs hx hk hfree hd next Q hn
 obtain ⟨tm, df⟩ := a
 have hs0 : Wx.St n (stpB W (blkOf K) I R w) F (blkOf K) I R ⟨tm, []⟩ w := ⟨hs.size, rfl, hs.fr, wd_step hs.wz.wd⟩
 have h1 := h n _ F (blkOf K) I R ⟨tm, []⟩ w hs0 hx (fun i hi => by unfold blkOf; rw [hk i hi]) (fun j h1 h2 => ⟨(hfree j h1 h2).1, by unfold blkOf; rw [(hfree j h1 h2).2]⟩) hd
  (fun a' w' => a'.defers = [] ∧ next ⟨a'.tmps, df⟩ w') (fun _ _ _ => False) (fun I' R' a' w' hs' hI hfr hR => ⟨hs'.defers, by
   refine hn I' R' ⟨a'.tmps, df⟩ w' ⟨hs'.size, ?_, hs'.fr, hs.wz.onK hI hR hs'.wd⟩ hI hfr hR
   exact hs.mks.mono fun D hD => wd_same hs.wz.wd hs'.wd hD rfl⟩)
 refine op_in hnd ?_
 unfold Oper.wp at h1 ⊢
 rw [show (Act.eval ⟨tm, df⟩ : Operand → Value) = Act.eval ⟨tm, []⟩ by funext x; cases x <;> rfl]
 generalize (execOp (Act.eval ⟨tm, []⟩) o).run P w = x at h1 ⊢
 have lo : ¬ LetsOut (fun (_ : Exit) (_ : Act) (_ : World) => False) := fun ⟨_, _, h⟩ => h
 have hput : ∀ v : Value, ((⟨tm, df⟩ : Act).put o.dst v) = ⟨((⟨tm, []⟩ : Act).put o.dst v).tmps, df⟩ := fun v => by
  cases o.dst <;> rfl
 cases x with
 | ok v w' =>
  cases v with
  | value v => show next _ _; rw [hput v]; exact h1.2
  | skip => show next _ _; rw [hput undef]; exact h1.2
  | defer d =>
   have := h1.1
   cases hd' : o.dst <;> rw [hd'] at this <;> cases this
  | enter f args =>
   refine Calls.mono h1 ?_
   rintro e' w'' hh
   cases e' with
   | returned v => show next _ _; rw [hput v]; exact hh.2
   | panicked ch => exact hh.elim
   | outgrown => exact (lo hh).elim
  | row row args => exact Rows.mono h1 fun v w'' hh => by rw [hput v]; exact hh.2
  | _ => exact h1.elim
 | halt v w' =>
  cases v with
  | panic v => exact h1.elim
  | _ => exact h1.elim
end Go.Proofs.Ytopieffkpdlpbaa.Wx.Y
namespace Go.Proofs.Ytopieffkpdlpbaa.Wx.Y
open Go Go.RowKit
theorem St.put {n : Nat} {W : Wo} {F : Nat → Option AV} {K K' : Nat → Option Ob} {I I' : IM} {R R' : RM} {a : Act} {w w' : World} {d : Option Nat} {x : AV} {v : Value} (h : St n W F K I R a w) (hI : IExt I I') (hR : RExt R R') (hw : Wz W K' I' R' w') (hm : Mk W a.defers w') (hd : dstB n d = true) (hx : x.rel I' R' v) : St n W (fput F d x) K' I' R' (a.put d v) w' := by
 cases d with
 | none => exact ⟨h.size, hm, fun t y hy => AV.mono hI hR (h.fr t y hy), hw⟩
 | some d =>
  have hlt : d < a.tmps.size := by rw [h.size]; simpa [dstB, Nat.blt_eq] using hd
  refine ⟨by simp [Act.put, h.size], hm, fun t y hy => ?_, hw⟩
  simp only [fput] at hy
  simp only [Act.eval, Act.put, Array.getD_eq_getD_getElem?]
  split at hy
  ·rename_i he
   simp only [Option.some.injEq] at hy
   subst he hy
   rw [Array.getElem?_setIfInBounds_self_of_lt hlt]
   exact hx
  ·rename_i he
   rw [Array.getElem?_setIfInBounds_ne (fun e => he e.symm)]
   have := AV.mono hI hR (h.fr t y hy)
   simpa [Act.eval, Array.getD_eq_getD_getElem?] using this
theorem Wz.grow {W : Wo} {K : Nat → Option Ob} {I : IM} {R : RM} {w w' : World} (h : Wz W K I R w) (hb : Bel w.heap.size w w') : Wz W K I R w' := by
 refine ⟨h.wd.grow hb, fun i o hi hn => ?_, h.inj⟩
 obtain ⟨p, hp, ho, hz⟩ := h.ob i o hi hn
 obtain ⟨x, hx, _⟩ := ho.kind hn
 exact ⟨p, hp, ho.mono (.refl _) (.refl _) (hb.block _ (Array.getElem?_eq_some_iff.1 hx).1), hz⟩
theorem St.grow {n : Nat} {W : Wo} {F : Nat → Option AV} {K : Nat → Option Ob} {I : IM} {R : RM} {a : Act} {w w' : World} (h : St n W F K I R a w) (hb : Bel w.heap.size w w') : St n W F K I R a w' :=
 ⟨h.size, h.mks.mono fun D hD => hb.block _ (Array.getElem?_eq_some_iff.1 hD).1, h.fr, h.wz.grow hb⟩
structure Ent where
 o : Oper
 sk : Bool
 e : Eff
 top : Nat
def gF (x : Ent) (t : Nat) (v : Option AV) : Option AV := if x.o.dst = some t then some x.e.av else v
def kup1 : Kr → Nat → Option Ob → Option Ob
 | [], _, v => v
 | (i, b) :: r, t, v => if t = i then b else kup1 r t v
def gK (x : Ent) (t : Nat) (v : Option Ob) : Option Ob := kup1 x.e.kw t v
theorem kup_one (K : Nat → Option Ob) : ∀ (kw : Kr) (t : Nat), kup K kw t = kup1 kw t (K t)
 | [], _ => rfl
 | (i, b) :: r, t => by simp only [kup, kup1]; split <;> first | rfl | exact kup_one K r t
theorem fput_one (F : Nat → Option AV) (x : Ent) (t : Nat) : fput F x.o.dst x.e.av t = gF x t (F t) := by
 unfold fput gF
 cases x.o.dst with
 | none => simp
 | some d => simp only [Option.some.injEq]; by_cases h : t = d
             · subst h; simp
             · rw [if_neg h, if_neg (fun e => h e.symm)]
section
variable {β : Type} (g : Ent → Nat → β → β)
def gv : List Ent → Nat → (Nat → Bool) → Nat → β → β
 | [], _, _, _, v => v
 | x :: xs, k, E, t, v => gv xs (k + 1) E t (if E k then g x t v else v)
theorem gv_congr {t : Nat} : ∀ (xs : List Ent) (k : Nat) (E E' : Nat → Bool) (v : β), (∀ j x, xs[j]? = some x → E (k + j) ≠ E' (k + j) → ∀ v, g x t v = v) → gv g xs k E t v = gv g xs k E' t v
 | [], _, _, _, _, _ => rfl
 | x :: xs, k, E, E', v, h => by
  simp only [gv]
  have h0 := h 0 x rfl
  have hv : (if E k then g x t v else v) = (if E' k then g x t v else v) := by
   by_cases he : E k = E' k
   ·rw [he]
   ·have := h0 he v
    cases h1 : E k <;> cases h2 : E' k <;> simp [this]
  rw [hv]
  exact gv_congr xs (k + 1) E E' _ fun j y hj => by have := h (j + 1) y (by simpa using hj); simpa [Nat.add_assoc, Nat.add_comm 1 j] using this
theorem gv_none {t : Nat} : ∀ (xs : List Ent) (k i : Nat) (v : β), i ≤ k → gv g xs k (fun j => decide (j < i)) t v = v
 | [], _, _, _, _ => rfl
 | x :: xs, k, i, v, h => by
  simp only [gv]
  rw [if_neg (by simp; omega)]
  exact gv_none xs (k + 1) i v (by omega)
theorem gv_succ {t : Nat} : ∀ (xs : List Ent) (k i : Nat) (x : Ent) (v : β), xs[i]? = some x → gv g xs k (fun j => decide (j < k + i + 1)) t v = g x t (gv g xs k (fun j => decide (j < k + i)) t v)
 | [], _, _, _, _, h => by simp at h
 | y :: xs, k, 0, x, v, h => by
  simp at h; subst h
  simp only [gv]
  rw [if_pos (by simp), if_neg (by simp), gv_none g xs (k + 1) (k + 0 + 1) _ (by omega), gv_none g xs (k + 1) (k + 0) _ (by omega)]
 | y :: xs, k, i + 1, x, v, h => by
  simp only [gv]
  rw [if_pos (by simp; omega), if_pos (by simp)]
  have := gv_succ (t := t) xs (k + 1) i x (g y t v) (by simpa using h)
  rw [show k + (i + 1) + 1 = k + 1 + i + 1 by omega, show k + (i + 1) = k + 1 + i by omega]
  exact this
end
abbrev fE (xs : List Ent) (E : Nat → Bool) (F : Nat → Option AV) : Nat → Option AV := fun t => gv gF xs 0 E t (F t)
abbrev kE (xs : List Ent) (E : Nat → Bool) (K : Nat → Option Ob) : Nat → Option Ob := fun t => gv gK xs 0 E t (K t)
def kws (e : Eff) : List Nat := e.kw.map (·.1)
def clash (ops : Array Oper) (x y : Ent) : Bool :=
 (match x.o.dst with | some d => (reads ops y.o).contains d || y.o.dst == some d | none => false) ||
 (match y.o.dst with | some d => (reads ops x.o).contains d | none => false) ||
 (kws x.e).any (fun i => y.e.rd.contains i || (kws y.e).contains i) || x.e.rd.any (fun i => (kws y.e).contains i)
def apartB (ops : Array Oper) (xs : List Ent) : Bool :=
 let c := clo ops.toList
 backB ops.toList && xs.zipIdx.all fun q => (xs.take q.2).zipIdx.all fun p => !clash ops p.1 q.1 || (c.getD q.2 0).testBit p.2
theorem kup1_out : ∀ (kw : Kr) (t : Nat) (v : Option Ob), t ∉ kw.map (·.1) → kup1 kw t v = v
 | [], _, _, _ => rfl
 | (i, b) :: r, t, v, h => by
  simp only [List.map_cons, List.mem_cons, not_or] at h
  simp only [kup1]
  rw [if_neg h.1]
  exact kup1_out r t v h.2
theorem kup1_in : ∀ (kw : Kr) (t : Nat) (v v' : Option Ob), t ∈ kw.map (·.1) → kup1 kw t v = kup1 kw t v'
 | [], _, _, _, h => by simp at h
 | (i, b) :: r, t, v, v', h => by
  simp only [kup1]
  split
  ·rfl
  ·rename_i hne
   simp only [List.map_cons, List.mem_cons] at h
   rcases h with h | h
   ·exact absurd h hne
   ·exact kup1_in r t v v' h
section
variable {P : Program} {ops : Array Oper} {W : Wo} {n : Nat}
def EntOk (P : Program) (ops : Array Oper) (n : Nat) (x : Ent) (F : Nat → Option AV) (K : Nat → Option Ob) : Prop :=
 dstB n x.o.dst = true ∧ x.top ≤ x.e.top ∧
 match x.sk with
 | true => x.e.av = .val undef ∧ x.e.kw = [] ∧ x.e.rd = [] ∧ x.e.top = x.top ∧ ∃ g want t, x.o.guard = some (g, want) ∧ (ops[g]?).bind (·.dst) = some t ∧ ((∃ b, F t = some (.val (.bool b)) ∧ (b == want) = false) ∨ ∃ l, F t = some (.val (.tuple l)))
 | false => OpEff P x.o F K x.top x.e ∧ (x.o.guard = none ∨ ∃ g want t b, x.o.guard = some (g, want) ∧ (ops[g]?).bind (·.dst) = some t ∧ F t = some (.val (.bool b)) ∧ (b == want) = true)
theorem wanted_guard' {F : Nat → Option AV} {K : Nat → Option Ob} {I : IM} {R : RM} {a : Act} {w : World} {o : Oper} {g t : Nat} {want b : Bool} (hg : o.guard = some (g, want)) (hd : (ops[g]?).bind (·.dst) = some t) (ht : F t = some (.val (.bool b))) (hs : St n W F K I R a w) :
  Region.wanted o (yielded ops a.tmps) = (b == want) := by
 have hv : a.eval (.tmp t) = .bool b := hs.fr t _ ht
 have hv' : a.tmps.getD t undef = .bool b := hv
 simp only [Array.getD_eq_getD_getElem?] at hv'
 have h3 : a.tmps[t]? = some (.bool b) := by
  cases hq : a.tmps[t]? with
  | none => rw [hq] at hv'; cases hv'
  | some z => rw [hq] at hv'; simp only [Option.getD_some] at hv'; rw [hv']
 simp [Region.wanted, hg, yielded, hd, h3]
theorem apart_spec {xs : List Ent} (h : apartB ops xs = true) : backB ops.toList = true ∧ ∀ i j x y, i < j → xs[i]? = some x → xs[j]? = some y → clash ops x y = true → ((clo ops.toList).getD j 0).testBit i = true := by
 unfold apartB at h
 simp only [Bool.and_eq_true, List.all_eq_true] at h
 refine ⟨h.1, fun i j x y hij hx hy hc => ?_⟩
 have h1 := h.2 (y, j) (by rw [List.mk_mem_zipIdx_iff_getElem?]; exact hy) (x, i) (by
  rw [List.mk_mem_zipIdx_iff_getElem?]
  simp only [List.getElem?_take, if_pos hij]; exact hx)
 simpa [hc] using h1
section
variable {β : Type} {g : Ent → Nat → β → β} {wr : Ent → Nat → Prop} (hw : ∀ x t, ¬ wr x t → ∀ v, g x t v = v) {xs : List Ent} {E : Nat → Bool} {i t : Nat} {x : Ent}
include hw in
theorem gv_at (hi : E i = false) (hlow : ∀ j y, j < i → xs[j]? = some y → wr y t → E j = true) (hhigh : ∀ j y, i < j → xs[j]? = some y → wr y t → E j = false) (v : β) : gv g xs 0 E t v = gv g xs 0 (fun j => decide (j < i)) t v := by
 refine gv_congr g xs 0 _ _ v fun j y hj hne => hw y t fun hwr => hne ?_
 rw [Nat.zero_add]
 rcases Nat.lt_trichotomy j i with h | h | h
 ·rw [hlow j y h hj hwr]; simp [h]
 ·subst h; rw [hi]; simp
 ·rw [hhigh j y h hj hwr]; simp; omega
include hw in
theorem gv_set (hx : xs[i]? = some x) (hc : wr x t → ∀ v v', g x t v = g x t v') (hi : E i = false) (hlow : wr x t → ∀ j y, j < i → xs[j]? = some y → wr y t → E j = true) (hhigh : wr x t → ∀ j y, i < j → xs[j]? = some y → wr y t → E j = false) (v : β) :
  gv g xs 0 (fun j => if j = i then true else E j) t v = g x t (gv g xs 0 E t v) := by
 by_cases hwx : wr x t
 ·have h1 : gv g xs 0 (fun j => if j = i then true else E j) t v = gv g xs 0 (fun j => decide (j < 0 + i + 1)) t v := by
   refine gv_congr g xs 0 _ _ v fun j y hj hne => hw y t fun hwr => hne ?_
   rw [Nat.zero_add]
   rcases Nat.lt_trichotomy j i with h | h | h
   ·rw [if_neg (by omega), hlow hwx j y h hj hwr]; simp; omega
   ·rw [if_pos h]; simp; omega
   ·rw [if_neg (by omega), hhigh hwx j y h hj hwr]; simp; omega
  rw [h1, gv_succ g xs 0 i x v hx]
  exact hc hwx _ _
 ·rw [hw x t hwx]
  refine gv_congr g xs 0 _ _ v fun j y hj hne => ?_
  rw [Nat.zero_add] at hne
  by_cases h : j = i
  ·subst h; rw [hx] at hj; cases hj; exact hw _ _ hwx
  ·rw [if_neg h] at hne; exact absurd rfl hne
end
theorem unwanted_guardA {F : Nat → Option AV} {K : Nat → Option Ob} {I : IM} {R : RM} {a : Act} {w : World} {o : Oper} {g t : Nat} {want : Bool} {l : Array Value} (hg : o.guard = some (g, want)) (hd : (ops[g]?).bind (·.dst) = some t) (ht : F t = some (.val (.tuple l))) (hs : St n W F K I R a w) :
  Region.wanted o (yielded ops a.tmps) = false := by
 have hv : a.eval (.tmp t) = .tuple l := hs.fr t _ ht
 have hv' : a.tmps.getD t undef = .tuple l := hv
 simp only [Array.getD_eq_getD_getElem?] at hv'
 cases hq : a.tmps[t]? with
 | none => simp [Region.wanted, hg, yielded, hd, hq]
 | some z =>
  rw [hq] at hv'
  simp only [Option.getD_some] at hv'
  subst hv'
  simp [Region.wanted, hg, yielded, hd, hq]
theorem draw_sound {r : Option Nat} {Q : Exit → Act → World → Prop} (xs : List Ent) (hxs : xs.map (·.o) = ops.toList) (hap : apartB ops xs = true) (F0 : Nat → Option AV) (K0 : Nat → Option Ob) (top0 topN : Nat) (hle : top0 ≤ topN)
  (hok : ∀ i x, xs[i]? = some x → EntOk P ops n x (fE xs (fun j => decide (j < i)) F0) (kE xs (fun j => decide (j < i)) K0))
  (htop : ∀ (i : Nat) (x : Ent), xs[i]? = some x → top0 ≤ x.top ∧ x.e.top ≤ topN) (hmono : ∀ (i j : Nat) (x y : Ent), i < j → xs[i]? = some x → xs[j]? = some y → x.e.top ≤ y.top)
  (I0 : IM) (R0 : RM) (hQ : ∀ I R a w, St n W (fE xs (fun _ => true) F0) (kE xs (fun _ => true) K0) I R a w → (∀ j, topN ≤ j → I j = none) → (∀ j, j < top0 → I j = I0 j) → RExt R0 R → Q .normal a w) :
  ∀ (fuel : Nat) (listed : Array Bool) (I : IM) (R : RM) (a : Act) (w : World), listed.size = ops.size → Down ops (fun i => listed.getD i false) → cnt ops.size (fun i => !listed.getD i false) ≤ fuel →
   St n W (fE xs (fun i => listed.getD i false) F0) (kE xs (fun i => listed.getD i false) K0) I R a w →
   (∀ j, top0 ≤ j → (∀ (i : Nat) (x : Ent), xs[i]? = some x → listed.getD i false = true → ¬ (x.top ≤ j ∧ j < x.e.top)) → I j = none) → (∀ j, j < top0 → I j = I0 j) → RExt R0 R →
   wpAnyIn (fr r) 0 P .any ops Q fuel listed a w := by
 obtain ⟨hback, hclash⟩ := apart_spec hap
 have hlen : xs.length = ops.size := by have := congrArg List.length hxs; simpa using this
 have opAt : ∀ (i : Nat) (x : Ent), xs[i]? = some x → ops[i]? = some x.o := fun i x hx => by
  have : (xs.map (·.o))[i]? = some x.o := by simp [hx]
  rw [hxs] at this; simpa using this
 have fin : ∀ (listed : Array Bool) (I : IM) (R : RM) (a : Act) (w : World), (∀ i, i < ops.size → listed.getD i false = true) →
   St n W (fE xs (fun i => listed.getD i false) F0) (kE xs (fun i => listed.getD i false) K0) I R a w →
   (∀ j, top0 ≤ j → (∀ (i : Nat) (x : Ent), xs[i]? = some x → listed.getD i false = true → ¬ (x.top ≤ j ∧ j < x.e.top)) → I j = none) → (∀ j, j < top0 → I j = I0 j) → RExt R0 R → Q .normal a w := by
  intro listed I R a w hall hs hd hI hR
  have e1 : fE xs (fun i => listed.getD i false) F0 = fE xs (fun _ => true) F0 := by
   funext t
   refine gv_congr gF xs 0 _ _ _ fun j x hj hne => absurd ?_ hne
   have := (List.getElem?_eq_some_iff.1 hj).1
   rw [Nat.zero_add]; exact hall j (by omega)
  have e2 : kE xs (fun i => listed.getD i false) K0 = kE xs (fun _ => true) K0 := by
   funext t
   refine gv_congr gK xs 0 _ _ _ fun j x hj hne => absurd ?_ hne
   have := (List.getElem?_eq_some_iff.1 hj).1
   rw [Nat.zero_add]; exact hall j (by omega)
  rw [e1, e2] at hs
  exact hQ I R a w hs (fun j hj => hd j (by omega) fun i x hx _ h => by have := (htop i x hx).2; omega) hI hR
 have ready_all : ∀ (listed : Array Bool), listed.size = ops.size → Region.ready .any ops listed = [] → ∀ i, i < ops.size → listed.getD i false = true := by
  intro listed hsz hr i
  induction i using Nat.strongRecOn with
  | ind i ih =>
   intro hi
   cases hq : listed.getD i false with
   | true => rfl
   | false =>
    have hmem : i ∈ Region.ready .any ops listed := by
     refine mem_ready.2 ⟨?_, ops[i], Array.getElem?_eq_getElem hi, fun e he hb => ?_⟩
     ·have hi' : i < listed.size := by omega
      simp only [Array.getD_eq_getD_getElem?, Array.getElem?_eq_getElem hi', Option.getD_some] at hq ⊢
      exact hq
     ·have h1 : (ops[i], i) ∈ ops.toList.zipIdx := by rw [List.mk_mem_zipIdx_iff_getElem?]; simp [hi]
      have h2 := List.all_eq_true.1 hback _ h1
      have h3 := List.all_eq_true.1 h2 e (by simpa using he)
      simp only [hb, Bool.not_true, Bool.false_or, Nat.blt_eq] at h3
      exact ih e.on h3 (by omega)
    rw [hr] at hmem; cases hmem
 intro fuel
 induction fuel with
 | zero =>
  intro listed I R a w hsz hD hcnt hs hd hI hR
  have hall : ∀ i, i < ops.size → listed.getD i false = true := fun i hi => by
   have := cnt_zero _ (Nat.le_zero.1 hcnt) i hi
   simpa using this
  refine ⟨?_, fin listed I R a w hall hs hd hI hR⟩
  cases hr : Region.ready .any ops listed with
  | nil => rfl
  | cons i r =>
   have hi : i ∈ Region.ready .any ops listed := by rw [hr]; exact List.mem_cons_self
   obtain ⟨h1, o, h2, _⟩ := mem_ready.1 hi
   have hlt := (Array.getElem?_eq_some_iff.1 h2).1
   have := hall i hlt
   have hi' : i < listed.size := by omega
   simp only [Array.getD_eq_getD_getElem?, Array.getElem?_eq_getElem hi', Option.getD_some] at this h1
   rw [this] at h1; cases h1
 | succ fuel ih =>
  intro listed I R a w hsz hD hcnt hs hd hI hR
  refine ⟨fun hr => fin listed I R a w (ready_all listed hsz hr) hs hd hI hR, fun i hi => ?_⟩
  obtain ⟨hun, o, ho, hpre⟩ := mem_ready.1 hi
  have hlt := (Array.getElem?_eq_some_iff.1 ho).1
  have hi' : i < listed.size := by omega
  have hEi : listed.getD i false = false := by
   simp only [Array.getD_eq_getD_getElem?, Array.getElem?_eq_getElem hi', Option.getD_some] at hun ⊢
   exact hun
  obtain ⟨x, hx⟩ : ∃ x, xs[i]? = some x := ⟨xs[i], List.getElem?_eq_getElem (by omega)⟩
  have hxo : x.o = o := by have := opAt i x hx; rw [ho] at this; cases this; rfl
  have hset := getD_set hi'
  have low : ∀ (j : Nat) (y : Ent), j < i → xs[j]? = some y → clash ops y x = true → listed.getD j false = true := fun j y hj hy hc => by
   have hb := hclash j i y x hj hy hx hc
   obtain ⟨e, g1, g2, g3⟩ := (clo_spec ops.toList).2 i o (by simpa using ho) j hb
   have he := hpre e g1 g2
   rcases g3 with rfl | ⟨hlt', h⟩
   ·exact he
   ·exact down_clo hD e.on ops[e.on] (Array.getElem?_eq_getElem (by omega)) he j h
  have high : ∀ (j : Nat) (y : Ent), i < j → xs[j]? = some y → clash ops x y = true → listed.getD j false = false := fun j y hj hy hc => by
   have hb := hclash i j x y hj hx hy hc
   cases hq : listed.getD j false with
   | false => rfl
   | true =>
    have := down_clo hD j y.o (opAt j y hy) hq i hb
    rw [hEi] at this; cases this
  have hwF : ∀ (x : Ent) (t : Nat), ¬ x.o.dst = some t → ∀ v, gF x t v = v := fun x t h v => by simp [gF, h]
  have hwK : ∀ (x : Ent) (t : Nat), ¬ t ∈ kws x.e → ∀ v, gK x t v = v := fun x t h v => kup1_out _ _ _ h
  have slot : ∀ t, t ∈ reads ops x.o → fE xs (fun j => listed.getD j false) F0 t = fE xs (fun j => decide (j < i)) F0 t := fun t ht => by
   refine gv_at hwF hEi (fun j y hj hy hd => low j y hj hy ?_) (fun j y hj hy hd => high j y hj hy ?_) _
   ·simp [clash, hd, ht]
   ·simp [clash, hd, ht]
  have blk : ∀ t, t ∈ x.e.rd → kE xs (fun j => listed.getD j false) K0 t = kE xs (fun j => decide (j < i)) K0 t := fun t ht => by
   refine gv_at hwK hEi (fun j y hj hy hd => low j y hj hy ?_) (fun j y hj hy hd => high j y hj hy ?_) _
   ·simp only [clash, Bool.or_eq_true, List.any_eq_true]
    exact .inl (.inr ⟨t, hd, by simp [ht]⟩)
   ·simp only [clash, Bool.or_eq_true, List.any_eq_true]
    exact .inr ⟨t, ht, by simpa using hd⟩
  have newF : fE xs (fun j => (listed.setIfInBounds i true).getD j false) F0 = fput (fE xs (fun j => listed.getD j false) F0) x.o.dst x.e.av := by
   rw [hset]
   funext t
   rw [fput_one]
   refine gv_set hwF hx (fun h v v' => by simp [gF, h]) hEi (fun hd j y hj hy hd' => low j y hj hy ?_) (fun hd j y hj hy hd' => high j y hj hy ?_) _
   ·simp [clash, hd, hd']
   ·simp [clash, hd, hd']
  have newK : kE xs (fun j => (listed.setIfInBounds i true).getD j false) K0 = kup (kE xs (fun j => listed.getD j false) K0) x.e.kw := by
   rw [hset]
   funext t
   rw [kup_one]
   refine gv_set hwK hx (fun h v v' => kup1_in _ _ _ _ h) hEi (fun hd j y hj hy hd' => low j y hj hy ?_) (fun hd j y hj hy hd' => high j y hj hy ?_) _
   ·simp only [clash, Bool.or_eq_true, List.any_eq_true]
    exact .inl (.inr ⟨t, hd', by simp [hd]⟩)
   ·simp only [clash, Bool.or_eq_true, List.any_eq_true]
    exact .inl (.inr ⟨t, hd, by simp [hd']⟩)
  have hsz' : (listed.setIfInBounds i true).size = ops.size := by simpa using hsz
  have hD' : Down ops (fun j => (listed.setIfInBounds i true).getD j false) := by
   rw [hset]
   intro j oj hj hE e he hb
   by_cases hji : j = i
   ·subst hji
    rw [ho] at hj; cases hj
    have h0 := hpre e he hb
    show (if e.on = j then true else listed.getD e.on false) = true
    rw [h0]; split <;> rfl
   ·simp only [if_neg hji] at hE
    have h0 : listed.getD e.on false = true := hD j oj hj hE e he hb
    show (if e.on = i then true else listed.getD e.on false) = true
    rw [h0]; split <;> rfl
  have hcnt' : cnt ops.size (fun j => !(listed.setIfInBounds i true).getD j false) ≤ fuel := by
   have := cnt_set (p := fun j => !listed.getD j false) (q := fun j => !(listed.setIfInBounds i true).getD j false) ops.size hlt (by simp [hEi]) (by have h9 : (listed.setIfInBounds i true).getD i false = if i = i then true else listed.getD i false := congrFun hset i; rw [h9]; simp) (fun j hj => by have h9 : (listed.setIfInBounds i true).getD j false = if j = i then true else listed.getD j false := congrFun hset j; rw [h9, if_neg hj])
   omega
  have hfree : ∀ j, x.top ≤ j → j < x.e.top → I j = none := fun j h1 h2 => by
   refine hd j (by have := (htop i x hx).1; omega) fun i' x' hx' hE' hr => ?_
   rcases Nat.lt_trichotomy i' i with h | h | h
   ·have := hmono i' i x' x h hx' hx; omega
   ·subst h; rw [hEi] at hE'; cases hE'
   ·have := hmono i i' x x' h hx hx'; omega
  have on : ∀ I' R' a' w', St n W (fput (fE xs (fun j => listed.getD j false) F0) x.o.dst x.e.av) (kup (kE xs (fun j => listed.getD j false) K0) x.e.kw) I' R' a' w' → (∀ j, ¬ (x.top ≤ j ∧ j < x.e.top) → I' j = I j) → RExt R R' →
    wpAnyIn (fr r) 0 P .any ops Q fuel (listed.setIfInBounds i true) a' w' := by
   intro I' R' a' w' hs' hI' hR'
   refine ih _ I' R' a' w' hsz' hD' hcnt' (by rw [newF, newK]; exact hs') ?_ ?_ (hR.trans hR')
   ·intro j hj hno
    have h1 : ¬ (x.top ≤ j ∧ j < x.e.top) := hno i x hx (by have h9 : (listed.setIfInBounds i true).getD i false = if i = i then true else listed.getD i false := congrFun hset i; rw [h9]; simp)
    rw [hI' j h1]
    refine hd j hj fun i' x' hx' hE' => hno i' x' hx' ?_
    have h9 : (listed.setIfInBounds i true).getD i' false = if i' = i then true else listed.getD i' false := congrFun hset i'
    rw [h9, hE']; split <;> rfl
   ·intro j hj
    rw [hI' j (by have := (htop i x hx).1; omega)]
    exact hI j hj
  obtain ⟨k1, k2, k3⟩ := hok i x hx
  unfold wpOpIn
  simp only [ho]
  subst hxo
  cases hsk : x.sk with
  | true =>
   rw [hsk] at k3
   simp only at k3
   obtain ⟨e1, e2, e3, e4, g, want, t, h1, h2, h3⟩ := k3
   have hwant : Region.wanted x.o (yielded ops a.tmps) = false := by
    rcases h3 with ⟨b, h3, h4⟩ | ⟨l, h3⟩
    ·rw [wanted_guard' h1 h2 ((slot t (reads_guard h1 h2)).trans h3) hs, h4]
    ·exact unwanted_guardA h1 h2 ((slot t (reads_guard h1 h2)).trans h3) hs
   rw [if_neg (by rw [hwant]; simp)]
   refine ⟨fun _ _ => trivial, on I R _ w ?_ (fun _ _ => rfl) (.refl _)⟩
   rw [e1, e2]
   exact hs.put (.refl _) (.refl _) hs.wz hs.mks k1 rfl
  | false =>
   rw [hsk] at k3
   simp only at k3
   obtain ⟨he, hg⟩ := k3
   have hwant : Region.wanted x.o (yielded ops a.tmps) = true := by
    rcases hg with hg | ⟨g, want, t, b, h1, h2, h3, h4⟩
    ·simp [Region.wanted, hg]
    ·rw [wanted_guard' h1 h2 ((slot t (reads_guard h1 h2)).trans h3) hs, h4]
   rw [if_pos hwant]
   refine he r n W _ _ I R a w hs ?_ blk (fun j h1 h2 => ⟨hfree j h1 h2, ?_⟩) k1 _ Q fun I' R' a' w' h1 h2 h3 h4 => on I' R' a' w' h1 h3 h4
   ·intro y hy
    cases y with
    | tmp t => exact slot t (reads_op hy)
    | _ => rfl
   ·cases hq : kE xs (fun j => listed.getD j false) K0 j with
    | none => rfl
    | some b => obtain ⟨p, hp⟩ := hs.dom hq; rw [hfree j h1 h2] at hp; cases hp
end
section
variable {P : Program} {n : Nat} {ops : Array Oper}
def Chain (P : Program) (ops : Array Oper) (n : Nat) : List Ent → (Nat → Option AV) → (Nat → Option Ob) → Nat → (Nat → Option AV) → (Nat → Option Ob) → Nat → Prop
 | [], F, K, top, F', K', top' => F = F' ∧ K = K' ∧ top = top'
 | x :: xs, F, K, top, F', K', top' => EntOk P ops n x F K ∧ x.top = top ∧ Chain P ops n xs (fput F x.o.dst x.e.av) (kup K x.e.kw) x.e.top F' K' top'
theorem gv_shift {β : Type} (g : Ent → Nat → β → β) {t : Nat} : ∀ (xs : List Ent) (k : Nat) (E : Nat → Bool) (v : β), gv g xs (k + 1) E t v = gv g xs k (fun j => E (j + 1)) t v
 | [], _, _, _ => rfl
 | x :: xs, k, E, v => by simp only [gv]; exact gv_shift g xs (k + 1) E _
theorem Chain.at : ∀ {xs : List Ent} {F : Nat → Option AV} {K : Nat → Option Ob} {top : Nat} {F' : Nat → Option AV} {K' : Nat → Option Ob} {top' : Nat}, Chain P ops n xs F K top F' K' top' →
  (∀ (i : Nat) (x : Ent), xs[i]? = some x → EntOk P ops n x (fE xs (fun j => decide (j < i)) F) (kE xs (fun j => decide (j < i)) K)) ∧ fE xs (fun _ => true) F = F' ∧ kE xs (fun _ => true) K = K' ∧ top ≤ top' ∧
  (∀ (i : Nat) (x : Ent), xs[i]? = some x → top ≤ x.top ∧ x.e.top ≤ top') ∧ (∀ (i j : Nat) (x y : Ent), i < j → xs[i]? = some x → xs[j]? = some y → x.e.top ≤ y.top)
 | [], F, K, top, F', K', top', h => by
  obtain ⟨rfl, rfl, rfl⟩ := h
  exact ⟨fun i x h => (by simp at h), rfl, rfl, Nat.le_refl _, fun i x h => (by simp at h), fun i j x y _ h => (by simp at h)⟩
 | x :: xs, F, K, top, F', K', top', h => by
  obtain ⟨h1, rfl, h3⟩ := h
  obtain ⟨g1, g2, g3, g4, g5, g6⟩ := h3.at
  have hF : (fun t => gF x t (F t)) = fput F x.o.dst x.e.av := by funext t; rw [fput_one]
  have hK : (fun t => gK x t (K t)) = kup K x.e.kw := by funext t; rw [kup_one]; rfl
  have hle := h1.2.1
  refine ⟨?_, ?_, ?_, Nat.le_trans hle g4, ?_, ?_⟩
  ·intro i y hy
   cases i with
   | zero =>
    simp at hy; subst hy
    have e1 : fE (x :: xs) (fun j => decide (j < 0)) F = F := by funext t; exact gv_none gF (x :: xs) 0 0 _ (Nat.le_refl _)
    have e2 : kE (x :: xs) (fun j => decide (j < 0)) K = K := by funext t; exact gv_none gK (x :: xs) 0 0 _ (Nat.le_refl _)
    rw [e1, e2]; exact h1
   | succ i =>
    have e1 : fE (x :: xs) (fun j => decide (j < i + 1)) F = fE xs (fun j => decide (j < i)) (fput F x.o.dst x.e.av) := by
     rw [← hF]; funext t
     show gv gF xs (0 + 1) _ t (if decide (0 < i + 1) = true then gF x t (F t) else F t) = _
     rw [if_pos (by simp), gv_shift]
     congr 1; funext j; simp
    have e2 : kE (x :: xs) (fun j => decide (j < i + 1)) K = kE xs (fun j => decide (j < i)) (kup K x.e.kw) := by
     rw [← hK]; funext t
     show gv gK xs (0 + 1) _ t (if decide (0 < i + 1) = true then gK x t (K t) else K t) = _
     rw [if_pos (by simp), gv_shift]
     congr 1; funext j; simp
    rw [e1, e2]
    exact g1 i y (by simpa using hy)
  ·rw [← g2, ← hF]; funext t
   show gv gF xs (0 + 1) _ t (if true = true then gF x t (F t) else F t) = _
   rw [if_pos rfl, gv_shift]
  ·rw [← g3, ← hK]; funext t
   show gv gK xs (0 + 1) _ t (if true = true then gK x t (K t) else K t) = _
   rw [if_pos rfl, gv_shift]
  ·intro i y hy
   cases i with
   | zero => simp at hy; subst hy; exact ⟨Nat.le_refl _, g4⟩
   | succ i => have := g5 i y (by simpa using hy); exact ⟨Nat.le_trans hle this.1, this.2⟩
  ·intro i j y z hij hy hz
   cases j with
   | zero => omega
   | succ j =>
    cases i with
    | zero => simp at hy; subst hy; exact (g5 j z (by simpa using hz)).1
    | succ i => exact g6 i j y z (by omega) (by simpa using hy) (by simpa using hz)
theorem chain_region {r : Option Nat} (hmix : P.follows .mixedOrders = true) {id : Nat} {xs : List Ent} {F F' : Nat → Option AV} {K K' : Nat → Option Ob} {top top' : Nat} (h1 : xs.map (·.o) = ops.toList) (h2 : Chain P ops n xs F K top F' K' top') (hap : apartB ops xs = true)
  {W : Wo} {I : IM} {R : RM} {a : Act} {w : World} (hs : St n W F K I R a w) (hd : ∀ j, top ≤ j → I j = none) {Q : Exit → Act → World → Prop} (hQ : ∀ a' w' I' R', St n W F' K' I' R' a' w' → (∀ j, top' ≤ j → I' j = none) → (∀ j, j < top → I' j = I j) → RExt R R' → Q .normal a' w') :
  (Code.region id ops true).wpIn (fr r) 0 P Q a w := by
 obtain ⟨g1, g2, g3, g4, g5, g6⟩ := h2.at
 have hemp : ∀ i, (Array.replicate ops.size false).getD i false = false := fun i => by
  simp only [Array.getD_eq_getD_getElem?, Array.getElem?_replicate]
  split <;> rfl
 have hfalse : ∀ {β : Type} (g : Ent → Nat → β → β) (t : Nat) (v : β), gv g xs 0 (fun i => (Array.replicate ops.size false).getD i false) t v = v := fun g t v => by
  rw [gv_congr g xs 0 _ (fun j => decide (j < 0)) v (fun j x _ hne => absurd (by rw [hemp]; simp) hne)]
  exact gv_none g xs 0 0 v (Nat.le_refl _)
 have e1 : fE xs (fun i => (Array.replicate ops.size false).getD i false) F = F := by funext t; exact hfalse gF t _
 have e2 : kE xs (fun i => (Array.replicate ops.size false).getD i false) K = K := by funext t; exact hfalse gK t _
 refine wpIn_region_any hmix (draw_sound (W := W) xs h1 hap F K top top' g4 g1 g5 g6 I R ?_ ops.size _ I R a { w with drawn := w.drawn + 1 } (by simp) ?_ ?_ ?_ (fun j hj _ => hd j hj) (fun _ _ => rfl) (.refl _))
 ·intro I' R' a' w' hs' hd' hI hR
  rw [g2, g3] at hs'
  exact hQ a' w' I' R' hs' hd' hI hR
 ·intro i o _ hE
  simp only [hemp] at hE
  cases hE
 ·have : ∀ (N : Nat) (p : Nat → Bool), cnt N p ≤ N := by
   intro N
   induction N with
   | zero => intro p; exact Nat.le_refl _
   | succ N ih => intro p; have := ih p; simp only [cnt]; split <;> omega
  exact this _ _
 ·rw [e1, e2]
  exact hs.grow ((Bel.refl _ w).drew)
theorem kup_out' {K : Nat → Option Ob} : ∀ {kw : Kr} {j : Nat}, j ∉ kw.map (·.1) → kup K kw j = K j
 | [], j, _ => rfl
 | (i, b) :: r, j, h => by
  simp only [List.map_cons, List.mem_cons, not_or] at h
  simp only [kup]
  rw [if_neg h.1]
  exact kup_out' h.2
end
end Go.Proofs.Ytopieffkpdlpbaa.Wx.Y
namespace Go.Proofs.Ytopieffkpdlpbaa.Wx.Y
open Go Go.RowKit
def upd (K : Nat → Option Ob) (j : Nat) (x : Option Ob) : Nat → Option Ob := fun t => if t = j then x else K t
theorem upd_same {K : Nat → Option Ob} {j : Nat} {x : Option Ob} : upd K j x j = x := if_pos rfl
theorem upd_other {K : Nat → Option Ob} {j t : Nat} {x : Option Ob} (h : t ≠ j) : upd K j x t = K t := if_neg h
theorem cell_same {w w' : World} {a : Addr} {v : Value} (h : w.cell? a = some v) (hh : w'.heap[a.block]? = w.heap[a.block]?) : w'.cell? a = some v := by
 rw [← h]; unfold World.cell?; rw [hh]
theorem wd_carry {W : Wo} {K : Nat → Option Blk} {I : IM} {R : RM} {w w' : World} (h : Wd W K I R w) (hc : ∀ (k : Nat) (o : Obj), w.heap[k]? = some o → o.isCells = true → w'.heap[k]? = some o) (hz : ∀ k, W.z k → w'.heap[k]? = w.heap[k]?) (h1 : w'.os = w.os) (h2 : w'.tape = w.tape) (h3 : w'.output = w.output) (h4 : w.heap.size ≤ w'.heap.size) (h5 : w.drawn ≤ w'.drawn) : Wd W K I R w' :=
 { h with
  blk := fun i b hi => by
   obtain ⟨p, hp, hk⟩ := h.blk i b hi
   refine ⟨p, hp, hk.mono (.refl _) (.refl _) ?_⟩
   obtain ⟨cs, hm, _⟩ := hk.mem
   rw [hm]; exact hc _ _ hm rfl
  ro := fun f b o u hu => by
   have h0 := h.ro f b o u hu
   obtain ⟨ob, ho, hcc⟩ := cells_of_cell h0
   exact cell_same h0 ((hc _ _ ho hcc).trans ho.symm)
  below := ⟨h1.trans h.below.os, h2.trans h.below.tape, h3.trans h.below.output, Nat.le_trans h.below.size h4, fun k hk => ⟨(h.below.block k hk).1, (hz k hk).trans (h.below.block k hk).2⟩, Nat.le_trans h.below.drawn h5⟩ }
theorem blkOf_upd {K : Nat → Option Ob} {j : Nat} {x : Option Ob} (h1 : ∀ b, K j ≠ some (.b b)) (h2 : ∀ b, x ≠ some (.b b)) : blkOf (upd K j x) = blkOf K := by
 have hn : ∀ {y : Option Ob}, (∀ b, y ≠ some (.b b)) → (match y with | some (.b b) => some b | _ => none) = (none : Option Blk) := by
  intro y hy
  cases y with
  | none => rfl
  | some o => cases o with
   | b b => exact absurd rfl (hy b)
   | m _ => rfl
   | l _ => rfl
   | i _ => rfl
 funext t
 by_cases ht : t = j
 ·subst ht
  unfold blkOf
  rw [upd_same]
  exact (hn h2).trans (hn h1).symm
 ·unfold blkOf; rw [upd_other ht]
section
variable {W : Wo} {K : Nat → Option Ob} {I : IM} {R : RM} {w : World}
theorem Wz.lt (h : Wz W K I R w) {i : Nat} {o : Ob} {p : Loc} (hk : K i = some o) (hp : I i = some p) : p.b < w.heap.size := by
 cases hn : o.nb with
 | true =>
  obtain ⟨p', hp', ho, _⟩ := h.ob i o hk hn
  rw [hp] at hp'; cases hp'
  obtain ⟨x, hx, _⟩ := ho.kind hn
  exact (Array.getElem?_eq_some_iff.1 hx).1
 | false =>
  cases o with
  | b x => exact h.wd.lt (b := x) (by simp [blkOf, hk]) hp
  | m _ => cases hn
  | l _ => cases hn
  | i _ => cases hn
theorem Wz.put (h : Wz W K I R w) {j : Nat} {lb : LB} (hk : K j = some (.l lb)) {p : Loc} (hp : I j = some p) {rc rc' : Loop} (hr : w.heap[p.b]? = some (.loop rc)) {x : Option Ob} (hx : x = none ∨ ∃ lb', x = some (.l lb') ∧ LoopOk I R lb' p (w.putObj p.b (.loop rc'))) :
  Wz W (upd K j x) I R (w.putObj p.b (.loop rc')) := by
 have hz : ¬ W.z p.b := by
  obtain ⟨p', hp', _, hz⟩ := h.ob j _ hk rfl
  rw [hp] at hp'; cases hp'; exact hz
 have hlt := (Array.getElem?_eq_some_iff.1 hr).1
 have hx2 : ∀ b, x ≠ some (.b b) := fun b hb => by
  rcases hx with rfl | ⟨lb', rfl, _⟩ <;> cases hb
 refine ⟨by
  rw [blkOf_upd (fun b hb => by rw [hk] at hb; cases hb) hx2]
  refine wd_carry h.wd (fun k o ho hc => ?_) (fun k hk => ?_) rfl rfl rfl (by simp) (Nat.le_refl _)
  ·refine (World.putObj_heap_other ?_).trans ho
   rintro rfl; rw [hr] at ho; cases ho; cases hc
  ·refine World.putObj_heap_other ?_
   rintro rfl; exact hz hk, fun i o hi hn => ?_, fun i i' oi oj q q' hi hj hni hnj hq hq' he => ?_⟩
 ·by_cases hij : i = j
  ·subst hij
   rw [upd_same] at hi
   rcases hx with rfl | ⟨lb', rfl, ho⟩
   ·cases hi
   ·cases hi; exact ⟨p, hp, ho, hz⟩
  ·rw [upd_other hij] at hi
   obtain ⟨q, hq, ho, hqz⟩ := h.ob i o hi hn
   refine ⟨q, hq, ho.mono (.refl _) (.refl _) (World.putObj_heap_other ?_), hqz⟩
   intro he
   exact hij (h.inj i j o _ q p hi hk hn rfl hq hp he)
 ·have key : ∀ {t : Nat} {o : Ob}, upd K j x t = some o → o.nb = true → ∃ o', K t = some o' ∧ o'.nb = true := fun {t o} ht hn => by
   by_cases hij : t = j
   ·subst hij; exact ⟨_, hk, rfl⟩
   ·rw [upd_other hij] at ht; exact ⟨o, ht, hn⟩
  obtain ⟨o1, g1, g2⟩ := key hi hni
  obtain ⟨o2, g3, g4⟩ := key hj hnj
  exact h.inj i i' o1 o2 q q' g1 g3 g2 g4 hq hq' he
theorem alloc_old (w : World) (o : Obj) {k : Nat} (hk : k < w.heap.size) : (w.alloc o).heap[k]? = w.heap[k]? := heap_alloc_old w o hk
theorem alloc_at {w : World} {o x : Obj} {k : Nat} (h : w.heap[k]? = some x) : (w.alloc o).heap[k]? = some x := (alloc_old w o (Array.getElem?_eq_some_iff.1 h).1).trans h
theorem Wz.laid (h : Wz W K I R w) {j : Nat} (hI : I j = none) (hK : K j = none) {lb : LB} {rc : Loop} (ho : LoopOk (Wx.ext I j ⟨w.heap.size, 0, 0⟩) R lb ⟨w.heap.size, 0, 0⟩ (w.alloc (.loop rc))) :
  Wz W (upd K j (some (.l lb))) (Wx.ext I j ⟨w.heap.size, 0, 0⟩) R (w.alloc (.loop rc)) := by
 have hIe : IExt I (Wx.ext I j ⟨w.heap.size, 0, 0⟩) := .ext hI
 have hlt : ∀ {i : Nat} {o : Ob} {p : Loc}, K i = some o → (Wx.ext I j ⟨w.heap.size, 0, 0⟩) i = some p → I i = some p := fun {i o p} hk hp => by
  unfold Wx.ext at hp
  split at hp
  ·rename_i he; subst he; rw [hK] at hk; cases hk
  ·exact hp
 have hwd : Wd W (blkOf K) (Wx.ext I j ⟨w.heap.size, 0, 0⟩) R w := by
  have hb : ∀ {i : Nat} {b : Blk}, blkOf K i = some b → ∀ {p : Loc}, (Wx.ext I j ⟨w.heap.size, 0, 0⟩) i = some p → I i = some p := fun hb _ hp => hlt (blkOf_some hb) hp
  exact { h.wd with
   blk := fun i b hi => by obtain ⟨p, hp, hk⟩ := h.wd.blk i b hi; exact ⟨p, hIe _ _ hp, hk.mono hIe (.refl _) rfl⟩
   inj := fun i i' bi bj p q hi hj hp hq he => h.wd.inj i i' bi bj p q hi hj (hb hi hp) (hb hj hq) he
   base := fun i b p hi hp => h.wd.base i b p hi (hb hi hp)
   apart := fun i b p f o hi hp => h.wd.apart i b p f o hi (hb hi hp) }
 refine ⟨by
  rw [blkOf_upd (fun b hb => by rw [hK] at hb; cases hb) (fun b hb => by cases hb)]
  exact hwd.grow ((Bel.refl _ w).alloc (Nat.le_refl _) _), fun i o hi hn => ?_, fun i i' oi oj q q' hi hj hni hnj hq hq' he => ?_⟩
 ·by_cases hij : i = j
  ·subst hij
   rw [upd_same] at hi; cases hi
   refine ⟨⟨w.heap.size, 0, 0⟩, by simp [Wx.ext], ho, fun hz => ?_⟩
   have := h.wd.below.lt hz
   simp at this
  ·rw [upd_other hij] at hi
   obtain ⟨q, hq, hoo, hqz⟩ := h.ob i o hi hn
   exact ⟨q, hIe _ _ hq, hoo.mono hIe (.refl _) (alloc_old w _ (h.lt hi hq)), hqz⟩
 ·have key : ∀ {t : Nat} {o : Ob} {p : Loc}, upd K j (some (.l lb)) t = some o → (Wx.ext I j ⟨w.heap.size, 0, 0⟩) t = some p → (t = j ∧ p.b = w.heap.size) ∨ (K t = some o ∧ I t = some p ∧ p.b < w.heap.size) := fun {t o p} ht hp => by
   by_cases hij : t = j
   ·subst hij
    simp only [Wx.ext, if_true, Option.some.injEq] at hp
    subst hp
    exact .inl ⟨rfl, rfl⟩
   ·rw [upd_other hij] at ht
    exact .inr ⟨ht, hlt ht hp, h.lt ht (hlt ht hp)⟩
  rcases key hi hq with ⟨g1, g2⟩ | ⟨g1, g2, g3⟩ <;> rcases key hj hq' with ⟨k1, k2⟩ | ⟨k1, k2, k3⟩
  ·exact g1.trans k1.symm
  ·omega
  ·omega
  ·exact h.inj i i' oi oj q q' g1 k1 hni hnj g2 k2 he
def mkW (W : Wo) (ds : List Deferred) (w : World) : Wo := ⟨w, fun k => W.z k ∨ ∃ d ∈ ds, d.target = .collected k, W.q⟩
theorem Mk.at : ∀ {ds : List Deferred}, Mk W ds w → ∀ d ∈ ds, ∀ D, d.target = .collected D → w.heap[D]? = some (.deferred (some [])) ∧ ¬ W.z D
 | [], _, d, hd, _, _ => by cases hd
 | e :: ds, ⟨⟨D, h1, h2, h3, _⟩, h5⟩, d, hd, D', ht => by
  rcases List.mem_cons.1 hd with rfl | hd
  ·rw [h1] at ht; cases ht; exact ⟨h2, h3⟩
  ·exact Mk.at h5 d hd D' ht
theorem Wz.mk' (h : Wz W K I R w) {ds : List Deferred} (hm : Mk W ds w) : Wz (mkW W ds w) K I R w := by
 have hdef : ∀ {k : Nat}, (∃ d ∈ ds, d.target = .collected k) → w.heap[k]? = some (.deferred (some [])) := fun {k} ⟨d, h1, h2⟩ => (hm.at d h1 k h2).1
 refine ⟨{ h.wd with
  base := fun i b p hi hp hz => by
   rcases hz with hz | hz
   ·exact h.wd.base i b p hi hp hz
   ·obtain ⟨p', hp', hk⟩ := h.wd.blk i b hi
    rw [hp] at hp'; cases hp'
    obtain ⟨cs, hc, _⟩ := hk.mem
    rw [hdef hz] at hc; cases hc
  fresh := fun b o u hu hz => by
   rcases hz with hz | hz
   ·exact h.wd.fresh b o u hu hz
   ·obtain ⟨x, hx, hc⟩ := cells_of_cell (h.wd.ro true b o u hu)
    simp only at hx
    rw [hdef hz] at hx; cases hx; cases hc
  below := ⟨rfl, rfl, rfl, Nat.le_refl _, fun k hk => ⟨by
   rcases hk with hk | hk
   ·exact h.wd.below.lt hk
   ·exact (Array.getElem?_eq_some_iff.1 (hdef hk)).1, rfl⟩, Nat.le_refl _⟩
  out := h.wd.out
  qz := fun k hk => .inl (h.wd.qz k hk) }, fun i o hi hn => ?_, h.inj⟩
 obtain ⟨p, hp, ho, hz⟩ := h.ob i o hi hn
 refine ⟨p, hp, ho, fun hz' => ?_⟩
 rcases hz' with hz' | hz'
 ·exact hz hz'
 ·have := hdef hz'
  cases o with
  | b x => cases hn
  | m es => obtain ⟨_, h1, _⟩ := ho.mem; rw [h1] at this; cases this
  | l x => obtain ⟨_, h1, _⟩ := ho.mem; rw [h1] at this; cases this
  | i x => obtain ⟨_, _, h1⟩ := ho.mem; rw [h1] at this; cases this
theorem Wz.un {K' : Nat → Option Ob} {I' : IM} {R' : RM} {w' : World} (h : Wz W K I R w) {ds : List Deferred} (hm : Mk W ds w) (h' : Wz (mkW W ds w) K' I' R' w') : Wz W K' I' R' w' ∧ Mk W ds w' := by
 have hb : ∀ k, (mkW W ds w).z k → w'.heap[k]? = w.heap[k]? := fun k hk => (h'.wd.below.block k hk).2
 refine ⟨⟨{ h'.wd with
  base := fun i b p hi hp hz => h'.wd.base i b p hi hp (.inl hz)
  fresh := fun b o u hu hz => h'.wd.fresh b o u hu (.inl hz)
  below := ⟨h'.wd.below.os.trans h.wd.below.os, h'.wd.below.tape.trans h.wd.below.tape, h'.wd.below.output.trans h.wd.below.output, Nat.le_trans h.wd.below.size h'.wd.below.size, fun k hk => ⟨(h.wd.below.block k hk).1, (hb k (.inl hk)).trans (h.wd.below.block k hk).2⟩, Nat.le_trans h.wd.below.drawn h'.wd.below.drawn⟩
  out := h'.wd.out
  qz := h.wd.qz }, fun i o hi hn => ?_, h'.inj⟩, ?_⟩
 ·obtain ⟨p, hp, ho, hz⟩ := h'.ob i o hi hn
  exact ⟨p, hp, ho, fun hz' => hz (.inl hz')⟩
 ·have : ∀ (es : List Deferred), (∀ d ∈ es, d ∈ ds) → Mk W es w → Mk W es w' := by
   intro es
   induction es with
   | nil => intro _ _; trivial
   | cons d es ih =>
    rintro hs ⟨⟨D, h1, h2, h3, h4⟩, h5⟩
    exact ⟨⟨D, h1, (hb D (.inr ⟨d, hs d List.mem_cons_self, h1⟩)).trans h2, h3, h4⟩, ih (fun e he => hs e (List.mem_cons_of_mem _ he)) h5⟩
  exact this ds (fun _ h => h) hm
end
def Ups (P : Program) (v : Value) (args : Array Value) (w : World) (R : Ending → World → Prop) : Prop :=
 (∃ g fs us, v = .func (.func g) fs us ∧ fnB P g = true ∧ Calls P g (fs ++ args ++ us) w R) ∨
 (∃ l f tmps assign body, v = .func (.yield l) #[] #[] ∧ (Instr.yield l args).run P w = .ok (.round l f tmps assign body) w ∧ RoundIn (fr none) 0 P l f tmps assign body w R)
theorem Ups.mono {P : Program} {v : Value} {args : Array Value} {w : World} {R R' : Ending → World → Prop} (h : Ups P v args w R) (hr : ∀ e w', R e w' → R' e w') : Ups P v args w R' := by
 rcases h with ⟨g, fs, us, h1, h2, h3⟩ | ⟨l, f, t, a, b, h1, h2, h3⟩
 ·exact .inl ⟨g, fs, us, h1, h2, h3.mono hr⟩
 ·exact .inr ⟨l, f, t, a, b, h1, h2, h3.mono hr⟩
theorem ups_op {P : Program} {r : Option Nat} {a : Act} {w : World} {dst : Option Tmp} {f : Operand} {xs : Array Operand} {ts : Array TypeId} {ty : TypeId} {pos : String} {after : Array Edge} {guard : Option (Nat × Bool)} {R : Ending → World → Prop} (h : Ups P (a.eval f) (xs.toList.map a.eval).toArray w R)
  {next : Act → World → Prop} {Q : Exit → Act → World → Prop} (hn : ∀ e w', R e w' → ∃ u, e = .returned u ∧ next (a.put dst u) w') : (Oper.mk dst (.call ⟨.value f, xs, ts⟩) ty pos after guard).wpIn (fr r) 0 P a w next Q := by
 refine ⟨fun _ _ => trivial, ?_⟩
 rw [show (fr r).round = r from rfl, Oper.semAt_eq _ _ _ (fun c hc => by cases hc)]
 have hxs : xs.map a.eval = (xs.toList.map a.eval).toArray := by apply Array.ext'; simp
 rcases h with ⟨g, fs, us, hv, h1, h2⟩ | ⟨l, fn, t, asx, b, hv, h1, h2⟩
 ·have hrun : (execOp a.eval ⟨dst, .call ⟨.value f, xs, ts⟩, ty, pos, after, guard⟩).run P w = .ok (.enter g (fs ++ (xs.toList.map a.eval).toArray ++ us)) w := by
   simp only [execOp]
   rw [Sem.run_bind]
   simp [resolve, hv, Deferred.ofValue, invoke, fnB_call h1, hxs]
  rw [hrun]
  refine ⟨fun hh => (by cases hh), calls_fr (h2.mono ?_)⟩
  intro e w' he
  obtain ⟨u, rfl, hu⟩ := hn e w' he
  exact hu
 ·have hrun : (execOp a.eval ⟨dst, .call ⟨.value f, xs, ts⟩, ty, pos, after, guard⟩).run P w = .ok (.round l fn t asx b) w := by
   simp only [execOp]
   rw [Sem.run_bind]
   simp [resolve, hv, Deferred.ofValue, invoke, hxs, h1]
  rw [hrun]
  refine ⟨fun hh => (by cases hh), ?_⟩
  have h3 : RoundIn (fr r) 0 P l fn t asx b w R := h2
  refine h3.mono ?_
  intro e w' he
  obtain ⟨u, rfl, hu⟩ := hn e w' he
  exact hu
def UpsX (P : Program) (v : Value) (args : Array Value) (w : World) (R : Ending → World → Prop) : Prop :=
 Ups P v args w R ∨ ∃ g u a la ca b lb cb, v = .func (.func g) #[] #[] ∧ args = #[.slice a la ca, .slice b lb cb] ∧ (callFunc g args).run P w = .ok (.value u) w ∧ R (.returned u) w
theorem UpsX.mono {P : Program} {v : Value} {args : Array Value} {w : World} {R R' : Ending → World → Prop} (h : UpsX P v args w R) (hr : ∀ e w', R e w' → R' e w') : UpsX P v args w R' := by
 rcases h with h | ⟨g, u, a, la, ca, b, lb, cb, h1, h2, h3, h4⟩
 ·exact .inl (h.mono hr)
 ·exact .inr ⟨g, u, a, la, ca, b, lb, cb, h1, h2, h3, hr _ _ h4⟩
theorem upsx_op {P : Program} {r : Option Nat} {a : Act} {w : World} {dst : Option Tmp} {f : Operand} {xs : Array Operand} {ts : Array TypeId} {ty : TypeId} {pos : String} {after : Array Edge} {guard : Option (Nat × Bool)} {R : Ending → World → Prop} (h : UpsX P (a.eval f) (xs.toList.map a.eval).toArray w R)
  {next : Act → World → Prop} {Q : Exit → Act → World → Prop} (hn : ∀ e w', R e w' → ∃ u, e = .returned u ∧ next (a.put dst u) w') : (Oper.mk dst (.call ⟨.value f, xs, ts⟩) ty pos after guard).wpIn (fr r) 0 P a w next Q := by
 rcases h with h | ⟨g, u, _, _, _, _, _, _, hv, _, h1, h2⟩
 ·exact ups_op h hn
 ·refine ⟨fun _ _ => trivial, ?_⟩
  rw [show (fr r).round = r from rfl, Oper.semAt_eq _ _ _ (fun c hc => by cases hc)]
  have hxs : xs.map a.eval = (xs.toList.map a.eval).toArray := by apply Array.ext'; simp
  have hrun : (execOp a.eval ⟨dst, .call ⟨.value f, xs, ts⟩, ty, pos, after, guard⟩).run P w = .ok (.value u) w := by
   simp only [execOp]
   rw [Sem.run_bind]
   simp [resolve, hv, Deferred.ofValue, invoke, hxs, h1]
  rw [hrun]
  obtain ⟨u', e1, e2⟩ := hn _ _ h2
  cases e1
  exact e2
def CallE (P : Program) (c : Ce) (avs : List AV) (K : Nat → Option Ob) (top : Nat) (x : AV) (K' : Nat → Option Ob) (top' : Nat) : Prop :=
 top ≤ top' ∧ ∀ (W : Wo) (I : IM) (R : RM) (w : World) (v : Value) (vs : List Value), Wz W K I R w → (∀ j, top ≤ j → I j = none) → All2 (AV.rel I R) avs vs → c.rel I R v →
  Ups P v vs.toArray w fun e w' => ∃ u I' R', e = .returned u ∧ Wz W K' I' R' w' ∧ (∀ j, top' ≤ j → I' j = none) ∧ (∀ j, j < top → I' j = I j) ∧ RExt R R' ∧ x.rel I' R' u
def CallX (P : Program) (c : Ce) (avs : List AV) (K : Nat → Option Ob) (top : Nat) (x : AV) (K' : Nat → Option Ob) (top' : Nat) : Prop :=
 top ≤ top' ∧ ∀ (W : Wo) (I : IM) (R : RM) (w : World) (v : Value) (vs : List Value), Wz W K I R w → (∀ j, top ≤ j → I j = none) → All2 (AV.rel I R) avs vs → c.rel I R v →
  UpsX P v vs.toArray w fun e w' => ∃ u I' R', e = .returned u ∧ Wz W K' I' R' w' ∧ (∀ j, top' ≤ j → I' j = none) ∧ (∀ j, j < top → I' j = I j) ∧ RExt R R' ∧ x.rel I' R' u
theorem CallE.x {P : Program} {c : Ce} {avs : List AV} {K : Nat → Option Ob} {top : Nat} {x : AV} {K' : Nat → Option Ob} {top' : Nat} (h : CallE P c avs K top x K' top') : CallX P c avs K top x K' top' := ⟨h.1, fun W I R w v vs a b d e => .inl (h.2 W I R w v vs a b d e)⟩
def CEff (P : Program) (c : Ce) (avs : List AV) (K0 : Nat → Option Ob) (top : Nat) (e : Eff) : Prop :=
 ∀ (W : Wo) (K : Nat → Option Ob) (I : IM) (R : RM) (w : World) (v : Value) (vs : List Value), Wz W K I R w → All2 (AV.rel I R) avs vs → c.rel I R v → (∀ i ∈ e.rd, K i = K0 i) → (∀ j, top ≤ j → j < e.top → I j = none ∧ K j = none) →
  UpsX P v vs.toArray w fun e' w' => ∃ u I' R', e' = .returned u ∧ Wz W (kup K e.kw) I' R' w' ∧ IExt I I' ∧ (∀ j, ¬ (top ≤ j ∧ j < e.top) → I' j = I j) ∧ RExt R R' ∧ e.av.rel I' R' u
end Go.Proofs.Ytopieffkpdlpbaa.Wx.Y
namespace Go.Proofs.Ytopieffkpdlpbaa.Wx.Y
open Go Go.RowKit Go.MapKept
section
variable {W : Wo} {K : Nat → Option Ob} {I : IM} {R : RM} {w : World}
theorem blk_nb {o : Option Ob} (h : ∀ x, o = some x → x.nb = true) : ∀ b, o ≠ some (.b b) := fun b hb => by
 have := h _ hb; cases this
theorem Wz.putO (h : Wz W K I R w) {j : Nat} {o : Ob} (hk : K j = some o) (hn : o.nb = true) {p : Loc} (hp : I j = some p) {x0 x1 : Obj} (hr : w.heap[p.b]? = some x0) (hc : x0.isCells = false) {o' : Ob} (hn' : o'.nb = true) (ho' : ObOk I R o' p (w.putObj p.b x1)) :
  Wz W (upd K j (some o')) I R (w.putObj p.b x1) := by
 have hz : ¬ W.z p.b := by
  obtain ⟨p', hp', _, hz⟩ := h.ob j _ hk hn
  rw [hp] at hp'; cases hp'; exact hz
 refine ⟨by
  rw [blkOf_upd (blk_nb fun x hx => by rw [hk] at hx; cases hx; exact hn) (blk_nb fun x hx => by cases hx; exact hn')]
  refine wd_carry h.wd (fun k o ho hcc => ?_) (fun k hk => ?_) rfl rfl rfl (by simp) (Nat.le_refl _)
  ·refine (World.putObj_heap_other ?_).trans ho
   rintro rfl; rw [hr] at ho; cases ho; rw [hc] at hcc; cases hcc
  ·refine World.putObj_heap_other ?_
   rintro rfl; exact hz hk, fun i o1 hi hn1 => ?_, fun i i' oi oj q q' hi hj hni hnj hq hq' he => ?_⟩
 ·by_cases hij : i = j
  ·subst hij
   rw [upd_same] at hi
   cases hi; exact ⟨p, hp, ho', hz⟩
  ·rw [upd_other hij] at hi
   obtain ⟨q, hq, ho, hqz⟩ := h.ob i o1 hi hn1
   refine ⟨q, hq, ho.mono (.refl _) (.refl _) (World.putObj_heap_other ?_), hqz⟩
   intro he
   exact hij (h.inj i j o1 _ q p hi hk hn1 hn hq hp he)
 ·have key : ∀ {t : Nat} {o1 : Ob}, upd K j (some o') t = some o1 → o1.nb = true → ∃ o2, K t = some o2 ∧ o2.nb = true := fun {t o1} ht hn1 => by
   by_cases hij : t = j
   ·subst hij; exact ⟨_, hk, hn⟩
   ·rw [upd_other hij] at ht; exact ⟨o1, ht, hn1⟩
  obtain ⟨o1, g1, g2⟩ := key hi hni
  obtain ⟨o2, g3, g4⟩ := key hj hnj
  exact h.inj i i' o1 o2 q q' g1 g3 g2 g4 hq hq' he
theorem Wz.laidO (h : Wz W K I R w) {j : Nat} (hI : I j = none) (hK : K j = none) {o' : Ob} {x : Obj} (hn' : o'.nb = true) (ho' : ObOk (Wx.ext I j ⟨w.heap.size, 0, 0⟩) R o' ⟨w.heap.size, 0, 0⟩ (w.alloc x)) :
  Wz W (upd K j (some o')) (Wx.ext I j ⟨w.heap.size, 0, 0⟩) R (w.alloc x) := by
 have hIe : IExt I (Wx.ext I j ⟨w.heap.size, 0, 0⟩) := .ext hI
 have hlt : ∀ {i : Nat} {o : Ob} {p : Loc}, K i = some o → (Wx.ext I j ⟨w.heap.size, 0, 0⟩) i = some p → I i = some p := fun {i o p} hk hp => by
  unfold Wx.ext at hp
  split at hp
  ·rename_i he; subst he; rw [hK] at hk; cases hk
  ·exact hp
 have hwd : Wd W (blkOf K) (Wx.ext I j ⟨w.heap.size, 0, 0⟩) R w := by
  have hb : ∀ {i : Nat} {b : Blk}, blkOf K i = some b → ∀ {p : Loc}, (Wx.ext I j ⟨w.heap.size, 0, 0⟩) i = some p → I i = some p := fun hb _ hp => hlt (blkOf_some hb) hp
  exact { h.wd with
   blk := fun i b hi => by obtain ⟨p, hp, hk⟩ := h.wd.blk i b hi; exact ⟨p, hIe _ _ hp, hk.mono hIe (.refl _) rfl⟩
   inj := fun i i' bi bj p q hi hj hp hq he => h.wd.inj i i' bi bj p q hi hj (hb hi hp) (hb hj hq) he
   base := fun i b p hi hp => h.wd.base i b p hi (hb hi hp)
   apart := fun i b p f o hi hp => h.wd.apart i b p f o hi (hb hi hp) }
 refine ⟨by
  rw [blkOf_upd (blk_nb fun x hx => by rw [hK] at hx; cases hx) (blk_nb fun x hx => by cases hx; exact hn')]
  exact hwd.grow ((Bel.refl _ w).alloc (Nat.le_refl _) _), fun i o hi hn => ?_, fun i i' oi oj q q' hi hj hni hnj hq hq' he => ?_⟩
 ·by_cases hij : i = j
  ·subst hij
   rw [upd_same] at hi; cases hi
   refine ⟨⟨w.heap.size, 0, 0⟩, by simp [Wx.ext], ho', fun hz => ?_⟩
   have := h.wd.below.lt hz
   simp at this
  ·rw [upd_other hij] at hi
   obtain ⟨q, hq, hoo, hqz⟩ := h.ob i o hi hn
   exact ⟨q, hIe _ _ hq, hoo.mono hIe (.refl _) (alloc_old w _ (h.lt hi hq)), hqz⟩
 ·have key : ∀ {t : Nat} {o : Ob} {p : Loc}, upd K j (some o') t = some o → (Wx.ext I j ⟨w.heap.size, 0, 0⟩) t = some p → (t = j ∧ p.b = w.heap.size) ∨ (K t = some o ∧ I t = some p ∧ p.b < w.heap.size) := fun {t o p} ht hp => by
   by_cases hij : t = j
   ·subst hij
    simp only [Wx.ext, if_true, Option.some.injEq] at hp
    subst hp
    exact .inl ⟨rfl, rfl⟩
   ·rw [upd_other hij] at ht
    exact .inr ⟨ht, hlt ht hp, h.lt ht (hlt ht hp)⟩
  rcases key hi hq with ⟨g1, g2⟩ | ⟨g1, g2, g3⟩ <;> rcases key hj hq' with ⟨k1, k2⟩ | ⟨k1, k2, k3⟩
  ·exact g1.trans k1.symm
  ·omega
  ·omega
  ·exact h.inj i i' oi oj q q' g1 k1 hni hnj g2 k2 he
end
def Ek (I : IM) (R : RM) (e : Value × Nat × A0) (m : MapEntry) : Prop := (m.key = e.1 ∧ m.born = e.2.1) ∧ e.2.2.rel I R m.val
def posE (q : IntKind) (k : Value) : List (Value × Nat × A0) → Nat → Option (Option (Nat × Value × Nat × A0))
 | [], _ => some none
 | e :: r, i => match Instr.sameNow (.int q) k e.1 with
  | some true => some (some (i, e))
  | some false => posE q k r (i + 1)
  | none => none
theorem posE_now {I : IM} {R : RM} {q : IntKind} {k : Value} : ∀ {es : List (Value × Nat × A0)} {l : List MapEntry} {i : Nat}, All2 (Ek I R) es l →
  (posE q k es i = some none → Instr.findNow (.int q) k l i = some none) ∧ ∀ j e, posE q k es i = some (some (j, e)) → ∃ m, Instr.findNow (.int q) k l i = some (some (j, m.val)) ∧ Ek I R e m ∧ i ≤ j ∧ l[j - i]? = some m ∧ es[j - i]? = some e
 | [], [], i, _ => ⟨fun _ => rfl, fun j e h => by cases h⟩
 | e :: es, m :: l, i, h => by
  have hk : m.key = e.1 := h.1.1.1
  simp only [posE, Instr.findNow, hk]
  obtain ⟨h1, h2⟩ := posE_now (q := q) (k := k) (i := i + 1) h.2
  cases Instr.sameNow (.int q) k e.1 with
  | none => exact ⟨fun h => (by cases h), fun j e h => (by cases h)⟩
  | some b => cases b with
   | true => refine ⟨fun h => (by cases h), fun j e' he => ?_⟩
             simp only [Option.some.injEq, Prod.mk.injEq] at he
             obtain ⟨rfl, rfl⟩ := he
             exact ⟨m, rfl, h.1, Nat.le_refl _, by simp, by simp⟩
   | false => refine ⟨h1, fun j e' he => ?_⟩
              obtain ⟨m', g1, g2, g3, g4, g5⟩ := h2 j e' he
              refine ⟨m', g1, g2, by omega, ?_, ?_⟩
              · rw [show j - i = (j - (i + 1)) + 1 by omega]; simpa using g4
              · rw [show j - i = (j - (i + 1)) + 1 by omega]; simpa using g5
 | [], _ :: _, _, h => h.elim
 | _ :: _, [], _, h => h.elim
theorem All2.push {α β : Type} {r : α → β → Prop} : ∀ {l : List α} {m : List β} {a : α} {b : β}, All2 r l m → r a b → All2 r (l ++ [a]) (m ++ [b])
 | [], [], _, _, _, h => ⟨h, trivial⟩
 | _ :: _, _ :: _, _, _, h, h' => ⟨h.1, All2.push h.2 h'⟩
 | [], _ :: _, _, _, h, _ => h.elim
 | _ :: _, [], _, _, h, _ => h.elim
theorem All2.setAt {α β : Type} {r : α → β → Prop} : ∀ {l : List α} {m : List β} {a : α} {b : β} (i : Nat), All2 r l m → r a b → All2 r (l.set i a) (m.set i b)
 | [], [], _, _, _, _, _ => trivial
 | _ :: _, _ :: _, _, _, 0, h, h' => ⟨h', h.2⟩
 | _ :: _, _ :: _, _, _, i + 1, h, h' => ⟨h.1, All2.setAt i h.2 h'⟩
 | [], _ :: _, _, _, _, h, _ => h.elim
 | _ :: _, [], _, _, _, h, _ => h.elim
theorem All2.len {α β : Type} {r : α → β → Prop} : ∀ {l : List α} {m : List β}, All2 r l m → l.length = m.length
 | [], [], _ => rfl
 | _ :: _, _ :: _, h => by simp [All2.len h.2]
 | [], _ :: _, h => h.elim
 | _ :: _, [], h => h.elim
theorem modify_set {es : Array MapEntry} {j : Nat} {m : MapEntry} (h : es.toList[j]? = some m) (f : MapEntry → MapEntry) : (es.modify j f).toList = es.toList.set j (f m) := by
 obtain ⟨l⟩ := es
 simp only at h
 simp only [Array.toList_modify]
 apply List.ext_getElem?
 intro i
 rw [List.getElem?_modify, List.getElem?_set]
 by_cases hi : j = i
 ·subst hi
  have hl := (List.getElem?_eq_some_iff.1 h).1
  have h' : l[j] = m := (List.getElem?_eq_some_iff.1 h).2
  simp [hl, h']
 ·simp [hi]
def zeroA : Value → A0
 | .agg cs => .agg (cs.toList.map .v)
 | v => .one (.v v)
theorem all2_v {I : IM} {R : RM} : ∀ {l : List Value}, All2 (Ce.rel I R) (l.map .v) l
 | [] => trivial
 | _ :: _ => ⟨rfl, all2_v⟩
theorem zeroA_rel {z : Value} {I : IM} {R : RM} : (zeroA z).rel I R z := by
 cases z with
 | agg cs => exact ⟨cs.toList, by simp, all2_v⟩
 | _ => exact rfl
def isK (q : IntKind) : Ce → Option Value
 | .v (.int k a) => match decide (k = q) with
  | true => some (.int k a)
  | false => none
 | _ => none
theorem isK_spec {q : IntKind} {c : Ce} {k : Value} (h : isK q c = some k) : c = .v k ∧ IsKey (.int q) k := by
 unfold isK at h
 split at h
 ·split at h
  ·rename_i hd
   simp only [Option.some.injEq] at h
   subst h
   have := of_decide_eq_true hd
   subst this
   exact ⟨rfl, rfl⟩
  ·cases h
 ·cases h
section
variable {P : Program} {n : Nat} {F : Nat → Option AV} {W : Wo} {K : Nat → Option Ob} {I : IM} {R : RM} {a : Act} {w : World}
theorem St.evM (hs : St n W F K I R a w) {o : Operand} {x : AV} (h : evf F o = some x) : x.rel I R (a.eval o) := by
 have h0 : Wx.St n (stpB W (blkOf K) I R w) F (blkOf K) I R ⟨a.tmps, []⟩ w := ⟨hs.size, rfl, fun t y hy => hs.fr t y hy, wd_step hs.wz.wd⟩
 have := h0.ev h
 have he : (Act.eval a : Operand → Value) = Act.eval ⟨a.tmps, []⟩ := by funext x; cases x <;> rfl
 rw [he]; exact this
theorem op_run {o : Oper} {r : Option Nat} (hnd : ∀ c, o.op ≠ .defer c) {v : Value} {w' : World} (hrun : (execOp a.eval o).run P w = .ok (.value v) w') {next : Act → World → Prop} {Q : Exit → Act → World → Prop} (hn : next (a.put o.dst v) w') : o.wpIn (fr r) 0 P a w next Q :=
 op_in hnd (by unfold Oper.wp; rw [hrun]; exact hn)
end
section
variable {P : Program} {o : Oper} {F0 : Nat → Option AV} {K0 : Nat → Option Ob} {top : Nat}
theorem o_make (t : TypeId) (ho : o.op = .makeMap t none) : OpEff P o F0 K0 top ⟨.c (.mpv top), [], [(top, some (.m ⟨[], 0⟩))], top + 1⟩ := by
 intro r n W F K I R a w hs hx hk hfree hd next Q hn
 obtain ⟨hI, hK⟩ := hfree top (Nat.le_refl _) (by simp)
 have hrun : (execOp a.eval o).run P w = .ok (.value (.map (some w.heap.size))) (w.alloc (.map #[] 0)) := by
  simp [execOp, ho, run_makeMap, Result.andThen]
 refine op_run (fun c hc => by rw [ho] at hc; cases hc) hrun ?_
 have hl := hs.wz.laidO (o' := .m ⟨[], 0⟩) (x := .map #[] 0) hI hK rfl ⟨#[], heap_alloc_new w _, trivial⟩
 refine hn _ R _ _ (St.put hs (.ext hI) (.refl _) hl (hs.mks.mono fun D hD => alloc_old w _ (Array.getElem?_eq_some_iff.1 hD).1) hd ?_) (.ext hI) ?_ (.refl _)
 ·exact ⟨⟨w.heap.size, 0, 0⟩, by simp [Wx.ext], rfl⟩
 ·intro j hj
  unfold Wx.ext
  rw [if_neg]
  rintro rfl
  exact hj ⟨Nat.le_refl _, by simp⟩
theorem mp_at {n : Nat} {W : Wo} {F : Nat → Option AV} {K : Nat → Option Ob} {I : IM} {R : RM} {a : Act} {w : World} (hs : St n W F K I R a w) {m : Operand} {i : Nat} (hm : evf F m = some (.c (.mpv i))) {es : MS} (hk : K i = some (.m es)) :
  ∃ p ents, I i = some p ∧ a.eval m = .map (some p.b) ∧ w.heap[p.b]? = some (.map ents es.c) ∧ All2 (Ek I R) es.es ents.toList ∧ ∀ (es' : MS) (ents' : Array MapEntry), All2 (Ek I R) es'.es ents'.toList → Wz W (upd K i (some (.m es'))) I R (w.putObj p.b (.map ents' es'.c)) ∧ Mk W a.defers (w.putObj p.b (.map ents' es'.c)) := by
 obtain ⟨p, hp, hv⟩ : ∃ p, I i = some p ∧ a.eval m = .map (some p.b) := hs.evM hm
 obtain ⟨p', hp', ho, _⟩ := hs.wz.ob i _ hk rfl
 rw [hp] at hp'; cases hp'
 obtain ⟨ents, h1, h2⟩ := ho.mem
 refine ⟨p, ents, hp, hv, h1, h2, fun es' ents' h3 => ⟨hs.wz.putO hk rfl hp h1 rfl rfl ⟨ents', ?_, h3⟩, hs.mks.mono fun D hD => World.putObj_heap_other ?_⟩⟩
 ·exact World.putObj_heap_same (Array.getElem?_eq_some_iff.1 h1).1
 ·rintro rfl; rw [h1] at hD; cases hD
theorem run_setM {w : World} {r : Nat} {ents : Array MapEntry} {c : Nat} {o' : Obj} (hb : w.heap[r]? = some (.map ents c)) : (setObj r o').run P w = .ok () (w.putObj r o') := run_setObj_map o' hb
theorem same_eq {q : IntKind} {k k' : Value} (h : Instr.sameNow (.int q) k k' = some true) : k = k' := by
 cases k <;> cases k' <;> simp [Instr.sameNow] at h
 obtain ⟨rfl, rfl⟩ := h; rfl
theorem posE_key {q : IntKind} {k : Value} : ∀ {es : List (Value × Nat × A0)} {i j : Nat} {e : Value × Nat × A0}, posE q k es i = some (some (j, e)) → e.1 = k
 | [], _, _, _, h => by cases h
 | x :: es, i, j, e, h => by
  unfold posE at h
  split at h
  ·rename_i hs
   simp only [Option.some.injEq, Prod.mk.injEq] at h
   obtain ⟨_, rfl⟩ := h
   exact (same_eq hs).symm
  ·exact posE_key h
  ·cases h
def updM (q : IntKind) (kv : Value) (a0 : A0) (es : MS) : Option MS :=
 match posE q kv es.es 0 with
 | some none => some ⟨es.es ++ [(kv, es.c, a0)], es.c + 1⟩
 | some (some (j, e)) => some ⟨es.es.set j (kv, e.2.1, a0), es.c⟩
 | none => none
theorem update_run {t kt et : TypeId} {q : IntKind} (ht : P.underlying t = some (.map kt et)) (hq : P.underlying kt = some (.int q)) {kv : Value} (hk : IsKey (.int q) kv) {w : World} {r : Nat} {ents : Array MapEntry} {es es' : MS} (hb : w.heap[r]? = some (.map ents es.c)) {I : IM} {R : RM} (he : All2 (Ek I R) es.es ents.toList) {a0 : A0} {v : Value} (hv : a0.rel I R v) (hu : updM q kv a0 es = some es') :
  ∃ ents', (Instr.mapUpdate t (.map (some r)) kv v).run P w = .ok () (w.putObj r (.map ents' es'.c)) ∧ All2 (Ek I R) es'.es ents'.toList := by
 obtain ⟨h1, h2⟩ := posE_now (q := q) (k := kv) (i := 0) he
 unfold updM at hu
 split at hu
 ·rename_i hp
  simp only [Option.some.injEq] at hu
  subst hu
  refine ⟨ents.push ⟨kv, v, es.c⟩, ?_, ?_⟩
  ·simp [Instr.mapUpdate, run_underlying ht, MapKept.run_getObj_map hb, run_checkKey hq hk, run_findKey hq (h1 hp), run_setM hb, Result.andThen]
  ·simp only [Array.toList_push]; exact All2.push he ⟨⟨rfl, rfl⟩, hv⟩
 ·rename_i j e hp
  simp only [Option.some.injEq] at hu
  subst hu
  obtain ⟨m, g1, g2, g3, g4, g5⟩ := h2 j e hp
  have hkey : m.key = kv := g2.1.1.trans (posE_key hp)
  have hj : ents[j]? = some m := by simpa using g4
  refine ⟨ents.modify j fun x => { x with key := kv, val := v }, ?_, ?_⟩
  ·simp [Instr.mapUpdate, run_underlying ht, MapKept.run_getObj_map hb, run_checkKey hq hk, run_findKey hq g1, hj, hkey, run_keyThatStays hk, run_setM hb, Result.andThen]
  ·rw [modify_set (by simpa using g4)]
   exact All2.setAt j he ⟨⟨rfl, g2.1.2⟩, hv⟩
 ·cases hu
def entM (q : IntKind) (kv : Value) (za : A0) (es : MS) : Option (MS × A0 × Nat) :=
 match posE q kv es.es 0 with
 | some none => some (⟨es.es ++ [(kv, es.c, za)], es.c + 1⟩, za, es.c)
 | some (some (j, e)) => some (⟨es.es.set j (kv, e.2.1, e.2.2), es.c⟩, e.2.2, e.2.1)
 | none => none
theorem entry_run {t kt et : TypeId} {q : IntKind} (ht : P.underlying t = some (.map kt et)) (hq : P.underlying kt = some (.int q)) {kv : Value} (hk : IsKey (.int q) kv) {w : World} {r : Nat} {ents : Array MapEntry} {es es' : MS} (hb : w.heap[r]? = some (.map ents es.c)) {I : IM} {R : RM} (he : All2 (Ek I R) es.es ents.toList) {za a1 : A0} {z : Value} (hz : (zeroValue et).run P w = .ok z w) (hv : za.rel I R z) {b : Nat} (hu : entM q kv za es = some (es', a1, b)) :
  ∃ ents' v, (Instr.mapEntry t (.map (some r)) kv).run P w = .ok (.tuple #[v, goInt b]) (w.putObj r (.map ents' es'.c)) ∧ a1.rel I R v ∧ All2 (Ek I R) es'.es ents'.toList := by
 obtain ⟨h1, h2⟩ := posE_now (q := q) (k := kv) (i := 0) he
 unfold entM at hu
 split at hu
 ·rename_i hp
  simp only [Option.some.injEq, Prod.mk.injEq] at hu
  obtain ⟨rfl, rfl, rfl⟩ := hu
  refine ⟨ents.push ⟨kv, z, es.c⟩, z, ?_, hv, ?_⟩
  ·simp [Instr.mapEntry, run_underlying ht, MapKept.run_getObj_map hb, run_checkKey hq hk, run_findKey hq (h1 hp), hz, run_setM hb, Result.andThen]
  ·simp only [Array.toList_push]; exact All2.push he ⟨⟨rfl, rfl⟩, hv⟩
 ·rename_i j e hp
  simp only [Option.some.injEq, Prod.mk.injEq] at hu
  obtain ⟨rfl, rfl, rfl⟩ := hu
  obtain ⟨m, g1, g2, g3, g4, g5⟩ := h2 j e hp
  have hkey : m.key = kv := g2.1.1.trans (posE_key hp)
  have hj : ents[j]? = some m := by simpa using g4
  refine ⟨ents.modify j fun x => { x with key := kv }, m.val, ?_, g2.2, ?_⟩
  ·simp [Instr.mapEntry, run_underlying ht, MapKept.run_getObj_map hb, run_checkKey hq hk, run_findKey hq g1, hj, hkey, run_keyThatStays hk, run_setM hb, Result.andThen, g2.1.2]
  ·rw [modify_set (by simpa using g4)]
   exact All2.setAt j he ⟨⟨rfl, g2.1.2⟩, g2.2⟩
 ·cases hu
def stE (s : Int) : List (Value × Nat × A0) → Nat → Option Nat
 | [], _ => none
 | e :: r, i => match decide ((e.2.1 : Int) = s) with
  | true => some i
  | false => stE s r (i + 1)
theorem stE_find {I : IM} {R : RM} {s : Int} : ∀ {es : List (Value × Nat × A0)} {l : List MapEntry} {i j : Nat}, All2 (Ek I R) es l → stE s es i = some j → i ≤ j ∧ l.findIdx? (fun e => (e.born : Int) == s) = some (j - i) ∧ ∃ e m, es[j - i]? = some e ∧ l[j - i]? = some m ∧ Ek I R e m
 | [], [], _, _, _, h => by cases h
 | e :: es, m :: l, i, j, h, hs => by
  have hb : m.born = e.2.1 := h.1.1.2
  unfold stE at hs
  split at hs
  ·rename_i hd
   have hd := of_decide_eq_true hd
   simp only [Option.some.injEq] at hs
   subst hs
   exact ⟨Nat.le_refl _, by simp [List.findIdx?_cons, hb, hd], e, m, by simp, by simp, h.1⟩
  ·rename_i hd
   have hd := of_decide_eq_false hd
   obtain ⟨h1, h2, e', m', h3, h4, h5⟩ := stE_find h.2 hs
   have hj : j - i = (j - (i + 1)) + 1 := by omega
   refine ⟨by omega, ?_, e', m', by rw [hj]; simpa using h3, by rw [hj]; simpa using h4, h5⟩
   rw [hj, List.findIdx?_cons]
   simp [hb, hd, h2]
 | [], _ :: _, _, _, h, _ => h.elim
 | _ :: _, [], _, _, h, _ => h.elim
def putM (s : Int) (a0 : A0) (es : MS) : Option MS :=
 match stE s es.es 0 with
 | some j => match es.es[j]? with
  | some e => some ⟨es.es.set j (e.1, e.2.1, a0), es.c⟩
  | none => none
 | none => none
theorem entryStore_run {t : TypeId} {w : World} {r : Nat} {ents : Array MapEntry} {es es' : MS} (hb : w.heap[r]? = some (.map ents es.c)) {I : IM} {R : RM} (he : All2 (Ek I R) es.es ents.toList) {k : IntKind} {s : Int} {a0 : A0} {v : Value} (hv : a0.rel I R v) (hu : putM s a0 es = some es') :
  ∃ ents', (Instr.entryStore t (.map (some r)) (.int k s) v).run P w = .ok () (w.putObj r (.map ents' es'.c)) ∧ All2 (Ek I R) es'.es ents'.toList := by
 unfold putM at hu
 split at hu
 ·rename_i j hj
  split at hu
  ·rename_i e hee
   simp only [Option.some.injEq] at hu
   subst hu
   obtain ⟨_, h2, e', m, h3, h4, h5⟩ := stE_find he hj
   simp only [Nat.sub_zero] at h2 h3 h4
   rw [hee] at h3; cases h3
   have h2' : ents.findIdx? (fun e => (e.born : Int) == s) = some j := by rw [← h2]; obtain ⟨l⟩ := ents; simp
   refine ⟨ents.modify j fun x => { x with val := v }, ?_, ?_⟩
   ·simp [Instr.entryStore, MapKept.run_getObj_map hb, asInt, asIntOf, h2', run_setM hb, Result.andThen]
   ·rw [modify_set h4]
    exact All2.setAt j he ⟨h5.1, hv⟩
  ·cases hu
 ·cases hu
def lookAv (cm : Bool) (a : A0) (ok : Bool) : AV := match cm with | true => .tup [a, .one (.v (.bool ok))] | false => .pl a
def lookM (q : IntKind) (kv : Value) (za : A0) (es : List (Value × Nat × A0)) : Option (A0 × Bool) :=
 match posE q kv es 0 with
 | some none => some (za, false)
 | some (some (_, e)) => some (e.2.2, true)
 | none => none
theorem lookup_run {t kt et : TypeId} {q : IntKind} (ht : P.underlying t = some (.map kt et)) (hq : P.underlying kt = some (.int q)) {kv : Value} (hk : IsKey (.int q) kv) {w : World} {r : Nat} {ents : Array MapEntry} {c : Nat} {es : List (Value × Nat × A0)} (hb : w.heap[r]? = some (.map ents c)) {I : IM} {R : RM} (he : All2 (Ek I R) es ents.toList) {za a1 : A0} {z : Value} (hz : (zeroValue et).run P w = .ok z w) (hv : za.rel I R z) {ok : Bool} (hu : lookM q kv za es = some (a1, ok)) (cm : Bool) :
  ∃ v, (Instr.lookup t (.map (some r)) kv cm).run P w = .ok (if cm then .tuple #[v, .bool ok] else v) w ∧ a1.rel I R v := by
 obtain ⟨h1, h2⟩ := posE_now (q := q) (k := kv) (i := 0) he
 unfold lookM at hu
 split at hu
 ·rename_i hp
  simp only [Option.some.injEq, Prod.mk.injEq] at hu
  obtain ⟨rfl, rfl⟩ := hu
  exact ⟨z, by simp [Instr.lookup, run_underlying ht, MapKept.run_getObj_map hb, run_checkKey hq hk, run_findKey hq (h1 hp), hz, Result.andThen], hv⟩
 ·rename_i j e hp
  simp only [Option.some.injEq, Prod.mk.injEq] at hu
  obtain ⟨rfl, rfl⟩ := hu
  obtain ⟨m, g1, g2, g3, g4, g5⟩ := h2 _ _ hp
  exact ⟨m.val, by simp [Instr.lookup, run_underlying ht, MapKept.run_getObj_map hb, run_checkKey hq hk, run_findKey hq g1, Result.andThen], g2.2⟩
 ·cases hu
theorem lookup_nil {t kt et : TypeId} {q : IntKind} (ht : P.underlying t = some (.map kt et)) (hq : P.underlying kt = some (.int q)) {kv : Value} (hk : IsKey (.int q) kv) {w : World} {z : Value} (hz : (zeroValue et).run P w = .ok z w) (cm : Bool) :
  (Instr.lookup t (.map none) kv cm).run P w = .ok (if cm then .tuple #[z, .bool false] else z) w := by
 have h1 : Instr.findNow (.int q) kv [] 0 = some none := rfl
 simp [Instr.lookup, run_underlying ht, run_checkKey hq hk, run_findKey hq h1, hz, Result.andThen]
theorem zero_run {et : TypeId} {inf : TypeInfo} {z : Value} (hinf : P.info? et = some inf) (hz : inf.zero = some z) {w : World} : (zeroValue et).run P w = .ok z w := by simp [zeroValue, typeInfo, hinf, hz]
theorem o_write {ti : TI} {i : Nat} {es es' : MS} {av : AV} (hnd : ∀ c, o.op ≠ .defer c) (m : Operand) (hm : evf F0 m = some (.c (.mpv i))) (hmem : m ∈ o.op.operands.toList) (hk : K0 i = some (.m es))
  (hrun : ∀ (n : Nat) (W : Wo) (F : Nat → Option AV) (K : Nat → Option Ob) (I : IM) (R : RM) (a : Act) (w : World), St n W F K I R a w → (∀ x ∈ o.op.operands.toList, evf F x = evf F0 x) → ∀ (p : Loc) (ents : Array MapEntry), a.eval m = .map (some p.b) → w.heap[p.b]? = some (.map ents es.c) → All2 (Ek I R) es.es ents.toList →
   ∃ ents' v nx, (execOp a.eval o).run P w = .ok nx (w.putObj p.b (.map ents' es'.c)) ∧ (nx = .value v ∨ (nx = .skip ∧ v = undef)) ∧ All2 (Ek I R) es'.es ents'.toList ∧ av.rel I R v) :
  OpEff P o F0 K0 top ⟨av, [i], [(i, some (.m es'))], top⟩ := by
 intro r n W F K I R a w hs hx hkk hfree hd next Q hn
 obtain ⟨p, ents, h1, h2, h3, h4, h5⟩ := mp_at hs ((hx m hmem).trans hm) ((hkk i (by simp)).trans hk)
 obtain ⟨ents', v, nx, g1, g2, g3, g4⟩ := hrun n W F K I R a w hs hx p ents h2 h3 h4
 obtain ⟨k1, k2⟩ := h5 es' ents' g3
 have hfin : next (a.put o.dst v) (w.putObj p.b (.map ents' es'.c)) := hn I R _ _ (St.put hs (.refl _) (.refl _) k1 k2 hd g4) (.refl _) (fun _ _ => rfl) (.refl _)
 refine op_in hnd ?_
 unfold Oper.wp; rw [g1]
 rcases g2 with rfl | ⟨rfl, rfl⟩
 ·exact hfin
 ·exact hfin
theorem o_read {i : Nat} {es : MS} {av : AV} (hnd : ∀ c, o.op ≠ .defer c) (m : Operand) (hm : evf F0 m = some (.c (.mpv i))) (hmem : m ∈ o.op.operands.toList) (hk : K0 i = some (.m es))
  (hrun : ∀ (n : Nat) (W : Wo) (F : Nat → Option AV) (K : Nat → Option Ob) (I : IM) (R : RM) (a : Act) (w : World), St n W F K I R a w → (∀ x ∈ o.op.operands.toList, evf F x = evf F0 x) → ∀ (p : Loc) (ents : Array MapEntry), a.eval m = .map (some p.b) → w.heap[p.b]? = some (.map ents es.c) → All2 (Ek I R) es.es ents.toList →
   ∃ v, (execOp a.eval o).run P w = .ok (.value v) w ∧ av.rel I R v) :
  OpEff P o F0 K0 top ⟨av, [i], [], top⟩ := by
 intro r n W F K I R a w hs hx hkk hfree hd next Q hn
 obtain ⟨p, ents, h1, h2, h3, h4, h5⟩ := mp_at hs ((hx m hmem).trans hm) ((hkk i (by simp)).trans hk)
 obtain ⟨v, g1, g4⟩ := hrun n W F K I R a w hs hx p ents h2 h3 h4
 exact op_run hnd g1 (hn I R _ _ (St.put hs (.refl _) (.refl _) hs.wz hs.mks hd g4) (.refl _) (fun _ _ => rfl) (.refl _))
theorem o_update (t : TypeId) (m k x : Operand) (ho : o.op = .mapUpdate t m k x ∨ o.op = .insert t m k x) {ti : TI} (ht : tiOf P t = some ti) {kt et : TypeId} {q : IntKind} {z : Value} (hmp : ti.mp = some (kt, et, q, z)) {i : Nat} {es es' : MS} {c : Ce} {kv : Value} {a0 : A0} (hm : evf F0 m = some (.c (.mpv i))) (hk : K0 i = some (.m es)) (hkv : evf F0 k = some (.pl (.one c))) (hc : isK q c = some kv) (hx : evf F0 x = some (.pl a0)) (hu : updM q kv a0 es = some es') : OpEff P o F0 K0 top ⟨.val undef, [i], [(i, some (.m es'))], top⟩ := by
 obtain ⟨h1, h2, _⟩ := tiOf_mp ht hmp
 obtain ⟨rfl, hik⟩ := isK_spec hc
 refine o_write (ti := ti) (fun c hc => by rcases ho with ho | ho <;> (rw [ho] at hc; cases hc)) m hm (by rcases ho with ho | ho <;> simp [ho, Op.operands]) hk fun n W F K I R a w hs hxx p ents e1 e2 e3 => ?_
 have ek : a.eval k = kv := hs.evM ((hxx k (by rcases ho with ho | ho <;> simp [ho, Op.operands])).trans hkv)
 have ex : a0.rel I R (a.eval x) := hs.evM ((hxx x (by rcases ho with ho | ho <;> simp [ho, Op.operands])).trans hx)
 obtain ⟨ents', g1, g2⟩ := update_run h1 h2 hik e2 e3 ex hu
 exact ⟨ents', undef, .skip, by rcases ho with ho | ho <;> simp [execOp, ho, e1, ek, g1, Result.andThen], .inr ⟨rfl, rfl⟩, g2, rfl⟩
theorem o_entry (t : TypeId) (m k : Operand) (ho : o.op = .mapEntry t m k) {ti : TI} (ht : tiOf P t = some ti) {kt et : TypeId} {q : IntKind} {z : Value} (hmp : ti.mp = some (kt, et, q, z)) {i : Nat} {es es' : MS} {c : Ce} {kv : Value} {a1 : A0} {b : Nat} (hm : evf F0 m = some (.c (.mpv i))) (hk : K0 i = some (.m es)) (hkv : evf F0 k = some (.pl (.one c))) (hc : isK q c = some kv) (hu : entM q kv (zeroA z) es = some (es', a1, b)) : OpEff P o F0 K0 top ⟨.tup [a1, .one (.v (.int .i64 b))], [i], [(i, some (.m es'))], top⟩ := by
 obtain ⟨h1, h2, inf, h3, h4⟩ := tiOf_mp ht hmp
 obtain ⟨rfl, hik⟩ := isK_spec hc
 refine o_write (ti := ti) (fun c hc => by rw [ho] at hc; cases hc) m hm (by simp [ho, Op.operands]) hk fun n W F K I R a w hs hxx p ents e1 e2 e3 => ?_
 have ek : a.eval k = kv := hs.evM ((hxx k (by simp [ho, Op.operands])).trans hkv)
 obtain ⟨ents', v, g1, g2, g3⟩ := entry_run h1 h2 hik e2 e3 (zero_run h3 h4) zeroA_rel hu
 exact ⟨ents', .tuple #[v, goInt b], .value _, by simp [execOp, ho, e1, ek, g1, Result.andThen], .inl rfl, g3, [v, goInt b], rfl, g2, rfl, trivial⟩
theorem o_entryStore (t : TypeId) (m s x : Operand) (ho : o.op = .entryStore t m s x) {i : Nat} {es es' : MS} {k : IntKind} {b : Int} {a0 : A0} (hm : evf F0 m = some (.c (.mpv i))) (hk : K0 i = some (.m es)) (hkv : evf F0 s = some (.c (.v (.int k b)))) (hx : evf F0 x = some (.pl a0)) (hu : putM b a0 es = some es') : OpEff P o F0 K0 top ⟨.val undef, [i], [(i, some (.m es'))], top⟩ := by
 refine o_write (ti := ⟨false, 0, [], [], none, none, none, none, false, none, 0⟩) (fun c hc => by rw [ho] at hc; cases hc) m hm (by simp [ho, Op.operands]) hk fun n W F K I R a w hs hxx p ents e1 e2 e3 => ?_
 have ek : a.eval s = .int k b := hs.evM ((hxx s (by simp [ho, Op.operands])).trans hkv)
 have ex : a0.rel I R (a.eval x) := hs.evM ((hxx x (by simp [ho, Op.operands])).trans hx)
 obtain ⟨ents', g1, g2⟩ := entryStore_run (P := P) (t := t) (k := k) e2 e3 ex hu
 exact ⟨ents', undef, .skip, by simp [execOp, ho, e1, ek, g1, Result.andThen], .inr ⟨rfl, rfl⟩, g2, rfl⟩
theorem o_lookup (t : TypeId) (m k : Operand) (cm : Bool) (ho : o.op = .lookup t m k cm) {ti : TI} (ht : tiOf P t = some ti) {kt et : TypeId} {q : IntKind} {z : Value} (hmp : ti.mp = some (kt, et, q, z)) {i : Nat} {es : MS} {c : Ce} {kv : Value} {a1 : A0} {ok : Bool} (hm : evf F0 m = some (.c (.mpv i))) (hk : K0 i = some (.m es)) (hkv : evf F0 k = some (.pl (.one c))) (hc : isK q c = some kv) (hu : lookM q kv (zeroA z) es.es = some (a1, ok)) : OpEff P o F0 K0 top ⟨lookAv cm a1 ok, [i], [], top⟩ := by
 obtain ⟨h1, h2, inf, h3, h4⟩ := tiOf_mp ht hmp
 obtain ⟨rfl, hik⟩ := isK_spec hc
 refine o_read (fun c hc => by rw [ho] at hc; cases hc) m hm (by simp [ho, Op.operands]) hk fun n W F K I R a w hs hxx p ents e1 e2 e3 => ?_
 have ek : a.eval k = kv := hs.evM ((hxx k (by simp [ho, Op.operands])).trans hkv)
 obtain ⟨v, g1, g2⟩ := lookup_run h1 h2 hik e2 e3 (zero_run h3 h4) zeroA_rel hu cm
 refine ⟨_, by simp [execOp, ho, e1, ek, g1, Result.andThen]; rfl, ?_⟩
 cases cm with
 | true => exact ⟨[v, .bool ok], rfl, g2, rfl, trivial⟩
 | false => exact g2
theorem o_lookupNil (t : TypeId) (m k : Operand) (cm : Bool) (ho : o.op = .lookup t m k cm) {ti : TI} (ht : tiOf P t = some ti) {kt et : TypeId} {q : IntKind} {z : Value} (hmp : ti.mp = some (kt, et, q, z)) {c : Ce} {kv : Value} (hm : evf F0 m = some (.c (.v (.map none)))) (hkv : evf F0 k = some (.pl (.one c))) (hc : isK q c = some kv) : OpEff P o F0 K0 top ⟨lookAv cm (zeroA z) false, [], [], top⟩ := by
 obtain ⟨h1, h2, inf, h3, h4⟩ := tiOf_mp ht hmp
 obtain ⟨rfl, hik⟩ := isK_spec hc
 intro r n W F K I R a w hs hxx hkk hfree hd next Q hn
 have em : a.eval m = .map none := hs.evM ((hxx m (by simp [ho, Op.operands])).trans hm)
 have ek : a.eval k = kv := hs.evM ((hxx k (by simp [ho, Op.operands])).trans hkv)
 have g1 := lookup_nil h1 h2 hik (zero_run (w := w) h3 h4) cm
 refine op_run (v := if cm then .tuple #[z, .bool false] else z) (fun c hc => by rw [ho] at hc; cases hc) (by simp [execOp, ho, em, ek, g1, Result.andThen]) (hn I R _ _ (St.put hs (.refl _) (.refl _) hs.wz hs.mks hd ?_) (.refl _) (fun _ _ => rfl) (.refl _))
 cases cm with
 | true => exact ⟨[z, .bool false], rfl, zeroA_rel, rfl, trivial⟩
 | false => exact zeroA_rel
theorem o_len (t : TypeId) (m : Operand) (ho : o.op = .call ⟨.builtin .len, #[m], #[t]⟩) {ti : TI} (ht : tiOf P t = some ti) {kt et : TypeId} {q : IntKind} {z : Value} (hmp : ti.mp = some (kt, et, q, z)) {i : Nat} {es : MS} (hm : evf F0 m = some (.c (.mpv i))) (hk : K0 i = some (.m es)) : OpEff P o F0 K0 top ⟨.val (.int .i64 es.es.length), [i], [], top⟩ := by
 obtain ⟨h1, h2, _⟩ := tiOf_mp ht hmp
 refine o_read (fun c hc => by rw [ho] at hc; cases hc) m hm (by simp [ho, Op.operands, Call.operands]) hk fun n W F K I R a w hs hxx p ents e1 e2 e3 => ?_
 refine ⟨_, ?_, (rfl : Value.int .i64 (es.es.length : Int) = _)⟩
 have hl : ents.size = es.es.length := by rw [All2.len e3]; simp
 simp only [execOp, ho]
 rw [Sem.run_bind]
 simp [resolve, invoke, builtin, Builtin.len_, e1, run_underlying h1, MapKept.run_getObj_map e2, Result.andThen, hl, goInt]
def opM (T : Tab) (o : Oper) (F : Nat → Option AV) (K : Nat → Option Ob) (top : Nat) : Option Eff :=
 match o.op with
 | .makeMap _ none => some ⟨.c (.mpv top), [], [(top, some (.m ⟨[], 0⟩))], top + 1⟩
 | .mapUpdate t m k x => match tyGet T t, evf F m, evf F k, evf F x with
  | some ti, some (.pl (.one (.mpv i))), some (.pl (.one c)), some (.pl a0) => match ti.mp, K i with
   | some (_, _, q, _), some (.m es) => match isK q c with
    | some kv => match updM q kv a0 es with
     | some es' => some ⟨.val undef, [i], [(i, some (.m es'))], top⟩
     | none => none
    | none => none
   | _, _ => none
  | _, _, _, _ => none
 | .insert t m k x => match tyGet T t, evf F m, evf F k, evf F x with
  | some ti, some (.pl (.one (.mpv i))), some (.pl (.one c)), some (.pl a0) => match ti.mp, K i with
   | some (_, _, q, _), some (.m es) => match isK q c with
    | some kv => match updM q kv a0 es with
     | some es' => some ⟨.val undef, [i], [(i, some (.m es'))], top⟩
     | none => none
    | none => none
   | _, _ => none
  | _, _, _, _ => none
 | .mapEntry t m k => match tyGet T t, evf F m, evf F k with
  | some ti, some (.pl (.one (.mpv i))), some (.pl (.one c)) => match ti.mp, K i with
   | some (_, _, q, z), some (.m es) => match isK q c with
    | some kv => match entM q kv (zeroA z) es with
     | some (es', a1, b) => some ⟨.tup [a1, .one (.v (.int .i64 b))], [i], [(i, some (.m es'))], top⟩
     | none => none
    | none => none
   | _, _ => none
  | _, _, _ => none
 | .entryStore _ m s x => match evf F m, evf F s, evf F x with
  | some (.pl (.one (.mpv i))), some (.pl (.one (.v (.int _ b)))), some (.pl a0) => match K i with
   | some (.m es) => match putM b a0 es with
    | some es' => some ⟨.val undef, [i], [(i, some (.m es'))], top⟩
    | none => none
   | _ => none
  | _, _, _ => none
 | .lookup t m k cm => match tyGet T t, evf F m, evf F k with
  | some ti, some (.pl (.one mc)), some (.pl (.one c)) => match ti.mp with
   | some (_, _, q, z) => match isK q c with
    | some kv => match mc with
     | .mpv i => match K i with
      | some (.m es) => match lookM q kv (zeroA z) es.es with
       | some (a1, ok) => some ⟨lookAv cm a1 ok, [i], [], top⟩
       | none => none
      | _ => none
     | .v (.map none) => some ⟨lookAv cm (zeroA z) false, [], [], top⟩
     | _ => none
    | none => none
   | none => none
  | _, _, _ => none
 | .call c => match c.callee, c.args.toList, c.argTypes.toList with
  | .builtin .len, [m], [t] => match tyGet T t, evf F m with
   | some ti, some (.pl (.one (.mpv i))) => match ti.mp, K i with
    | some _, some (.m es) => some ⟨.val (.int .i64 es.es.length), [i], [], top⟩
    | _, _ => none
   | _, _ => none
  | _, _, _ => none
 | _ => none
theorem opM_sound {T : Tab} (hT : TabOk P T) {K : Nat → Option Ob} {F : Nat → Option AV} {e : Eff} (h : opM T o F K top = some e) : OpEff P o F K top e := by
 obtain ⟨dst, op, ty, pos, after, guard⟩ := o
 unfold opM at h
 dsimp only at h
 split at h
 ·cases h; exact o_make _ rfl
 ·split at h
  ·rename_i ti i c a0 ht hm hk hx
   split at h
   ·rename_i kt et q z es hmp hes
    split at h
    ·rename_i kv hkv
     split at h
     ·rename_i es' hu; cases h; exact o_update _ _ _ _ (.inl rfl) (hT _ _ ht) hmp hm hes hk hkv hx hu
     ·cases h
    ·cases h
   ·cases h
  ·cases h
 ·split at h
  ·rename_i ti i c a0 ht hm hk hx
   split at h
   ·rename_i kt et q z es hmp hes
    split at h
    ·rename_i kv hkv
     split at h
     ·rename_i es' hu; cases h; exact o_update _ _ _ _ (.inr rfl) (hT _ _ ht) hmp hm hes hk hkv hx hu
     ·cases h
    ·cases h
   ·cases h
  ·cases h
 ·split at h
  ·rename_i ti i c ht hm hk
   split at h
   ·rename_i kt et q z es hmp hes
    split at h
    ·rename_i kv hkv
     split at h
     ·rename_i es' a1 b hu; cases h; exact o_entry _ _ _ rfl (hT _ _ ht) hmp hm hes hk hkv hu
     ·cases h
    ·cases h
   ·cases h
  ·cases h
 ·split at h
  ·rename_i i k b a0 hm hs hx
   split at h
   ·rename_i es hes
    split at h
    ·rename_i es' hu; cases h; exact o_entryStore _ _ _ _ rfl hm hes hs hx hu
    ·cases h
   ·cases h
  ·cases h
 ·rename_i t0 m0 k0 cm0
  split at h
  ·rename_i ti mc c ht hm hk
   split at h
   ·rename_i kt et q z hmp
    split at h
    ·rename_i kv hkv
     split at h
     ·rename_i _ i _
      split at h
      ·rename_i es hes
       split at h
       ·rename_i a1 ok hu; cases h; exact o_lookup (o := ⟨dst, _, ty, pos, after, guard⟩) t0 m0 k0 cm0 rfl (hT _ _ ht) hmp hm hes hk hkv hu
       ·cases h
      ·cases h
     ·cases h; exact o_lookupNil (o := ⟨dst, _, ty, pos, after, guard⟩) t0 m0 k0 cm0 rfl (hT _ _ ht) hmp hm hk hkv
     ·cases h
    ·cases h
   ·cases h
  ·cases h
 ·rename_i c
  obtain ⟨callee, args, tys⟩ := c
  obtain ⟨args⟩ := args
  obtain ⟨tys⟩ := tys
  dsimp only at h
  split at h
  ·split at h
   ·rename_i ti i ht hm
    split at h
    ·rename_i x es hmp hes
     obtain ⟨kt, et, q, z⟩ := x
     cases h; exact o_len _ _ rfl (hT _ _ ht) hmp hm hes
    ·cases h
   ·cases h
  ·cases h
 ·cases h
end
end Go.Proofs.Ytopieffkpdlpbaa.Wx.Y
