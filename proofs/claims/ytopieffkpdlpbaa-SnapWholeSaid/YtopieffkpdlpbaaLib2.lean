import Derived.Test.YtopieffkpdlpbaaLib1
import Derived.Scope
import Derived.IntWalk
import Derived.Lib.SliceRun
import Derived.ChangeKeysEq
import Derived.Test.YtopieffkpdlpbaaProg
set_option linter.unusedVariables false
set_option linter.unusedSimpArgs false
namespace Go.Proofs.Ytopieffkpdlpbaa.Wx
open Go Go.RowKit
structure S where
 F : Fr
 K : Kr
 top : Nat
structure spB (b : Bool) (A B : Prop) : Prop where
 t : b = true → A
 f : b = false → B
structure wr (k : IntKind) (z : Int) (A : Int → Prop) : Prop where
 h : ∃ r, k.wrap z = r ∧ A r
structure ixN (j : Int) (m : Nat) (A : Nat → Prop) : Prop where
 h : ∃ j' : Nat, j = (j' : Int) ∧ j' < m ∧ A j'
structure rowN {α : Type} (rows : List α) (q : Nat) (A : α → Prop) : Prop where
 h : ∃ r, rows[q]? = some r ∧ A r
structure vN (z : Int) (A : Int → Prop) : Prop where
 h : ∃ r, z = r ∧ A r
structure nzN (q : Int) (A : Prop) : Prop where
 h : q ≠ 0
 k : A
theorem spB_t {A B : Prop} (h : A) : spB true A B := ⟨fun _ => h, fun h => (by cases h)⟩
theorem spB_yes {b : Bool} {A B : Prop} (hb : b = true) (h : A) : spB b A B := ⟨fun _ => h, fun h => (by rw [hb] at h; cases h)⟩
theorem spB_no {b : Bool} {A B : Prop} (hb : b = false) (h : B) : spB b A B := ⟨fun h => (by rw [hb] at h; cases h), fun _ => h⟩
theorem spB_mk {b : Bool} {A B : Prop} (h1 : b = true → A) (h2 : b = false → B) : spB b A B := ⟨h1, h2⟩
theorem wr_mk {k : IntKind} {z : Int} {A : Int → Prop} (r : Int) (h : k.wrap z = r) (h2 : A r) : wr k z A := ⟨r, h, h2⟩
theorem wr_i64 {z : Int} {A : Int → Prop} (h1 : -9223372036854775808 ≤ z ∧ z ≤ 9223372036854775807) (h2 : A z) : wr .i64 z A := ⟨z, IntWalk.i64_in z h1, h2⟩
theorem ixN_mk {j : Int} {m : Nat} {A : Nat → Prop} (j' : Nat) (h : j = (j' : Int)) (h1 : j' < m) (h2 : A j') : ixN j m A := ⟨j', h, h1, h2⟩
theorem rowN_mk {α : Type} {rows : List α} {q : Nat} {A : α → Prop} (r : α) (h : rows[q]? = some r) (h2 : A r) : rowN rows q A := ⟨r, h, h2⟩
theorem nzN_mk {q : Int} {A : Prop} (h : q ≠ 0) (h2 : A) : nzN q A := ⟨h, h2⟩
def rowB (b : Blk) (q : Nat) (A : List Ce → Prop) : Prop :=
 match b.bx with
 | true => match b.rows, q with
  | [r], 0 => A r
  | _, _ => False
 | false => rowN b.rows q A
def pasOf : List Ce → Option (List Pa)
 | [] => some []
 | .own i q k :: r => match pasOf r with
  | some l => some (.own i q k :: l)
  | none => none
 | .v u :: r => match pasOf r with
  | some l => some (.v u :: l)
  | none => none
 | _ :: _ => none
theorem pasOf_eq : ∀ {cs : List Ce} {l : List Pa}, pasOf cs = some l → cs = l.map Pa.ce
 | [], l, h => by simp only [pasOf, Option.some.injEq] at h; subst h; rfl
 | c :: r, l, h => by
  cases c with
  | own i q k =>
   simp only [pasOf] at h
   split at h
   ·rename_i l' hl; simp only [Option.some.injEq] at h; subst h; rw [pasOf_eq hl]; rfl
   ·cases h
  | v u =>
   simp only [pasOf] at h
   split at h
   ·rename_i l' hl; simp only [Option.some.injEq] at h; subst h; rw [pasOf_eq hl]; rfl
   ·cases h
  | _ => cases h
def ptsOf (F : Nat → Option AV) : List Operand → Option (List Pt)
 | [] => some []
 | x :: r => match evf F x, ptsOf F r with
  | some (.pl (.one (.own i q k))), some l => some (.own i q k :: l)
  | some (.pl (.one (.v u))), some l => some (.v u :: l)
  | some (.pl (.agg cs)), some l => match pasOf cs with
   | some ps => some (.ag ps :: l)
   | none => none
  | _, _ => none
theorem ptsOf_all {F : Nat → Option AV} : ∀ {l : List Operand} {ps : List Pt}, ptsOf F l = some ps → All2 (fun x p => evf F x = some p.asV) l ps
 | [], ps, h => by simp only [ptsOf, Option.some.injEq] at h; subst h; trivial
 | x :: r, ps, h => by
  simp only [ptsOf] at h
  split at h
  ·rename_i i q k l h1 h2
   simp only [Option.some.injEq] at h
   subst h
   exact ⟨h1, ptsOf_all h2⟩
  ·rename_i u l h1 h2
   simp only [Option.some.injEq] at h
   subst h
   exact ⟨h1, ptsOf_all h2⟩
  ·rename_i cs l h1 h2
   split at h
   ·rename_i ps hps
    simp only [Option.some.injEq] at h
    subst h
    exact ⟨show evf F x = some (Pt.asV (.ag ps)) by rw [h1, pasOf_eq hps]; rfl, ptsOf_all h2⟩
   ·cases h
  ·cases h
def eqC : List (Option IntKind) → List Ce → List Ce → Option Bool
 | [], [], [] => some true
 | some k :: r, .v (.int k1 a) :: xs, .v (.int k2 b) :: ys => match decide (k1 = k) && decide (k2 = k) with
  | true => match eqC r xs ys with
   | some t => some ((a == b) && t)
   | none => none
  | false => none
 | none :: r, .v (.bool a) :: xs, .v (.bool b) :: ys => match eqC r xs ys with
  | some t => some ((a == b) && t)
  | none => none
 | _, _, _ => none
def fnB (P : Program) (g : FuncId) : Bool :=
 match P.funcs[g]? with
 | some fn => !(fn.name == "runtime.NumGoroutine") && fn.body.isSome
 | none => false
structure mkN (l c : Int) (bt : Nat) (A : Nat → Nat → Prop) : Prop where
 h : ∃ l' c' : Nat, l = (l' : Int) ∧ c = (c' : Int) ∧ l' ≤ c' ∧ c' ≤ maxLen ∧ bt * c' ≤ 140737488355328 ∧ A l' c'
def nilOf : Ce → Option Bool
 | .v (.slice none _ _) => some true
 | .v (.slice (some _) _ _) => some false
 | .osl _ _ _ _ => some false
 | .gsl _ rows => some rows.isEmpty
 | .ro _ _ (_ :: _) => some false
 | _ => none
structure posN (m : Nat) (A : Prop) : Prop where
 h : 0 < m
 k : A
structure posE (m : Nat) (B A : Prop) : Prop where
 h : (m = 0 ∧ B) ∨ (0 < m ∧ A)
theorem posE_nil {m : Nat} {B A : Prop} (h : m = 0) (k : B) : posE m B A := ⟨.inl ⟨h, k⟩⟩
theorem posE_pos {m : Nat} {B A : Prop} (h : 0 < m) (k : A) : posE m B A := ⟨.inr ⟨h, k⟩⟩
structure eqN {α : Type} (a b : α) (A : Prop) : Prop where
 h : a = b
 k : A
def intOf' (F : Nat → Option AV) : Option Operand → Option (Option Int)
 | none => some none
 | some y => match evf F y with
  | some (.pl (.one (.v (.int _ j)))) => some (some j)
  | _ => none
theorem intOf_spec {F : Nat → Option AV} {o : Option Operand} {r : Option Int} {l d : Nat} (h : intOf' F o = some r) (hl : bnd r l d) : bndo F o l d := by
 cases o with
 | none => simp only [intOf', Option.some.injEq] at h; subst h; exact hl
 | some y =>
  simp only [intOf'] at h
  split at h
  ·rename_i k j hy
   simp only [Option.some.injEq] at h
   subst h
   have hl : j = (l : Int) := hl
   subst hl
   exact ⟨k, hy⟩
  ·cases h
theorem toList_one {α : Type} {a : Array α} {x : α} (h : a.toList = [x]) : a = #[x] := by apply Array.ext'; simpa using h
theorem toList_two {α : Type} {a : Array α} {x y : α} (h : a.toList = [x, y]) : a = #[x, y] := by apply Array.ext'; simpa using h
def opB (P : Program) (T : Tab) (o : Oper) (F : Nat → Option AV) (K : Nat → Option Blk) (top : Nat) (k : Eff → Prop) : Prop :=
 match o.op with
 | .build t ps => match tyGet T t with
  | some ti => match ti.arr, evb F ps.toList with
   | some (m, s, r), some avs => match fillC ((List.range m).map fun i => (i * s, s, r)) (ti.zero.map .v) avs with
    | some out => k ⟨.pl (.agg out), [], [], top⟩
    | none => False
   | _, _ => False
  | none => False
 | .index t x y => match tyGet T t, evf F x, evf F y with
  | some ti, some (.pl (.agg cs)), some (.pl (.one (.v (.int _ j)))) => match ti.arr with
   | some (m, s, r) => ixN j m fun j' => match cut r (j' * s) s cs with
    | some v => k ⟨.pl v, [], [], top⟩
    | none => False
   | none => False
  | some ti, some (.pl (.one (.v (.string p)))), some (.pl (.one (.v (.int _ j)))) => match Nat.beq ti.kd 3 with
   | true => sixN p j fun b => k ⟨.val (.int .u8 b), [], [], top⟩
   | false => False
  | _, _, _ => False
 | .convert s d x => match tyGet T s, tyGet T d, evf F x with
  | some ti, some tj, some (.pl (.one cx)) => match ti.elem, Nat.beq tj.kd 3 with
   | some (e, 1, _), true => match tyGet T e, srcOf K 1 cx with
    | some te, some (src, m, rd) => match te.ikind with
     | some .u8 => strN src m fun xs => k ⟨.val (.string (strOfNums xs)), rd, [], top⟩
     | _ => False
    | _, _ => False
   | _, _ => False
  | _, _, _ => False
 | .binOp op t x y _ => match evf F x, evf F y with
  | some (.pl (.one (.v (.string p)))), some (.pl (.one (.v (.string q)))) => match op with
   | .eql => k ⟨.val (.bool (p.toList == q.toList)), [], [], top⟩
   | .neq => k ⟨.val (.bool (!(p.toList == q.toList))), [], [], top⟩
   | _ => False
  | some (.pl (.one c)), some (.pl (.one (.v (.pointer none)))) => match tyGet T t, ptrNil c, op with
   | some ti, some r, .eql => match Nat.beq ti.kd 4 with
    | true => k ⟨.val (.bool r), [], [], top⟩
    | false => False
   | some ti, some r, .neq => match Nat.beq ti.kd 4 with
    | true => k ⟨.val (.bool (!r)), [], [], top⟩
    | false => False
   | _, _, _ => False
  | _, _ => False
 | .unOp .neg _ x => match evf F x with
  | some (.pl (.one (.v (.int kx p)))) => wr kx (0 - p) fun r => k ⟨.val (.int kx r), [], [], top⟩
  | _ => False
 | .slice t x lo (some hi) (some mx) => match tyGet T t, evf F x, intOf' F lo, evf F hi, evf F mx with
  | some ti, some (.pl (.one (.osl i q m c))), some l, some (.pl (.one (.v (.int _ h)))), some (.pl (.one (.v (.int _ mm)))) => match ti.elem, K i with
   | some (_, s, _), some b => match Nat.beq b.sz s with
    | true => sl3N l h mm m c fun l' h' mm' => k ⟨.c (.osl i (q + l') (h' - l') (some (mm' - l'))), [i], [], top⟩
    | false => False
   | _, _ => False
  | some ti, some (.pl (.one (.ro fl s' rows))), some l, some (.pl (.one (.v (.int _ h)))), some (.pl (.one (.v (.int _ mm)))) => match ti.elem with
   | some (_, s, _) => match Nat.beq s' s with
    | true => sl3N l h mm rows.length none fun l' h' _ => k ⟨.c (.ro fl s' ((rows.drop l').take (h' - l'))), [], [], top⟩
    | false => False
   | none => False
  | _, _, _, _, _ => False
 | .call ⟨.builtin .clear, args, tys⟩ => match args.toList, tys.toList with
  | [x], [t] => match tyGet T t, evf F x with
   | some ti, some (.pl (.one (.osl i q m0 _))) => match ti.elem, K i with
    | some (e, s, _), some b => match tyGet T e, Nat.beq b.sz s with
     | some te, true => clrN q m0 b.rows.length (te.zero.all fun v => v.oneCell') (k ⟨.tup [], [i], [(i, some ⟨lay b.rows q (List.replicate m0 (te.zero.map .v)), b.sz, b.ty, b.bx⟩)], top⟩)
     | _, _ => False
    | _, _ => False
   | _, _ => False
  | _, _ => False
 | _ => False
theorem opB_sound {P : Program} {T : Tab} {o : Oper} {F : Nat → Option AV} {K : Nat → Option Blk} {top : Nat} {k : Eff → Prop} (hT : TabOk P T) (h : opB P T o F K top k) : ∃ e, OpEff P o F K top e ∧ k e := by
 obtain ⟨dst, op, ty, pos, after, guard⟩ := o
 unfold opB at h
 dsimp only at h
 split at h
 ·split at h
  ·rename_i ti ht
   split at h
   ·rename_i m s r avs hel hx
    split at h
    ·rename_i out hout; exact ⟨_, (y_builda _ _ rfl ti (hT _ _ ht) m s r hel avs hx out hout).eff, h⟩
    ·exact h.elim
   ·exact h.elim
  ·exact h.elim
 ·split at h
  ·rename_i ti cs kj j ht hx hy
   split at h
   ·rename_i m s r hel
    obtain ⟨j', h1, h2, h⟩ := h.h
    split at h
    ·rename_i v hv; exact ⟨_, (y_indexv _ _ _ rfl ti (hT _ _ ht) m s r hel cs hx kj j hy j' h1 h2 v hv).eff, h⟩
    ·exact h.elim
   ·exact h.elim
  ·rename_i ti p kj j ht hx hy
   split at h
   ·rename_i hkd
    obtain ⟨j', b, h1, h2, h⟩ := h.h
    exact ⟨_, (y_indexstr _ _ _ rfl ti (hT _ _ ht) (Nat.eq_of_beq_eq_true hkd) p hx kj j hy j' h1 b h2).eff, h⟩
   ·exact h.elim
  ·exact h.elim
 ·split at h
  ·rename_i ti tj cx hti htj hx
   split at h
   ·rename_i e bt hel hkd
    split at h
    ·rename_i te src m rd hte hsrc
     split at h
     ·rename_i hk
      obtain ⟨xs, h1, h2, h⟩ := h.h
      exact ⟨_, (y_str _ _ _ rfl ti (hT _ _ hti) e bt hel te (hT _ _ hte) hk tj (hT _ _ htj) (Nat.eq_of_beq_eq_true hkd) cx hx xs src m rd hsrc h1 h2).eff, h⟩
     ·exact h.elim
    ·exact h.elim
   ·exact h.elim
  ·exact h.elim
 ·split at h
  ·rename_i p q hx hy
   split at h
   ·exact ⟨_, (y_eqStr _ _ _ _ _ rfl p q hx hy _ (.inl ⟨rfl, rfl⟩)).eff, h⟩
   ·exact ⟨_, (y_eqStr _ _ _ _ _ rfl p q hx hy _ (.inr ⟨rfl, rfl⟩)).eff, h⟩
   ·exact h.elim
  ·rename_i c hx hy
   split at h
   ·rename_i ti r ht hr
    split at h
    ·rename_i hk; exact ⟨_, (y_eqP _ _ _ _ _ rfl ti (hT _ _ ht) (Nat.eq_of_beq_eq_true hk) c hx hy r hr _ (.inl ⟨rfl, rfl⟩)).eff, h⟩
    ·exact h.elim
   ·rename_i ti r ht hr
    split at h
    ·rename_i hk; exact ⟨_, (y_eqP _ _ _ _ _ rfl ti (hT _ _ ht) (Nat.eq_of_beq_eq_true hk) c hx hy r hr _ (.inr ⟨rfl, rfl⟩)).eff, h⟩
    ·exact h.elim
   ·exact h.elim
  ·exact h.elim
 ·split at h
  ·rename_i kx p hx
   obtain ⟨r, rfl, h⟩ := h.h
   exact ⟨_, (y_neg _ _ rfl kx p hx).eff, h⟩
  ·exact h.elim
 ·split at h
  ·rename_i ti i q m c l kh hh km mm ht hx hl hhi hmx
   split at h
   ·rename_i e s bt b hel hb
    split at h
    ·rename_i hs
     obtain ⟨l', h', mm', g1, rfl, rfl, g4, g5, g6, g7, h⟩ := h.h
     exact ⟨_, (y_sl3' _ _ _ _ _ rfl ti (hT _ _ ht) e s bt hel i q m c hx b hb hs l' h' mm' (intOf_spec hl g1) kh km hhi hmx g4 g5 g6 g7).eff, h⟩
    ·exact h.elim
   ·exact h.elim
  ·rename_i ti fl s' rows l kh hh km mm ht hx hl hhi hmx
   split at h
   ·rename_i e s bt hel
    split at h
    ·rename_i hs
     obtain ⟨l', h', mm', g1, rfl, rfl, g4, g5, g6, g7, h⟩ := h.h
     have hse := Nat.eq_of_beq_eq_true hs
     subst hse
     exact ⟨_, (y_sl3r _ _ _ _ _ rfl ti (hT _ _ ht) e _ bt hel fl rows hx l' h' mm' (intOf_spec hl g1) kh km hhi hmx g4 g5 (by rcases g6 with g6 | ⟨_, hc, _⟩; exact g6; cases hc)).eff, h⟩
    ·exact h.elim
   ·exact h.elim
  ·exact h.elim
 ·split at h
  ·rename_i x t ha hty
   split at h
   ·rename_i ti i q m0 cp ht hx
    split at h
    ·rename_i e s bt b hel hb
     split at h
     ·rename_i te hte hs
      exact ⟨_, e_clear x t (by rw [toList_one ha, toList_one hty]) ti (hT _ _ ht) e s bt hel te (hT _ _ hte) i q m0 cp hx b hb hs h.fit h.one, h.k⟩
     ·exact h.elim
    ·exact h.elim
   ·exact h.elim
  ·exact h.elim
 ·exact h.elim
def opA (P : Program) (T : Tab) (o : Oper) (F : Nat → Option AV) (K : Nat → Option Blk) (top : Nat) (k : Eff → Prop) : Prop :=
 match o.op with
 | .move x => match evf F x with
  | some v => k ⟨v, [], [], top⟩
  | none => False
 | .assign x => match evf F x with
  | some v => k ⟨v, [], [], top⟩
  | none => False
 | .pick c x y => match evf F c with
  | some (.pl (.one (.v (.bool b)))) => spB b (match evf F x with | some v => k ⟨v, [], [], top⟩ | none => False) (match evf F y with | some v => k ⟨v, [], [], top⟩ | none => False)
  | _ => False
 | .nilCheck x => match evf F x with
  | some (.pl (.one (.own i q l))) => k ⟨.c (.own i q l), [], [], top⟩
  | some (.pl (.one (.rp fl row l))) => k ⟨.c (.rp fl row l), [], [], top⟩
  | some (.pl (.one (.fn f cap))) => k ⟨.c (.fn f cap), [], [], top⟩
  | _ => False
 | .unOp .not _ x => match evf F x with
  | some (.pl (.one (.v (.bool b)))) => k ⟨.val (.bool (!b)), [], [], top⟩
  | _ => False
 | .binOp op t x y _ => match evf F x, evf F y with
  | some (.pl (.one (.v (.int kx p)))), some (.pl (.one (.v (.int ky q)))) => match decide (kx = ky) with
   | true => match op with
    | .add => wr kx (p + q) fun r => k ⟨.val (.int kx r), [], [], top⟩
    | .sub => wr kx (p - q) fun r => k ⟨.val (.int kx r), [], [], top⟩
    | .mul => wr kx (p * q) fun r => k ⟨.val (.int kx r), [], [], top⟩
    | .quo => nzN q (wr kx (p.tdiv q) fun r => k ⟨.val (.int kx r), [], [], top⟩)
    | .rem => nzN q (vN (p.tmod q) fun r => k ⟨.val (.int kx r), [], [], top⟩)
    | .eql => k ⟨.val (.bool (p == q)), [], [], top⟩
    | .neq => k ⟨.val (.bool (p != q)), [], [], top⟩
    | .lss => k ⟨.val (.bool (decide (p < q))), [], [], top⟩
    | .leq => k ⟨.val (.bool (decide (p ≤ q))), [], [], top⟩
    | .gtr => k ⟨.val (.bool (decide (p > q))), [], [], top⟩
    | .geq => k ⟨.val (.bool (decide (p ≥ q))), [], [], top⟩
    | .shl => eqN (decide (0 ≤ q)) true (wr kx (p * 2 ^ (min q.toNat kx.bits)) fun r => k ⟨.val (.int kx r), [], [], top⟩)
    | .shr => eqN (decide (0 ≤ q)) true (vN (p.fdiv (2 ^ (min q.toNat kx.bits))) fun r => k ⟨.val (.int kx r), [], [], top⟩)
    | op => match bitOp op kx p q with
     | some r => k ⟨.val (.int kx r), [], [], top⟩
     | none => False
   | false => match op with
    | .shl => eqN (decide (0 ≤ q)) true (wr kx (p * 2 ^ (min q.toNat kx.bits)) fun r => k ⟨.val (.int kx r), [], [], top⟩)
    | .shr => eqN (decide (0 ≤ q)) true (vN (p.fdiv (2 ^ (min q.toNat kx.bits))) fun r => k ⟨.val (.int kx r), [], [], top⟩)
    | _ => False
  | some (.pl (.one (.v (.bool p)))), some (.pl (.one (.v (.bool q)))) => match tyGet T t with
   | some ti => match ti.isB, op with
    | true, .eql => k ⟨.val (.bool (p == q)), [], [], top⟩
    | true, .neq => k ⟨.val (.bool (p != q)), [], [], top⟩
    | _, _ => False
   | none => False
  | some (.pl (.agg xs)), some (.pl (.agg ys)) => match tyGet T t with
   | some ti => match ti.eqk with
    | some ks => match eqC ks xs ys, op with
     | some r, .eql => k ⟨.val (.bool r), [], [], top⟩
     | some r, .neq => k ⟨.val (.bool (!r)), [], [], top⟩
     | _, _ => False
    | none => False
   | none => False
  | some (.pl (.one c)), some (.pl (.one (.v (.slice none _ _)))) => match tyGet T t with
   | some ti => match ti.elem, nilOf c, op with
    | some _, some r, .eql => k ⟨.val (.bool r), [], [], top⟩
    | some _, some r, .neq => k ⟨.val (.bool (!r)), [], [], top⟩
    | _, _, _ => False
   | none => False
  | _, _ => opB P T o F K top k
 | .convert s d x => match tyGet T s, tyGet T d, evf F x with
  | some i, some j, some (.pl (.one (.v (.int kk p)))) => match i.ikind, j.ikind with
   | some _, some kd => wr kd p fun r => k ⟨.val (.int kd r), [], [], top⟩
   | _, _ => False
  | _, _, _ => opB P T o F K top k
 | .extract x i => match evf F x with
  | some (.tup l) => match l[i]? with
   | some c => k ⟨.pl c, [], [], top⟩
   | none => False
  | _ => False
 | .makeFunc (.func f) first caps => match first.toList, ptsOf F caps.toList with
  | [], some ps => k ⟨.c (.fn f ps), [], [], top⟩
  | _, _ => match caps.toList, ptsOf F first.toList with
   | [], some ps => k ⟨.c (.mf f ps), [], [], top⟩
   | _, _ => False
 | .fieldAddr s x f => match tyGet T s with
  | some ti => match ti.offs[f]? with
   | some (off, sz, _) => match Nat.blt 0 sz, evf F x with
    | true, some (.pl (.one (.own i q l))) => k ⟨.c (.own i q (l + off)), [], [], top⟩
    | true, some (.pl (.one (.rp fl row l))) => k ⟨.c (.rp fl row (l + off)), [], [], top⟩
    | _, _ => False
   | none => False
  | none => False
 | .field s x f => match tyGet T s with
  | some ti => match ti.offs[f]? with
   | some (off, sz, r) => match Nat.blt 0 sz, evf F x with
    | true, some (.pl (.agg cs)) => match cut r off sz cs with
     | some v => k ⟨.pl v, [], [], top⟩
     | none => False
    | _, _ => False
   | none => False
  | none => False
 | .load t x => match tyGet T t, evf F x with
  | some ti, some (.pl (.one (.own i q l))) => match K i with
   | some b => rowB b q fun row => match cut ti.row l ti.size row with
    | some v => k ⟨.pl v, [i], [], top⟩
    | none => False
   | none => False
  | some ti, some (.pl (.one (.rp fl row l))) => match cut ti.row l ti.size (row.map (RT.ce fl)) with
   | some v => k ⟨.pl v, [], [], top⟩
   | none => False
  | _, _ => False
 | .store t x y => match o.dst, tyGet T t, evf F x, evf F y with
  | none, some ti, some (.pl (.one (.own i q l))), some (.pl v) => match K i with
   | some b => rowB b q fun row => match Nat.beq v.cells.length ti.size, v.cells.all Ce.single, Nat.ble (l + v.cells.length) row.length with
    | true, true, true => k ⟨.val undef, [i], [(i, some ⟨b.rows.set q (spq row l v.cells), b.sz, b.ty, b.bx⟩)], top⟩
    | _, _, _ => False
   | none => False
  | _, _, _, _ => False
 | .alloc t => match tyGet T t with
  | some ti => k ⟨.c (.own top 0 0), [], [(top, some ⟨[ti.zero.map .v], (ti.zero.map Ce.v).length, t, true⟩)], top + 1⟩
  | none => False
 | .box t x => match evf F x with
  | some (.pl v) => match v.cells.all Ce.single with
   | true => k ⟨.c (.own top 0 0), [], [(top, some ⟨[v.cells], v.cells.length, t, true⟩)], top + 1⟩
   | false => False
  | _ => False
 | .build t ps => match tyGet T t with
  | some ti => match (match ti.offs with | [] => false | _ => ti.offs.all fun x => Nat.blt 0 x.2.1), evb F ps.toList with
   | true, some avs => match fillC ti.offs (ti.zero.map .v) avs with
    | some out => k ⟨.pl (.agg out), [], [], top⟩
    | none => False
   | _, _ => opB P T o F K top k
  | none => False
 | .indexAddr t x y => match tyGet T t, evf F y with
  | some ti, some (.pl (.one (.v (.int _ j)))) => match ti.elem with
   | some (_, s, _) => match evf F x with
    | some (.pl (.one (.osl i q m c))) => match K i with
     | some b => match Nat.beq b.sz s with
      | true => ixN j m fun j' => k ⟨.c (.own i (q + j') 0), [i], [], top⟩
      | false => False
     | none => False
    | some (.pl (.one (.ro fl sz rows))) => match Nat.beq sz s with
     | true => ixN j rows.length fun j' => rowN rows j' fun row => k ⟨.c (.rp fl row 0), [], [], top⟩
     | false => False
    | some (.pl (.one (.gsl i rows))) => match K i with
     | some b => match Nat.beq b.sz s with
      | true => ixN j rows.length fun j' => k ⟨.c (.own i (0 + j') 0), [i], [], top⟩
      | false => False
     | none => False
    | _ => False
   | none => match ti.arr with
    | some (m, s, _) => match evf F x with
     | some (.pl (.one (.own i q l))) => ixN j m fun j' => k ⟨.c (.own i q (l + j' * s)), [], [], top⟩
     | some (.pl (.one (.rp fl row l))) => ixN j m fun j' => k ⟨.c (.rp fl row (l + j' * s)), [], [], top⟩
     | _ => False
    | none => False
  | _, _ => False
 | .call ⟨.builtin .len, args, tys⟩ => match args.toList, tys.toList with
  | [x], [t] => match tyGet T t with
   | some ti => match ti.elem with
    | some _ => match evf F x with
     | some (.pl (.one (.osl _ _ m _))) => k ⟨.val (.int .i64 m), [], [], top⟩
     | some (.pl (.one (.ro _ _ rows))) => k ⟨.val (.int .i64 rows.length), [], [], top⟩
     | some (.pl (.one (.gsl _ rows))) => k ⟨.val (.int .i64 rows.length), [], [], top⟩
     | some (.pl (.one (.v (.slice _ m _)))) => k ⟨.val (.int .i64 m), [], [], top⟩
     | _ => False
    | none => False
   | none => False
  | _, _ => False
 | .call ⟨.builtin .append, args, tys⟩ => match args.toList, tys.toList with
  | [x, y], [t, t'] => match Nat.beq t t', tyGet T t, evf F y with
   | false, some ti, some (.pl (.one (.v (.int _ j)))) => match tyGet T t' with
    | some tj => match tj.ikind, ti.elem with
     | some _, some (e, s, bt) => match tyGet T e, evf F x with
      | some te, some (.pl (.one (.osl i 0 m0 cp))) => match K i with
       | some b => match Nat.beq b.sz s, Nat.beq b.ty e with
        | true, true => apzE (apzN j m0 b.rows.length bt (te.zero.all fun v => v.oneCell') fun m => k ⟨.c (.osl top 0 (m0 + m) none), [i], [(i, none), (top, some ⟨b.rows.take m0 ++ List.replicate m (te.zero.map .v), s, e, false⟩)], top + 1⟩) (apzK cp j m0 b.rows.length bt (te.zero.all fun v => v.oneCell') fun m => k ⟨.c (.osl top 0 (m0 + m) none), [i], [(top, some ⟨b.rows.take m0 ++ List.replicate m (te.zero.map .v), s, e, false⟩)], top + 1⟩)
        | _, _ => False
       | none => False
      | some te, some (.pl (.one (.v (.slice none 0 0)))) => apz0N j bt fun m => k ⟨.c (.osl top 0 m none), [], [(top, some ⟨List.replicate m (te.zero.map .v), s, e, false⟩)], top + 1⟩
      | _, _ => False
     | _, _ => False
    | none => False
   | true, some ti, some (.pl (.one cy)) => match ti.elem with
    | some (e, s, bt) => match srcOf K s cy with
     | some (src, m, rd) => match evf F x with
      | some (.pl (.one (.osl i 0 m0 cp))) => match K i with
       | some b => match Nat.beq b.sz s, Nat.beq b.ty e with
        | true, true => apdE (aprN m0 m b.rows.length cp src (k ⟨.c (.osl i 0 (m0 + m) cp), i :: rd, [(i, some ⟨lay b.rows m0 src, b.sz, b.ty, b.bx⟩)], top⟩)) (apdN m0 b.rows.length m src bt (k ⟨.c (.osl top 0 (m0 + m) none), i :: rd, [(i, none), (top, some ⟨b.rows.take m0 ++ src, s, e, false⟩)], top + 1⟩)) (apkN cp (m0 + m) (apdN m0 b.rows.length m src bt (k ⟨.c (.osl top 0 (m0 + m) none), i :: rd, [(top, some ⟨b.rows.take m0 ++ src, s, e, false⟩)], top + 1⟩)))
        | _, _ => False
       | none => False
      | some (.pl (.one (.gsl i rows))) => eqN (K i) (gB s e rows) (posE m (match srcOf0 K s cy with
       | some _ => k ⟨.c (.gsl i rows), rd, [], top⟩
       | none => False) (apdN rows.length rows.length m src bt (k ⟨.c (.gsl top (rows ++ src)), i :: rd, [(i, none), (top, some ⟨rows ++ src, s, e, false⟩)], top + 1⟩)))
      | some (.pl (.one (.v (.slice none 0 0)))) => posE m (match srcOf0 K s cy with
       | some _ => k ⟨.val (.slice none 0 0), rd, [], top⟩
       | none => False) (apdN 0 0 m src bt (k ⟨.c (.gsl top src), rd, [(top, some ⟨src, s, e, false⟩)], top + 1⟩))
      | _ => False
     | none => False
    | none => False
   | _, _, _ => False
  | _, _ => False
 | .call ⟨.builtin .copy, args, tys⟩ => match args.toList, tys.toList with
  | [x, y], [t, t'] => match tyGet T t, evf F x, evf F y with
   | some ti, some (.pl (.one (.osl i q m0 _))), some (.pl (.one cy)) => match ti.elem with
    | some (_, s, _) => match K i, srcOf K s cy with
     | some b, some (src, m, rd) => match Nat.beq b.sz s with
      | true => cpyN q m0 b.rows.length m src (k ⟨.val (.int .i64 (Nat.min m m0 : Nat)), i :: rd, [(i, some ⟨lay b.rows q (src.take (Nat.min m m0)), b.sz, b.ty, b.bx⟩)], top⟩)
      | false => False
     | _, _ => False
    | none => False
   | some ti, some (.pl (.one (.ro _ _ []))), some (.pl (.one cy)) => match ti.elem with
    | some (_, s, _) => match srcOf K s cy with
     | some (src, m, rd) => cpyN 0 0 0 m src (k ⟨.val (.int .i64 0), rd, [], top⟩)
     | none => False
    | none => False
   | _, _, _ => False
  | _, _ => False
 | .call ⟨.builtin .cap, args, tys⟩ => match args.toList, tys.toList with
  | [x], [t] => match tyGet T t, evf F x with
   | some ti, some (.pl (.one (.osl _ _ _ (some c)))) => match ti.elem with
    | some _ => k ⟨.val (.int .i64 c), [], [], top⟩
    | none => False
   | some ti, some (.pl (.one (.v (.slice _ _ c)))) => match ti.elem with
    | some _ => k ⟨.val (.int .i64 c), [], [], top⟩
    | none => False
   | _, _ => False
  | _, _ => False
 | .makeSlice t x y => match tyGet T t, evf F x, evf F y with
  | some ti, some (.pl (.one (.v (.int _ l)))), some (.pl (.one (.v (.int _ c)))) => match ti.elem with
   | some (e, s, bt) => match tyGet T e with
    | some te => mkN l c bt fun l' c' => k ⟨.c (.osl top 0 l' (some c')), [], [(top, some ⟨List.replicate l' (te.zero.map .v), s, e, false⟩)], top + 1⟩
    | none => False
   | none => False
  | _, _, _ => False
 | .buildSlice t len ps => match tyGet T t with
  | some ti => match ti.elem with
   | some (e, s, bt) => match tyGet T e, evb F ps.toList, Nat.blt 0 s, Nat.ble (len * s) 16777216 with
    | some te, some avs, true, true => match fillC ((List.range len).map fun i => (i * s, s, false)) (List.replicate len (te.zero.map Ce.v)).flatten avs with
     | some out => k ⟨.c (.osl top 0 len (some len)), [], [(top, some ⟨(List.range len).map fun q => (out.drop (q * s)).take s, s, e, false⟩)], top + 1⟩
     | none => False
    | _, _, _, _ => False
   | none => False
  | none => False
 | .slice t x lo hi mx => match mx, tyGet T t, intOf' F lo, intOf' F hi with
  | none, some ti, some l, some h => match ti.elem with
   | some (_, s, _) => match evf F x with
    | some (.pl (.one (.osl i q m c))) => match K i with
     | some b => match Nat.beq b.sz s with
      | true => slN l h m c fun l' h' => match l with
       | none => k ⟨.c (.osl i (q + l') (h' - l') (c.map (· - l'))), [i], [], top⟩
       | some _ => slE l' h' (k ⟨.c (.osl i (q + l') (h' - l') (c.map (· - l'))), [i], [], top⟩) (k ⟨.c (.ro true s []), [i], [], top⟩)
      | false => False
     | none => False
    | some (.pl (.one (.ro fl s' rows))) => match Nat.beq s' s with
     | true => slN l h rows.length none fun l' h' => k ⟨.c (.ro fl s' ((rows.drop l').take (h' - l'))), [], [], top⟩
     | false => False
    | some (.pl (.one (.gsl i rows))) => match K i with
     | some b => match Nat.beq b.sz s with
      | true => posN rows.length (slN l h rows.length none fun l' h' => match l with
       | none => k ⟨.c (.osl i (0 + l') (h' - l') none), [i], [], top⟩
       | some _ => (l' = 0 ∨ l' < h') ∧ k ⟨.c (.osl i (0 + l') (h' - l') none), [i], [], top⟩)
      | false => False
     | none => False
    | some (.pl (.one (.v (.slice none 0 0)))) => slN l h 0 none fun _ _ => k ⟨.val (.slice none 0 0), [], [], top⟩
    | _ => False
   | none => False
  | _, _, _, _ => opB P T o F K top k
 | .call ⟨.builtin .min, args, tys⟩ => match args.toList with
  | [x, y] => match evf F x, evf F y with
   | some (.pl (.one (.v (.int kx p)))), some (.pl (.one (.v (.int ky q)))) => match decide (kx = ky) with
    | true => k ⟨.val (.int kx (min p q)), [], [], top⟩
    | false => False
   | _, _ => False
  | _ => False
 | .call ⟨.builtin .max, args, tys⟩ => match args.toList with
  | [x, y] => match evf F x, evf F y with
   | some (.pl (.one (.v (.int kx p)))), some (.pl (.one (.v (.int ky q)))) => match decide (kx = ky) with
    | true => k ⟨.val (.int kx (max p q)), [], [], top⟩
    | false => False
   | _, _ => False
  | _ => False
 | _ => opB P T o F K top k
theorem rowB_spec {b : Blk} {q : Nat} {A : List Ce → Prop} (h : rowB b q A) : ∃ r, b.rows[q]? = some r ∧ A r := by
 unfold rowB at h
 split at h
 ·split at h
  ·rename_i r hb; exact ⟨r, by rw [hb]; rfl, h⟩
  ·exact h.elim
 ·exact h.h
theorem srcOf_of0 {K : Nat → Option Blk} {s : Nat} {c : Ce} {r : List (List Ce) × Nat × List Nat} (h : srcOf0 K s c = some r) : srcOf K s c = some r := by
 unfold srcOf
 split
 ·simp [srcOf0] at h
 ·exact h
theorem e_append00 {P : Program} {o : Oper} {F0 : Nat → Option AV} {K0 : Nat → Option Blk} {top : Nat} (x y : Operand) (t : TypeId) (ho : o.op = .call ⟨.builtin .append, #[x, y], #[t, t]⟩) (ti : TI) (ht : tiOf P t = some ti) (e s bt : Nat) (hel : ti.elem = some (e, s, bt)) (hx : evf F0 x = some (.val (.slice none 0 0)))
  (cy : Ce) (hy : evf F0 y = some (.c cy)) (src : List (List Ce)) (m : Nat) (rd : List Nat) (hsrc : srcOf0 K0 s cy = some (src, m, rd)) (hm0 : m = 0) :
  OpEff P o F0 K0 top ⟨.val (.slice none 0 0), rd, [], top⟩ := by
 subst hm0
 obtain ⟨hu', inf, z, hinf, hz, hs1, hs2, hs3⟩ := tiOf_elem ht hel
 intro n W F K I R a w hst hxx hk hf hd next Q hnext
 have hm : ∀ z ∈ [x, y], evf F z = evf F0 z := fun z hz => hxx z (by simpa [ho, Op.operands, Call.operands] using hz)
 have hu := ev_plain hst ((hm x (by simp)).trans hx)
 have hvy := hst.ev ((hm y (by simp)).trans hy)
 have hsl : ∃ ad cp, a.eval y = .slice ad 0 cp := by
  have hv : cy.rel I R (a.eval y) := hvy
  generalize a.eval y = u at hv
  unfold srcOf0 at hsrc
  split at hsrc
  ·split at hsrc
   ·split at hsrc
    ·simp only [Option.some.injEq, Prod.mk.injEq] at hsrc
     obtain ⟨_, rfl, _⟩ := hsrc
     obtain ⟨p, c', hp, rfl, _⟩ := hv
     exact ⟨_, _, rfl⟩
    ·cases hsrc
   ·cases hsrc
  ·rename_i fl s' rows0
   split at hsrc
   ·simp only [Option.some.injEq, Prod.mk.injEq] at hsrc
    obtain ⟨_, h0, _⟩ := hsrc
    have : rows0 = [] := List.eq_nil_of_length_eq_zero h0
    subst this
    simp only [Ce.rel] at hv
    cases hv with
    | nil => exact ⟨_, _, rfl⟩
    | emp => exact ⟨_, _, rfl⟩
    | ro => exact ⟨_, _, rfl⟩
   ·cases hsrc
  ·cases hv; exact ⟨_, _, rfl⟩
  ·cases hsrc
 obtain ⟨ad, cp, hsl⟩ := hsl
 unfold Oper.wp
 have hrun : (Builtin.append_ #[t, t] o.type #[.slice none 0 0, .slice ad 0 cp]).run P w = .ok (.slice none 0 0) w := by
  cases ad <;> simp [Builtin.append_, run_underlying hu', sizeOf, typeInfo, hinf, Builtin.lenOf, Builtin.firstCells, loadCells, loadCellsFrom]
 rw [builtin_append o x y t ho a.eval w (by rw [hu, hsl]; exact hrun)]
 exact hnext I R _ _ (hst.put (.refl _) (.refl _) hst.wd hd rfl) (.refl _) (fun _ _ => rfl) (.refl _)
theorem e_append0g {P : Program} {o : Oper} {F0 : Nat → Option AV} {K0 : Nat → Option Blk} {top : Nat} (x y : Operand) (t : TypeId) (ho : o.op = .call ⟨.builtin .append, #[x, y], #[t, t]⟩) (ti : TI) (ht : tiOf P t = some ti) (e s bt : Nat) (hel : ti.elem = some (e, s, bt)) (gi : Nat) (grows : List (List Ce)) (hx : evf F0 x = some (.c (.gsl gi grows)))
  (cy : Ce) (hy : evf F0 y = some (.c cy)) (src : List (List Ce)) (m : Nat) (rd : List Nat) (hsrc : srcOf0 K0 s cy = some (src, m, rd)) (hm0 : m = 0) :
  OpEff P o F0 K0 top ⟨.c (.gsl gi grows), rd, [], top⟩ := by
 subst hm0
 obtain ⟨hu', inf, z, hinf, hz, hs1, hs2, hs3⟩ := tiOf_elem ht hel
 intro n W F K I R a w hst hxx hk hf hd next Q hnext
 have hm : ∀ z ∈ [x, y], evf F z = evf F0 z := fun z hz => hxx z (by simpa [ho, Op.operands, Call.operands] using hz)
 have hux := hst.ev ((hm x (by simp)).trans hx)
 obtain ⟨ad0, n0, c0, hu, hle0⟩ : ∃ ad0 n0 c0, a.eval x = .slice ad0 n0 c0 ∧ n0 ≤ c0 := by
  rcases hux with ⟨_, h⟩ | ⟨_, p, c', _, h, h2, _⟩
  ·exact ⟨_, _, _, h, Nat.le_refl _⟩
  ·exact ⟨_, _, _, h, h2⟩
 have hvy := hst.ev ((hm y (by simp)).trans hy)
 have hsl : ∃ ad cp, a.eval y = .slice ad 0 cp := by
  have hv : cy.rel I R (a.eval y) := hvy
  generalize a.eval y = u at hv
  unfold srcOf0 at hsrc
  split at hsrc
  ·split at hsrc
   ·split at hsrc
    ·simp only [Option.some.injEq, Prod.mk.injEq] at hsrc
     obtain ⟨_, rfl, _⟩ := hsrc
     obtain ⟨p, c', hp, rfl, _⟩ := hv
     exact ⟨_, _, rfl⟩
    ·cases hsrc
   ·cases hsrc
  ·rename_i fl s' rows0
   split at hsrc
   ·simp only [Option.some.injEq, Prod.mk.injEq] at hsrc
    obtain ⟨_, h0, _⟩ := hsrc
    have : rows0 = [] := List.eq_nil_of_length_eq_zero h0
    subst this
    simp only [Ce.rel] at hv
    cases hv with
    | nil => exact ⟨_, _, rfl⟩
    | emp => exact ⟨_, _, rfl⟩
    | ro => exact ⟨_, _, rfl⟩
   ·cases hsrc
  ·cases hv; exact ⟨_, _, rfl⟩
  ·cases hsrc
 obtain ⟨ad, cp, hsl⟩ := hsl
 unfold Oper.wp
 have hrun : (Builtin.append_ #[t, t] o.type #[.slice ad0 n0 c0, .slice ad 0 cp]).run P w = .ok (.slice ad0 n0 c0) w := by
  cases ad <;> cases ad0 <;> simp [Builtin.append_, run_underlying hu', sizeOf, typeInfo, hinf, Builtin.lenOf, Builtin.firstCells, loadCells, loadCellsFrom, hle0, storeCells]
 rw [builtin_append o x y t ho a.eval w (by rw [hu, hsl]; exact hrun)]
 exact hnext I R _ _ (hst.put (.refl _) (.refl _) hst.wd hd (hu ▸ hux)) (.refl _) (fun _ _ => rfl) (.refl _)
section
variable {P : Program} {T : Tab} {o : Oper} {F : Nat → Option AV} {K : Nat → Option Blk} {top : Nat} {k : Eff → Prop}
theorem toList_nil {α : Type} {a : Array α} (h : a.toList = []) : a = #[] := by apply Array.ext'; simpa using h
theorem part_one {w : World} {t : TypeId} {d : TypeDesc} (hu : P.underlying t = some d) (hd : d.isRow = false) (cs : Array Value) (off : Nat) (u : Value) (h : cs[off]? = some u) : (part t cs off).run P w = .ok u w := by
 have hagg : (isAgg t).run P w = .ok false w := by
  unfold isAgg
  rw [Sem.run_bind, run_underlying hu w]
  cases d <;> simp_all
 unfold part
 rw [Sem.run_bind, hagg]
 simp [h]
theorem run_eqItems1 {I : IM} {R : RM} {w : World} (d : Nat) {e : TypeId} {kd : Option IntKind} (hk : kindOf P e = some kd) (vs us : Array Value) : ∀ (m k : Nat) (xs ys : List Ce) (r : Bool), eqC (List.replicate m kd) xs ys = some r →
  All2 (Ce.rel I R) xs (vs.toList.drop k) → All2 (Ce.rel I R) ys (us.toList.drop k) → (Op.eqItems (d + 1) e 1 vs us (List.range' k m)).run P w = .ok r w
 | 0, k, xs, ys, r, hr, h1, h2 => by
  cases xs <;> cases ys <;> simp only [List.replicate, eqC, Option.some.injEq, reduceCtorEq] at hr
  subst hr
  simp [Op.eqItems]
 | m + 1, k, xs, ys, r, hr, h1, h2 => by
  have heads : ∀ {xs : List Ce} {x : Ce} {vs : Array Value}, All2 (Ce.rel I R) (x :: xs) (vs.toList.drop k) → ∃ v, vs[k]? = some v ∧ x.rel I R v ∧ All2 (Ce.rel I R) xs (vs.toList.drop (k + 1)) := by
   intro xs x vs h
   cases hd : vs.toList.drop k with
   | nil => rw [hd] at h; exact h.elim
   | cons v r =>
    rw [hd] at h
    refine ⟨v, ?_, h.1, ?_⟩
    ·have : (vs.toList.drop k)[0]? = some v := by rw [hd]; rfl
     simpa using this
    ·rw [← List.drop_drop, hd]
     simpa using h.2
  rw [List.replicate_succ] at hr
  rw [List.range'_succ]
  simp only [Op.eqItems, Nat.mul_one]
  cases kd with
  | some kk =>
   cases xs with
   | nil => simp [eqC] at hr
   | cons x xs =>
    cases ys with
    | nil => simp [eqC] at hr
    | cons y ys =>
     cases x with
     | v xv =>
      cases xv with
      | int k1 a =>
       cases y with
       | v yv =>
        cases yv with
        | int k2 b =>
         simp only [eqC] at hr
         split at hr
         ·rename_i hkk
          simp only [Bool.and_eq_true, decide_eq_true_eq] at hkk
          obtain ⟨rfl, rfl⟩ := hkk
          split at hr
          ·rename_i t ht
           simp only [Option.some.injEq] at hr
           obtain ⟨v, hv, hvr, hvs⟩ := heads h1
           obtain ⟨u, hu, hur, hus⟩ := heads h2
           cases hvr
           cases hur
           have hund : P.underlying e = some (.int k2) := by
            unfold kindOf at hk
            split at hk
            ·rename_i k3 h3; simp only [Option.some.injEq] at hk; subst hk; exact h3
            ·simp at hk
            ·cases hk
           have ih := run_eqItems1 (w := w) d hk vs us m (k + 1) xs ys t ht hvs hus
           rw [Sem.run_bind, part_one hund rfl vs k _ hv]
           simp only [Result.andThen_ok]
           rw [Sem.run_bind, part_one hund rfl us k _ hu]
           simp only [Result.andThen_ok]
           rw [Sem.run_bind, run_equalIn_int w d e k2 k2 a b hund]
           simp only [Result.andThen_ok, Sem.run_ite]
           cases hab : (a == b) with
           | true => simp only [Bool.not_true, Bool.false_eq_true, if_false, ih, ← hr, hab, Bool.true_and]
           | false => simp [← hr, hab]
          ·cases hr
         ·cases hr
        | _ => simp [eqC] at hr
       | _ => simp [eqC] at hr
      | _ => simp [eqC] at hr
     | _ => simp [eqC] at hr
  | none =>
   cases xs with
   | nil => simp [eqC] at hr
   | cons x xs =>
    cases ys with
    | nil => simp [eqC] at hr
    | cons y ys =>
     cases x with
     | v xv =>
      cases xv with
      | bool a =>
       cases y with
       | v yv =>
        cases yv with
        | bool b =>
         simp only [eqC] at hr
         split at hr
         ·rename_i t ht
          simp only [Option.some.injEq] at hr
          obtain ⟨v, hv, hvr, hvs⟩ := heads h1
          obtain ⟨u, hu, hur, hus⟩ := heads h2
          cases hvr
          cases hur
          have hund : P.underlying e = some .bool := by
           unfold kindOf at hk
           split at hk
           ·simp at hk
           ·rename_i h3; exact h3
           ·cases hk
          have ih := run_eqItems1 (w := w) d hk vs us m (k + 1) xs ys t ht hvs hus
          rw [Sem.run_bind, part_one hund rfl vs k _ hv]
          simp only [Result.andThen_ok]
          rw [Sem.run_bind, part_one hund rfl us k _ hu]
          simp only [Result.andThen_ok]
          rw [Sem.run_bind, run_equalIn_bool' w d e a b hund]
          simp only [Result.andThen_ok, Sem.run_ite]
          cases hab : (a == b) with
          | true => simp only [Bool.not_true, Bool.false_eq_true, if_false, ih, ← hr, hab, Bool.true_and]
          | false => simp [← hr, hab]
         ·cases hr
        | _ => simp [eqC] at hr
       | _ => simp [eqC] at hr
      | _ => simp [eqC] at hr
     | _ => simp [eqC] at hr
theorem eqC_append : ∀ (kf l : List (Option IntKind)) (xs ys : List Ce) (r : Bool), eqC (kf ++ l) xs ys = some r → ∃ x1 x2 y1 y2 r1 r2, xs = x1 ++ x2 ∧ ys = y1 ++ y2 ∧ x1.length = kf.length ∧ y1.length = kf.length ∧ eqC kf x1 y1 = some r1 ∧ eqC l x2 y2 = some r2 ∧ r = (r1 && r2)
 | [], l, xs, ys, r, h => ⟨[], xs, [], ys, true, r, rfl, rfl, rfl, rfl, rfl, h, by simp⟩
 | k :: kf, l, xs, ys, r, h => by
  rw [List.cons_append] at h
  cases xs with
  | nil => cases k <;> simp [eqC] at h
  | cons x xs => cases ys with
   | nil => cases k <;> cases x <;> simp [eqC] at h
   | cons y ys =>
    cases k with
    | some kk =>
     unfold eqC at h
     split at h
     ·rename_i heq1 heq2 heq3; cases heq1
     ·rename_i k0 r0 k1 a xs0 k2 b ys0 e1 e2 e3
      simp only [List.cons.injEq, Option.some.injEq] at e1 e2 e3
      obtain ⟨rfl, rfl⟩ := e1
      obtain ⟨rfl, rfl⟩ := e2
      obtain ⟨rfl, rfl⟩ := e3
      split at h
      ·rename_i hk
       split at h
       ·rename_i t ht
        simp only [Option.some.injEq] at h
        obtain ⟨x1, x2, y1, y2, r1, r2, rfl, rfl, l1, l2, g1, g2, rfl⟩ := eqC_append kf l _ _ _ ht
        refine ⟨_ :: x1, x2, _ :: y1, y2, (a == b) && r1, r2, rfl, rfl, by simp [l1], by simp [l2], ?_, g2, by rw [← h, Bool.and_assoc]⟩
        simp only [eqC, hk, g1]
       ·cases h
      ·cases h
     ·rename_i e1 _ _; simp at e1
     ·cases h
    | none =>
     unfold eqC at h
     split at h
     ·rename_i heq1 heq2 heq3; cases heq1
     ·rename_i e1 _ _; simp at e1
     ·rename_i r0 a xs0 b ys0 e1 e2 e3
      simp only [List.cons.injEq] at e1 e2 e3
      obtain ⟨_, rfl⟩ := e1
      obtain ⟨rfl, rfl⟩ := e2
      obtain ⟨rfl, rfl⟩ := e3
      split at h
      ·rename_i t ht
       simp only [Option.some.injEq] at h
       obtain ⟨x1, x2, y1, y2, r1, r2, rfl, rfl, l1, l2, g1, g2, rfl⟩ := eqC_append kf l _ _ _ ht
       refine ⟨_ :: x1, x2, _ :: y1, y2, (a == b) && r1, r2, rfl, rfl, by simp [l1], by simp [l2], ?_, g2, by rw [← h, Bool.and_assoc]⟩
       simp only [eqC, g1]
      ·cases h
     ·cases h
theorem all2_split {α β : Type} {r : α → β → Prop} : ∀ {x1 x2 : List α} {vs : List β}, All2 r (x1 ++ x2) vs → All2 r x1 (vs.take x1.length) ∧ All2 r x2 (vs.drop x1.length)
 | [], x2, vs, h => ⟨trivial, h⟩
 | a :: x1, x2, [], h => h.elim
 | a :: x1, x2, v :: vs, h => by
  obtain ⟨h1, h2⟩ := all2_split (x1 := x1) h.2
  exact ⟨⟨h.1, h1⟩, h2⟩
def packV (row : Bool) (vs : List Value) : Value := match row with | true => .agg vs.toArray | false => vs.headD undef
theorem part_pack {P : Program} {w : World} {t : TypeId} {de : TypeDesc} {inf : TypeInfo} (hd : P.underlying t = some de) (hi : P.info? t = some inf) (cs : Array Value) (off : Nat) (h1 : de.isRow = false → inf.size = 1) (hlen : de.isRow = false → off + 1 ≤ cs.size) : (part t cs off).run P w = .ok (packV de.isRow ((cs.toList.drop off).take inf.size)) w := by
 cases hr : de.isRow with
 | true =>
  have hagg : (isAgg t).run P w = .ok true w := by
   unfold isAgg
   rw [Sem.run_bind, run_underlying hd w]
   cases de <;> simp_all
  unfold part
  rw [Sem.run_bind, hagg]
  simp only [Result.andThen_ok, if_true]
  obtain ⟨l⟩ := cs
  simp [sizeOf, typeInfo, hi, packV, List.extract]
 | false =>
  have hs := h1 hr
  have hlt : off < cs.size := hlen hr
  rw [part_one hd hr cs off cs[off] (by simp [hlt])]
  have : (cs.toList.drop off).take inf.size = [cs[off]] := by
   rw [hs, List.drop_eq_getElem_cons (by simpa using hlt)]
   simp
  rw [this]; rfl
theorem run_flatFs {P : Program} {I : IM} {R : RM} {w : World} (D : Nat) {g : TypeId → Option (List (Option IntKind))}
  (hg : ∀ t ks, g t = some ks → ∃ de, P.underlying t = some de ∧ (de.isRow = false → ks.length = 1) ∧ ∀ (xs ys : List Ce) (r : Bool) (vs us : List Value), eqC ks xs ys = some r → All2 (Ce.rel I R) xs vs → All2 (Ce.rel I R) ys us → (Op.equalIn D t (packV de.isRow vs) (packV de.isRow us)).run P w = .ok r w)
  (vs us : Array Value) : ∀ (fs : List Field) (n : Nat) (ks : List (Option IntKind)) (xs ys : List Ce) (r : Bool), flatFs P g n fs = some ks → eqC ks xs ys = some r →
  All2 (Ce.rel I R) xs (vs.toList.drop n) → All2 (Ce.rel I R) ys (us.toList.drop n) → (Op.eqFields D vs us fs).run P w = .ok r w
 | [], n, ks, xs, ys, r, hk, hr, h1, h2 => by
  simp only [flatFs, Option.some.injEq] at hk
  subst hk
  cases xs <;> cases ys <;> simp only [eqC, Option.some.injEq, reduceCtorEq] at hr
  subst hr
  simp [Op.eqFields]
 | f :: fs, n, ks, xs, ys, r, hk, hr, h1, h2 => by
  simp only [flatFs] at hk
  split at hk
  ·rename_i kf hkf
   split at hk
   ·rename_i l hl
    split at hk
    ·rename_i hc
     simp only [Bool.and_eq_true, beq_iff_eq, bne_iff_ne, ne_eq] at hc
     obtain ⟨⟨ho, hname⟩, hsz⟩ := hc
     simp only [Option.some.injEq] at hk
     subst hk
     obtain ⟨de, hde, hone, heq⟩ := hg _ _ hkf
     obtain ⟨inf, hinf, hsz⟩ : ∃ inf, P.info? f.type = some inf ∧ inf.size = kf.length := by
      unfold szB at hsz
      split at hsz
      ·rename_i i hi; exact ⟨i, hi, by simpa using hsz⟩
      ·cases hsz
     obtain ⟨x1, x2, y1, y2, r1, r2, rfl, rfl, l1, l2, g1, g2, rfl⟩ := eqC_append kf l _ _ _ hr
     obtain ⟨a1, a2⟩ := all2_split h1
     obtain ⟨b1, b2⟩ := all2_split h2
     have hlv := h1.length
     have hlu := h2.length
     simp only [List.length_append, List.length_drop, Array.length_toList] at hlv hlu
     rw [l1] at a1 a2
     rw [l2] at b1 b2
     rw [List.drop_drop] at a2 b2
     have ih := run_flatFs D hg vs us fs (n + kf.length) l x2 y2 r2 hl g2 a2 b2
     have p1 := part_pack (w := w) hde hinf vs n (fun hh => hsz.trans (hone hh)) (fun hh => by have := hone hh; omega)
     have p2 := part_pack (w := w) hde hinf us n (fun hh => hsz.trans (hone hh)) (fun hh => by have := hone hh; omega)
     rw [hsz] at p1 p2
     have e := heq x1 y1 r1 _ _ g1 a1 b1
     simp only [Op.eqFields, ne_eq, hname, not_false_eq_true, if_true]
     rw [ho, Sem.run_bind, p1]
     simp only [Result.andThen_ok]
     rw [Sem.run_bind, p2]
     simp only [Result.andThen_ok]
     rw [Sem.run_bind, e]
     simp only [Result.andThen_ok, Sem.run_ite]
     cases r1 with
     | true => simp [ih]
     | false => simp
    ·cases hk
   ·cases hk
  ·cases hk
theorem eqC_one {k : Option IntKind} {xs ys : List Ce} {r : Bool} (h : eqC [k] xs ys = some r) : (∃ kk a b, k = some kk ∧ xs = [.v (.int kk a)] ∧ ys = [.v (.int kk b)] ∧ r = (a == b)) ∨ ∃ a b, k = none ∧ xs = [.v (.bool a)] ∧ ys = [.v (.bool b)] ∧ r = (a == b) := by
 unfold eqC at h
 split at h
 ·rename_i e1; cases e1
 ·rename_i k0 r0 k1 a xs0 k2 b ys0 e1
  simp only [List.cons.injEq] at e1
  obtain ⟨rfl, rfl⟩ := e1
  split at h
  ·rename_i hk
   simp only [Bool.and_eq_true, decide_eq_true_eq] at hk
   obtain ⟨rfl, rfl⟩ := hk
   cases xs0 <;> cases ys0 <;> simp [eqC] at h
   exact .inl ⟨_, a, b, rfl, rfl, rfl, h.symm⟩
  ·cases h
 ·rename_i r0 a xs0 b ys0 e1
  simp only [List.cons.injEq] at e1
  obtain ⟨rfl, rfl⟩ := e1
  cases xs0 <;> cases ys0 <;> simp [eqC] at h
  exact .inr ⟨a, b, rfl, rfl, rfl, h.symm⟩
 ·cases h
theorem run_flatOf {P : Program} {I : IM} {R : RM} {w : World} (D : Nat) : ∀ (d : Nat) (t : TypeId) (ks : List (Option IntKind)), flatOf P d t = some ks → ∃ de, P.underlying t = some de ∧ (de.isRow = false → ks.length = 1) ∧ ∀ (xs ys : List Ce) (r : Bool) (vs us : List Value), eqC ks xs ys = some r → All2 (Ce.rel I R) xs vs → All2 (Ce.rel I R) ys us → (Op.equalIn (D + d) t (packV de.isRow vs) (packV de.isRow us)).run P w = .ok r w
 | 0, t, ks, h => by cases h
 | d + 1, t, ks, h => by
  unfold flatOf at h
  split at h
  ·rename_i k hk
   cases h
   refine ⟨_, hk, fun _ => rfl, fun xs ys r vs us hr h1 h2 => ?_⟩
   rcases eqC_one hr with ⟨kk, a, b, e1, rfl, rfl, rfl⟩ | ⟨a, b, e1, _⟩
   ·cases e1
    match vs, us, h1, h2 with
    | [v], [u], h1, h2 =>
     cases h1.1; cases h2.1
     exact run_equalIn_int w (D + d) t _ _ a b hk
   ·cases e1
  ·rename_i hk
   cases h
   refine ⟨_, hk, fun _ => rfl, fun xs ys r vs us hr h1 h2 => ?_⟩
   rcases eqC_one hr with ⟨kk, a, b, e1, _⟩ | ⟨a, b, e1, rfl, rfl, rfl⟩
   ·cases e1
   ·match vs, us, h1, h2 with
    | [v], [u], h1, h2 =>
     cases h1.1; cases h2.1
     exact run_equalIn_bool' w (D + d) t a b hk
  ·rename_i fs hk
   split at h
   ·cases h
   ·rename_i hst
    refine ⟨_, hk, (fun hh => by cases hh), fun xs ys r vs us hr h1 h2 => ?_⟩
    have hfs : P.fieldsOf t = fs := by simp [Program.fieldsOf, hk]
    show (Op.equalIn (D + d + 1) t (.agg vs.toArray) (.agg us.toArray)).run P w = .ok r w
    rw [run_equalIn_struct w (D + d) t _ _ (by rw [hfs]; exact hk) (by simpa using hst), hfs]
    exact run_flatFs (D + d) (fun t ks h => run_flatOf D d t ks h) vs.toArray us.toArray fs.toList 0 ks xs ys r h hr (by simpa using h1) (by simpa using h2)
  ·cases h
theorem nilOf_spec {I : IM} {R : RM} {c : Ce} {r : Bool} (h : nilOf c = some r) {u : Value} (hu : c.rel I R u) : ∃ ad l m, u = .slice ad l m ∧ ad.isNone = r := by
 cases c with
 | v x =>
  cases hu
  cases u with
  | slice ad l m => cases ad <;> (simp [nilOf] at h; subst h; exact ⟨_, _, _, rfl, rfl⟩)
  | _ => simp [nilOf] at h
 | osl i q n c => obtain ⟨p, c', _, rfl, _⟩ := hu; simp [nilOf] at h; subst h; exact ⟨_, _, _, rfl, rfl⟩
 | gsl i rows =>
  simp [nilOf] at h
  rcases hu with ⟨rfl, rfl⟩ | ⟨h0, p, c', _, rfl, _⟩
  ·subst h; exact ⟨_, _, _, rfl, rfl⟩
  ·refine ⟨_, _, _, rfl, ?_⟩
   cases rows with
   | nil => exact absurd rfl h0
   | cons => simpa using h
 | ro fl sz rows =>
  cases rows with
  | nil => simp [nilOf] at h
  | cons r0 rows => simp [nilOf] at h; subst h; cases hu; exact ⟨_, _, _, rfl, rfl⟩
 | _ => simp [nilOf] at h
theorem y_eqN (t : TypeId) (x y : Operand) (yt : TypeId) (op : BinOp) (ho : o.op = .binOp op t x y yt) (ti : TI) (ht : tiOf P t = some ti) (e : TypeId × Nat × Nat) (hel : ti.elem = some e) (c : Ce) (hx : evf F x = some (.c c)) (l m : Nat) (hy : evf F y = some (.val (.slice none l m))) (r : Bool) (hr : nilOf c = some r) (z : Bool)
  (hz : (op = .eql ∧ z = r) ∨ (op = .neq ∧ z = !r)) : Yv P o F K [] (.val (.bool z)) := by
 obtain ⟨e, s, bt⟩ := e
 obtain ⟨hu, -⟩ := tiOf_elem ht hel
 intro n W F' K' I R a w hs hxx hk
 have hm : ∀ z ∈ [x, y], evf F' z = evf F z := fun z hz => hxx z (by simpa [ho, Op.operands] using hz)
 have e1 := hs.ev ((hm x (by simp)).trans hx)
 have e2 := ev_plain hs ((hm y (by simp)).trans hy)
 obtain ⟨ad, l', m', v1, v2⟩ := nilOf_spec hr e1
 have hg : (eqGuard op t x y (.slice ad l' m') (.slice none l m)).run P w = .ok () w := by
  unfold eqGuard
  rcases hz with ⟨rfl, _⟩ | ⟨rfl, _⟩ <;> rfl
 refine ⟨_, ?_, rfl⟩
 simp only [execOp, ho, v1, e2]
 rw [Sem.run_bind, Sem.run_bind, hg]
 simp only [Result.andThen_ok]
 rcases hz with ⟨rfl, rfl⟩ | ⟨rfl, rfl⟩
 ·rw [Go.Lib.run_eql_slice_nil w t e ad l' m' l m hu, v2]; rfl
 ·simp only [binOp, Op.equal, Op.maxDepth, Sem.run_bind]
  rw [Go.Lib.run_equalIn_slice_nil w 9999 t e ad l' m' l m hu, v2]; rfl
theorem y_eqS (t : TypeId) (x y : Operand) (yt : TypeId) (op : BinOp) (ho : o.op = .binOp op t x y yt) (ti : TI) (ht : tiOf P t = some ti) (ks : List (Option IntKind)) (hks : ti.eqk = some ks) (xs ys : List Ce) (hx : evf F x = some (.pl (.agg xs))) (hy : evf F y = some (.pl (.agg ys))) (r : Bool) (hr : eqC ks xs ys = some r) (z : Bool)
  (hz : (op = .eql ∧ z = r) ∨ (op = .neq ∧ z = !r)) : Yv P o F K [] (.val (.bool z)) := by
 have hcase : P.eqGuardType P.depth t = false ∧ ((∃ fs, P.underlying t = some (.struct fs) ∧ P.stoodInHeld t = false ∧ flatFs P (flatOf P 4) 0 fs.toList = some ks) ∨ ∃ n e i kd, P.underlying t = some (.array n e) ∧ P.info? e = some i ∧ i.size = 1 ∧ kindOf P e = some kd ∧ ks = List.replicate n kd) := by
  unfold tiOf at ht
  split at ht
  ·rename_i d inf hd hi
   split at ht
   ·simp only [Option.some.injEq] at ht
    subst ht
    cases d <;> simp only [reduceCtorEq] at hks
    ·rename_i n e
     split at hks
     ·rename_i i kd h1 h2
      split at hks
      ·cases hks
      ·rename_i hne
       simp only [Bool.or_eq_true, not_or, Bool.not_eq_true, bne_eq_false_iff_eq] at hne
       simp only [Option.some.injEq] at hks
       exact ⟨hne.1, .inr ⟨n, e, i, kd, hd, h1, hne.2, h2, hks.symm⟩⟩
     ·cases hks
    ·rename_i fs
     split at hks
     ·cases hks
     ·rename_i hne
      simp only [Bool.or_eq_true, not_or, Bool.not_eq_true] at hne
      exact ⟨hne.2, .inl ⟨fs, hd, hne.1, hks⟩⟩
   ·cases ht
  ·cases ht
 obtain ⟨h3, hcase⟩ := hcase
 intro n W F' K' I R a w hs hxx hk
 have hm : ∀ z ∈ [x, y], evf F' z = evf F z := fun z hz => hxx z (by simpa [ho, Op.operands] using hz)
 have e1 := hs.ev ((hm x (by simp)).trans hx)
 have e2 := hs.ev ((hm y (by simp)).trans hy)
 simp only [AV.rel, A0.rel] at e1 e2
 obtain ⟨vs, v1, v2⟩ := e1
 obtain ⟨us, u1, u2⟩ := e2
 have heq : (Op.equalIn 10000 t (.agg vs.toArray) (.agg us.toArray)).run P w = .ok r w := by
  rcases hcase with ⟨fs, h1, h2, h4⟩ | ⟨m, e, i, kd, h1, h2, h4, h5, rfl⟩
  ·have hfs : P.fieldsOf t = fs := by simp [Program.fieldsOf, h1]
   have hrun := run_flatFs (P := P) (I := I) (R := R) (w := w) 9999 (fun t ks h => run_flatOf 9995 4 t ks h) vs.toArray us.toArray fs.toList 0 ks xs ys r h4 hr (by simpa using v2) (by simpa using u2)
   rw [show 10000 = 9999 + 1 from rfl, run_equalIn_struct w 9999 t _ _ (by rw [hfs]; exact h1) h2, hfs]
   exact hrun
  ·have hc : P.cellsOf e = 1 := by simp [Program.cellsOf, h2, h4]
   have hrun := run_eqItems1 (P := P) (I := I) (R := R) (w := w) 9998 h5 vs.toArray us.toArray m 0 xs ys r hr (by simpa using v2) (by simpa using u2)
   rw [show 10000 = 9999 + 1 from rfl, run_equalIn_array w 9999 vs.toArray us.toArray h1 h2, hc, List.range_eq_range']
   exact hrun
 refine ⟨_, ?_, rfl⟩
 simp only [execOp, ho, v1, u1]
 rw [Sem.run_bind, Sem.run_bind, run_eqGuard_agg _ _ _ _ _ _ _ h3]
 simp only [Result.andThen_ok]
 rcases hz with ⟨rfl, rfl⟩ | ⟨rfl, rfl⟩
 ·rw [run_eql_struct, heq]; rfl
 ·rw [run_neq_struct, heq]; rfl
theorem opA_sound (hT : TabOk P T) (h : opA P T o F K top k) : ∃ e, OpEff P o F K top e ∧ k e := by
 obtain ⟨dst, op, ty, pos, after, guard⟩ := o
 unfold opA at h
 dsimp only at h
 split at h
 case h_1 =>
  split at h
  ·rename_i v hv; exact ⟨_, (y_move _ (.inl rfl) v hv).eff, h⟩
  ·exact h.elim
 case h_2 =>
  split at h
  ·rename_i v hv; exact ⟨_, (y_move _ (.inr rfl) v hv).eff, h⟩
  ·exact h.elim
 case h_3 =>
  split at h
  ·rename_i b hb
   cases b with
   | true =>
    have h1 := h.t rfl
    split at h1
    ·rename_i v hv; exact ⟨_, (y_pick _ _ _ rfl true hb v (fun _ => hv) (fun h => by cases h)).eff, h1⟩
    ·exact h1.elim
   | false =>
    have h1 := h.f rfl
    split at h1
    ·rename_i v hv; exact ⟨_, (y_pick _ _ _ rfl false hb v (fun h => by cases h) (fun _ => hv)).eff, h1⟩
    ·exact h1.elim
  ·exact h.elim
 case h_4 =>
  split at h
  ·rename_i i q l hx; exact ⟨_, (y_nilc _ rfl _ hx rfl).eff, h⟩
  ·rename_i fl row l hx; exact ⟨_, (y_nilc _ rfl _ hx rfl).eff, h⟩
  ·rename_i f cap hx; exact ⟨_, (y_nilc _ rfl _ hx rfl).eff, h⟩
  ·exact h.elim
 case h_5 =>
  split at h
  ·rename_i b hx; exact ⟨_, (y_not _ _ rfl b hx).eff, h⟩
  ·exact h.elim
 case h_6 =>
  split at h
  ·rename_i kx p ky q hx hy
   split at h
   ·rename_i hk
    have hk := of_decide_eq_true hk
    subst hk
    split at h
    ·obtain ⟨r, hr, h⟩ := h.h; exact ⟨_, (y_int _ _ _ _ _ rfl kx p q hx hy r (by simp [intOp, hr])).eff, h⟩
    ·obtain ⟨r, hr, h⟩ := h.h; exact ⟨_, (y_int _ _ _ _ _ rfl kx p q hx hy r (by simp [intOp, hr])).eff, h⟩
    ·obtain ⟨r, hr, h⟩ := h.h; exact ⟨_, (y_int _ _ _ _ _ rfl kx p q hx hy r (by simp [intOp, hr])).eff, h⟩
    ·obtain ⟨hz, ⟨r, hr, h⟩⟩ := h; exact ⟨_, (y_div _ _ _ _ _ rfl kx p q hx hy hz r (.inl ⟨rfl, hr.symm⟩)).eff, h⟩
    ·obtain ⟨hz, ⟨r, hr, h⟩⟩ := h; exact ⟨_, (y_div _ _ _ _ _ rfl kx p q hx hy hz r (.inr ⟨rfl, hr.symm⟩)).eff, h⟩
    ·exact ⟨_, (y_cmp _ _ _ _ _ rfl kx p q hx hy _ rfl).eff, h⟩
    ·exact ⟨_, (y_cmp _ _ _ _ _ rfl kx p q hx hy _ rfl).eff, h⟩
    ·exact ⟨_, (y_cmp _ _ _ _ _ rfl kx p q hx hy _ rfl).eff, h⟩
    ·exact ⟨_, (y_cmp _ _ _ _ _ rfl kx p q hx hy _ rfl).eff, h⟩
    ·exact ⟨_, (y_cmp _ _ _ _ _ rfl kx p q hx hy _ rfl).eff, h⟩
    ·exact ⟨_, (y_cmp _ _ _ _ _ rfl kx p q hx hy _ rfl).eff, h⟩
    ·obtain ⟨hz, ⟨r, hr, h⟩⟩ := h; exact ⟨_, (y_shift _ _ _ _ _ rfl kx kx p q hx hy (of_decide_eq_true hz) r (.inl ⟨rfl, hr.symm⟩)).eff, h⟩
    ·obtain ⟨hz, ⟨r, hr, h⟩⟩ := h; exact ⟨_, (y_shift _ _ _ _ _ rfl kx kx p q hx hy (of_decide_eq_true hz) r (.inr ⟨rfl, hr.symm⟩)).eff, h⟩
    ·split at h
     ·rename_i r hr; exact ⟨_, (y_bits _ _ _ _ _ rfl kx p q hx hy r hr).eff, h⟩
     ·exact h.elim
   ·split at h
    ·obtain ⟨hz, ⟨r, hr, h⟩⟩ := h; exact ⟨_, (y_shift _ _ _ _ _ rfl kx ky p q hx hy (of_decide_eq_true hz) r (.inl ⟨rfl, hr.symm⟩)).eff, h⟩
    ·obtain ⟨hz, ⟨r, hr, h⟩⟩ := h; exact ⟨_, (y_shift _ _ _ _ _ rfl kx ky p q hx hy (of_decide_eq_true hz) r (.inr ⟨rfl, hr.symm⟩)).eff, h⟩
    ·exact h.elim
  ·rename_i p q hx hy
   split at h
   ·rename_i ti ht
    split at h
    ·rename_i hb; exact ⟨_, (y_bool _ _ _ _ _ rfl p q hx hy (tiOf_bool (hT _ _ ht) hb) _ (.inl ⟨rfl, rfl⟩)).eff, h⟩
    ·rename_i hb; exact ⟨_, (y_bool _ _ _ _ _ rfl p q hx hy (tiOf_bool (hT _ _ ht) hb) _ (.inr ⟨rfl, rfl⟩)).eff, h⟩
    ·exact h.elim
   ·exact h.elim
  ·rename_i xs ys hx hy
   split at h
   ·rename_i ti ht
    split at h
    ·rename_i ks hks
     split at h
     ·rename_i r hr; exact ⟨_, (y_eqS _ _ _ _ _ rfl ti (hT _ _ ht) ks hks xs ys hx hy r hr _ (.inl ⟨rfl, rfl⟩)).eff, h⟩
     ·rename_i r hr; exact ⟨_, (y_eqS _ _ _ _ _ rfl ti (hT _ _ ht) ks hks xs ys hx hy r hr _ (.inr ⟨rfl, rfl⟩)).eff, h⟩
     ·exact h.elim
    ·exact h.elim
   ·exact h.elim
  ·rename_i c l m hx hy
   split at h
   ·rename_i ti ht
    split at h
    ·rename_i hel hr; exact ⟨_, (y_eqN _ _ _ _ _ rfl ti (hT _ _ ht) _ hel _ hx _ _ hy _ hr _ (.inl ⟨rfl, rfl⟩)).eff, h⟩
    ·rename_i hel hr; exact ⟨_, (y_eqN _ _ _ _ _ rfl ti (hT _ _ ht) _ hel _ hx _ _ hy _ hr _ (.inr ⟨rfl, rfl⟩)).eff, h⟩
    ·exact h.elim
   ·exact h.elim
  ·exact opB_sound hT h
 case h_7 =>
  split at h
  ·rename_i i j kk p hi hj hx
   split at h
   ·rename_i ks kd h1 h2
    obtain ⟨r, rfl, h⟩ := h.h
    exact ⟨_, (y_conv _ _ _ rfl i j kd ks (hT _ _ hi) (hT _ _ hj) h1 h2 kk p hx).eff, h⟩
   ·exact h.elim
  ·exact opB_sound hT h
 case h_8 =>
  split at h
  ·rename_i l hx
   split at h
   ·rename_i c hc; exact ⟨_, (y_extract _ _ rfl l hx c hc).eff, h⟩
   ·exact h.elim
  ·exact h.elim
 case h_9 =>
  split at h
  ·rename_i ps h1 h2
   have := toList_nil h1
   subst this
   exact ⟨_, (y_func _ _ rfl ps (ptsOf_all h2)).eff, h⟩
  ·split at h
   ·rename_i ps h1 h2
    have := toList_nil h1
    subst this
    exact ⟨_, (y_meth _ _ rfl ps (ptsOf_all h2)).eff, h⟩
   ·exact h.elim
 case h_10 =>
  split at h
  ·rename_i ti ht
   split at h
   ·rename_i off sz r hf
    split at h
    ·rename_i i q l hz hx; exact ⟨_, (y_fieldAddr _ _ _ rfl ti (hT _ _ ht) off sz r hf hz _ _ hx rfl).eff, h⟩
    ·rename_i fl row l hz hx; exact ⟨_, (y_fieldAddr _ _ _ rfl ti (hT _ _ ht) off sz r hf hz _ _ hx rfl).eff, h⟩
    ·exact h.elim
   ·exact h.elim
  ·exact h.elim
 case h_11 =>
  split at h
  ·rename_i ti ht
   split at h
   ·rename_i off sz r hf
    split at h
    ·rename_i cs hz hx
     split at h
     ·rename_i v hv; exact ⟨_, (y_field _ _ _ rfl ti (hT _ _ ht) off sz r hf hz cs hx v hv).eff, h⟩
     ·exact h.elim
    ·exact h.elim
   ·exact h.elim
  ·exact h.elim
 case h_12 =>
  split at h
  ·rename_i ti i q l ht hx
   split at h
   ·rename_i b hb
    obtain ⟨row, hr, h⟩ := rowB_spec h
    split at h
    ·rename_i v hv; exact ⟨_, (y_load _ _ rfl ti (hT _ _ ht) i q l hx b hb row hr v hv).eff, h⟩
    ·exact h.elim
   ·exact h.elim
  ·rename_i ti fl row l ht hx
   split at h
   ·rename_i v hv; exact ⟨_, (y_loadr _ _ rfl ti (hT _ _ ht) fl row l hx v hv).eff, h⟩
   ·exact h.elim
  ·exact h.elim
 case h_13 =>
  split at h
  ·rename_i ti i q l v ht hx hy
   split at h
   ·rename_i b hb
    obtain ⟨row, hr, h⟩ := rowB_spec h
    split at h
    ·rename_i h1 h2 h3; rw [spq_eq] at h; exact ⟨_, e_store _ _ _ rfl rfl ti (hT _ _ ht) i q l hx b hb row hr v hy h1 h2 h3, h⟩
    ·exact h.elim
   ·exact h.elim
  ·exact h.elim
 case h_14 =>
  split at h
  ·rename_i ti ht; exact ⟨_, e_alloc _ rfl ti (hT _ _ ht), h⟩
  ·exact h.elim
 case h_15 =>
  split at h
  ·rename_i v hx
   split at h
   ·rename_i h1; exact ⟨_, e_box _ _ rfl v hx h1, h⟩
   ·exact h.elim
  ·exact h.elim
 case h_16 =>
  split at h
  ·rename_i ti ht
   split at h
   ·rename_i avs ho hx
    split at h
    ·rename_i out hout; exact ⟨_, (y_build _ _ rfl ti (hT _ _ ht) ho avs hx out hout).eff, h⟩
    ·exact h.elim
   ·exact opB_sound hT h
  ·exact h.elim
 case h_17 =>
  split at h
  ·rename_i ti kj j ht hy
   split at h
   ·rename_i e s bt hel
    split at h
    ·rename_i i q m c hx
     split at h
     ·rename_i b hb
      split at h
      ·rename_i hs
       obtain ⟨j', h1, h2, h⟩ := h.h
       exact ⟨_, (y_index _ _ _ rfl ti (hT _ _ ht) e s bt hel i q m c (.inl hx) b hb hs kj j hy j' h1 h2).eff, h⟩
      ·exact h.elim
     ·exact h.elim
    ·rename_i fl sz rows hx
     split at h
     ·rename_i hs
      obtain ⟨j', h1, h2, ⟨row, hr, h⟩⟩ := h.h
      exact ⟨_, (y_indexr _ _ _ rfl ti (hT _ _ ht) e s bt hel fl sz rows hx hs kj j hy j' h1 row hr).eff, h⟩
     ·exact h.elim
    ·rename_i i rows hx
     split at h
     ·rename_i b hb
      split at h
      ·rename_i hs
       obtain ⟨j', h1, h2, h⟩ := h.h
       exact ⟨_, (y_index _ _ _ rfl ti (hT _ _ ht) e s bt hel i 0 rows.length none (.inr ⟨rfl, rows, rfl, hx⟩) b hb hs kj j hy j' h1 h2).eff, h⟩
      ·exact h.elim
     ·exact h.elim
    ·exact h.elim
   ·split at h
    ·rename_i m s r hel
     split at h
     ·rename_i i q l hx
      obtain ⟨j', h1, h2, h⟩ := h.h
      exact ⟨_, (y_indexa _ _ _ rfl ti (hT _ _ ht) m s r hel _ _ hx kj j hy j' h1 h2 rfl).eff, h⟩
     ·rename_i fl row l hx
      obtain ⟨j', h1, h2, h⟩ := h.h
      exact ⟨_, (y_indexa _ _ _ rfl ti (hT _ _ ht) m s r hel _ _ hx kj j hy j' h1 h2 rfl).eff, h⟩
     ·exact h.elim
    ·exact h.elim
  ·exact h.elim
 case h_18 =>
  split at h
  ·rename_i x t ha ht'
   have := toList_one ha; subst this
   have := toList_one ht'; subst this
   split at h
   ·rename_i ti ht
    split at h
    ·rename_i el hel
     obtain ⟨e, s, bt⟩ := el
     split at h
     ·rename_i i q m c hx; exact ⟨_, (y_len _ _ rfl ti (hT _ _ ht) e s bt hel _ hx m rfl).eff, h⟩
     ·rename_i fl sz rows hx; exact ⟨_, (y_len _ _ rfl ti (hT _ _ ht) e s bt hel _ hx rows.length rfl).eff, h⟩
     ·rename_i i rows hx; exact ⟨_, (y_len _ _ rfl ti (hT _ _ ht) e s bt hel _ hx rows.length rfl).eff, h⟩
     ·rename_i ad m cap hx; exact ⟨_, (y_len _ _ rfl ti (hT _ _ ht) e s bt hel _ hx m rfl).eff, h⟩
     ·exact h.elim
    ·exact h.elim
   ·exact h.elim
  ·exact h.elim
 case h_19 =>
  split at h
  ·rename_i x y t t' ha htt
   have := toList_two ha; subst this
   have := toList_two htt; subst this
   split at h
   ·rename_i ti kj j hb ht hy
    split at h
    ·rename_i tj htn
     split at h
     ·rename_i kk e s bt hkk hel
      split at h
      ·rename_i te i m0 cp hte hx
       split at h
       ·rename_i b hK
        split at h
        ·rename_i h1 h2
         rcases h.h with h | h
         ·obtain ⟨m, g1, g2, g3, g4, g5, h⟩ := h.h
          exact ⟨_, e_appendz _ _ _ _ rfl ti (hT _ _ ht) tj (hT _ _ htn) kk hkk e s bt hel te (hT _ _ hte) i m0 cp hx b hK h1 h2 kj j hy m g1 g2 g3 g4 g5, h⟩
         ·obtain ⟨m, c0, hcp, hgt, g1, g2, g3, g4, g5, h9⟩ := h.h
          subst hcp
          exact ⟨_, e_appendz_new _ _ _ _ rfl ti (hT _ _ ht) tj (hT _ _ htn) kk hkk e s bt hel te (hT _ _ hte) i m0 c0 hx b hK h1 kj j hy m g1 g2 g3 g4 g5 hgt, h9⟩
        ·exact h.elim
       ·exact h.elim
      ·rename_i te hte hx
       obtain ⟨m, g1, g2, g3, g4, h⟩ := h.h
       exact ⟨_, e_appendz0 _ _ _ _ rfl ti (hT _ _ ht) tj (hT _ _ htn) kk hkk e s bt hel te (hT _ _ hte) hx kj j hy m g1 g2 g3 g4, h⟩
      ·exact h.elim
     ·exact h.elim
    ·exact h.elim
   ·rename_i ti cy hb ht hy
    have := Nat.eq_of_beq_eq_true hb
    have ho' : (Op.call ⟨.builtin .append, #[x, y], #[t, t']⟩) = (Op.call ⟨.builtin .append, #[x, y], #[t, t]⟩) := by rw [this]
    split at h
    ·rename_i e s bt hel
     split at h
     ·rename_i src m rd hsrc
      split at h
      ·rename_i i m0 cp hx
       split at h
       ·rename_i b hK
        split at h
        ·rename_i h1 h2
         rcases h.h with h | h | h
         ·exact ⟨_, e_appendr _ _ _ ho' ti (hT _ _ ht) e s bt hel i m0 cp hx b hK h1 cy hy src m rd hsrc ⟨h.h, h.len, h.one, h.fit, trivial⟩, h.k⟩
         ·exact ⟨_, e_append _ _ _ ho' ti (hT _ _ ht) e s bt hel i m0 cp hx b hK h1 h2 cy hy src m rd hsrc ⟨h.len, h.one, h.le, h.max, h.room, trivial⟩, h.k⟩
         ·obtain ⟨⟨c0, hcp, hgt⟩, h9⟩ := h
          subst hcp
          exact ⟨_, e_append_new _ _ _ ho' ti (hT _ _ ht) e s bt hel i m0 c0 hx b hK h1 cy hy src m rd hsrc ⟨h9.len, h9.one, h9.le, h9.max, h9.room, trivial⟩ hgt, h9.k⟩
        ·exact h.elim
       ·exact h.elim
      ·rename_i i rows hx
       obtain ⟨h1, h⟩ := h
       rcases h.h with ⟨h2, h⟩ | ⟨h2, h⟩
       ·split at h
        ·rename_i r0 hs0
         have : r0 = (src, m, rd) := by have := (srcOf_of0 hs0).symm.trans hsrc; cases this; rfl
         subst this
         exact ⟨_, e_append0g _ _ _ ho' ti (hT _ _ ht) e s bt hel i rows hx cy hy src m rd hs0 h2, h⟩
        ·exact h.elim
       ·exact ⟨_, e_appendg _ _ _ ho' ti (hT _ _ ht) e s bt hel i rows hx h1 cy hy src m rd hsrc h2 ⟨h.len, h.one, h.le, h.max, h.room, trivial⟩, h.k⟩
      ·rename_i hx
       rcases h.h with ⟨h2, h⟩ | ⟨h2, h⟩
       ·split at h
        ·rename_i r0 hs0
         have : r0 = (src, m, rd) := by have := (srcOf_of0 hs0).symm.trans hsrc; cases this; rfl
         subst this
         exact ⟨_, e_append00 _ _ _ ho' ti (hT _ _ ht) e s bt hel hx cy hy src m rd hs0 h2, h⟩
        ·exact h.elim
       ·exact ⟨_, e_appendn _ _ _ ho' ti (hT _ _ ht) e s bt hel hx cy hy src m rd hsrc h2 ⟨h.len, h.one, h.le, h.max, h.room, trivial⟩, h.k⟩
      ·exact h.elim
     ·exact h.elim
    ·exact h.elim
   ·exact h.elim
  ·exact h.elim
 case h_20 =>
  split at h
  ·rename_i x y t t' ha htt
   have := toList_two ha; subst this
   have := toList_two htt; subst this
   split at h
   ·rename_i ti i q m0 cp cy ht hx hy
    split at h
    ·rename_i e s bt hel
     split at h
     ·rename_i b src m rd hK hsrc
      split at h
      ·rename_i hs
       exact ⟨_, e_copy _ _ _ _ rfl ti (hT _ _ ht) e s bt hel i q m0 cp hx b hK hs cy hy src m rd hsrc ⟨h.len, h.one, h.fit, trivial⟩, h.k⟩
      ·exact h.elim
     ·exact h.elim
    ·exact h.elim
   ·rename_i ti fl s0 cy ht hx hy
    split at h
    ·rename_i e s bt hel
     split at h
     ·rename_i src m rd hsrc
      exact ⟨_, (y_copy0 _ _ _ _ rfl ti (hT _ _ ht) e s bt hel fl s0 hx cy hy src m rd hsrc ⟨h.len, h.one, h.fit, trivial⟩).eff, h.k⟩
     ·exact h.elim
    ·exact h.elim
   ·exact h.elim
  ·exact h.elim
 case h_21 =>
  split at h
  ·rename_i x t ha htt
   have := toList_one ha; subst this
   have := toList_one htt; subst this
   split at h
   ·rename_i ti i q m0 c ht hx
    split at h
    ·rename_i el hel
     obtain ⟨e, s, bt⟩ := el
     exact ⟨_, (y_cap _ _ rfl ti (hT _ _ ht) e s bt hel i q m0 c hx).eff, h⟩
    ·exact h.elim
   ·rename_i ti ad m0 c ht hx
    split at h
    ·rename_i el hel
     obtain ⟨e, s, bt⟩ := el
     exact ⟨_, (y_capv _ _ rfl ti (hT _ _ ht) e s bt hel ad m0 c hx).eff, h⟩
    ·exact h.elim
   ·exact h.elim
  ·exact h.elim
 case h_22 =>
  split at h
  ·rename_i ti kl l kc c ht hx hy
   split at h
   ·rename_i e s bt hel
    split at h
    ·rename_i te hte
     obtain ⟨l', c', h1, h2, h3, h4, h5, h⟩ := h.h
     exact ⟨_, e_make _ _ _ rfl ti (hT _ _ ht) e s bt hel te (hT _ _ hte) kl kc l c hx hy l' c' h1 h2 h3 h4 h5, h⟩
    ·exact h.elim
   ·exact h.elim
  ·exact h.elim
 case h_23 =>
  split at h
  ·rename_i ti ht
   split at h
   ·rename_i e s bt hel
    split at h
    ·rename_i te avs hte hx hs hl
     split at h
     ·rename_i out hout
      exact ⟨_, e_lit _ _ _ rfl ti (hT _ _ ht) e s bt hel te (hT _ _ hte) hs hl avs hx out hout, h⟩
     ·exact h.elim
    ·exact h.elim
   ·exact h.elim
  ·exact h.elim
 case h_24 =>
  split at h
  ·rename_i ti l hi' ht hl hh
   split at h
   ·rename_i e s bt hel
    split at h
    ·rename_i i q m0 c hx
     split at h
     ·rename_i b hK
      split at h
      ·rename_i hs
       obtain ⟨l', h', h1, h2, h3, h4, h⟩ := h.h
       have g1 := intOf_spec hl h1
       have g2 := intOf_spec hh h2
       cases l with
       | none => exact ⟨_, (y_slo _ _ _ _ rfl ti (hT _ _ ht) e s bt hel i q m0 c (.inl hx) b hK hs l' h' g1 g2 h3 h4 (.inl h1)).eff, h⟩
       | some l =>
        rcases h.h with ⟨g3, h⟩ | ⟨g3, h⟩
        ·exact ⟨_, (y_slo _ _ _ _ rfl ti (hT _ _ ht) e s bt hel i q m0 c (.inl hx) b hK hs l' h' g1 g2 h3 h4 g3).eff, h⟩
        ·exact ⟨_, (y_sle _ _ _ _ rfl ti (hT _ _ ht) e s bt hel i q m0 c hx b hK hs l' h' g1 g2 h3 h4 g3).eff, h⟩
      ·exact h.elim
     ·exact h.elim
    ·rename_i fl s' rows hx
     split at h
     ·rename_i hs
      have := Nat.eq_of_beq_eq_true hs; subst this
      obtain ⟨l', h', h1, h2, h3, h4, h⟩ := h.h
      have g1 := intOf_spec hl h1
      have g2 := intOf_spec hh h2
      exact ⟨_, (y_slr _ _ _ _ rfl ti (hT _ _ ht) e _ bt hel fl rows hx l' h' g1 g2 h3 (by rcases h4 with h4 | ⟨c, h4, _⟩; exact h4; cases h4)).eff, h⟩
     ·exact h.elim
    ·rename_i i rows hx
     split at h
     ·rename_i b hK
      split at h
      ·rename_i hs
       obtain ⟨h0, h⟩ := h
       obtain ⟨l', h', h1, h2, h3, h4, h⟩ := h.h
       have g1 := intOf_spec hl h1
       have g2 := intOf_spec hh h2
       cases l with
       | none => exact ⟨_, (y_slo _ _ _ _ rfl ti (hT _ _ ht) e s bt hel i 0 rows.length none (.inr ⟨rfl, rfl, rows, rfl, h0, hx⟩) b hK hs l' h' g1 g2 h3 h4 (.inl h1)).eff, h⟩
       | some l => exact ⟨_, (y_slo _ _ _ _ rfl ti (hT _ _ ht) e s bt hel i 0 rows.length none (.inr ⟨rfl, rfl, rows, rfl, h0, hx⟩) b hK hs l' h' g1 g2 h3 h4 h.1).eff, h.2⟩
      ·exact h.elim
     ·exact h.elim
    ·rename_i hx
     obtain ⟨l', h', h1, h2, h3, h4, h⟩ := h.h
     exact ⟨_, (y_sl0 _ _ _ _ rfl ti (hT _ _ ht) e s bt hel hx l' h' (intOf_spec hl h1) (intOf_spec hh h2) h3 (by rcases h4 with h4 | ⟨c, h4, _⟩; exact h4; cases h4)).eff, h⟩
    ·exact h.elim
   ·exact h.elim
  ·exact opB_sound hT h
 case h_25 =>
  split at h
  ·rename_i x y ha
   have := toList_two ha; subst this
   split at h
   ·rename_i kx p ky q hx hy
    split at h
    ·rename_i hk
     have hk := of_decide_eq_true hk
     subst hk
     exact ⟨_, (y_mm false _ _ _ rfl kx p q hx hy).eff, h⟩
    ·exact h.elim
   ·exact h.elim
  ·exact h.elim
 case h_26 =>
  split at h
  ·rename_i x y ha
   have := toList_two ha; subst this
   split at h
   ·rename_i kx p ky q hx hy
    split at h
    ·rename_i hk
     have hk := of_decide_eq_true hk
     subst hk
     exact ⟨_, (y_mm true _ _ _ rfl kx p q hx hy).eff, h⟩
    ·exact h.elim
   ·exact h.elim
  ·exact h.elim
 case h_27 => exact opB_sound hT h
end
end Go.Proofs.Ytopieffkpdlpbaa.Wx
namespace Go.Proofs.Ytopieffkpdlpbaa.Wx
open Go Go.RowKit
def nextP (W : Wo) (n m : Nat) (I : IM) (R : RM) (A : S → Prop) (a' : Act) (w' : World) : Prop :=
 ∃ s' I' R', St n W (get s'.F) (kg s'.K) I' R' a' w' ∧ (∀ j, s'.top ≤ j → I' j = none) ∧ m ≤ s'.top ∧ (∀ j, j < m → I' j = I j) ∧ RExt R R' ∧ A s'
def PostS (W : Wo) (n m : Nat) (I : IM) (R : RM) (Q : Exit → S → Prop) (e : Exit) (a' : Act) (w' : World) : Prop := nextP W n m I R (Q e) a' w'
def Tr (P : Program) (W : Wo) (n m : Nat) (c : Code) (s : S) (Q : Exit → S → Prop) : Prop :=
 ∀ I R a w, St n W (get s.F) (kg s.K) I R a w → (∀ j, s.top ≤ j → I j = none) → m ≤ s.top → c.wp P (PostS W n m I R Q) a w
structure CallP (P : Program) (W : Wo) (m : Nat) (g : FuncId) (cap : List Pt) (avs : List AV) (K : Kr) (top : Nat) (k : AV → Kr → Nat → Prop) : Prop where
 fn : fnB P g = true
 run : ∀ I R w vs us, Wd W (kg K) I R w → (∀ j, top ≤ j → I j = none) → m ≤ top → All2 (AV.rel I R) avs vs → All2 (Pt.rel I) cap us →
  Calls P g (vs.toArray ++ us.toArray) w (fun e w' => ∃ v x K' top' I' R', e = .returned v ∧ Wd W (kg K') I' R' w' ∧ (∀ j, top' ≤ j → I' j = none) ∧ top ≤ top' ∧ (∀ j, j < top → I' j = I j) ∧ RExt R R' ∧ x.rel I' R' v ∧ k x K' top')
def evs (F : Nat → Option AV) : List Operand → Option (List AV)
 | [] => some []
 | x :: r => match evf F x, evs F r with
  | some v, some l => some (v :: l)
  | _, _ => none
def callOf (op : Op) : Option (Operand × List Operand) :=
 match op with
 | .call ⟨.value f, xs, _⟩ => some (f, xs.toList)
 | _ => none
section
variable (P : Program) (T : Tab) (W : Wo) (n m : Nat)
def onE (dst : Option Tmp) (F : Fr) (K : Kr) (top : Nat) (k : S → Prop) (e : Eff) : Prop :=
 match e with
 | ⟨av, _, kw, top'⟩ => match Nat.ble top top' with
  | true => match dst, kw with
   | none, [] => k ⟨F, K, top'⟩
   | some d, [] => k ⟨(d, av) :: F, K, top'⟩
   | none, [p] => k ⟨F, p :: K, top'⟩
   | some d, [p] => k ⟨(d, av) :: F, p :: K, top'⟩
   | _, _ => k ⟨put F dst av, kw ++ K, top'⟩
  | false => False
def stepA (o : Oper) (s : S) (k : S → Prop) : Prop :=
 match o, s with
 | ⟨dst, op, ty, pos, after, guard⟩, ⟨F, K, top⟩ => match dstB n dst with
  | true => match callOf op with
   | some (f, xs) => match evf (get F) f, evs (get F) xs with
    | some (.pl (.one (.fn g cap))), some avs => CallP P W m g cap avs K top fun x K' top' => match dst with
     | some d => k ⟨(d, x) :: F, K', top'⟩
     | none => k ⟨F, K', top'⟩
    | _, _ => False
   | none => opA P T ⟨dst, op, ty, pos, after, guard⟩ (get F) (kg K) top (onE dst F K top k)
  | false => False
def runA (ops : Array Oper) : List Oper → S → (S → Prop) → Prop
 | [], s, k => k s
 | ⟨dst, op, ty, pos, after, guard⟩ :: r, ⟨F, K, top⟩, k => match guard with
  | none => stepA P T W n m ⟨dst, op, ty, pos, after, none⟩ ⟨F, K, top⟩ fun s' => runA ops r s' k
  | some (g, want) => match dstB n dst, (ops[g]?).bind (·.dst) with
   | true, some t => match get F t with
    | some (.pl (.one (.v (.bool b)))) => match want, dst with
     | true, some d => spB b (stepA P T W n m ⟨dst, op, ty, pos, after, none⟩ ⟨(t, .val (.bool true)) :: F, K, top⟩ fun s' => runA ops r s' k) (runA ops r ⟨(d, .val undef) :: (t, .val (.bool false)) :: F, K, top⟩ k)
     | false, some d => spB b (runA ops r ⟨(d, .val undef) :: (t, .val (.bool true)) :: F, K, top⟩ k) (stepA P T W n m ⟨dst, op, ty, pos, after, none⟩ ⟨(t, .val (.bool false)) :: F, K, top⟩ fun s' => runA ops r s' k)
     | true, none => spB b (stepA P T W n m ⟨dst, op, ty, pos, after, none⟩ ⟨(t, .val (.bool true)) :: F, K, top⟩ fun s' => runA ops r s' k) (runA ops r ⟨(t, .val (.bool false)) :: F, K, top⟩ k)
     | false, none => spB b (runA ops r ⟨(t, .val (.bool true)) :: F, K, top⟩ k) (stepA P T W n m ⟨dst, op, ty, pos, after, none⟩ ⟨(t, .val (.bool false)) :: F, K, top⟩ fun s' => runA ops r s' k)
    | some (.pl (.one (.v (.tuple _)))) => match dst with
     | some d => runA ops r ⟨(d, .val undef) :: F, K, top⟩ k
     | none => runA ops r ⟨F, K, top⟩ k
    | _ => False
   | _, _ => False
structure DrawN (P : Program) (W : Wo) (n m : Nat) (id : Nat) (ops : Array Oper) (s : S) (k : S → Prop) : Prop where
 h : Tr P W n m (.region id ops true) s fun e s' => match e with | .normal => k s' | _ => False
structure LoopN (P : Program) (W : Wo) (n m : Nat) (c : Code) (s : S) (Q : Exit → S → Prop) : Prop where
 h : Tr P W n m (.loop c) s Q
def codeA : Code → S → (Exit → S → Prop) → Prop
 | .skip, s, Q => Q .normal s
 | .region id ops draw, s, Q => match draw with
  | false => runA P T W n m ops ops.toList s (Q .normal)
  | true => DrawN P W n m id ops s (Q .normal)
 | .seq a b, s, Q => codeA a s fun e s' => match e with
  | .normal => codeA b s' Q
  | e => Q e s'
 | .cond c x y, ⟨F, K, top⟩, Q => match evf (get F) c with
  | some (.pl (.one (.v (.bool b)))) => spB b (codeA x ⟨F, K, top⟩ Q) (codeA y ⟨F, K, top⟩ Q)
  | _ => False
 | .block id c, s, Q => codeA c s fun e s' => match e with
  | .exit i => match Nat.beq i id with
   | true => Q .normal s'
   | false => Q (.exit i) s'
  | e => Q e s'
 | .loop c, s, Q => LoopN P W n m c s Q
 | .exit id, s, Q => Q (.exit id) s
 | .ret, s, Q => Q .ret s
 | .label _, s, Q => Q .normal s
 | .scope c, s, Q => codeA c s fun e s' => match e with
  | .goto _ => False
  | e => Q e s'
 | _, _, _ => False
end
section
variable {P : Program} {T : Tab} {W : Wo} {n m : Nat}
theorem nextP.of {I I1 : IM} {R R1 : RM} {A : S → Prop} {a' : Act} {w' : World} (h : nextP W n m I1 R1 A a' w') (hI : ∀ j, j < m → I1 j = I j) (hR : RExt R R1) : nextP W n m I R A a' w' := by
 obtain ⟨s', I', R', h1, h2, h3, h4, h5, h6⟩ := h
 exact ⟨s', I', R', h1, h2, h3, fun j hj => (h4 j hj).trans (hI j hj), hR.trans h5, h6⟩
theorem fnB_call {g : FuncId} (h : fnB P g = true) (args : Array Value) (w : World) : (callFunc g args).run P w = .ok (.enter g args) w := by
 unfold fnB at h
 split at h
 ·rename_i fn hf
  simp only [Bool.and_eq_true, Bool.not_eq_true', Option.isSome_iff_ne_none] at h
  have h1 : fn.name ≠ "runtime.NumGoroutine" := by simpa using h.1
  simp [callFunc, hf, h1, h.2]
 ·cases h
theorem St.evs {F : Nat → Option AV} {K : Nat → Option Blk} {I : IM} {R : RM} {a : Act} {w : World} (h : St n W F K I R a w) : ∀ {l : List Operand} {vs : List AV}, Wx.evs F l = some vs → All2 (AV.rel I R) vs (l.map a.eval)
 | [], vs, hx => by simp only [Wx.evs, Option.some.injEq] at hx; subst hx; trivial
 | x :: r, vs, hx => by
  simp only [Wx.evs] at hx
  split at hx
  ·rename_i v l h1 h2
   simp only [Option.some.injEq] at hx
   subst hx
   exact ⟨h.ev h1, h.evs h2⟩
  ·cases hx
end
end Go.Proofs.Ytopieffkpdlpbaa.Wx
namespace Go.Proofs.Ytopieffkpdlpbaa.Wx
open Go Go.RowKit
def rn (l : List Nat) (big j : Nat) : Nat :=
 match l[j]? with
 | some i => i
 | none => big + j
def Pa.ren (r : Nat → Nat) : Pa → Pa
 | .v x => .v x
 | .own i q k => .own (r i) q k
def Pt.ren (r : Nat → Nat) : Pt → Pt
 | .ag l => .ag (l.map (Pa.ren r))
 | .v x => .v x
 | .own i q k => .own (r i) q k
def Ce.ren (r : Nat → Nat) : Ce → Ce
 | .v x => .v x
 | .own i q k => .own (r i) q k
 | .osl i q n c => .osl (r i) q n c
 | .fn f cap => .fn f (cap.map (Pt.ren r))
 | .ro fl sz rows => .ro fl sz rows
 | .rp fl row k => .rp fl row k
 | .gsl i rows => .gsl (r i) rows
 | .mpv i => .mpv (r i)
 | .yl i => .yl (r i)
 | .mf f l => .mf f (l.map (Pt.ren r))
def A0.ren (r : Nat → Nat) : A0 → A0
 | .one c => .one (c.ren r)
 | .agg cs => .agg (cs.map (Ce.ren r))
def AV.ren (r : Nat → Nat) : AV → AV
 | .pl a => .pl (a.ren r)
 | .tup l => .tup (l.map (A0.ren r))
def Blk.ren (r : Nat → Nat) (b : Blk) : Blk := ⟨b.rows.map (List.map (Ce.ren r)), b.sz, b.ty, b.bx⟩
theorem All2.of_map {α β γ : Type} {r : γ → β → Prop} (f : α → γ) : ∀ {l : List α} {m : List β}, All2 r (l.map f) m → All2 (fun a b => r (f a) b) l m
 | [], [], _ => trivial
 | a :: l, b :: m, hh => ⟨hh.1, All2.of_map f hh.2⟩
 | [], _ :: _, hh => hh.elim
 | _ :: _, [], hh => hh.elim
section
variable {I : IM} {R : RM} {r : Nat → Nat}
theorem Pt.rel_ren {p : Pt} {u : Value} : (p.ren r).rel I u ↔ p.rel (fun j => I (r j)) u := by
 have hpa : ∀ {q : Pa} {v : Value}, (q.ren r).rel I v ↔ q.rel (fun j => I (r j)) v := fun {q v} => by cases q <;> exact Iff.rfl
 cases p with
 | ag l =>
  constructor
  ·rintro ⟨vs, h1, h2⟩; exact ⟨vs, h1, (All2.of_map _ h2).mono fun _ _ => hpa.1⟩
  ·rintro ⟨vs, h1, h2⟩; exact ⟨vs, h1, All2.map _ (h2.mono fun _ _ => hpa.2)⟩
 | _ => exact Iff.rfl
theorem Ce.rel_ren {c : Ce} {u : Value} : (c.ren r).rel I R u ↔ c.rel (fun j => I (r j)) R u := by
 cases c with
 | fn f cap =>
  constructor
  ·rintro ⟨vs, h1, h2⟩; exact ⟨vs, (All2.of_map _ h1).mono fun _ _ => Pt.rel_ren.1, h2⟩
  ·rintro ⟨vs, h1, h2⟩; exact ⟨vs, All2.map _ (h1.mono fun _ _ => Pt.rel_ren.2), h2⟩
 | mf f l =>
  constructor
  ·rintro ⟨vs, h1, h2⟩; exact ⟨vs, (All2.of_map _ h1).mono fun _ _ => Pt.rel_ren.1, h2⟩
  ·rintro ⟨vs, h1, h2⟩; exact ⟨vs, All2.map _ (h1.mono fun _ _ => Pt.rel_ren.2), h2⟩
 | _ => exact Iff.rfl
theorem A0.rel_ren {c : A0} {u : Value} : (c.ren r).rel I R u ↔ c.rel (fun j => I (r j)) R u := by
 cases c with
 | one c => exact Ce.rel_ren
 | agg cs =>
  constructor
  ·rintro ⟨vs, h1, h2⟩; exact ⟨vs, h1, (All2.of_map _ h2).mono fun _ _ => Ce.rel_ren.1⟩
  ·rintro ⟨vs, h1, h2⟩; exact ⟨vs, h1, All2.map _ (h2.mono fun _ _ => Ce.rel_ren.2)⟩
theorem AV.rel_ren {c : AV} {u : Value} : (c.ren r).rel I R u ↔ c.rel (fun j => I (r j)) R u := by
 cases c with
 | pl c => exact A0.rel_ren
 | tup cs =>
  constructor
  ·rintro ⟨vs, h1, h2⟩; exact ⟨vs, h1, (All2.of_map _ h2).mono fun _ _ => A0.rel_ren.1⟩
  ·rintro ⟨vs, h1, h2⟩; exact ⟨vs, h1, All2.map _ (h2.mono fun _ _ => A0.rel_ren.2)⟩
theorem Bk.ren {b : Blk} {p : Loc} {w : World} : Bk I R (b.ren r) p w ↔ Bk (fun j => I (r j)) R b p w := by
 constructor
 ·rintro ⟨h1, h2, h3, h4, cs, h5, h6, h7⟩
  refine ⟨h1, by simpa [Blk.ren] using h2, h3, fun x hx => ?_, cs, h5, h6, fun q x k c hq hk => ?_⟩
  ·have := h4 (x.map (Ce.ren r)) (List.mem_map.2 ⟨x, hx, rfl⟩); simpa [Blk.ren] using this
  ·obtain ⟨u, hu, hr⟩ := h7 q (x.map (Ce.ren r)) k (c.ren r) (by simp [Blk.ren, hq]) (by simp [hk])
   exact ⟨u, hu, Ce.rel_ren.1 hr⟩
 ·rintro ⟨h1, h2, h3, h4, cs, h5, h6, h7⟩
  refine ⟨h1, by simpa [Blk.ren] using h2, h3, fun x hx => ?_, cs, h5, h6, fun q x k c hq hk => ?_⟩
  ·obtain ⟨y, hy, rfl⟩ := List.mem_map.1 hx
   simpa [Blk.ren] using h4 y hy
  ·simp only [Blk.ren, List.getElem?_map, Option.map_eq_some_iff] at hq
   obtain ⟨y, hy, rfl⟩ := hq
   simp only [List.getElem?_map, Option.map_eq_some_iff] at hk
   obtain ⟨c', hc', rfl⟩ := hk
   obtain ⟨u, hu, hr⟩ := h7 q y k c' hy hc'
   exact ⟨u, hu, Ce.rel_ren.2 hr⟩
end
def subF (r : Nat → Nat) (F : Fr) : Fr → Prop
 | [] => True
 | (t, x) :: G => get F t = some (x.ren r) ∧ subF r F G
def subK (r : Nat → Nat) (K : Kr) : Kr → Prop
 | [] => True
 | (j, o) :: G => (∀ b, o = some b → kg K (r j) = some (b.ren r)) ∧ subK r K G
theorem subF.get {r : Nat → Nat} {F : Fr} : ∀ {G : Fr} {t : Nat} {x : AV}, subF r F G → Wx.get G t = some x → Wx.get F t = some (x.ren r)
 | [], t, x, _, h => by simp [Wx.get] at h
 | (k, y) :: G, t, x, hs, h => by
  simp only [Wx.get] at h
  cases hb : Nat.beq k t with
  | true =>
   simp only [hb, Option.some.injEq] at h
   subst h
   rw [← Nat.eq_of_beq_eq_true hb]
   exact hs.1
  | false =>
   simp only [hb] at h
   exact subF.get hs.2 h
theorem subK.get {r : Nat → Nat} {K : Kr} : ∀ {G : Kr} {j : Nat} {b : Blk}, subK r K G → kg G j = some b → kg K (r j) = some (b.ren r)
 | [], j, b, _, h => by simp [kg] at h
 | (k, y) :: G, j, b, hs, h => by
  simp only [kg] at h
  cases hb : Nat.beq k j with
  | true =>
   simp only [hb] at h
   rw [← Nat.eq_of_beq_eq_true hb]
   exact hs.1 b h
  | false =>
   simp only [hb] at h
   exact subK.get (G := G) hs.2 h
structure Wk (m : Nat) (l : List Nat) (s s0 : S) : Prop where
 len : l.length = s0.top
 nd : l.Nodup
 pre : l.take m = List.range m
 mle : m ≤ s0.top
 F : subF (rn l s.top) s.F s0.F
 K : subK (rn l s.top) s.K s0.K
section
variable {P : Program} {T : Tab} {W : Wo} {n m : Nat} {I : IM} {R : RM} {a : Act} {w : World} {s s0 : S}
theorem rn_dom {l : List Nat} (hlen : l.length = s0.top) (hd : ∀ j, s.top ≤ j → I j = none) : ∀ j, s0.top ≤ j → I (rn l s.top j) = none := fun j hj => by
 unfold rn
 rw [List.getElem?_eq_none (by omega)]
 exact hd (s.top + j) (by omega)
theorem rn_inj {l : List Nat} (nd : l.Nodup) {i j : Nat} (hi : I (rn l s.top i) ≠ none) (hj : I (rn l s.top j) ≠ none) (hd : ∀ j, s.top ≤ j → I j = none) (h : rn l s.top i = rn l s.top j) : i = j := by
 have low : ∀ i, I (rn l s.top i) ≠ none → ∃ k, l[i]? = some k := fun i hi => by
  unfold rn at hi
  split at hi
  ·rename_i k hk; exact ⟨k, hk⟩
  ·exact absurd (hd _ (by omega)) hi
 obtain ⟨k1, h1⟩ := low i hi
 obtain ⟨k2, h2⟩ := low j hj
 have hlt := (List.getElem?_eq_some_iff.1 h1).1
 unfold rn at h
 rw [h1, h2] at h
 simp only at h
 subst h
 exact (List.getElem?_inj hlt nd).1 (h1.trans h2.symm)
theorem Wd.weak {K0 : Kr} {l : List Nat} (h : Wd W (kg s.K) I R w) (nd : l.Nodup) (hK : subK (rn l s.top) s.K K0) (hd : ∀ j, s.top ≤ j → I j = none) : Wd W (kg K0) (fun j => I (rn l s.top j)) R w := by
 refine ⟨?_, ?_, ?_, h.ro, ?_, h.fresh, h.less, h.below, h.out, h.qz⟩
 ·intro i b hi
  obtain ⟨p, hp, hk⟩ := h.blk _ _ (hK.get hi)
  exact ⟨p, hp, Bk.ren.1 hk⟩
 ·intro i j bi bj p q hi hj hp hq he
  have hp' : I (rn l s.top i) = some p := hp
  have hq' : I (rn l s.top j) = some q := hq
  exact rn_inj nd (by simp [hp']) (by simp [hq']) hd (h.inj _ _ _ _ _ _ (hK.get hi) (hK.get hj) hp hq he)
 ·intro i b p hi hp
  exact h.base _ _ _ (hK.get hi) hp
 ·intro i b p f o hi hp
  exact h.apart _ _ _ f o (hK.get hi) hp
def Stp (m : Nat) (s s' : S) : Prop := ∀ (n : Nat) (W : Wo) (I : IM) (R : RM) (a : Act) (w : World), St n W (get s.F) (kg s.K) I R a w → (∀ j, s.top ≤ j → I j = none) →
 ∃ I' R', St n W (get s'.F) (kg s'.K) I' R' a w ∧ (∀ j, s'.top ≤ j → I' j = none) ∧ m ≤ s'.top ∧ (∀ j, j < m → I' j = I j) ∧ RExt R R'
theorem Stp.refl {s : S} (h : m ≤ s.top) : Stp m s s := fun n W I R a w hs hd => ⟨I, R, hs, hd, h, fun _ _ => rfl, .refl _⟩
end
section
variable (P : Program) (T : Tab) (W : Wo) (n m : Nat) (c : Code) (Q : Exit → S → Prop)
def loopU : Nat → S → Prop
 | 0, _ => False
 | f + 1, s => codeA P T W n m c s fun e s' => match e with
  | .normal => loopU f s'
  | e => Q e s'
end
def retV : List A0 → AV
 | [x] => .pl x
 | l => .tup l
def resL (T : Tab) (s : S) : List ResultVar → Option (List A0)
 | [] => some []
 | .tmp t :: r => match get s.F t, resL T s r with
  | some (.pl x), some l => some (x :: l)
  | _, _ => none
 | .cell p t :: r => match get s.F p, tyGet T t, resL T s r with
  | some (.pl (.one (.own i q k))), some ti, some l => match kg s.K i with
   | some b => match b.rows[q]? with
    | some row => match cut ti.row k ti.size row with
     | some v => some (v :: l)
     | none => none
    | none => none
   | none => none
  | _, _, _ => none
def resF (a : Act) : ResultVar → Sem Value
 | .tmp t => pure (a.tmps.getD t undef)
 | .cell p t => do loadVar t (← asAddr (a.tmps.getD p undef))
section
variable {P : Program} {T : Tab} {W : Wo} {n m : Nat} {I : IM} {R : RM} {a : Act} {w : World} {s : S}
theorem resL_run (hT : TabOk P T) (hs : St n W (get s.F) (kg s.K) I R a w) : ∀ (l : List ResultVar) (xs : List A0), resL T s l = some xs → ∃ vs, (l.mapM (resF a)).run P w = .ok vs w ∧ All2 (A0.rel I R) xs vs
 | [], xs, h => by simp only [resL, Option.some.injEq] at h; subst h; exact ⟨[], rfl, trivial⟩
 | .tmp t :: r, xs, h => by
  simp only [resL] at h
  split at h
  ·rename_i x l h1 h2
   simp only [Option.some.injEq] at h
   subst h
   obtain ⟨vs, g1, g2⟩ := resL_run hT hs r l h2
   have e1 : (AV.pl x).rel I R (a.tmps.getD t undef) := hs.fr t _ h1
   refine ⟨a.tmps.getD t undef :: vs, ?_, e1, g2⟩
   simp only [List.mapM_cons, resF, Sem.run_bind, Sem.run_pure, Result.andThen_ok, g1]
  ·cases h
 | .cell p t :: r, xs, h => by
  simp only [resL] at h
  split at h
  ·rename_i i q k ti l h1 h2 h3
   split at h
   ·rename_i b hb
    split at h
    ·rename_i row hr
     split at h
     ·rename_i v hv
      simp only [Option.some.injEq] at h
      subst h
      obtain ⟨vs, g1, g2⟩ := resL_run hT hs r l h3
      have e1 := hs.fr p _ h1
      obtain ⟨lc, hlc, hu⟩ : ∃ lc, I i = some lc ∧ a.tmps.getD p undef = .pointer (some ⟨lc.b, q * lc.sz + k, none⟩) := e1
      obtain ⟨lc', us, hlc', hsz, r1, r2, _⟩ := hs.row hb hr
      rw [hlc] at hlc'; cases hlc'
      obtain ⟨u, r3, r4⟩ := load_run (hT _ _ h2) r1 (b := lc.b) (off := q * lc.sz) r2 hv
      refine ⟨u :: vs, ?_, r4, g2⟩
      have r3' : (loadVar t ⟨lc.b, q * lc.sz + k, none⟩).run P w = .ok u w := by
       simpa [Instr.loadAt, Instr.sureAddr] using r3
      simp only [List.mapM_cons, resF, hu, asAddr, Sem.run_bind, Sem.run_pure, Result.andThen_ok, g1, r3']
     ·cases h
    ·cases h
   ·cases h
  ·cases h
theorem resL_results (hT : TabOk P T) (hs : St n W (get s.F) (kg s.K) I R a w) {fn : Func} {xs : List A0} (h : resL T s fn.results.toList = some xs) : ∃ v, (results fn a.tmps).run P w = .ok v w ∧ (retV xs).rel I R v := by
 obtain ⟨vs, h1, h2⟩ := resL_run hT hs _ _ h
 have hf : Go.results fn a.tmps = (do let vs ← fn.results.mapM (resF a); pure (if h : vs.size = 1 then vs[0] else .tuple vs)) := by
  unfold Go.results
  congr 1
 have hr : fn.results = fn.results.toList.toArray := by simp
 rw [hf, hr, Sem.run_bind, List.mapM_toArray]
 simp only [map_eq_pure_bind, Sem.run_bind]
 rw [h1]
 simp only [Result.andThen_ok, Sem.run_pure, List.size_toArray]
 match xs, vs, h2 with
 | [], [], _ => exact ⟨_, rfl, [], rfl, trivial⟩
 | [x], [v], h2 => exact ⟨v, rfl, h2.1⟩
 | x :: y :: r, v :: u :: q, h2 => exact ⟨.tuple (v :: u :: q).toArray, by simp, _, rfl, h2⟩
 | [], _ :: _, h2 => exact h2.elim
 | _ :: _, [], h2 => exact h2.elim
 | [x], v :: u :: q, h2 => exact h2.2.elim
 | x :: y :: r, [v], h2 => exact h2.2.elim
end
def argF : Nat → List AV → Fr
 | _, [] => []
 | k, v :: r => (k, v) :: argF (k + 1) r
theorem get_argF : ∀ (l : List AV) (k t : Nat) (x : AV), get (argF k l) t = some x → k ≤ t ∧ l[t - k]? = some x
 | [], k, t, x, h => by simp [argF, get] at h
 | v :: r, k, t, x, h => by
  simp only [argF, get] at h
  cases hb : Nat.beq k t with
  | true =>
   simp only [hb, Option.some.injEq] at h
   subst h
   rw [← Nat.eq_of_beq_eq_true hb]
   simp
  | false =>
   simp only [hb] at h
   have hne := Nat.ne_of_beq_eq_false hb
   obtain ⟨h2, h3⟩ := get_argF r (k + 1) t x h
   refine ⟨by omega, ?_⟩
   rw [show t - k = (t - (k + 1)) + 1 by omega]
   simpa using h3
theorem st_args {n : Nat} {W : Wo} {K : Nat → Option Blk} {I : IM} {R : RM} {w : World} {avs : List AV} {vs : List Value} (hv : All2 (AV.rel I R) avs vs) (hw : Wd W K I R w) (hle : vs.length ≤ n) :
  St n W (get (argF 0 avs)) K I R { tmps := vs.toArray ++ Array.replicate (n - vs.toArray.size) undef, defers := [] } w := by
 refine ⟨by simp; omega, rfl, fun t x hx => ?_, hw⟩
 obtain ⟨_, h⟩ := get_argF _ _ _ _ hx
 simp only [Nat.sub_zero] at h
 obtain ⟨u, hu, hr⟩ := hv.get h
 have hlt : t < vs.length := (List.getElem?_eq_some_iff.1 hu).1
 simp only [Act.eval, Array.getD_eq_getD_getElem?]
 rw [Array.getElem?_append_left (by simpa using hlt)]
 rw [List.getElem?_toArray, hu]
 exact hr
def capA (cap : List Pt) : List AV := cap.map Pt.asV
theorem capA_rel {I : IM} {R : RM} : ∀ {cap : List Pt} {us : List Value}, All2 (Pt.rel I) cap us → All2 (AV.rel I R) (capA cap) us
 | [], [], _ => trivial
 | .v x :: cap, u :: us, h => ⟨h.1, capA_rel h.2⟩
 | .own i q k :: cap, u :: us, h => ⟨h.1, capA_rel h.2⟩
 | .ag l :: cap, u :: us, h => ⟨(let ⟨vs, h1, h2⟩ := h.1; ⟨vs, h1, pa_all.2 h2⟩), capA_rel h.2⟩
 | [], _ :: _, h => h.elim
 | _ :: _, [], h => h.elim
theorem ex_and {α : Type} {p q : α → Prop} {x : α} (h : p x) (k : q x) : ∃ x, p x ∧ q x := ⟨x, h, k⟩
structure Con (P : Program) (g : FuncId) (args : List A0) (post : AV → Kr → Nat → Prop) : Prop where
 fn : fnB P g = true
 run : ∀ w vs, All2 (A0.rel (fun _ => none) (fun _ b o => w.cell? ⟨b, o, none⟩)) args vs → Calls P g vs.toArray w fun e w' => ∃ v x Kc tc I Rf, e = .returned v ∧ Wd (Wo.of w) (kg Kc) I (fun _ => Rf) w' ∧ (∀ j, tc ≤ j → I j = none) ∧ (∀ p ∈ Kc, p.1 < tc) ∧ x.rel I (fun _ => Rf) v ∧ post x Kc tc
def RT.of : Ce → Option RT
 | .v x => some (.v x)
 | .ro _ sz rows => some (.ro sz rows)
 | _ => none
def lowNil : Value → Ce → Prop
 | .slice none 0 0, c => c = .v (.slice none 0 0) ∨ ∃ sz, c = .ro false sz []
 | x, c => c = .v x
def lowC (K : Nat → Option Blk) : Ce → Ce → Prop
 | .gsl i rows, c => ∃ sz ty rows', c = .ro false sz rows' ∧ K i = gB sz ty rows ∧ rows.map (List.map RT.of) = rows'.map (List.map some)
 | .v x, c => lowNil x c
 | .ro _ sz rows, c => c = .ro false sz rows
 | .rp _ row k, c => c = .rp false row k
 | .osl i q n _, c => match K i with
  | some b => ∃ rows, c = .ro false b.sz rows ∧ rows.length = n ∧ ((b.rows.drop q).take n).map (List.map RT.of) = rows.map (List.map some)
  | none => False
 | .fn f [], c => c = .fn f []
 | _, _ => False
def lowA (K : Nat → Option Blk) : A0 → A0 → Prop
 | .one c, .one d => lowC K c d
 | .agg cs, .agg ds => All2 (lowC K) cs ds
 | _, _ => False
def lowV (K : Nat → Option Blk) : AV → A0 → Prop
 | .pl a, d => lowA K a d
 | _, _ => False
theorem RT.of_rel {I : IM} {R : RM} {R0 : Nat → Nat → Option Value} (hR : ∀ f b o u, R f b o = some u → R0 b o = some u) {c : Ce} {t : RT} {u : Value} (h : RT.of c = some t) (hr : c.rel I R u) : Rd R0 t u := by
 cases c with
 | v x => simp only [RT.of, Option.some.injEq] at h; subst h; cases hr; exact .v _
 | ro fl sz rows => simp only [RT.of, Option.some.injEq] at h; subst h; exact Rd.mono (hR fl) hr
 | _ => simp [RT.of] at h
theorem Bk.rd {I : IM} {R : RM} {R0 : Nat → Nat → Option Value} {b : Blk} {p : Loc} {w : World} (hk : Bk I R b p w) (f : Ce → Option RT) (hof : ∀ c t u, f c = some t → c.rel I R u → Rd R0 t u) (hc : ∀ o u, w.cell? ⟨p.b, o, none⟩ = some u → R0 p.b o = some u)
  (q c' : Nat) (rows : List (List RT)) (hnc : rows.length ≤ c') (hmap : ((b.rows.drop q).take rows.length).map (List.map f) = rows.map (List.map some)) : Rd R0 (.ro b.sz rows) (.slice (some ⟨p.b, q * p.sz, none⟩) rows.length c') := by
 obtain ⟨cs, hm, hsz, hcs⟩ := hk.mem
 have key : ∀ (q' : Nat) (row : List RT) (k : Nat) (t : RT), rows[q']? = some row → row[k]? = some t → ∃ (r0 : List Ce) (c0 : Ce), b.rows[q + q']? = some r0 ∧ r0[k]? = some c0 ∧ f c0 = some t := by
  intro q' row k t h1 h2
  have h3 : (((b.rows.drop q).take rows.length).map (List.map f))[q']? = some (row.map some) := by rw [hmap]; simp [h1]
  rw [List.getElem?_map, Option.map_eq_some_iff] at h3
  obtain ⟨r0, h4, h5⟩ := h3
  rw [List.getElem?_take] at h4
  split at h4
  ·rw [List.getElem?_drop] at h4
   have h6 : (r0.map f)[k]? = some (some t) := by rw [h5]; simp [h2]
   rw [List.getElem?_map, Option.map_eq_some_iff] at h6
   obtain ⟨c0, h7, h8⟩ := h6
   exact ⟨r0, c0, h4, h7, h8⟩
  ·cases h4
 have hrow : ∀ row ∈ rows, row.length = b.sz := by
  intro row hrow
  obtain ⟨q', hq'⟩ := List.getElem?_of_mem hrow
  have h3 : (((b.rows.drop q).take rows.length).map (List.map f))[q']? = some (row.map some) := by rw [hmap]; simp [hq']
  rw [List.getElem?_map, Option.map_eq_some_iff] at h3
  obtain ⟨r0, h4, h5⟩ := h3
  have h6 : r0 ∈ b.rows := List.mem_of_mem_drop (List.mem_of_mem_take (List.mem_of_getElem? h4))
  have := hk.row r0 h6
  rw [← this]
  have h7 := congrArg List.length h5
  simpa using h7.symm
 refine .ro b.sz rows p.b (q * p.sz) c' (fun q' k => (cs[(q + q') * p.sz + k]?).getD undef) hrow hnc ?_ ?_
 ·intro q' row k t h1 h2
  obtain ⟨r0, c0, g1, g2, g3⟩ := key q' row k t h1 h2
  obtain ⟨u, g4, g5⟩ := hcs _ _ _ _ g1 g2
  refine hc _ _ ?_
  rw [cell_of_row w p.b _ _ _ _ hm, ← hk.sz, show q * p.sz + q' * p.sz + k = (q + q') * p.sz + k by rw [Nat.add_mul], g4]
  rfl
 ·intro q' row k t h1 h2
  obtain ⟨r0, c0, g1, g2, g3⟩ := key q' row k t h1 h2
  obtain ⟨u, g4, g5⟩ := hcs _ _ _ _ g1 g2
  simp only [g4, Option.getD_some]
  exact hof _ _ _ g3 g5
theorem lowC_rel {K : Nat → Option Blk} {W : Wo} {I : IM} {R : RM} {w : World} (hw : Wd W K I R w) {c d : Ce} {u : Value} (h : lowC K c d) (hr : c.rel I R u) : d.rel (fun _ => none) (fun _ b o => w.cell? ⟨b, o, none⟩) u := by
 cases c with
 | v x =>
  replace h : lowNil x d := h
  unfold lowNil at h
  split at h
  ·rcases h with rfl | ⟨sz, rfl⟩
   ·exact hr
   ·cases hr; exact .nil sz
  ·cases h; exact hr
 | mpv i => exact h.elim
 | yl i => exact h.elim
 | mf f l => exact h.elim
 | ro fl sz rows => cases h; exact Rd.mono (fun b o u h => hw.ro fl b o u h) hr
 | rp fl row k => cases h; obtain ⟨b, o, h1, h2⟩ := hr; exact ⟨b, o, h1, fun j t ht => let ⟨x, h3, h4⟩ := h2 j t ht; ⟨x, hw.ro _ _ _ _ h3, h4.mono (fun b o u h => hw.ro fl b o u h)⟩⟩
 | osl i q n cp =>
  simp only [lowC] at h
  split at h
  ·rename_i b hb
   obtain ⟨rows, rfl, hlen, hmap⟩ := h
   obtain ⟨p, c', hp, rfl, hnc, hqc, _⟩ := hr
   obtain ⟨p', hp', hk⟩ := hw.blk i b hb
   rw [hp] at hp'; cases hp'
   subst hlen
   exact hk.rd RT.of (fun c t u h1 h2 => RT.of_rel (fun f b o u h => hw.ro f b o u h) h1 h2) (fun o u h => h) q c' rows hnc hmap
  ·exact h.elim
 | gsl i rows =>
  obtain ⟨sz, ty, rows', rfl, hK, hmap⟩ := h
  rcases hr with ⟨rfl, rfl⟩ | ⟨hne, p, c', hp, rfl, h1, h2⟩
  ·have : rows' = [] := by cases rows' <;> first | rfl | simp at hmap
   subst this
   exact .nil sz
  ·rw [gB_ne hne] at hK
   obtain ⟨p', hp', hk⟩ := hw.blk i _ hK
   rw [hp] at hp'; cases hp'
   have hlen : rows.length = rows'.length := by have := congrArg List.length hmap; simpa using this
   have := hk.rd RT.of (fun c t u h1 h2 => RT.of_rel (fun f b o u h => hw.ro f b o u h) h1 h2) (fun o u h => h) 0 c' rows' (by omega) (by simpa [← hlen] using hmap)
   rw [Nat.zero_mul, ← hlen] at this
   exact this
 | own i q k => exact h.elim
 | fn f cap =>
  cases cap with
  | nil => cases h; obtain ⟨vs, h1, h2⟩ := hr; cases vs with
   | nil => exact ⟨[], trivial, h2⟩
   | cons => exact h1.elim
  | cons => exact h.elim
theorem lowV_rel {K : Nat → Option Blk} {W : Wo} {I : IM} {R : RM} {w : World} (hw : Wd W K I R w) {x : AV} {d : A0} {u : Value} (h : lowV K x d) (hr : x.rel I R u) : d.rel (fun _ => none) (fun _ b o => w.cell? ⟨b, o, none⟩) u := by
 cases x with
 | pl a =>
  cases a with
  | one c => cases d with
   | one d => exact lowC_rel hw h hr
   | agg => exact h.elim
  | agg cs => cases d with
   | one d => exact h.elim
   | agg ds =>
    obtain ⟨vs, rfl, hvs⟩ := hr
    refine ⟨vs, rfl, ?_⟩
    have h' : All2 (lowC K) cs ds := h
    clear h
    induction cs generalizing ds vs with
    | nil => cases ds with
     | nil => cases vs with
      | nil => trivial
      | cons => exact hvs.elim
     | cons => exact h'.elim
    | cons c cs ih => cases ds with
     | nil => exact h'.elim
     | cons d ds => cases vs with
      | nil => exact hvs.elim
      | cons v vs => exact ⟨lowC_rel hw h'.1 hvs.1, ih ds vs hvs.2 h'.2⟩
 | tup => exact h.elim
def shK (top : Nat) (K : Kr) : Kr := K.map fun p => (top + p.1, p.2.map (Blk.ren (top + ·)))
theorem kup_sh {K : Nat → Option Blk} {top tc : Nat} (hK : ∀ j, top ≤ j → j < top + tc → K j = none) : ∀ {Kc : Kr}, (∀ j, tc ≤ j → ∀ b, (j, some b) ∉ Kc) → ∀ j, kup K (shK top Kc) j = if top ≤ j ∧ j < top + tc then (kg Kc (j - top)).map (Blk.ren (top + ·)) else (kup K (shK top Kc) j)
 | [], _, j => by
  split
  ·rename_i h; simp only [shK, List.map_nil, kup, kg]; rw [hK j h.1 h.2]; rfl
  ·rfl
 | (k, b) :: Kc, h, j => by
  split
  ·rename_i hj
   simp only [shK, List.map_cons, kup, kg]
   have ih := kup_sh hK (Kc := Kc) (fun j hj b hb => h j hj b (List.mem_cons_of_mem _ hb)) j
   rw [if_pos hj] at ih
   rcases h2 : Nat.beq k (j - top) with _ | _
   ·have hne := Nat.ne_of_beq_eq_false h2
    rw [if_neg (by omega)]
    exact ih
   ·have he := Nat.eq_of_beq_eq_true h2
    rw [if_pos (by omega)]
  ·rfl
theorem kup_out {K : Nat → Option Blk} {top tc : Nat} {Kc : Kr} (hc : ∀ p ∈ Kc, p.1 < tc) (j : Nat) (hj : ¬ (top ≤ j ∧ j < top + tc)) : kup K (shK top Kc) j = K j := by
 induction Kc with
 | nil => rfl
 | cons p Kc ih =>
  obtain ⟨k, b⟩ := p
  have h1 := hc (k, b) List.mem_cons_self
  simp only at h1
  simp only [shK, List.map_cons, kup]
  rw [if_neg (by omega)]
  exact ih fun q hq => hc q (List.mem_cons_of_mem _ hq)
theorem Wd.adopt {W : Wo} {K : Nat → Option Blk} {Kc : Kr} {I Ic : IM} {R : RM} {Rf : Nat → Nat → Option Value} {top tc : Nat} {w w' : World} (h : Wd W K I R w) (hd : ∀ j, top ≤ j → j < top + tc → I j = none) (hc : Wd (Wo.of w) (kg Kc) Ic (fun _ => Rf) w') (hdc : ∀ j, tc ≤ j → Ic j = none) (hkc : ∀ p ∈ Kc, p.1 < tc) :
  Wd W (kup K (shK top Kc)) (fun j => if top ≤ j ∧ j < top + tc then Ic (j - top) else I j) (fun f b o => match R f b o with | some u => some u | none => Rf b o) w' := by
 have hKn : ∀ j, top ≤ j → j < top + tc → K j = none := fun j hj hj2 => by
  cases hq : K j with
  | none => rfl
  | some b => obtain ⟨p, hp, _⟩ := h.blk j b hq; rw [hd j hj hj2] at hp; cases hp
 have hKup : ∀ j, kup K (shK top Kc) j = if top ≤ j ∧ j < top + tc then (kg Kc (j - top)).map (Blk.ren (top + ·)) else K j := fun j => by
  rw [kup_sh hKn (fun j hj b hb => by have := hkc _ hb; simp only at this; omega) j]
  split
  ·rfl
  ·rename_i hj; exact kup_out hkc j hj
 have hI : IExt I (fun j => if top ≤ j ∧ j < top + tc then Ic (j - top) else I j) := fun j p hp => by
  by_cases hj : top ≤ j ∧ j < top + tc
  ·rw [hd j hj.1 hj.2] at hp; cases hp
  ·simp [hj, hp]
 have hIc : ∀ j p, Ic j = some p → (fun j => if top ≤ j ∧ j < top + tc then Ic (j - top) else I j) (top + j) = some p := fun j p hp => by
  have hj : j < tc := by
   rcases Nat.lt_or_ge j tc with h | h
   ·exact h
   ·rw [hdc j h] at hp; cases hp
  show (if top ≤ top + j ∧ top + j < top + tc then Ic (top + j - top) else I (top + j)) = some p
  rw [if_pos (by omega), Nat.add_sub_cancel_left]; exact hp
 have hR : RExt R (fun f b o => match R f b o with | some u => some u | none => Rf b o) := fun f b o u hu => by simp [hu]
 have hRlt : ∀ f b o u, R f b o = some u → b < w.heap.size := fun f b o u hu => World.block_lt_of_cell? _ _ (h.ro f b o u hu)
 have hRf : RExt (fun _ => Rf) (fun f b o => match R f b o with | some u => some u | none => Rf b o) := fun f b o u hu => by
  have h1 := Nat.not_lt.1 (hc.fresh b o u hu)
  cases hq : R f b o with
  | none => simpa [hq] using hu
  | some x => have := hRlt f b o x hq; omega
 have hW := h.below.size
 have hbel := hc.below.below
 refine ⟨?_, ?_, ?_, ?_, ?_, ?_, ?_, h.below.trans hbel, ?_, h.qz⟩
 ·intro j b hj
  rw [hKup] at hj
  split at hj
  ·rename_i hge
   rw [Option.map_eq_some_iff] at hj
   obtain ⟨b0, hb0, rfl⟩ := hj
   obtain ⟨p, hp, hk⟩ := hc.blk _ b0 hb0
   refine ⟨p, by simp [hge, hp], Bk.ren.2 ?_⟩
   exact hk.mono (fun i q hq => hIc i q hq) hRf rfl
  ·rename_i hlt
   obtain ⟨p, hp, hk⟩ := h.blk j b hj
   exact ⟨p, by simp [hlt, hp], hk.mono hI hR (hbel.block _ hk.lt)⟩
 ·intro i j bi bj p q hi hj hp hq he
  rw [hKup] at hi hj
  try simp only at hp hq
  by_cases h1 : top ≤ i ∧ i < top + tc <;> by_cases h2 : top ≤ j ∧ j < top + tc
  ·rw [if_pos h1] at hi hp; rw [if_pos h2] at hj hq
   rw [Option.map_eq_some_iff] at hi hj
   obtain ⟨b0, hb0, rfl⟩ := hi
   obtain ⟨b1, hb1, rfl⟩ := hj
   have := hc.inj _ _ _ _ _ _ hb0 hb1 hp hq he
   omega
  ·rw [if_pos h1] at hi hp; rw [if_neg h2] at hj hq
   rw [Option.map_eq_some_iff] at hi
   obtain ⟨b0, hb0, rfl⟩ := hi
   have := h.lt hj hq
   have := Nat.not_lt.1 (hc.base _ _ _ hb0 hp)
   omega
  ·rw [if_neg h1] at hi hp; rw [if_pos h2] at hj hq
   rw [Option.map_eq_some_iff] at hj
   obtain ⟨b0, hb0, rfl⟩ := hj
   have := h.lt hi hp
   have := Nat.not_lt.1 (hc.base _ _ _ hb0 hq)
   omega
  ·rw [if_neg h1] at hi hp; rw [if_neg h2] at hj hq
   exact h.inj _ _ _ _ _ _ hi hj hp hq he
 ·intro j b p hj hp
  rw [hKup] at hj
  try simp only at hp
  split at hj
  ·rename_i hge
   rw [if_pos hge] at hp
   rw [Option.map_eq_some_iff] at hj
   obtain ⟨b0, hb0, rfl⟩ := hj
   exact h.below.new (Nat.not_lt.1 (hc.base _ _ _ hb0 hp))
  ·rename_i hlt; rw [if_neg hlt] at hp; exact h.base _ _ _ hj hp
 ·intro f b o u hu
  try simp only at hu
  split at hu
  ·rename_i x hx
   cases hu
   have h0 := h.ro f b o u hx
   exact (hbel.cell (p := ⟨b, o, none⟩) (hRlt f b o u hx)).trans h0
  ·exact hc.ro true b o u hu
 ·intro j b p f o hj hp
  rw [hKup] at hj
  try simp only at hp
  split at hj
  ·rename_i hge
   rw [if_pos hge] at hp
   rw [Option.map_eq_some_iff] at hj
   obtain ⟨b0, hb0, rfl⟩ := hj
   have hbase := Nat.not_lt.1 (hc.base _ _ _ hb0 hp)
   have hq : R f p.b o = none := by
    cases hq : R f p.b o with
    | none => rfl
    | some u => have := hRlt f _ o u hq; omega
   simp only [hq]
   exact hc.apart _ _ _ true o hb0 hp
  ·rename_i hlt
   rw [if_neg hlt] at hp
   simp only [h.apart _ _ _ f o hj hp]
   cases hq : Rf p.b o with
   | none => rfl
   | some u => have := Nat.not_lt.1 (hc.fresh _ _ _ hq); have := h.lt hj hp; omega
 ·intro b o u hu
  try simp only at hu
  split at hu
  ·rename_i x hx; exact h.fresh b o x hx
  ·exact h.below.new (Nat.not_lt.1 (hc.fresh b o u hu))
 ·intro b o u hu
  try simp only at hu ⊢
  split at hu
  ·rename_i x hx
   rw [h.less b o x hx]
   exact hu
  ·have := Nat.not_lt.1 (hc.fresh b o u hu)
   cases hq : R false b o with
   | none => simpa using hu
   | some x => have := hRlt false b o x hq; omega
 ·intro f b o u hu
  try simp only at hu
  split at hu
  ·rename_i x hx; exact h.out f b o x hx
  ·have := Nat.not_lt.1 (hc.fresh b o u hu)
   exact fun hq => h.below.new this (h.qz _ hq)
theorem adopt_ext {W : Wo} {K : Nat → Option Blk} {Kc : Kr} {I Ic : IM} {R : RM} {Rf : Nat → Nat → Option Value} {top tc : Nat} {w w' : World} {x : AV} {v : Value} (h : Wd W K I R w) (hd : ∀ j, top ≤ j → j < top + tc → I j = none) (hc : Wd (Wo.of w) (kg Kc) Ic (fun _ => Rf) w') (hdc : ∀ j, tc ≤ j → Ic j = none) (hkc : ∀ p ∈ Kc, p.1 < tc) (hx : x.rel Ic (fun _ => Rf) v) :
  Wd W (kup K (shK top Kc)) (fun j => if top ≤ j ∧ j < top + tc then Ic (j - top) else I j) (fun f b o => match R f b o with | some u => some u | none => Rf b o) w' ∧
   IExt I (fun j => if top ≤ j ∧ j < top + tc then Ic (j - top) else I j) ∧ RExt R (fun f b o => match R f b o with | some u => some u | none => Rf b o) ∧
   (x.ren (top + ·)).rel (fun j => if top ≤ j ∧ j < top + tc then Ic (j - top) else I j) (fun f b o => match R f b o with | some u => some u | none => Rf b o) v := by
 refine ⟨h.adopt hd hc hdc hkc, fun j p hp => ?_, fun f b o u hu => by simp [hu], AV.rel_ren.2 ?_⟩
 ·by_cases hj : top ≤ j ∧ j < top + tc
  ·rw [hd j hj.1 hj.2] at hp; cases hp
  ·simp [hj, hp]
 ·refine AV.mono (fun i q hq => ?_) ?_ hx
  ·have hj : i < tc := by
    rcases Nat.lt_or_ge i tc with h | h
    ·exact h
    ·rw [hdc i h] at hq; cases hq
   show (if top ≤ top + i ∧ top + i < top + tc then Ic (top + i - top) else I (top + i)) = some q
   rw [if_pos (by omega), Nat.add_sub_cancel_left]; exact hq
  ·intro f b o u hu
   have h1 := Nat.not_lt.1 (hc.fresh b o u hu)
   cases hq : R f b o with
   | none => simpa [hq] using hu
   | some y =>
    have : b < w.heap.size := World.block_lt_of_cell? _ _ (h.ro f b o y hq)
    omega
theorem call_con {P : Program} {W : Wo} {m : Nat} {g : FuncId} {avs : List AV} {K : Kr} {top : Nat} {k : AV → Kr → Nat → Prop} {args : List A0} {post : AV → Kr → Nat → Prop} (h : Con P g args post) (hl : All2 (lowV (kg K)) avs args)
  (hk : ∀ x Kc tc, post x Kc tc → k (x.ren (top + ·)) (shK top Kc ++ K) (top + tc)) : CallP P W m g [] avs K top k := by
 refine ⟨h.fn, fun I R w vs us hw hd hm hvs hus => ?_⟩
 cases us with
 | cons => exact hus.elim
 | nil =>
 have hargs : vs.toArray ++ ([] : List Value).toArray = vs.toArray := by simp
 rw [hargs]
 have hrel : All2 (A0.rel (fun _ => none) (fun _ b o => w.cell? ⟨b, o, none⟩)) args vs := by
  clear hargs hk h
  induction avs generalizing args vs with
  | nil => cases args with
   | nil => cases vs with
    | nil => trivial
    | cons => exact hvs.elim
   | cons => exact hl.elim
  | cons x avs ih => cases args with
   | nil => exact hl.elim
   | cons d args => cases vs with
    | nil => exact hvs.elim
    | cons v vs => exact ⟨lowV_rel hw hl.1 hvs.1, ih hl.2 vs hvs.2⟩
 refine (h.run w vs hrel).mono ?_
 rintro e w' ⟨v, x, Kc, tc, Ic, Rf, rfl, hc, hdc, hkc, hx, hp⟩
 obtain ⟨h1, h2, h3, h4⟩ := adopt_ext (top := top) hw (fun j h1 _ => hd j h1) hc hdc hkc hx
 refine ⟨v, _, _, _, _, _, rfl, by rw [kg_append]; exact h1, ?_, by omega, ?_, h3, h4, hk x Kc tc hp⟩
 ·intro j hj
  try simp only
  rw [if_neg (by omega)]
  exact hd _ (by omega)
 ·intro j hj; rw [if_neg (by omega)]
def Ce.own' : Ce → Bool
 | .ro false _ _ => false
 | .rp false _ _ => false
 | _ => true
def A0.own' : A0 → Bool
 | .one c => c.own'
 | .agg cs => cs.all Ce.own'
def AV.own' : AV → Bool
 | .pl a => a.own'
 | .tup l => l.all A0.own'
def Kr.own' (K : Kr) : Prop := ∀ j b, kg K j = some b → ∀ r ∈ b.rows, ∀ c ∈ r, c.own' = true
theorem Ce.rel_own {I : IM} {R : RM} {c : Ce} {u : Value} (h : c.own' = true) (hr : c.rel I R u) : c.rel I (fun _ => R true) u := by
 cases c with
 | ro fl sz rows => cases fl with
  | true => exact hr
  | false => cases h
 | rp fl row k => cases fl with
  | true => exact hr
  | false => cases h
 | _ => exact hr
theorem All2.mono_mem {α β : Type} {r s : α → β → Prop} : ∀ {l : List α} {m : List β}, (∀ a ∈ l, ∀ b, r a b → s a b) → All2 r l m → All2 s l m
 | [], [], _, _ => trivial
 | a :: l, b :: m, h, hh => ⟨h a List.mem_cons_self _ hh.1, All2.mono_mem (fun x hx => h x (List.mem_cons_of_mem _ hx)) hh.2⟩
 | [], _ :: _, _, hh => hh.elim
 | _ :: _, [], _, hh => hh.elim
theorem A0.rel_own {I : IM} {R : RM} {c : A0} {u : Value} (h : c.own' = true) (hr : c.rel I R u) : c.rel I (fun _ => R true) u := by
 cases c with
 | one c => exact Ce.rel_own h hr
 | agg cs =>
  obtain ⟨vs, h1, h2⟩ := hr
  exact ⟨vs, h1, h2.mono_mem fun c hc b => Ce.rel_own (List.all_eq_true.1 h c hc)⟩
theorem AV.rel_own {I : IM} {R : RM} {c : AV} {u : Value} (h : c.own' = true) (hr : c.rel I R u) : c.rel I (fun _ => R true) u := by
 cases c with
 | pl c => exact A0.rel_own h hr
 | tup cs =>
  obtain ⟨vs, h1, h2⟩ := hr
  exact ⟨vs, h1, h2.mono_mem fun c hc b => A0.rel_own (List.all_eq_true.1 h c hc)⟩
theorem Wd.own {W : Wo} {K : Kr} {I : IM} {R : RM} {w : World} (h : Wd W (kg K) I R w) (ho : Kr.own' K) : Wd W (kg K) I (fun _ => R true) w := by
 refine ⟨fun i b hb => ?_, h.inj, h.base, fun f b o u hu => h.ro true b o u hu, fun i b p f o hb hp => h.apart i b p true o hb hp, h.fresh, fun b o u hu => hu, h.below, fun f b o u hu => h.out true b o u hu, h.qz⟩
 obtain ⟨p, hp, h1, h2, h3, h4, cs, h5, h6, h7⟩ := h.blk i b hb
 exact ⟨p, hp, h1, h2, h3, h4, cs, h5, h6, fun q r k c hq hk => let ⟨u, hu, hr⟩ := h7 q r k c hq hk; ⟨u, hu, Ce.rel_own (ho i b hb r (List.mem_of_getElem? hq) c (List.mem_of_getElem? hk)) hr⟩⟩
def RT.ofT : Ce → Option RT
 | .v x => some (.v x)
 | .ro true sz rows => some (.ro sz rows)
 | _ => none
theorem RT.ofT_rel {I : IM} {R : RM} {c : Ce} {t : RT} {u : Value} (h : RT.ofT c = some t) (hr : c.rel I R u) : Rd (R true) t u := by
 unfold RT.ofT at h
 split at h
 ·simp only [Option.some.injEq] at h; subst h; cases hr; exact .v _
 ·simp only [Option.some.injEq] at h; subst h; exact hr
 ·cases h
structure retN (T : Tab) (rs : List ResultVar) (s1 : S) (post : AV → Kr → Nat → Prop) : Prop where
 h : ∃ s, Stp 0 s1 s ∧ ∃ xs, resL T s rs = some xs ∧ ∃ l x Kc, retV xs = x.ren (rn l s.top) ∧ subK (rn l s.top) s.K Kc ∧ l.Nodup ∧ x.own' = true ∧ Kr.own' Kc ∧ (∀ p ∈ Kc, p.1 < l.length) ∧ post x Kc l.length
def Ce.low' : Ce → Bool
 | .ro true _ _ => false
 | .rp true _ _ => false
 | _ => true
def A0.low' : A0 → Bool
 | .one c => c.low'
 | .agg cs => cs.all Ce.low'
theorem Ce.rel_low {R R' : RM} (h : R false = R' false) {c : Ce} {u : Value} (hl : c.low' = true) (hr : c.rel (fun _ => none) R u) : c.rel (fun _ => none) R' u := by
 cases c with
 | ro fl sz rows => cases fl with
  | true => cases hl
  | false => simp only [Ce.rel, h] at hr ⊢; exact hr
 | rp fl row k => cases fl with
  | true => cases hl
  | false => simp only [Ce.rel, h] at hr ⊢; exact hr
 | _ => exact hr
theorem A0.rel_low {R R' : RM} (h : R false = R' false) {c : A0} {u : Value} (hl : c.low' = true) (hr : c.rel (fun _ => none) R u) : c.rel (fun _ => none) R' u := by
 cases c with
 | one c => exact Ce.rel_low h hl hr
 | agg cs =>
  obtain ⟨vs, h1, h2⟩ := hr
  exact ⟨vs, h1, h2.mono_mem fun c hc b => Ce.rel_low h (List.all_eq_true.1 hl c hc)⟩
theorem ret1 {T : Tab} {rs : List ResultVar} {s : S} {post : AV → Kr → Nat → Prop} (xs : List A0) (h : resL T s rs = some xs) (l : List Nat) (x : AV) (Kc : Kr) (hx : retV xs = x.ren (rn l s.top)) (hK : subK (rn l s.top) s.K Kc) (hn : l.Nodup) (ho : x.own' = true) (hko : Kr.own' Kc) (hlt : ∀ p ∈ Kc, p.1 < l.length) (hp : post x Kc l.length) : retN T rs s post :=
 ⟨s, .refl (Nat.zero_le _), xs, h, l, x, Kc, hx, hK, hn, ho, hko, hlt, hp⟩
end Go.Proofs.Ytopieffkpdlpbaa.Wx
namespace Go.Proofs.Ytopieffkpdlpbaa.Wx
open Go Go.RowKit
structure Ent where
 o : Oper
 sk : Bool
 e : Eff
 top : Nat
def gF (x : Ent) (t : Nat) (v : Option AV) : Option AV := if x.o.dst = some t then some x.e.av else v
def kup1 : Kr → Nat → Option Blk → Option Blk
 | [], _, v => v
 | (i, b) :: r, t, v => if t = i then b else kup1 r t v
def gK (x : Ent) (t : Nat) (v : Option Blk) : Option Blk := kup1 x.e.kw t v
section
variable {β : Type} (g : Ent → Nat → β → β)
def gv : List Ent → Nat → (Nat → Bool) → Nat → β → β
 | [], _, _, _, v => v
 | x :: xs, k, E, t, v => gv xs (k + 1) E t (if E k then g x t v else v)
theorem gv_congr {t : Nat} : ∀ (xs : List Ent) (k : Nat) (E E' : Nat → Bool) (v : β), (∀ j x, xs[j]? = some x → E (k + j) ≠ E' (k + j) → ∀ v, g x t v = v) → gv g xs k E t v = gv g xs k E' t v
 | [], _, _, _, _, _ => rfl
 | x :: xs, k, E, E', v, h => by
  simp only [gv]
  have h0 := h 0 x rfl
  have hv : (if E k then g x t v else v) = (if E' k then g x t v else v) := by
   by_cases he : E k = E' k
   ·rw [he]
   ·have := h0 he v
    cases h1 : E k <;> cases h2 : E' k <;> simp [this]
  rw [hv]
  exact gv_congr xs (k + 1) E E' _ fun j y hj => by have := h (j + 1) y (by simpa using hj); simpa [Nat.add_assoc, Nat.add_comm 1 j] using this
theorem gv_none {t : Nat} : ∀ (xs : List Ent) (k i : Nat) (v : β), i ≤ k → gv g xs k (fun j => decide (j < i)) t v = v
 | [], _, _, _, _ => rfl
 | x :: xs, k, i, v, h => by
  simp only [gv]
  rw [if_neg (by simp; omega)]
  exact gv_none xs (k + 1) i v (by omega)
theorem gv_succ {t : Nat} : ∀ (xs : List Ent) (k i : Nat) (x : Ent) (v : β), xs[i]? = some x → gv g xs k (fun j => decide (j < k + i + 1)) t v = g x t (gv g xs k (fun j => decide (j < k + i)) t v)
 | [], _, _, _, _, h => by simp at h
 | y :: xs, k, 0, x, v, h => by
  simp at h; subst h
  simp only [gv]
  rw [if_pos (by simp), if_neg (by simp), gv_none g xs (k + 1) (k + 0 + 1) _ (by omega), gv_none g xs (k + 1) (k + 0) _ (by omega)]
 | y :: xs, k, i + 1, x, v, h => by
  simp only [gv]
  rw [if_pos (by simp; omega), if_pos (by simp)]
  have := gv_succ (t := t) xs (k + 1) i x (g y t v) (by simpa using h)
  rw [show k + (i + 1) + 1 = k + 1 + i + 1 by omega, show k + (i + 1) = k + 1 + i by omega]
  exact this
end
abbrev fE (xs : List Ent) (E : Nat → Bool) (F : Nat → Option AV) : Nat → Option AV := fun t => gv gF xs 0 E t (F t)
abbrev kE (xs : List Ent) (E : Nat → Bool) (K : Nat → Option Blk) : Nat → Option Blk := fun t => gv gK xs 0 E t (K t)
def reads (ops : Array Oper) (o : Oper) : List Nat := o.looksAt ops
def kws (e : Eff) : List Nat := e.kw.map (·.1)
def clash (ops : Array Oper) (x y : Ent) : Bool :=
 (match x.o.dst with | some d => (reads ops y.o).contains d || y.o.dst == some d | none => false) ||
 (match y.o.dst with | some d => (reads ops x.o).contains d | none => false) ||
 (kws x.e).any (fun i => y.e.rd.contains i || (kws y.e).contains i) || x.e.rd.any (fun i => (kws y.e).contains i)
def clo (ops : List Oper) : List Nat :=
 ops.foldl (fun acc o => acc ++ [o.after.toList.foldl (fun s e => match Region.binds .any e with | true => s ||| (1 <<< e.on) ||| acc.getD e.on 0 | false => s) 0]) []
def backB (ops : List Oper) : Bool := ops.zipIdx.all fun p => p.1.after.toList.all fun e => !Region.binds .any e || Nat.blt e.on p.2
def apartB (ops : Array Oper) (xs : List Ent) : Bool :=
 let c := clo ops.toList
 backB ops.toList && xs.zipIdx.all fun q => (xs.take q.2).zipIdx.all fun p => !clash ops p.1 q.1 || (c.getD q.2 0).testBit p.2
section
variable {P : Program} {ops : Array Oper} {W : Wo} {n : Nat}
def Down (ops : Array Oper) (E : Nat → Bool) : Prop := ∀ i o, ops[i]? = some o → E i = true → ∀ e ∈ o.after, Region.binds .any e = true → E e.on = true
theorem bits_fold (acc : List Nat) : ∀ (l : List Edge) (s i : Nat), (l.foldl (fun s e => match Region.binds .any e with | true => s ||| (1 <<< e.on) ||| acc.getD e.on 0 | false => s) s).testBit i = true →
  s.testBit i = true ∨ ∃ e ∈ l, Region.binds .any e = true ∧ (e.on = i ∨ (acc.getD e.on 0).testBit i = true)
 | [], s, i, h => .inl h
 | e :: l, s, i, h => by
  simp only [List.foldl_cons] at h
  rcases bits_fold acc l _ i h with h1 | ⟨e', h1, h2, h3⟩
  ·split at h1
   ·rename_i hb
    simp only [Nat.testBit_or, Bool.or_eq_true] at h1
    rcases h1 with (h1 | h1) | h1
    ·exact .inl h1
    ·refine .inr ⟨e, List.mem_cons_self, hb, .inl ?_⟩
     rw [Nat.one_shiftLeft, Nat.testBit_two_pow] at h1
     simpa using h1
    ·exact .inr ⟨e, List.mem_cons_self, hb, .inr h1⟩
   ·exact .inl h1
  ·exact .inr ⟨e', List.mem_cons_of_mem _ h1, h2, h3⟩
theorem clo_spec : ∀ (l : List Oper), (clo l).length = l.length ∧ ∀ j o, l[j]? = some o → ∀ i, ((clo l).getD j 0).testBit i = true → ∃ e ∈ o.after, Region.binds .any e = true ∧ (e.on = i ∨ (e.on < j ∧ ((clo l).getD e.on 0).testBit i = true)) := by
 intro l
 have key : ∀ (l : List Oper) (acc : List Nat), ∃ r, l.foldl (fun acc o => acc ++ [o.after.toList.foldl (fun s e => match Region.binds .any e with | true => s ||| (1 <<< e.on) ||| acc.getD e.on 0 | false => s) 0]) acc = acc ++ r ∧ r.length = l.length ∧
   ∀ j o, l[j]? = some o → ∀ i, ((acc ++ r).getD (acc.length + j) 0).testBit i = true → ∃ e ∈ o.after, Region.binds .any e = true ∧ (e.on = i ∨ (e.on < acc.length + j ∧ ((acc ++ r).getD e.on 0).testBit i = true)) := by
  intro l
  induction l with
  | nil => intro acc; exact ⟨[], by simp, rfl, fun j o h => by simp at h⟩
  | cons o l ih =>
   intro acc
   simp only [List.foldl_cons]
   obtain ⟨r, h1, h2, h3⟩ := ih (acc ++ [o.after.toList.foldl (fun s e => match Region.binds .any e with | true => s ||| (1 <<< e.on) ||| acc.getD e.on 0 | false => s) 0])
   refine ⟨_ :: r, by rw [h1, List.append_assoc]; rfl, by simp [h2], ?_⟩
   intro j o' hj i hi
   cases j with
   | zero =>
    simp at hj; subst hj
    simp only [Nat.add_zero, List.getD_eq_getElem?_getD, List.getElem?_append_right (Nat.le_refl _), Nat.sub_self, List.getElem?_cons_zero, Option.getD_some] at hi
    rcases bits_fold acc _ 0 i hi with h0 | ⟨e, g1, g2, g3⟩
    ·simp at h0
    ·refine ⟨e, by simpa using g1, g2, ?_⟩
     rcases g3 with g3 | g3
     ·exact .inl g3
     ·rcases Nat.lt_or_ge e.on acc.length with hlt | hge
      ·refine .inr ⟨by omega, ?_⟩
       simp only [List.getD_eq_getElem?_getD] at g3 ⊢
       rw [List.getElem?_append_left hlt]; exact g3
      ·simp only [List.getD_eq_getElem?_getD, List.getElem?_eq_none hge] at g3
       simp at g3
   | succ j =>
    have := h3 j o' (by simpa using hj) i
    simp only [List.append_assoc, List.cons_append, List.nil_append, List.length_append, List.length_cons, List.length_nil] at this
    rw [show acc.length + (0 + 1) + j = acc.length + (j + 1) by omega] at this
    exact this hi
 obtain ⟨r, h1, h2, h3⟩ := key l []
 have hc : clo l = r := by unfold clo; rw [h1]; rfl
 rw [hc]
 refine ⟨h2, fun j o hj i hi => ?_⟩
 have := h3 j o hj i
 simp only [List.nil_append, List.length_nil, Nat.zero_add] at this
 exact this hi
theorem down_clo {E : Nat → Bool} (hD : Down ops E) : ∀ (j : Nat) (o : Oper), ops[j]? = some o → E j = true → ∀ i, ((clo ops.toList).getD j 0).testBit i = true → E i = true := by
 intro j
 induction j using Nat.strongRecOn with
 | ind j ih =>
  intro o hj hE i hi
  obtain ⟨e, g1, g2, g3⟩ := (clo_spec ops.toList).2 j o (by simpa using hj) i hi
  have he := hD j o hj hE e g1 g2
  rcases g3 with rfl | ⟨hlt, h⟩
  ·exact he
  ·have hl : e.on < ops.size := by
    have := (Array.getElem?_eq_some_iff.1 hj).1; omega
   exact ih e.on hlt ops[e.on] (Array.getElem?_eq_getElem hl) he i h
def EntOk (P : Program) (ops : Array Oper) (n : Nat) (x : Ent) (F : Nat → Option AV) (K : Nat → Option Blk) : Prop :=
 dstB n x.o.dst = true ∧ x.top ≤ x.e.top ∧
 match x.sk with
 | true => x.e.av = .val undef ∧ x.e.kw = [] ∧ x.e.rd = [] ∧ x.e.top = x.top ∧ ∃ g want t, x.o.guard = some (g, want) ∧ (ops[g]?).bind (·.dst) = some t ∧ ((∃ b, F t = some (.val (.bool b)) ∧ (b == want) = false) ∨ ∃ l, F t = some (.val (.tuple l)))
 | false => OpEff P x.o F K x.top x.e ∧ (x.o.guard = none ∨ ∃ g want t b, x.o.guard = some (g, want) ∧ (ops[g]?).bind (·.dst) = some t ∧ F t = some (.val (.bool b)) ∧ (b == want) = true)
theorem reads_op {o : Oper} {t : Nat} (h : Operand.tmp t ∈ o.op.operands.toList) : t ∈ reads ops o :=
 List.mem_append_left _ (List.mem_filterMap.2 ⟨.tmp t, h, rfl⟩)
theorem reads_guard {o : Oper} {g t : Nat} {want : Bool} (hg : o.guard = some (g, want)) (hd : (ops[g]?).bind (·.dst) = some t) : t ∈ reads ops o := by
 unfold reads Oper.looksAt
 simp [hg, hd]
section
variable {β : Type} {g : Ent → Nat → β → β} {wr : Ent → Nat → Prop} (hw : ∀ x t, ¬ wr x t → ∀ v, g x t v = v) {xs : List Ent} {E : Nat → Bool} {i t : Nat} {x : Ent}
include hw in
theorem gv_set (hx : xs[i]? = some x) (hc : wr x t → ∀ v v', g x t v = g x t v') (hi : E i = false) (hlow : wr x t → ∀ j y, j < i → xs[j]? = some y → wr y t → E j = true) (hhigh : wr x t → ∀ j y, i < j → xs[j]? = some y → wr y t → E j = false) (v : β) :
  gv g xs 0 (fun j => if j = i then true else E j) t v = g x t (gv g xs 0 E t v) := by
 by_cases hwx : wr x t
 ·have h1 : gv g xs 0 (fun j => if j = i then true else E j) t v = gv g xs 0 (fun j => decide (j < 0 + i + 1)) t v := by
   refine gv_congr g xs 0 _ _ v fun j y hj hne => hw y t fun hwr => hne ?_
   rw [Nat.zero_add]
   rcases Nat.lt_trichotomy j i with h | h | h
   ·rw [if_neg (by omega), hlow hwx j y h hj hwr]; simp; omega
   ·rw [if_pos h]; simp; omega
   ·rw [if_neg (by omega), hhigh hwx j y h hj hwr]; simp; omega
  rw [h1, gv_succ g xs 0 i x v hx]
  exact hc hwx _ _
 ·rw [hw x t hwx]
  refine gv_congr g xs 0 _ _ v fun j y hj hne => ?_
  rw [Nat.zero_add] at hne
  by_cases h : j = i
  ·subst h; rw [hx] at hj; cases hj; exact hw _ _ hwx
  ·rw [if_neg h] at hne; exact absurd rfl hne
end
def cnt : Nat → (Nat → Bool) → Nat
 | 0, _ => 0
 | n + 1, p => cnt n p + (if p n then 1 else 0)
theorem cnt_congr {p q : Nat → Bool} : ∀ (n : Nat), (∀ i, i < n → p i = q i) → cnt n p = cnt n q
 | 0, _ => rfl
 | n + 1, h => by simp only [cnt]; rw [cnt_congr n fun i hi => h i (by omega), h n (by omega)]
theorem cnt_set {p q : Nat → Bool} {i : Nat} : ∀ (n : Nat), i < n → p i = true → q i = false → (∀ j, j ≠ i → q j = p j) → cnt n q + 1 = cnt n p
 | 0, h, _, _, _ => by omega
 | n + 1, h, hp, hq, hj => by
  simp only [cnt]
  by_cases hin : i = n
  ·subst hin
   rw [hp, hq, cnt_congr i fun j hlt => hj j (by omega)]
   simp
  ·have := cnt_set n (by omega) hp hq hj
   rw [hj n (fun e => hin e.symm)]
   omega
theorem cnt_zero {p : Nat → Bool} : ∀ (n : Nat), cnt n p = 0 → ∀ i, i < n → p i = false
 | 0, _, i, hi => by omega
 | n + 1, h, i, hi => by
  simp only [cnt] at h
  rcases Nat.lt_or_ge i n with h1 | h1
  ·exact cnt_zero n (by omega) i h1
  ·have : i = n := by omega
   subst this
   cases hp : p i with
   | false => rfl
   | true => rw [hp] at h; simp at h
theorem getD_set {listed : Array Bool} {i : Nat} (hi : i < listed.size) : (fun j => (listed.setIfInBounds i true).getD j false) = fun j => if j = i then true else listed.getD j false := by
 funext j
 simp only [Array.getD_eq_getD_getElem?, Array.getElem?_setIfInBounds]
 by_cases h : i = j
 ·subst h; simp [hi]
 ·rw [if_neg h, if_neg (fun e => h e.symm)]
end
end Go.Proofs.Ytopieffkpdlpbaa.Wx
namespace Go.Proofs.Ytopieffkpdlpbaa.Wx
open Go Go.RowKit
def Ce.refs : Ce → List Nat
 | .osl i _ _ _ => [i]
 | .gsl i _ => [i]
 | _ => []
def A0.refs : A0 → List Nat
 | .one c => c.refs
 | .agg cs => cs.flatMap Ce.refs
def AV.refs : AV → List Nat
 | .pl a => a.refs
 | .tup l => l.flatMap A0.refs
def CEff (P : Program) (g : FuncId) (cap : List Pt) (avs : List AV) (K0 : Nat → Option Blk) (top : Nat) (e : Eff) : Prop :=
 fnB P g = true ∧ ∀ (W : Wo) (K : Nat → Option Blk) (I : IM) (R : RM) (w : World) (vs us : List Value), Wd W K I R w → All2 (AV.rel I R) avs vs → All2 (Pt.rel I) cap us → (∀ i ∈ e.rd, K i = K0 i) → (∀ j, top ≤ j → j < e.top → I j = none ∧ K j = none) →
  Calls P g (vs.toArray ++ us.toArray) w fun e' w' => ∃ v I' R', e' = .returned v ∧ Wd W (kup K e.kw) I' R' w' ∧ IExt I I' ∧ (∀ j, ¬ (top ≤ j ∧ j < e.top) → I' j = I j) ∧ RExt R R' ∧ e.av.rel I' R' v
structure conN (P : Program) (g : FuncId) (cap : List Pt) (avs : List AV) (K : Kr) (top : Nat) (k : Eff → Prop) : Prop where
 h : ∃ e, CEff P g cap avs (kg K) top e ∧ k e
theorem lowC_congr {K K' : Nat → Option Blk} {c d : Ce} (h : ∀ i ∈ c.refs, K' i = K i) (hl : lowC K c d) : lowC K' c d := by
 cases c with
 | osl i q n cp => simp only [lowC] at hl ⊢; rw [h i (by simp [Ce.refs])]; exact hl
 | gsl i rows => obtain ⟨sz, ty, r, h1, h2, h3⟩ := hl; exact ⟨sz, ty, r, h1, (h i (by simp [Ce.refs])).trans h2, h3⟩
 | fn f cap => cases cap <;> exact hl
 | v x => exact hl
 | mpv i => exact hl
 | yl i => exact hl
 | mf f l => exact hl
 | own i q k => exact hl
 | ro fl sz rows => exact hl
 | rp fl row k => exact hl
theorem lowV_congr {K K' : Nat → Option Blk} {x : AV} {d : A0} (h : ∀ i ∈ x.refs, K' i = K i) (hl : lowV K x d) : lowV K' x d := by
 cases x with
 | pl a => cases a with
  | one c => cases d with
   | one d => exact lowC_congr h hl
   | agg => exact hl.elim
  | agg cs => cases d with
   | one => exact hl.elim
   | agg ds =>
    have hl' : All2 (lowC K) cs ds := hl
    exact hl'.mono_mem fun c hc b hb => lowC_congr (fun i hi => h i (List.mem_flatMap.2 ⟨c, hc, hi⟩)) hb
 | tup => exact hl.elim
theorem evs_agree {F F' : Nat → Option AV} : ∀ {l : List Operand} {vs : List AV}, (∀ x ∈ l, evf F' x = evf F x) → evs F l = some vs → evs F' l = some vs
 | [], _, _, h => h
 | x :: r, vs, hm, h => by
  simp only [evs] at h ⊢
  rw [hm x List.mem_cons_self]
  split at h
  ·rename_i v l h1 h2
   rw [h1, evs_agree (fun y hy => hm y (List.mem_cons_of_mem _ hy)) h2]
   exact h
  ·cases h
theorem con_eff {P : Program} {g : FuncId} {avs : List AV} {K0 : Nat → Option Blk} {top : Nat} {args : List A0} {res : AV} {Kc : Kr} {tc : Nat} (h : Con P g args (fun x K t => x = res ∧ K = Kc ∧ t = tc)) (hl : All2 (lowV K0) avs args) :
  CEff P g [] avs K0 top ⟨res.ren (top + ·), avs.flatMap AV.refs, shK top Kc, top + tc⟩ := by
 refine ⟨h.fn, fun W K I R w vs us hw hv hu hk hfree => ?_⟩
 cases us with
 | cons => exact hu.elim
 | nil =>
 have hargs : vs.toArray ++ ([] : List Value).toArray = vs.toArray := by simp
 rw [hargs]
 have hlow : All2 (lowV K) avs args := hl.mono_mem fun x hx b hb => lowV_congr (fun i hi => hk i (List.mem_flatMap.2 ⟨x, hx, hi⟩)) hb
 have hrel : All2 (A0.rel (fun _ => none) (fun _ b o => w.cell? ⟨b, o, none⟩)) args vs := by
  clear h hl hk hfree hargs
  induction avs generalizing args vs with
  | nil => cases args with
   | nil => cases vs with
    | nil => trivial
    | cons => exact hv.elim
   | cons => exact hlow.elim
  | cons x avs ih => cases args with
   | nil => exact hlow.elim
   | cons d args => cases vs with
    | nil => exact hv.elim
    | cons v vs => exact ⟨lowV_rel hw hlow.1 hv.1, ih vs hv.2 hlow.2⟩
 refine (h.run w _ hrel).mono ?_
 rintro e w' ⟨v, x, Kc', tc', Ic, Rf, rfl, hc, hdc, hkc, hxr, rfl, rfl, rfl⟩
 obtain ⟨h1, h2, h3, h4⟩ := adopt_ext (top := top) hw (fun j h1 h2 => (hfree j h1 h2).1) hc hdc hkc hxr
 refine ⟨v, _, _, rfl, h1, h2, fun j hj => ?_, h3, h4⟩
 simp only at hj ⊢
 rw [if_neg hj]
def Pa.inB (l : List Nat) : Pa → Bool
 | .v _ => true
 | .own i _ _ => l.contains i
def Pt.inB (l : List Nat) : Pt → Bool
 | .ag ps => ps.all (Pa.inB l)
 | .v _ => true
 | .own i _ _ => l.contains i
def Ce.inB (l : List Nat) : Ce → Bool
 | .own i _ _ => l.contains i
 | .osl i _ _ _ => l.contains i
 | .fn _ cap => cap.all (Pt.inB l)
 | .gsl i _ => l.contains i
 | .mpv i => l.contains i
 | .yl i => l.contains i
 | .mf _ ps => ps.all (Pt.inB l)
 | _ => true
def A0.inB (l : List Nat) : A0 → Bool
 | .one c => c.inB l
 | .agg cs => cs.all (Ce.inB l)
def AV.inB (l : List Nat) : AV → Bool
 | .pl a => a.inB l
 | .tup cs => cs.all (A0.inB l)
section
open Classical
noncomputable def onI (l : List Nat) (I : IM) : IM := fun j => if l.contains j = true then I j else none
theorem onI_in {l : List Nat} {I : IM} {j : Nat} (h : l.contains j = true) : onI l I j = I j := by unfold onI; rw [if_pos h]
theorem Pa.rel_in {l : List Nat} {I : IM} {c : Pa} {u : Value} (h : c.inB l = true) (hr : c.rel I u) : c.rel (onI l I) u := by
 cases c with
 | v x => exact hr
 | own i q k => obtain ⟨p, h1, h2⟩ := hr; exact ⟨p, (onI_in h).trans h1, h2⟩
theorem Pt.rel_in {l : List Nat} {I : IM} {c : Pt} {u : Value} (h : c.inB l = true) (hr : c.rel I u) : c.rel (onI l I) u := by
 cases c with
 | v x => exact hr
 | own i q k => obtain ⟨p, h1, h2⟩ := hr; exact ⟨p, (onI_in h).trans h1, h2⟩
 | ag ps => obtain ⟨vs, h1, h2⟩ := hr; exact ⟨vs, h1, h2.mono_mem fun c hc b hb => Pa.rel_in (List.all_eq_true.1 h c hc) hb⟩
theorem Ce.rel_in {l : List Nat} {I : IM} {R : RM} {c : Ce} {u : Value} (h : c.inB l = true) (hr : c.rel I R u) : c.rel (onI l I) R u := by
 cases c with
 | v x => exact hr
 | own i q k => obtain ⟨p, h1, h2⟩ := hr; exact ⟨p, (onI_in h).trans h1, h2⟩
 | osl i q n c => obtain ⟨p, c', h1, h2⟩ := hr; exact ⟨p, c', (onI_in h).trans h1, h2⟩
 | fn f cap => obtain ⟨vs, h1, h2⟩ := hr; exact ⟨vs, h1.mono_mem fun c hc b hb => Pt.rel_in (List.all_eq_true.1 h c hc) hb, h2⟩
 | ro fl sz rows => exact hr
 | rp fl row k => exact hr
 | gsl i rows =>
  rcases hr with hr | ⟨h0, p, c', h1, h2⟩
  ·exact .inl hr
  ·exact .inr ⟨h0, p, c', (onI_in h).trans h1, h2⟩
 | mpv i => obtain ⟨p, h1, h2⟩ := hr; exact ⟨p, (onI_in h).trans h1, h2⟩
 | yl i => obtain ⟨p, h1, h2⟩ := hr; exact ⟨p, (onI_in h).trans h1, h2⟩
 | mf f ps => obtain ⟨vs, h1, h2⟩ := hr; exact ⟨vs, h1.mono_mem fun c hc b hb => Pt.rel_in (List.all_eq_true.1 h c hc) hb, h2⟩
theorem A0.rel_in {l : List Nat} {I : IM} {R : RM} {c : A0} {u : Value} (h : c.inB l = true) (hr : c.rel I R u) : c.rel (onI l I) R u := by
 cases c with
 | one c => exact Ce.rel_in h hr
 | agg cs => obtain ⟨vs, h1, h2⟩ := hr; exact ⟨vs, h1, h2.mono_mem fun c hc b hb => Ce.rel_in (List.all_eq_true.1 h c hc) hb⟩
theorem AV.rel_in {l : List Nat} {I : IM} {R : RM} {c : AV} {u : Value} (h : c.inB l = true) (hr : c.rel I R u) : c.rel (onI l I) R u := by
 cases c with
 | pl c => exact A0.rel_in h hr
 | tup cs => obtain ⟨vs, h1, h2⟩ := hr; exact ⟨vs, h1, h2.mono_mem fun c hc b hb => A0.rel_in (List.all_eq_true.1 h c hc) hb⟩
inductive FK (l : List Nat) : Kr → Kr → Prop
 | nil : FK l [] []
 | keep {p : Nat × Option Blk} {K K' : Kr} (h : l.contains p.1 = true) (k : FK l K K') : FK l (p :: K) (p :: K')
 | drop {p : Nat × Option Blk} {K K' : Kr} (h : l.contains p.1 = false) (k : FK l K K') : FK l (p :: K) K'
inductive DK (K : Kr) : Kr → Kr → Prop
 | nil : DK K K []
 | cons {p : Nat × Option Blk} {K' D : Kr} (k : DK K K' D) : DK K (p :: K') (p :: D)
end
def Pa.refs2 : Pa → List Nat
 | .v _ => []
 | .own i _ _ => [i]
def Pt.refs2 : Pt → List Nat
 | .ag l => l.flatMap Pa.refs2
 | .v _ => []
 | .own i _ _ => [i]
def Ce.refs2 : Ce → List Nat
 | .own i _ _ => [i]
 | .osl i _ _ _ => [i]
 | .fn _ cap => cap.flatMap Pt.refs2
 | .gsl i _ => [i]
 | .mpv i => [i]
 | .yl i => [i]
 | .mf _ l => l.flatMap Pt.refs2
 | _ => []
def A0.refs2 : A0 → List Nat
 | .one c => c.refs2
 | .agg cs => cs.flatMap Ce.refs2
def AV.refs2 : AV → List Nat
 | .pl a => a.refs2
 | .tup l => l.flatMap A0.refs2
def apdOk (m0 L m : Nat) (src : List (List Ce)) (bt : Nat) : Bool := Nat.beq src.length m && src.all (fun r => r.all Ce.single) && Nat.ble m0 L && Nat.ble (m0 + m) maxLen && Nat.ble ((m0 + m) * bt) 140737488355328
theorem apd_mkc {m0 L m : Nat} {src : List (List Ce)} {bt : Nat} {A : Prop} (h : apdOk m0 L m src bt = true) (k : A) : apdN m0 L m src bt A := by
 simp only [apdOk, Bool.and_eq_true] at h
 obtain ⟨⟨⟨⟨h1, h2⟩, h3⟩, h4⟩, h5⟩ := h
 exact ⟨Nat.eq_of_beq_eq_true h1, fun r hr c hc => List.all_eq_true.1 (List.all_eq_true.1 h2 r hr) c hc, Nat.le_of_ble_eq_true h3, Nat.le_of_ble_eq_true h4, Nat.le_of_ble_eq_true h5, k⟩
def cpyOk (q n L m : Nat) (src : List (List Ce)) : Bool := Nat.beq src.length m && src.all (fun r => r.all Ce.single) && Nat.ble (q + n) L
theorem cpy_mkc {q n L m : Nat} {src : List (List Ce)} {A : Prop} (h : cpyOk q n L m src = true) (k : A) : cpyN q n L m src A := by
 simp only [cpyOk, Bool.and_eq_true] at h
 obtain ⟨⟨h1, h2⟩, h3⟩ := h
 exact .mk (Nat.eq_of_beq_eq_true h1) (fun r hr c hc => List.all_eq_true.1 (List.all_eq_true.1 h2 r hr) c hc) (Nat.le_of_ble_eq_true h3) k
def onD (n : Nat) (o : Oper) (F : Fr) (K : Kr) (top : Nat) (k : Ent → S → Prop) (e : Eff) : Prop :=
 match e with
 | ⟨av, rd, kw, top'⟩ => match Nat.ble top top' with
  | true => match o.dst, kw with
   | none, [] => k ⟨o, false, ⟨av, rd, [], top'⟩, top⟩ ⟨F, K, top'⟩
   | some d, [] => k ⟨o, false, ⟨av, rd, [], top'⟩, top⟩ ⟨(d, av) :: F, K, top'⟩
   | none, [p] => k ⟨o, false, ⟨av, rd, [p], top'⟩, top⟩ ⟨F, p :: K, top'⟩
   | some d, [p] => k ⟨o, false, ⟨av, rd, [p], top'⟩, top⟩ ⟨(d, av) :: F, p :: K, top'⟩
   | dst, kw => k ⟨o, false, ⟨av, rd, kw, top'⟩, top⟩ ⟨put F dst av, kw ++ K, top'⟩
  | false => False
section
variable (P : Program) (T : Tab) (n : Nat)
def stepD (o : Oper) (F : Fr) (K : Kr) (top : Nat) (k : Ent → S → Prop) : Prop :=
 match o with
 | ⟨dst, op, ty, pos, after, guard⟩ => match dstB n dst with
  | true => match callOf op with
   | some (f, xs) => match evf (get F) f, evs (get F) xs with
    | some (.pl (.one (.fn g cap))), some avs => conN P g cap avs K top (onD n ⟨dst, op, ty, pos, after, guard⟩ F K top k)
    | _, _ => False
   | none => opA P T ⟨dst, op, ty, pos, after, guard⟩ (get F) (kg K) top (onD n ⟨dst, op, ty, pos, after, guard⟩ F K top k)
  | false => False
end
section
variable {P : Program} {T : Tab} {W : Wo} {n m : Nat} {ops : Array Oper}
def Chain (P : Program) (ops : Array Oper) (n : Nat) : List Ent → (Nat → Option AV) → (Nat → Option Blk) → Nat → (Nat → Option AV) → (Nat → Option Blk) → Nat → Prop
 | [], F, K, top, F', K', top' => F = F' ∧ K = K' ∧ top = top'
 | x :: xs, F, K, top, F', K', top' => EntOk P ops n x F K ∧ x.top = top ∧ Chain P ops n xs (fput F x.o.dst x.e.av) (kup K x.e.kw) x.e.top F' K' top'
theorem get_lit {F : Fr} {t : Nat} {x : AV} (h : get F t = some x) : get ((t, x) :: F) = get F := by
 have := get_put F (some t) x
 simp only [Wx.put] at this
 rw [this]
 funext u
 simp only [fput]
 split
 ·rename_i e; subst e; exact h.symm
 ·rfl
end
end Go.Proofs.Ytopieffkpdlpbaa.Wx
namespace Go.Proofs.Ytopieffkpdlpbaa
open Go Go.RowKit Wx
def ti2 : TI := ⟨false, 1, [.int .i64 0], [], some .i64, none, none, none, false, none, 2⟩
theorem ti2_ok : tiOf Try.prog 2 = some ti2 := by kernel_rfl
def ti3 : TI := ⟨false, 1, [.int .i64 0], [], some .i64, none, none, none, false, none, 2⟩
theorem ti3_ok : tiOf Try.prog 3 = some ti3 := by kernel_rfl
def ti4 : TI := ⟨false, 1, [.bool false], [], none, none, none, none, true, none, 1⟩
theorem ti4_ok : tiOf Try.prog 4 = some ti4 := by kernel_rfl
def ti5 : TI := ⟨false, 1, [.int .u8 0], [], some .u8, none, none, none, false, none, 2⟩
theorem ti5_ok : tiOf Try.prog 5 = some ti5 := by kernel_rfl
def ti6 : TI := ⟨false, 1, [.int .u8 0], [], some .u8, none, none, none, false, none, 2⟩
theorem ti6_ok : tiOf Try.prog 6 = some ti6 := by kernel_rfl
def ti7 : TI := ⟨true, 4, [.int .i64 0, .int .i64 0, .bool false, .int .u8 0], [(0, 1, false), (1, 1, false), (2, 1, false), (3, 1, false)], none, none, none, some [some .i64, some .i64, none, some .u8], false, none, 7⟩
theorem ti7_ok : tiOf Try.prog 7 = some ti7 := by kernel_rfl
def ti8 : TI := ⟨true, 4, [.int .i64 0, .int .i64 0, .bool false, .int .u8 0], [(0, 1, false), (1, 1, false), (2, 1, false), (3, 1, false)], none, none, none, some [some .i64, some .i64, none, some .u8], false, none, 7⟩
theorem ti8_ok : tiOf Try.prog 8 = some ti8 := by kernel_rfl
def ti9 : TI := ⟨false, 1, [.string ⟨#[]⟩], [], none, none, none, none, false, none, 3⟩
theorem ti9_ok : tiOf Try.prog 9 = some ti9 := by kernel_rfl
def ti10 : TI := ⟨false, 1, [.string ⟨#[]⟩], [], none, none, none, none, false, none, 3⟩
theorem ti10_ok : tiOf Try.prog 10 = some ti10 := by kernel_rfl
def ti11 : TI := ⟨false, 1, [.string ⟨#[]⟩], [], none, none, none, none, false, none, 3⟩
theorem ti11_ok : tiOf Try.prog 11 = some ti11 := by kernel_rfl
def ti12 : TI := ⟨false, 1, [.int .u64 0], [], some .u64, none, none, none, false, none, 2⟩
theorem ti12_ok : tiOf Try.prog 12 = some ti12 := by kernel_rfl
def ti13 : TI := ⟨true, 2, [.string ⟨#[]⟩, .int .u64 0], [(0, 1, false), (1, 1, false)], none, none, none, none, false, none, 7⟩
theorem ti13_ok : tiOf Try.prog 13 = some ti13 := by kernel_rfl
def ti14 : TI := ⟨true, 2, [.string ⟨#[]⟩, .int .u64 0], [(0, 1, false), (1, 1, false)], none, none, none, none, false, none, 7⟩
theorem ti14_ok : tiOf Try.prog 14 = some ti14 := by kernel_rfl
def ti15 : TI := ⟨false, 1, [.pointer none], [], none, none, none, none, false, none, 4⟩
theorem ti15_ok : tiOf Try.prog 15 = some ti15 := by kernel_rfl
def ti16 : TI := ⟨false, 1, [.pointer none], [], none, none, none, none, false, none, 4⟩
theorem ti16_ok : tiOf Try.prog 16 = some ti16 := by kernel_rfl
def ti17 : TI := ⟨false, 1, [.pointer none], [], none, none, none, none, false, none, 4⟩
theorem ti17_ok : tiOf Try.prog 17 = some ti17 := by kernel_rfl
def ti18 : TI := ⟨true, 1, [.pointer none], [(0, 1, false)], none, none, none, none, false, none, 7⟩
theorem ti18_ok : tiOf Try.prog 18 = some ti18 := by kernel_rfl
def ti19 : TI := ⟨true, 1, [.pointer none], [(0, 1, false)], none, none, none, none, false, none, 7⟩
theorem ti19_ok : tiOf Try.prog 19 = some ti19 := by kernel_rfl
def ti21 : TI := ⟨false, 1, [.int .i32 0], [], some .i32, none, none, none, false, none, 2⟩
theorem ti21_ok : tiOf Try.prog 21 = some ti21 := by kernel_rfl
def ti22 : TI := ⟨false, 1, [.slice none 0 0], [], none, some (25, 3, 24), none, none, false, none, 5⟩
theorem ti22_ok : tiOf Try.prog 22 = some ti22 := by kernel_rfl
def ti23 : TI := ⟨false, 1, [.nilFunc], [], none, none, none, none, false, none, 0⟩
theorem ti23_ok : tiOf Try.prog 23 = some ti23 := by kernel_rfl
def ti24 : TI := ⟨true, 3, [.int .i64 0, .int .i64 0, .int .i64 0], [(0, 1, false), (1, 1, false), (2, 1, false)], none, none, none, some [some .i64, some .i64, some .i64], false, none, 7⟩
theorem ti24_ok : tiOf Try.prog 24 = some ti24 := by kernel_rfl
def ti25 : TI := ⟨true, 3, [.int .i64 0, .int .i64 0, .int .i64 0], [(0, 1, false), (1, 1, false), (2, 1, false)], none, none, none, some [some .i64, some .i64, some .i64], false, none, 7⟩
theorem ti25_ok : tiOf Try.prog 25 = some ti25 := by kernel_rfl
def ti26 : TI := ⟨false, 1, [.slice none 0 0], [], none, some (70, 4, 32), none, none, false, none, 5⟩
theorem ti26_ok : tiOf Try.prog 26 = some ti26 := by kernel_rfl
def ti27 : TI := ⟨true, 1, [.slice none 0 0], [(0, 1, false)], none, none, none, none, false, none, 7⟩
theorem ti27_ok : tiOf Try.prog 27 = some ti27 := by kernel_rfl
def ti28 : TI := ⟨true, 1, [.slice none 0 0], [(0, 1, false)], none, none, none, none, false, none, 7⟩
theorem ti28_ok : tiOf Try.prog 28 = some ti28 := by kernel_rfl
def ti29 : TI := ⟨true, 8, [.int .i64 0, .int .i64 0, .int .i64 0, .int .i64 0, .int .i64 0, .int .i64 0, .int .i64 0, .int .i64 0], [], none, none, some (8, 1, false), some (List.replicate 8 (some .i64)), false, none, 8⟩
theorem ti29_ok : tiOf Try.prog 29 = some ti29 := by kernel_rfl
def ti30 : TI := ⟨true, 8, [.int .i64 0, .int .i64 0, .int .i64 0, .int .i64 0, .int .i64 0, .int .i64 0, .int .i64 0, .int .i64 0], [], none, none, some (8, 1, false), some (List.replicate 8 (some .i64)), false, none, 8⟩
theorem ti30_ok : tiOf Try.prog 30 = some ti30 := by kernel_rfl
def ti31 : TI := ⟨false, 1, [.slice none 0 0], [], none, some (90, 3, 24), none, none, false, none, 5⟩
theorem ti31_ok : tiOf Try.prog 31 = some ti31 := by kernel_rfl
def ti32 : TI := ⟨true, 14, [.int .i64 0, .int .i64 0, .int .i64 0, .bool false, .slice none 0 0, .int .i64 0, .int .i64 0, .int .i64 0, .int .i64 0, .int .i64 0, .int .i64 0, .int .i64 0, .int .i64 0, .slice none 0 0], [(0, 1, false), (1, 1, false), (2, 1, false), (3, 1, false), (4, 1, true), (5, 8, true), (13, 1, false)], none, none, none, none, false, none, 7⟩
theorem ti32_ok : tiOf Try.prog 32 = some ti32 := by kernel_rfl
def ti33 : TI := ⟨true, 14, [.int .i64 0, .int .i64 0, .int .i64 0, .bool false, .slice none 0 0, .int .i64 0, .int .i64 0, .int .i64 0, .int .i64 0, .int .i64 0, .int .i64 0, .int .i64 0, .int .i64 0, .slice none 0 0], [(0, 1, false), (1, 1, false), (2, 1, false), (3, 1, false), (4, 1, true), (5, 8, true), (13, 1, false)], none, none, none, none, false, none, 7⟩
theorem ti33_ok : tiOf Try.prog 33 = some ti33 := by kernel_rfl
def ti34 : TI := ⟨false, 1, [.int .i64 0], [], some .i64, none, none, none, false, none, 2⟩
theorem ti34_ok : tiOf Try.prog 34 = some ti34 := by kernel_rfl
def ti36 : TI := ⟨false, 1, [.nilFunc], [], none, none, none, none, false, none, 0⟩
theorem ti36_ok : tiOf Try.prog 36 = some ti36 := by kernel_rfl
def ti37 : TI := ⟨false, 1, [.nilFunc], [], none, none, none, none, false, none, 0⟩
theorem ti37_ok : tiOf Try.prog 37 = some ti37 := by kernel_rfl
def ti38 : TI := ⟨false, 1, [.nilFunc], [], none, none, none, none, false, none, 0⟩
theorem ti38_ok : tiOf Try.prog 38 = some ti38 := by kernel_rfl
def ti39 : TI := ⟨false, 1, [.nilFunc], [], none, none, none, none, false, none, 0⟩
theorem ti39_ok : tiOf Try.prog 39 = some ti39 := by kernel_rfl
def ti40 : TI := ⟨false, 1, [.slice none 0 0], [], none, some (33, 14, 144), none, none, false, none, 5⟩
theorem ti40_ok : tiOf Try.prog 40 = some ti40 := by kernel_rfl
def ti41 : TI := ⟨false, 1, [.slice none 0 0], [], none, some (3, 1, 8), none, none, false, none, 5⟩
theorem ti41_ok : tiOf Try.prog 41 = some ti41 := by kernel_rfl
def ti42 : TI := ⟨false, 1, [.nilFunc], [], none, none, none, none, false, none, 0⟩
theorem ti42_ok : tiOf Try.prog 42 = some ti42 := by kernel_rfl
def ti43 : TI := ⟨false, 1, [.nilFunc], [], none, none, none, none, false, none, 0⟩
theorem ti43_ok : tiOf Try.prog 43 = some ti43 := by kernel_rfl
def ti44 : TI := ⟨false, 1, [.nilFunc], [], none, none, none, none, false, none, 0⟩
theorem ti44_ok : tiOf Try.prog 44 = some ti44 := by kernel_rfl
def ti45 : TI := ⟨false, 1, [.nilFunc], [], none, none, none, none, false, none, 0⟩
theorem ti45_ok : tiOf Try.prog 45 = some ti45 := by kernel_rfl
def ti47 : TI := ⟨false, 1, [.nilFunc], [], none, none, none, none, false, none, 0⟩
theorem ti47_ok : tiOf Try.prog 47 = some ti47 := by kernel_rfl
def ti48 : TI := ⟨false, 1, [.nilFunc], [], none, none, none, none, false, none, 0⟩
theorem ti48_ok : tiOf Try.prog 48 = some ti48 := by kernel_rfl
def ti49 : TI := ⟨false, 1, [.nilFunc], [], none, none, none, none, false, none, 0⟩
theorem ti49_ok : tiOf Try.prog 49 = some ti49 := by kernel_rfl
def ti50 : TI := ⟨false, 1, [.nilFunc], [], none, none, none, none, false, none, 0⟩
theorem ti50_ok : tiOf Try.prog 50 = some ti50 := by kernel_rfl
def ti51 : TI := ⟨false, 1, [.nilFunc], [], none, none, none, none, false, none, 0⟩
theorem ti51_ok : tiOf Try.prog 51 = some ti51 := by kernel_rfl
def ti52 : TI := ⟨false, 1, [.slice none 0 0], [], none, some (5, 1, 1), none, none, false, none, 5⟩
theorem ti52_ok : tiOf Try.prog 52 = some ti52 := by kernel_rfl
def ti54 : TI := ⟨false, 1, [.nilFunc], [], none, none, none, none, false, none, 0⟩
theorem ti54_ok : tiOf Try.prog 54 = some ti54 := by kernel_rfl
def ti55 : TI := ⟨false, 1, [.nilFunc], [], none, none, none, none, false, none, 0⟩
theorem ti55_ok : tiOf Try.prog 55 = some ti55 := by kernel_rfl
def ti56 : TI := ⟨false, 1, [.nilFunc], [], none, none, none, none, false, none, 0⟩
theorem ti56_ok : tiOf Try.prog 56 = some ti56 := by kernel_rfl
def ti57 : TI := ⟨false, 1, [.nilFunc], [], none, none, none, none, false, none, 0⟩
theorem ti57_ok : tiOf Try.prog 57 = some ti57 := by kernel_rfl
def ti58 : TI := ⟨false, 1, [.int .u64 0], [], some .u64, none, none, none, false, none, 2⟩
theorem ti58_ok : tiOf Try.prog 58 = some ti58 := by kernel_rfl
def ti59 : TI := ⟨false, 1, [.nilFunc], [], none, none, none, none, false, none, 0⟩
theorem ti59_ok : tiOf Try.prog 59 = some ti59 := by kernel_rfl
def ti60 : TI := ⟨true, 3, [.int .i64 0, .int .i64 0, .int .i64 0], [(0, 1, false), (1, 1, false), (2, 1, false)], none, none, none, some [some .i64, some .i64, some .i64], false, none, 7⟩
theorem ti60_ok : tiOf Try.prog 60 = some ti60 := by kernel_rfl
def ti61 : TI := ⟨true, 3, [.int .i64 0, .int .i64 0, .int .i64 0], [(0, 1, false), (1, 1, false), (2, 1, false)], none, none, none, some [some .i64, some .i64, some .i64], false, none, 7⟩
theorem ti61_ok : tiOf Try.prog 61 = some ti61 := by kernel_rfl
def ti63 : TI := ⟨false, 1, [.nilFunc], [], none, none, none, none, false, none, 0⟩
theorem ti63_ok : tiOf Try.prog 63 = some ti63 := by kernel_rfl
def ti64 : TI := ⟨true, 2, [.int .i64 0, .int .i64 0], [(0, 1, false), (1, 1, false)], none, none, none, some [some .i64, some .i64], false, none, 7⟩
theorem ti64_ok : tiOf Try.prog 64 = some ti64 := by kernel_rfl
def ti65 : TI := ⟨true, 2, [.int .i64 0, .int .i64 0], [(0, 1, false), (1, 1, false)], none, none, none, some [some .i64, some .i64], false, none, 7⟩
theorem ti65_ok : tiOf Try.prog 65 = some ti65 := by kernel_rfl
def ti66 : TI := ⟨false, 1, [.nilFunc], [], none, none, none, none, false, none, 0⟩
theorem ti66_ok : tiOf Try.prog 66 = some ti66 := by kernel_rfl
def ti67 : TI := ⟨false, 1, [.nilFunc], [], none, none, none, none, false, none, 0⟩
theorem ti67_ok : tiOf Try.prog 67 = some ti67 := by kernel_rfl
def ti68 : TI := ⟨false, 1, [.nilFunc], [], none, none, none, none, false, none, 0⟩
theorem ti68_ok : tiOf Try.prog 68 = some ti68 := by kernel_rfl
def ti69 : TI := ⟨true, 4, [.int .i64 0, .int .i64 0, .int .i64 0, .int .i64 0], [(0, 1, false), (1, 1, false), (2, 2, true)], none, none, none, some [some .i64, some .i64, some .i64, some .i64], false, none, 7⟩
theorem ti69_ok : tiOf Try.prog 69 = some ti69 := by kernel_rfl
def ti70 : TI := ⟨true, 4, [.int .i64 0, .int .i64 0, .int .i64 0, .int .i64 0], [(0, 1, false), (1, 1, false), (2, 2, true)], none, none, none, some [some .i64, some .i64, some .i64, some .i64], false, none, 7⟩
theorem ti70_ok : tiOf Try.prog 70 = some ti70 := by kernel_rfl
def ti71 : TI := ⟨false, 1, [.nilFunc], [], none, none, none, none, false, none, 0⟩
theorem ti71_ok : tiOf Try.prog 71 = some ti71 := by kernel_rfl
def ti72 : TI := ⟨false, 1, [.nilFunc], [], none, none, none, none, false, none, 0⟩
theorem ti72_ok : tiOf Try.prog 72 = some ti72 := by kernel_rfl
def ti73 : TI := ⟨false, 1, [.nilFunc], [], none, none, none, none, false, none, 0⟩
theorem ti73_ok : tiOf Try.prog 73 = some ti73 := by kernel_rfl
def ti74 : TI := ⟨false, 1, [.nilFunc], [], none, none, none, none, false, none, 0⟩
theorem ti74_ok : tiOf Try.prog 74 = some ti74 := by kernel_rfl
def ti75 : TI := ⟨false, 1, [.nilFunc], [], none, none, none, none, false, none, 0⟩
theorem ti75_ok : tiOf Try.prog 75 = some ti75 := by kernel_rfl
def ti76 : TI := ⟨false, 1, [.nilFunc], [], none, none, none, none, false, none, 0⟩
theorem ti76_ok : tiOf Try.prog 76 = some ti76 := by kernel_rfl
def ti77 : TI := ⟨false, 1, [.nilFunc], [], none, none, none, none, false, none, 0⟩
theorem ti77_ok : tiOf Try.prog 77 = some ti77 := by kernel_rfl
def ti78 : TI := ⟨false, 1, [.nilFunc], [], none, none, none, none, false, none, 0⟩
theorem ti78_ok : tiOf Try.prog 78 = some ti78 := by kernel_rfl
def ti79 : TI := ⟨false, 1, [.nilFunc], [], none, none, none, none, false, none, 0⟩
theorem ti79_ok : tiOf Try.prog 79 = some ti79 := by kernel_rfl
def ti80 : TI := ⟨false, 1, [.nilFunc], [], none, none, none, none, false, none, 0⟩
theorem ti80_ok : tiOf Try.prog 80 = some ti80 := by kernel_rfl
def ti81 : TI := ⟨false, 1, [.slice none 0 0], [], none, some (28, 1, 24), none, none, false, none, 5⟩
theorem ti81_ok : tiOf Try.prog 81 = some ti81 := by kernel_rfl
def ti82 : TI := ⟨false, 1, [.slice none 0 0], [], none, some (31, 1, 24), none, none, false, none, 5⟩
theorem ti82_ok : tiOf Try.prog 82 = some ti82 := by kernel_rfl
def ti84 : TI := ⟨false, 1, [.nilFunc], [], none, none, none, none, false, none, 0⟩
theorem ti84_ok : tiOf Try.prog 84 = some ti84 := by kernel_rfl
def ti85 : TI := ⟨false, 1, [.nilFunc], [], none, none, none, none, false, none, 0⟩
theorem ti85_ok : tiOf Try.prog 85 = some ti85 := by kernel_rfl
def ti86 : TI := ⟨false, 1, [.nilFunc], [], none, none, none, none, false, none, 0⟩
theorem ti86_ok : tiOf Try.prog 86 = some ti86 := by kernel_rfl
def ti88 : TI := ⟨false, 1, [.nilFunc], [], none, none, none, none, false, none, 0⟩
theorem ti88_ok : tiOf Try.prog 88 = some ti88 := by kernel_rfl
def ti89 : TI := ⟨true, 3, [.int .i64 0, .int .i64 0, .int .i64 0], [(0, 1, false), (1, 1, false), (2, 1, false)], none, none, none, some [some .i64, some .i64, some .i64], false, none, 7⟩
theorem ti89_ok : tiOf Try.prog 89 = some ti89 := by kernel_rfl
def ti90 : TI := ⟨true, 3, [.int .i64 0, .int .i64 0, .int .i64 0], [(0, 1, false), (1, 1, false), (2, 1, false)], none, none, none, some [some .i64, some .i64, some .i64], false, none, 7⟩
theorem ti90_ok : tiOf Try.prog 90 = some ti90 := by kernel_rfl
def ti91 : TI := ⟨false, 1, [.nilFunc], [], none, none, none, none, false, none, 0⟩
theorem ti91_ok : tiOf Try.prog 91 = some ti91 := by kernel_rfl
def ti92 : TI := ⟨false, 1, [.nilFunc], [], none, none, none, none, false, none, 0⟩
theorem ti92_ok : tiOf Try.prog 92 = some ti92 := by kernel_rfl
def ti93 : TI := ⟨false, 1, [.nilFunc], [], none, none, none, none, false, none, 0⟩
theorem ti93_ok : tiOf Try.prog 93 = some ti93 := by kernel_rfl
def ti94 : TI := ⟨false, 1, [.nilFunc], [], none, none, none, none, false, none, 0⟩
theorem ti94_ok : tiOf Try.prog 94 = some ti94 := by kernel_rfl
def ti95 : TI := ⟨false, 1, [.nilFunc], [], none, none, none, none, false, none, 0⟩
theorem ti95_ok : tiOf Try.prog 95 = some ti95 := by kernel_rfl
def ti96 : TI := ⟨false, 1, [.nilFunc], [], none, none, none, none, false, none, 0⟩
theorem ti96_ok : tiOf Try.prog 96 = some ti96 := by kernel_rfl
def ti97 : TI := ⟨false, 1, [.nilFunc], [], none, none, none, none, false, none, 0⟩
theorem ti97_ok : tiOf Try.prog 97 = some ti97 := by kernel_rfl
def ti98 : TI := ⟨false, 1, [.nilFunc], [], none, none, none, none, false, none, 0⟩
theorem ti98_ok : tiOf Try.prog 98 = some ti98 := by kernel_rfl
def ti99 : TI := ⟨false, 1, [.int .u32 0], [], some .u32, none, none, none, false, none, 2⟩
theorem ti99_ok : tiOf Try.prog 99 = some ti99 := by kernel_rfl
def ti100 : TI := ⟨false, 1, [.pointer none], [], none, none, none, none, false, none, 4⟩
theorem ti100_ok : tiOf Try.prog 100 = some ti100 := by kernel_rfl
def ti101 : TI := ⟨false, 1, [.nilFunc], [], none, none, none, none, false, none, 0⟩
theorem ti101_ok : tiOf Try.prog 101 = some ti101 := by kernel_rfl
def ti102 : TI := ⟨false, 1, [.nilFunc], [], none, none, none, none, false, none, 0⟩
theorem ti102_ok : tiOf Try.prog 102 = some ti102 := by kernel_rfl
def ti103 : TI := ⟨false, 1, [.nilFunc], [], none, none, none, none, false, none, 0⟩
theorem ti103_ok : tiOf Try.prog 103 = some ti103 := by kernel_rfl
def ti104 : TI := ⟨false, 1, [.nilFunc], [], none, none, none, none, false, none, 0⟩
theorem ti104_ok : tiOf Try.prog 104 = some ti104 := by kernel_rfl
def ti105 : TI := ⟨false, 1, [.nilFunc], [], none, none, none, none, false, none, 0⟩
theorem ti105_ok : tiOf Try.prog 105 = some ti105 := by kernel_rfl
def ti106 : TI := ⟨false, 1, [.nilFunc], [], none, none, none, none, false, none, 0⟩
theorem ti106_ok : tiOf Try.prog 106 = some ti106 := by kernel_rfl
def ti107 : TI := ⟨false, 1, [.nilFunc], [], none, none, none, none, false, none, 0⟩
theorem ti107_ok : tiOf Try.prog 107 = some ti107 := by kernel_rfl
def ti108 : TI := ⟨false, 1, [.nilFunc], [], none, none, none, none, false, none, 0⟩
theorem ti108_ok : tiOf Try.prog 108 = some ti108 := by kernel_rfl
def ti109 : TI := ⟨false, 1, [.nilFunc], [], none, none, none, none, false, none, 0⟩
theorem ti109_ok : tiOf Try.prog 109 = some ti109 := by kernel_rfl
def ti110 : TI := ⟨false, 1, [.nilFunc], [], none, none, none, none, false, none, 0⟩
theorem ti110_ok : tiOf Try.prog 110 = some ti110 := by kernel_rfl
def ti112 : TI := ⟨false, 1, [.nilFunc], [], none, none, none, none, false, none, 0⟩
theorem ti112_ok : tiOf Try.prog 112 = some ti112 := by kernel_rfl
def ti113 : TI := ⟨false, 1, [.nilFunc], [], none, none, none, none, false, none, 0⟩
theorem ti113_ok : tiOf Try.prog 113 = some ti113 := by kernel_rfl
def ti114 : TI := ⟨false, 1, [.nilFunc], [], none, none, none, none, false, none, 0⟩
theorem ti114_ok : tiOf Try.prog 114 = some ti114 := by kernel_rfl
def ti115 : TI := ⟨false, 1, [.nilFunc], [], none, none, none, none, false, none, 0⟩
theorem ti115_ok : tiOf Try.prog 115 = some ti115 := by kernel_rfl
def ti117 : TI := ⟨false, 1, [.nilFunc], [], none, none, none, none, false, none, 0⟩
theorem ti117_ok : tiOf Try.prog 117 = some ti117 := by kernel_rfl
def ti118 : TI := ⟨false, 1, [.nilFunc], [], none, none, none, none, false, none, 0⟩
theorem ti118_ok : tiOf Try.prog 118 = some ti118 := by kernel_rfl
def ti119 : TI := ⟨false, 1, [.nilFunc], [], none, none, none, none, false, none, 0⟩
theorem ti119_ok : tiOf Try.prog 119 = some ti119 := by kernel_rfl
def ti120 : TI := ⟨false, 1, [.nilFunc], [], none, none, none, none, false, none, 0⟩
theorem ti120_ok : tiOf Try.prog 120 = some ti120 := by kernel_rfl
def ti121 : TI := ⟨false, 1, [.nilFunc], [], none, none, none, none, false, none, 0⟩
theorem ti121_ok : tiOf Try.prog 121 = some ti121 := by kernel_rfl
def ti122 : TI := ⟨false, 1, [.nilFunc], [], none, none, none, none, false, none, 0⟩
theorem ti122_ok : tiOf Try.prog 122 = some ti122 := by kernel_rfl
def ti123 : TI := ⟨false, 1, [.nilFunc], [], none, none, none, none, false, none, 0⟩
theorem ti123_ok : tiOf Try.prog 123 = some ti123 := by kernel_rfl
def ti124 : TI := ⟨false, 1, [.nilFunc], [], none, none, none, none, false, none, 0⟩
theorem ti124_ok : tiOf Try.prog 124 = some ti124 := by kernel_rfl
def ti125 : TI := ⟨false, 1, [.nilFunc], [], none, none, none, none, false, none, 0⟩
theorem ti125_ok : tiOf Try.prog 125 = some ti125 := by kernel_rfl
def ti126 : TI := ⟨false, 1, [.nilFunc], [], none, none, none, none, false, none, 0⟩
theorem ti126_ok : tiOf Try.prog 126 = some ti126 := by kernel_rfl
def ti127 : TI := ⟨false, 1, [.nilFunc], [], none, none, none, none, false, none, 0⟩
theorem ti127_ok : tiOf Try.prog 127 = some ti127 := by kernel_rfl
def ti128 : TI := ⟨false, 1, [.nilFunc], [], none, none, none, none, false, none, 0⟩
theorem ti128_ok : tiOf Try.prog 128 = some ti128 := by kernel_rfl
def ti129 : TI := ⟨false, 1, [.nilFunc], [], none, none, none, none, false, none, 0⟩
theorem ti129_ok : tiOf Try.prog 129 = some ti129 := by kernel_rfl
def ti130 : TI := ⟨false, 1, [.int .u16 0], [], some .u16, none, none, none, false, none, 2⟩
theorem ti130_ok : tiOf Try.prog 130 = some ti130 := by kernel_rfl
def ti131 : TI := ⟨false, 1, [.nilFunc], [], none, none, none, none, false, none, 0⟩
theorem ti131_ok : tiOf Try.prog 131 = some ti131 := by kernel_rfl
def ti132 : TI := ⟨false, 1, [.int .u64 0], [], some .u64, none, none, none, false, none, 2⟩
theorem ti132_ok : tiOf Try.prog 132 = some ti132 := by kernel_rfl
def ti133 : TI := ⟨false, 1, [.nilFunc], [], none, none, none, none, false, none, 0⟩
theorem ti133_ok : tiOf Try.prog 133 = some ti133 := by kernel_rfl
def ti134 : TI := ⟨false, 1, [.nilFunc], [], none, none, none, none, false, none, 0⟩
theorem ti134_ok : tiOf Try.prog 134 = some ti134 := by kernel_rfl
def ti135 : TI := ⟨true, 2, [.slice none 0 0, .int .i64 0], [(0, 1, false), (1, 1, false)], none, none, none, none, false, none, 7⟩
theorem ti135_ok : tiOf Try.prog 135 = some ti135 := by kernel_rfl
def ti136 : TI := ⟨true, 2, [.slice none 0 0, .int .i64 0], [(0, 1, false), (1, 1, false)], none, none, none, none, false, none, 7⟩
theorem ti136_ok : tiOf Try.prog 136 = some ti136 := by kernel_rfl
def ti137 : TI := ⟨true, 2, [.slice none 0 0, .int .i64 0], [(0, 2, true)], none, none, none, none, false, none, 7⟩
theorem ti137_ok : tiOf Try.prog 137 = some ti137 := by kernel_rfl
def ti138 : TI := ⟨true, 2, [.slice none 0 0, .int .i64 0], [(0, 2, true)], none, none, none, none, false, none, 7⟩
theorem ti138_ok : tiOf Try.prog 138 = some ti138 := by kernel_rfl
def ti139 : TI := ⟨false, 1, [.nilFunc], [], none, none, none, none, false, none, 0⟩
theorem ti139_ok : tiOf Try.prog 139 = some ti139 := by kernel_rfl
def ti140 : TI := ⟨false, 1, [.nilFunc], [], none, none, none, none, false, none, 0⟩
theorem ti140_ok : tiOf Try.prog 140 = some ti140 := by kernel_rfl
def ti141 : TI := ⟨false, 1, [.nilFunc], [], none, none, none, none, false, none, 0⟩
theorem ti141_ok : tiOf Try.prog 141 = some ti141 := by kernel_rfl
def ti142 : TI := ⟨false, 1, [.nilFunc], [], none, none, none, none, false, none, 0⟩
theorem ti142_ok : tiOf Try.prog 142 = some ti142 := by kernel_rfl
def ti143 : TI := ⟨false, 1, [.nilFunc], [], none, none, none, none, false, none, 0⟩
theorem ti143_ok : tiOf Try.prog 143 = some ti143 := by kernel_rfl
def ti144 : TI := ⟨false, 1, [.nilFunc], [], none, none, none, none, false, none, 0⟩
theorem ti144_ok : tiOf Try.prog 144 = some ti144 := by kernel_rfl
def ti145 : TI := ⟨false, 1, [.nilFunc], [], none, none, none, none, false, none, 0⟩
theorem ti145_ok : tiOf Try.prog 145 = some ti145 := by kernel_rfl
def ti146 : TI := ⟨false, 1, [.nilFunc], [], none, none, none, none, false, none, 0⟩
theorem ti146_ok : tiOf Try.prog 146 = some ti146 := by kernel_rfl
def ti147 : TI := ⟨false, 1, [.nilFunc], [], none, none, none, none, false, none, 0⟩
theorem ti147_ok : tiOf Try.prog 147 = some ti147 := by kernel_rfl
def ti148 : TI := ⟨false, 1, [.nilFunc], [], none, none, none, none, false, none, 0⟩
theorem ti148_ok : tiOf Try.prog 148 = some ti148 := by kernel_rfl
def ti149 : TI := ⟨false, 1, [.nilFunc], [], none, none, none, none, false, none, 0⟩
theorem ti149_ok : tiOf Try.prog 149 = some ti149 := by kernel_rfl
def ti150 : TI := ⟨false, 1, [.nilFunc], [], none, none, none, none, false, none, 0⟩
theorem ti150_ok : tiOf Try.prog 150 = some ti150 := by kernel_rfl
def ti151 : TI := ⟨false, 1, [.nilFunc], [], none, none, none, none, false, none, 0⟩
theorem ti151_ok : tiOf Try.prog 151 = some ti151 := by kernel_rfl
def ti152 : TI := ⟨false, 1, [.nilFunc], [], none, none, none, none, false, none, 0⟩
theorem ti152_ok : tiOf Try.prog 152 = some ti152 := by kernel_rfl
def ti153 : TI := ⟨false, 1, [.nilFunc], [], none, none, none, none, false, none, 0⟩
theorem ti153_ok : tiOf Try.prog 153 = some ti153 := by kernel_rfl
def ti154 : TI := ⟨false, 1, [.nilFunc], [], none, none, none, none, false, none, 0⟩
theorem ti154_ok : tiOf Try.prog 154 = some ti154 := by kernel_rfl
def ti155 : TI := ⟨false, 1, [.nilFunc], [], none, none, none, none, false, none, 0⟩
theorem ti155_ok : tiOf Try.prog 155 = some ti155 := by kernel_rfl
def ti156 : TI := ⟨false, 1, [.slice none 0 0], [], none, some (26, 1, 24), none, none, false, none, 5⟩
theorem ti156_ok : tiOf Try.prog 156 = some ti156 := by kernel_rfl
def ti157 : TI := ⟨false, 1, [.nilFunc], [], none, none, none, none, false, none, 0⟩
theorem ti157_ok : tiOf Try.prog 157 = some ti157 := by kernel_rfl
def ti158 : TI := ⟨false, 1, [.nilFunc], [], none, none, none, none, false, none, 0⟩
theorem ti158_ok : tiOf Try.prog 158 = some ti158 := by kernel_rfl
def ti159 : TI := ⟨false, 1, [.nilFunc], [], none, none, none, none, false, none, 0⟩
theorem ti159_ok : tiOf Try.prog 159 = some ti159 := by kernel_rfl
def ti160 : TI := ⟨false, 1, [.nilFunc], [], none, none, none, none, false, none, 0⟩
theorem ti160_ok : tiOf Try.prog 160 = some ti160 := by kernel_rfl
def ti161 : TI := ⟨false, 1, [.nilFunc], [], none, none, none, none, false, none, 0⟩
theorem ti161_ok : tiOf Try.prog 161 = some ti161 := by kernel_rfl
def ti162 : TI := ⟨false, 1, [.int .i64 0], [], some .i64, none, none, none, false, none, 2⟩
theorem ti162_ok : tiOf Try.prog 162 = some ti162 := by kernel_rfl
def ti164 : TI := ⟨false, 1, [.nilFunc], [], none, none, none, none, false, none, 0⟩
theorem ti164_ok : tiOf Try.prog 164 = some ti164 := by kernel_rfl
def ti165 : TI := ⟨false, 1, [.nilFunc], [], none, none, none, none, false, none, 0⟩
theorem ti165_ok : tiOf Try.prog 165 = some ti165 := by kernel_rfl
def ti166 : TI := ⟨false, 1, [.nilFunc], [], none, none, none, none, false, none, 0⟩
theorem ti166_ok : tiOf Try.prog 166 = some ti166 := by kernel_rfl
def ti167 : TI := ⟨false, 1, [.nilFunc], [], none, none, none, none, false, none, 0⟩
theorem ti167_ok : tiOf Try.prog 167 = some ti167 := by kernel_rfl
def ti168 : TI := ⟨false, 1, [.nilFunc], [], none, none, none, none, false, none, 0⟩
theorem ti168_ok : tiOf Try.prog 168 = some ti168 := by kernel_rfl
def ti169 : TI := ⟨false, 1, [.nilFunc], [], none, none, none, none, false, none, 0⟩
theorem ti169_ok : tiOf Try.prog 169 = some ti169 := by kernel_rfl
def ti170 : TI := ⟨false, 1, [.int .u64 0], [], some .u64, none, none, none, false, none, 2⟩
theorem ti170_ok : tiOf Try.prog 170 = some ti170 := by kernel_rfl
def ti171 : TI := ⟨false, 1, [.nilFunc], [], none, none, none, none, false, none, 0⟩
theorem ti171_ok : tiOf Try.prog 171 = some ti171 := by kernel_rfl
def ti172 : TI := ⟨false, 1, [.nilFunc], [], none, none, none, none, false, none, 0⟩
theorem ti172_ok : tiOf Try.prog 172 = some ti172 := by kernel_rfl
def ti173 : TI := ⟨false, 1, [.pointer none], [], none, none, none, none, false, none, 4⟩
theorem ti173_ok : tiOf Try.prog 173 = some ti173 := by kernel_rfl
def ti174 : TI := ⟨false, 1, [.nilFunc], [], none, none, none, none, false, none, 0⟩
theorem ti174_ok : tiOf Try.prog 174 = some ti174 := by kernel_rfl
def ti175 : TI := ⟨false, 1, [.pointer none], [], none, none, none, none, false, none, 4⟩
theorem ti175_ok : tiOf Try.prog 175 = some ti175 := by kernel_rfl
def ti177 : TI := ⟨false, 1, [.nilFunc], [], none, none, none, none, false, none, 0⟩
theorem ti177_ok : tiOf Try.prog 177 = some ti177 := by kernel_rfl
def ti178 : TI := ⟨false, 1, [.nilFunc], [], none, none, none, none, false, none, 0⟩
theorem ti178_ok : tiOf Try.prog 178 = some ti178 := by kernel_rfl
def ti179 : TI := ⟨true, 4, [.pointer none, .pointer none, .pointer none, .string ⟨#[]⟩], [(0, 1, false), (1, 1, false), (2, 1, false), (3, 1, false)], none, none, none, none, false, none, 7⟩
theorem ti179_ok : tiOf Try.prog 179 = some ti179 := by kernel_rfl
def ti180 : TI := ⟨true, 4, [.pointer none, .pointer none, .pointer none, .string ⟨#[]⟩], [(0, 1, false), (1, 1, false), (2, 1, false), (3, 1, false)], none, none, none, none, false, none, 7⟩
theorem ti180_ok : tiOf Try.prog 180 = some ti180 := by kernel_rfl
def ti181 : TI := ⟨true, 0, [], [], none, none, some (0, 1, false), none, false, none, 8⟩
theorem ti181_ok : tiOf Try.prog 181 = some ti181 := by kernel_rfl
def ti182 : TI := ⟨true, 0, [], [(0, 0, true)], none, none, none, none, false, none, 7⟩
theorem ti182_ok : tiOf Try.prog 182 = some ti182 := by kernel_rfl
def ti183 : TI := ⟨true, 0, [], [(0, 0, true)], none, none, none, none, false, none, 7⟩
theorem ti183_ok : tiOf Try.prog 183 = some ti183 := by kernel_rfl
def ti184 : TI := ⟨false, 1, [.int .u8 0], [], some .u8, none, none, none, false, none, 2⟩
theorem ti184_ok : tiOf Try.prog 184 = some ti184 := by kernel_rfl
def ti185 : TI := ⟨false, 1, [.int .u8 0], [], some .u8, none, none, none, false, none, 2⟩
theorem ti185_ok : tiOf Try.prog 185 = some ti185 := by kernel_rfl
def ti186 : TI := ⟨false, 1, [.nilFunc], [], none, none, none, none, false, none, 0⟩
theorem ti186_ok : tiOf Try.prog 186 = some ti186 := by kernel_rfl
def ti187 : TI := ⟨false, 1, [.pointer none], [], none, none, none, none, false, none, 4⟩
theorem ti187_ok : tiOf Try.prog 187 = some ti187 := by kernel_rfl
def ti188 : TI := ⟨false, 1, [.int .i32 0], [], some .i32, none, none, none, false, none, 2⟩
theorem ti188_ok : tiOf Try.prog 188 = some ti188 := by kernel_rfl
def ti189 : TI := ⟨false, 1, [.int .i32 0], [], some .i32, none, none, none, false, none, 2⟩
theorem ti189_ok : tiOf Try.prog 189 = some ti189 := by kernel_rfl
def ti190 : TI := ⟨true, 11, [.int .u64 0, .int .u64 0, .int .u32 0, .int .u8 0, .int .u8 0, .int .u8 0, .int .u8 0, .nilFunc, .pointer none, .int .i32 0, .int .i32 0], [(0, 1, false), (1, 1, false), (2, 1, false), (3, 1, false), (4, 1, false), (5, 1, false), (6, 1, false), (7, 1, false), (8, 1, false), (9, 1, false), (10, 1, false)], none, none, none, none, false, none, 7⟩
theorem ti190_ok : tiOf Try.prog 190 = some ti190 := by kernel_rfl
def ti191 : TI := ⟨true, 11, [.int .u64 0, .int .u64 0, .int .u32 0, .int .u8 0, .int .u8 0, .int .u8 0, .int .u8 0, .nilFunc, .pointer none, .int .i32 0, .int .i32 0], [(0, 1, false), (1, 1, false), (2, 1, false), (3, 1, false), (4, 1, false), (5, 1, false), (6, 1, false), (7, 1, false), (8, 1, false), (9, 1, false), (10, 1, false)], none, none, none, none, false, none, 7⟩
theorem ti191_ok : tiOf Try.prog 191 = some ti191 := by kernel_rfl
def tab : Tab := [(2, ti2), (3, ti3), (4, ti4), (5, ti5), (6, ti6), (7, ti7), (8, ti8), (9, ti9), (10, ti10), (11, ti11), (12, ti12), (13, ti13), (14, ti14), (15, ti15), (16, ti16), (17, ti17), (18, ti18), (19, ti19), (21, ti21), (22, ti22), (23, ti23), (24, ti24), (25, ti25), (26, ti26), (27, ti27), (28, ti28), (29, ti29), (30, ti30), (31, ti31), (32, ti32), (33, ti33), (34, ti34), (36, ti36), (37, ti37), (38, ti38), (39, ti39), (40, ti40), (41, ti41), (42, ti42), (43, ti43), (44, ti44), (45, ti45), (47, ti47), (48, ti48), (49, ti49), (50, ti50), (51, ti51), (52, ti52), (54, ti54), (55, ti55), (56, ti56), (57, ti57), (58, ti58), (59, ti59), (60, ti60), (61, ti61), (63, ti63), (64, ti64), (65, ti65), (66, ti66), (67, ti67), (68, ti68), (69, ti69), (70, ti70), (71, ti71), (72, ti72), (73, ti73), (74, ti74), (75, ti75), (76, ti76), (77, ti77), (78, ti78), (79, ti79), (80, ti80), (81, ti81), (82, ti82), (84, ti84), (85, ti85), (86, ti86), (88, ti88), (89, ti89), (90, ti90), (91, ti91), (92, ti92), (93, ti93), (94, ti94), (95, ti95), (96, ti96), (97, ti97), (98, ti98), (99, ti99), (100, ti100), (101, ti101), (102, ti102), (103, ti103), (104, ti104), (105, ti105), (106, ti106), (107, ti107), (108, ti108), (109, ti109), (110, ti110), (112, ti112), (113, ti113), (114, ti114), (115, ti115), (117, ti117), (118, ti118), (119, ti119), (120, ti120), (121, ti121), (122, ti122), (123, ti123), (124, ti124), (125, ti125), (126, ti126), (127, ti127), (128, ti128), (129, ti129), (130, ti130), (131, ti131), (132, ti132), (133, ti133), (134, ti134), (135, ti135), (136, ti136), (137, ti137), (138, ti138), (139, ti139), (140, ti140), (141, ti141), (142, ti142), (143, ti143), (144, ti144), (145, ti145), (146, ti146), (147, ti147), (148, ti148), (149, ti149), (150, ti150), (151, ti151), (152, ti152), (153, ti153), (154, ti154), (155, ti155), (156, ti156), (157, ti157), (158, ti158), (159, ti159), (160, ti160), (161, ti161), (162, ti162), (164, ti164), (165, ti165), (166, ti166), (167, ti167), (168, ti168), (169, ti169), (170, ti170), (171, ti171), (172, ti172), (173, ti173), (174, ti174), (175, ti175), (177, ti177), (178, ti178), (179, ti179), (180, ti180), (181, ti181), (182, ti182), (183, ti183), (184, ti184), (185, ti185), (186, ti186), (187, ti187), (188, ti188), (189, ti189), (190, ti190), (191, ti191)]
theorem tabOk : TabOk Try.prog tab := .cons ti2_ok (.cons ti3_ok (.cons ti4_ok (.cons ti5_ok (.cons ti6_ok (.cons ti7_ok (.cons ti8_ok (.cons ti9_ok (.cons ti10_ok (.cons ti11_ok (.cons ti12_ok (.cons ti13_ok (.cons ti14_ok (.cons ti15_ok (.cons ti16_ok (.cons ti17_ok (.cons ti18_ok (.cons ti19_ok (.cons ti21_ok (.cons ti22_ok (.cons ti23_ok (.cons ti24_ok (.cons ti25_ok (.cons ti26_ok (.cons ti27_ok (.cons ti28_ok (.cons ti29_ok (.cons ti30_ok (.cons ti31_ok (.cons ti32_ok (.cons ti33_ok (.cons ti34_ok (.cons ti36_ok (.cons ti37_ok (.cons ti38_ok (.cons ti39_ok (.cons ti40_ok (.cons ti41_ok (.cons ti42_ok (.cons ti43_ok (.cons ti44_ok (.cons ti45_ok (.cons ti47_ok (.cons ti48_ok (.cons ti49_ok (.cons ti50_ok (.cons ti51_ok (.cons ti52_ok (.cons ti54_ok (.cons ti55_ok (.cons ti56_ok (.cons ti57_ok (.cons ti58_ok (.cons ti59_ok (.cons ti60_ok (.cons ti61_ok (.cons ti63_ok (.cons ti64_ok (.cons ti65_ok (.cons ti66_ok (.cons ti67_ok (.cons ti68_ok (.cons ti69_ok (.cons ti70_ok (.cons ti71_ok (.cons ti72_ok (.cons ti73_ok (.cons ti74_ok (.cons ti75_ok (.cons ti76_ok (.cons ti77_ok (.cons ti78_ok (.cons ti79_ok (.cons ti80_ok (.cons ti81_ok (.cons ti82_ok (.cons ti84_ok (.cons ti85_ok (.cons ti86_ok (.cons ti88_ok (.cons ti89_ok (.cons ti90_ok (.cons ti91_ok (.cons ti92_ok (.cons ti93_ok (.cons ti94_ok (.cons ti95_ok (.cons ti96_ok (.cons ti97_ok (.cons ti98_ok (.cons ti99_ok (.cons ti100_ok (.cons ti101_ok (.cons ti102_ok (.cons ti103_ok (.cons ti104_ok (.cons ti105_ok (.cons ti106_ok (.cons ti107_ok (.cons ti108_ok (.cons ti109_ok (.cons ti110_ok (.cons ti112_ok (.cons ti113_ok (.cons ti114_ok (.cons ti115_ok (.cons ti117_ok (.cons ti118_ok (.cons ti119_ok (.cons ti120_ok (.cons ti121_ok (.cons ti122_ok (.cons ti123_ok (.cons ti124_ok (.cons ti125_ok (.cons ti126_ok (.cons ti127_ok (.cons ti128_ok (.cons ti129_ok (.cons ti130_ok (.cons ti131_ok (.cons ti132_ok (.cons ti133_ok (.cons ti134_ok (.cons ti135_ok (.cons ti136_ok (.cons ti137_ok (.cons ti138_ok (.cons ti139_ok (.cons ti140_ok (.cons ti141_ok (.cons ti142_ok (.cons ti143_ok (.cons ti144_ok (.cons ti145_ok (.cons ti146_ok (.cons ti147_ok (.cons ti148_ok (.cons ti149_ok (.cons ti150_ok (.cons ti151_ok (.cons ti152_ok (.cons ti153_ok (.cons ti154_ok (.cons ti155_ok (.cons ti156_ok (.cons ti157_ok (.cons ti158_ok (.cons ti159_ok (.cons ti160_ok (.cons ti161_ok (.cons ti162_ok (.cons ti164_ok (.cons ti165_ok (.cons ti166_ok (.cons ti167_ok (.cons ti168_ok (.cons ti169_ok (.cons ti170_ok (.cons ti171_ok (.cons ti172_ok (.cons ti173_ok (.cons ti174_ok (.cons ti175_ok (.cons ti177_ok (.cons ti178_ok (.cons ti179_ok (.cons ti180_ok (.cons ti181_ok (.cons ti182_ok (.cons ti183_ok (.cons ti184_ok (.cons ti185_ok (.cons ti186_ok (.cons ti187_ok (.cons ti188_ok (.cons ti189_ok (.cons ti190_ok (.cons ti191_ok (.nil)))))))))))))))))))))))))))))))))))))))))))))))))))))))))))))))))))))))))))))))))))))))))))))))))))))))))))))))))))))))))))))))))))))))))))))))))))))))))))))))))))))))))))))))))))
theorem mixOk : Try.prog.follows .mixedOrders = true := by kernel_rfl
end Go.Proofs.Ytopieffkpdlpbaa
namespace Go.Proofs.Ytopieffkpdlpbaa.Wx
open Go Go.RowKit
inductive Bt (α : Type) where
 | e
 | n (l : Bt α) (v : Option α) (r : Bt α)
namespace Bt
variable {α : Type}
def get : Bt α → Nat → Option α
 | .e, _ => none
 | .n l v r, k => match Nat.beq k 0 with
  | true => v
  | false => match Nat.beq (Nat.mod k 2) 1 with
   | true => l.get (Nat.div k 2)
   | false => r.get (Nat.div (Nat.sub k 1) 2)
def put : Nat → Bt α → Nat → Option α → Bt α
 | 0, t, _, _ => t
 | d + 1, .e, k, x => match Nat.beq k 0 with
  | true => .n .e x .e
  | false => match Nat.beq (Nat.mod k 2) 1 with
   | true => .n (put d .e (Nat.div k 2) x) none .e
   | false => .n .e none (put d .e (Nat.div (Nat.sub k 1) 2) x)
 | d + 1, .n l v r, k, x => match Nat.beq k 0 with
  | true => .n l x r
  | false => match Nat.beq (Nat.mod k 2) 1 with
   | true => .n (put d l (Nat.div k 2) x) v r
   | false => .n l v (put d r (Nat.div (Nat.sub k 1) 2) x)
theorem beq_false {a b : Nat} (h : a ≠ b) : Nat.beq a b = false := by
 cases hb : Nat.beq a b with
 | false => rfl
 | true => exact absurd (Nat.eq_of_beq_eq_true hb) h
theorem get_n (l r : Bt α) (v : Option α) (k : Nat) : (Bt.n l v r).get k = if k = 0 then v else if k % 2 = 1 then l.get (k / 2) else r.get ((k - 1) / 2) := by
 show (match Nat.beq k 0 with | true => v | false => match Nat.beq (k % 2) 1 with | true => l.get (k / 2) | false => r.get ((k - 1) / 2)) = _
 by_cases h0 : k = 0
 ·subst h0; rfl
 ·rw [beq_false h0, if_neg h0]
  by_cases h1 : k % 2 = 1
  ·rw [h1]; rfl
  ·rw [beq_false h1, if_neg h1]
theorem put_e (d : Nat) (k : Nat) (x : Option α) : put (d + 1) (.e : Bt α) k x = put (d + 1) (.n .e none .e) k x := by
 unfold put
 cases Nat.beq k 0 <;> rfl
theorem get_e' (k : Nat) : (Bt.n .e none .e : Bt α).get k = none := by
 rw [get_n]
 split
 ·rfl
 ·split <;> rfl
theorem get_put : ∀ (d : Nat) (t : Bt α) (k : Nat) (x : Option α) (j : Nat), k + 1 < 2 ^ d → (put d t k x).get j = if j = k then x else t.get j
 | 0, t, k, x, j, h => by omega
 | d + 1, .e, k, x, j, h => by
  rw [put_e, get_put_n d .e none .e k x j h]
  split
  ·rfl
  ·rw [get_e']; rfl
 | d + 1, .n l v r, k, x, j, h => get_put_n d l v r k x j h
where
 get_put_n : ∀ (d : Nat) (l : Bt α) (v : Option α) (r : Bt α) (k : Nat) (x : Option α) (j : Nat), k + 1 < 2 ^ (d + 1) → (put (d + 1) (.n l v r) k x).get j = if j = k then x else (Bt.n l v r).get j := by
  intro d l v r k x j h
  rw [Nat.pow_succ] at h
  unfold put
  by_cases h0 : k = 0
  ·subst h0
   show (Bt.n l x r).get j = _
   rw [get_n, get_n]
   by_cases hj : j = 0
   ·rw [if_pos hj, if_pos hj]
   ·rw [if_neg hj, if_neg hj, if_neg hj]
  ·rw [beq_false h0]
   by_cases h1 : k % 2 = 1
   ·have e1 : Nat.beq (Nat.mod k 2) 1 = true := by show Nat.beq (k % 2) 1 = true; rw [h1]; rfl
    rw [e1]
    show (Bt.n (put d l (k / 2) x) v r).get j = _
    rw [get_n, get_n]
    by_cases hj : j = 0
    ·rw [if_pos hj, if_neg (by omega), if_pos hj]
    ·rw [if_neg hj, if_neg hj]
     by_cases hj1 : j % 2 = 1
     ·rw [if_pos hj1, if_pos hj1, get_put d l (k / 2) x (j / 2) (by omega)]
      by_cases he : j = k
      ·subst he; simp
      ·rw [if_neg he, if_neg (by omega)]
     ·rw [if_neg hj1, if_neg hj1, if_neg (by rintro rfl; exact hj1 h1)]
   ·have e1 : Nat.beq (Nat.mod k 2) 1 = false := beq_false h1
    rw [e1]
    show (Bt.n l v (put d r ((k - 1) / 2) x)).get j = _
    rw [get_n, get_n]
    by_cases hj : j = 0
    ·rw [if_pos hj, if_neg (by omega), if_pos hj]
    ·rw [if_neg hj, if_neg hj]
     by_cases hj1 : j % 2 = 1
     ·rw [if_pos hj1, if_pos hj1, if_neg (by rintro rfl; exact h1 hj1)]
     ·rw [if_neg hj1, if_neg hj1, get_put d r ((k - 1) / 2) x ((j - 1) / 2) (by omega)]
      by_cases he : j = k
      ·subst he; simp
      ·rw [if_neg he, if_neg (by omega)]
end Bt
def natOf : Int → Option Nat
 | .ofNat n => some n
 | .negSucc _ => none
theorem natOf_spec {z : Int} {n : Nat} (h : natOf z = some n) : z = (n : Int) := by
 cases z with
 | ofNat m => simp only [natOf, Option.some.injEq] at h; subst h; rfl
 | negSucc m => cases h
def mkB (l c : Int) (bt : Nat) : Option (Nat × Nat) :=
 match natOf l, natOf c with
 | some l', some c' => match Nat.ble l' c', Nat.ble c' maxLen, Nat.ble (bt * c') 140737488355328 with
  | true, true, true => some (l', c')
  | _, _, _ => none
 | _, _ => none
theorem mkB_spec {l c : Int} {bt l' c' : Nat} (h : mkB l c bt = some (l', c')) : l = (l' : Int) ∧ c = (c' : Int) ∧ l' ≤ c' ∧ c' ≤ maxLen ∧ bt * c' ≤ 140737488355328 := by
 unfold mkB at h
 split at h
 ·rename_i a b h1 h2
  split at h
  ·rename_i g1 g2 g3
   simp only [Option.some.injEq, Prod.mk.injEq] at h
   obtain ⟨rfl, rfl⟩ := h
   exact ⟨natOf_spec h1, natOf_spec h2, Nat.le_of_ble_eq_true g1, Nat.le_of_ble_eq_true g2, Nat.le_of_ble_eq_true g3⟩
  ·cases h
 ·cases h
def bndE (o : Option Int) (d : Nat) : Option Nat :=
 match o with
 | none => some d
 | some x => natOf x
theorem bndE_spec {o : Option Int} {d l : Nat} (h : bndE o d = some l) : bnd o l d := by
 cases o with
 | none => simp only [bndE, Option.some.injEq] at h; exact h.symm
 | some x => exact natOf_spec h
def slB (lo hi : Option Int) (len : Nat) (cap : Option Nat) : Option (Nat × Nat) :=
 match bndE lo 0, bndE hi len with
 | some l, some h => match Nat.ble l h, (match Nat.ble h len with | true => true | false => match cap with | some c => Nat.ble h c | none => false) with
  | true, true => some (l, h)
  | _, _ => none
 | _, _ => none
theorem slB_spec {lo hi : Option Int} {len : Nat} {cap : Option Nat} {l h : Nat} (hh : slB lo hi len cap = some (l, h)) : bnd lo l 0 ∧ bnd hi h len ∧ l ≤ h ∧ (h ≤ len ∨ ∃ c, cap = some c ∧ h ≤ c) := by
 unfold slB at hh
 split at hh
 ·rename_i a b h1 h2
  split at hh
  ·rename_i g1 g2
   simp only [Option.some.injEq, Prod.mk.injEq] at hh
   obtain ⟨rfl, rfl⟩ := hh
   refine ⟨bndE_spec h1, bndE_spec h2, Nat.le_of_ble_eq_true g1, ?_⟩
   split at g2
   ·rename_i g; exact .inl (Nat.le_of_ble_eq_true g)
   ·split at g2
    ·rename_i c; exact .inr ⟨c, rfl, Nat.le_of_ble_eq_true g2⟩
    ·cases g2
  ·cases hh
 ·cases hh
def neB (l h : Nat) (lo : Option Int) : Bool :=
 match lo with
 | none => true
 | some _ => match Nat.beq l 0 with | true => true | false => Nat.blt l h
theorem neB_spec {l h : Nat} {lo : Option Int} (hb : bnd lo l 0) (hh : neB l h lo = true) : l = 0 ∨ l < h := by
 cases lo with
 | none => exact .inl hb
 | some x =>
  unfold neB at hh
  simp only at hh
  split at hh
  ·rename_i g; exact .inl (Nat.eq_of_beq_eq_true g)
  ·simp only [Nat.blt_eq] at hh; exact .inr hh
def aprOk (m0 m L : Nat) (cp : Option Nat) (src : List (List Ce)) : Bool :=
 (match cp with | some c => Nat.ble (m0 + m) c | none => false) && Nat.beq src.length m && Nat.ble (m0 + m) L && src.all (fun r => r.all Ce.single)
theorem aprOk_spec {m0 m L : Nat} {cp : Option Nat} {src : List (List Ce)} (h : aprOk m0 m L cp src = true) : aprN m0 m L cp src True := by
 simp only [aprOk, Bool.and_eq_true] at h
 obtain ⟨⟨⟨h1, h2⟩, h3⟩, h4⟩ := h
 refine ⟨?_, Nat.eq_of_beq_eq_true h2, fun r hr c hc => List.all_eq_true.1 (List.all_eq_true.1 h4 r hr) c hc, Nat.le_of_ble_eq_true h3, trivial⟩
 cases cp with
 | none => cases h1
 | some c => exact ⟨c, rfl, Nat.le_of_ble_eq_true h1⟩
def growB : Option Nat → Nat → Bool
 | some c, n => Nat.blt c n
 | none, _ => false
theorem growB_spec {c : Option Nat} {n : Nat} (h : growB c n = true) : ∃ c0, c = some c0 ∧ c0 < n := by
 cases c with
 | none => cases h
 | some c0 => exact ⟨c0, rfl, by simpa [growB, Nat.blt_eq] using h⟩
def opE (T : Tab) (o : Oper) (F : Nat → Option AV) (K : Nat → Option Blk) (top : Nat) : Option Eff :=
 match o.op with
 | .move x => match evf F x with
  | some v => some ⟨v, [], [], top⟩
  | none => none
 | .assign x => match evf F x with
  | some v => some ⟨v, [], [], top⟩
  | none => none
 | .pick c x y => match evf F c with
  | some (.pl (.one (.v (.bool true)))) => match evf F x with
   | some v => some ⟨v, [], [], top⟩
   | none => none
  | some (.pl (.one (.v (.bool false)))) => match evf F y with
   | some v => some ⟨v, [], [], top⟩
   | none => none
  | _ => none
 | .nilCheck x => match evf F x with
  | some (.pl (.one (.own i q l))) => some ⟨.c (.own i q l), [], [], top⟩
  | some (.pl (.one (.rp fl row l))) => some ⟨.c (.rp fl row l), [], [], top⟩
  | some (.pl (.one (.fn f cap))) => some ⟨.c (.fn f cap), [], [], top⟩
  | _ => none
 | .unOp .not _ x => match evf F x with
  | some (.pl (.one (.v (.bool b)))) => some ⟨.val (.bool (!b)), [], [], top⟩
  | _ => none
 | .binOp op t x y _ => match evf F x, evf F y with
  | some (.pl (.one (.v (.int kx p)))), some (.pl (.one (.v (.int ky q)))) => match op with
   | .shl => match decide (0 ≤ q) with
    | true => some ⟨.val (.int kx (kx.wrap (p * 2 ^ (min q.toNat kx.bits)))), [], [], top⟩
    | false => none
   | .shr => match decide (0 ≤ q) with
    | true => some ⟨.val (.int kx (p.fdiv (2 ^ (min q.toNat kx.bits)))), [], [], top⟩
    | false => none
   | op => match decide (kx = ky) with
    | true => match op with
     | .add => some ⟨.val (.int kx (kx.wrap (p + q))), [], [], top⟩
     | .sub => some ⟨.val (.int kx (kx.wrap (p - q))), [], [], top⟩
     | .mul => some ⟨.val (.int kx (kx.wrap (p * q))), [], [], top⟩
     | .quo => match decide (q = 0) with
      | false => some ⟨.val (.int kx (kx.wrap (p.tdiv q))), [], [], top⟩
      | true => none
     | .rem => match decide (q = 0) with
      | false => some ⟨.val (.int kx (p.tmod q)), [], [], top⟩
      | true => none
     | op => match cmpOp op p q with
      | some r => some ⟨.val (.bool r), [], [], top⟩
      | none => none
    | false => none
  | some (.pl (.one (.v (.bool p)))), some (.pl (.one (.v (.bool q)))) => match tyGet T t with
   | some ti => match ti.isB, op with
    | true, .eql => some ⟨.val (.bool (p == q)), [], [], top⟩
    | true, .neq => some ⟨.val (.bool (p != q)), [], [], top⟩
    | _, _ => none
   | none => none
  | some (.pl (.agg xs)), some (.pl (.agg ys)) => match tyGet T t with
   | some ti => match ti.eqk with
    | some ks => match eqC ks xs ys, op with
     | some r, .eql => some ⟨.val (.bool r), [], [], top⟩
     | some r, .neq => some ⟨.val (.bool (!r)), [], [], top⟩
     | _, _ => none
    | none => none
   | none => none
  | some (.pl (.one c)), some (.pl (.one (.v (.slice none _ _)))) => match tyGet T t with
   | some ti => match ti.elem, nilOf c, op with
    | some _, some r, .eql => some ⟨.val (.bool r), [], [], top⟩
    | some _, some r, .neq => some ⟨.val (.bool (!r)), [], [], top⟩
    | _, _, _ => none
   | none => none
  | _, _ => none
 | .convert s d x => match tyGet T s, tyGet T d, evf F x with
  | some i, some j, some (.pl (.one (.v (.int kk p)))) => match i.ikind, j.ikind with
   | some _, some kd => some ⟨.val (.int kd (kd.wrap p)), [], [], top⟩
   | _, _ => none
  | _, _, _ => none
 | .extract x i => match evf F x with
  | some (.tup l) => match l[i]? with
   | some c => some ⟨.pl c, [], [], top⟩
   | none => none
  | _ => none
 | .makeFunc (.func f) first caps => match first.toList, ptsOf F caps.toList with
  | [], some ps => some ⟨.c (.fn f ps), [], [], top⟩
  | _, _ => none
 | .fieldAddr s x f => match tyGet T s with
  | some ti => match ti.offs[f]? with
   | some (off, sz, _) => match Nat.blt 0 sz, evf F x with
    | true, some (.pl (.one (.own i q l))) => some ⟨.c (.own i q (l + off)), [], [], top⟩
    | true, some (.pl (.one (.rp fl row l))) => some ⟨.c (.rp fl row (l + off)), [], [], top⟩
    | _, _ => none
   | none => none
  | none => none
 | .field s x f => match tyGet T s with
  | some ti => match ti.offs[f]? with
   | some (off, sz, r) => match Nat.blt 0 sz, evf F x with
    | true, some (.pl (.agg cs)) => match cut r off sz cs with
     | some v => some ⟨.pl v, [], [], top⟩
     | none => none
    | _, _ => none
   | none => none
  | none => none
 | .load t x => match tyGet T t, evf F x with
  | some ti, some (.pl (.one (.own i q l))) => match K i with
   | some b => match b.rows[q]? with
    | some row => match cut ti.row l ti.size row with
     | some v => some ⟨.pl v, [i], [], top⟩
     | none => none
    | none => none
   | none => none
  | some ti, some (.pl (.one (.rp fl row l))) => match cut ti.row l ti.size (row.map (RT.ce fl)) with
   | some v => some ⟨.pl v, [], [], top⟩
   | none => none
  | _, _ => none
 | .store t x y => match o.dst, tyGet T t, evf F x, evf F y with
  | none, some ti, some (.pl (.one (.own i q l))), some (.pl v) => match K i with
   | some b => match b.rows[q]? with
    | some row => match Nat.beq v.cells.length ti.size, v.cells.all Ce.single, Nat.ble (l + v.cells.length) row.length with
     | true, true, true => some ⟨.val undef, [i], [(i, some ⟨b.rows.set q (spl row l v.cells), b.sz, b.ty, b.bx⟩)], top⟩
     | _, _, _ => none
    | none => none
   | none => none
  | _, _, _, _ => none
 | .alloc t => match tyGet T t with
  | some ti => some ⟨.c (.own top 0 0), [], [(top, some ⟨[ti.zero.map .v], (ti.zero.map Ce.v).length, t, true⟩)], top + 1⟩
  | none => none
 | .box t x => match evf F x with
  | some (.pl v) => match v.cells.all Ce.single with
   | true => some ⟨.c (.own top 0 0), [], [(top, some ⟨[v.cells], v.cells.length, t, true⟩)], top + 1⟩
   | false => none
  | _ => none
 | .build t ps => match tyGet T t with
  | some ti => match (match ti.offs with | [] => false | _ => ti.offs.all fun x => Nat.blt 0 x.2.1), evb F ps.toList with
   | true, some avs => match fillC ti.offs (ti.zero.map .v) avs with
    | some out => some ⟨.pl (.agg out), [], [], top⟩
    | none => none
   | _, _ => none
  | none => none
 | .indexAddr t x y => match tyGet T t, evf F y with
  | some ti, some (.pl (.one (.v (.int _ j)))) => match ti.elem with
   | some (_, s, _) => match evf F x with
    | some (.pl (.one (.osl i q m c))) => match K i with
     | some b => match Nat.beq b.sz s, natOf j with
      | true, some j' => match Nat.blt j' m with
       | true => some ⟨.c (.own i (q + j') 0), [i], [], top⟩
       | false => none
      | _, _ => none
     | none => none
    | some (.pl (.one (.ro fl sz rows))) => match Nat.beq sz s, natOf j with
     | true, some j' => match rows[j']? with
      | some row => some ⟨.c (.rp fl row 0), [], [], top⟩
      | none => none
     | _, _ => none
    | _ => none
   | none => match ti.arr with
    | some (m, s, _) => match evf F x, natOf j with
     | some (.pl (.one (.own i q l))), some j' => match Nat.blt j' m with
      | true => some ⟨.c (.own i q (l + j' * s)), [], [], top⟩
      | false => none
     | some (.pl (.one (.rp fl row l))), some j' => match Nat.blt j' m with
      | true => some ⟨.c (.rp fl row (l + j' * s)), [], [], top⟩
      | false => none
     | _, _ => none
    | none => none
  | _, _ => none
 | .call ⟨.builtin .len, args, tys⟩ => match args.toList, tys.toList with
  | [x], [t] => match tyGet T t with
   | some ti => match ti.elem with
    | some _ => match evf F x with
     | some (.pl (.one (.osl _ _ m _))) => some ⟨.val (.int .i64 m), [], [], top⟩
     | some (.pl (.one (.ro _ _ rows))) => some ⟨.val (.int .i64 rows.length), [], [], top⟩
     | some (.pl (.one (.v (.slice _ m _)))) => some ⟨.val (.int .i64 m), [], [], top⟩
     | _ => none
    | none => none
   | none => none
  | _, _ => none
 | .call ⟨.builtin .append, args, tys⟩ => match args.toList, tys.toList with
  | [x, y], [t, t'] => match Nat.beq t t', tyGet T t, evf F y with
   | false, some ti, some (.pl (.one (.v (.int _ j)))) => match tyGet T t', natOf j with
    | some tj, some m => match tj.ikind, ti.elem with
     | some _, some (e, s, bt) => match tyGet T e, evf F x with
      | some te, some (.pl (.one (.osl i 0 m0 cp))) => match K i with
       | some b => match growB cp (m0 + m), Nat.beq b.sz s, Nat.beq b.ty e, Nat.ble m0 b.rows.length, Nat.ble (m0 + m) maxLen, Nat.ble ((m0 + m) * bt) 140737488355328, te.zero.all fun v => v.oneCell' with
        | true, true, _, true, true, true, true => some ⟨.c (.osl top 0 (m0 + m) none), [i], [(top, some ⟨b.rows.take m0 ++ List.replicate m (te.zero.map .v), s, e, false⟩)], top + 1⟩
        | false, true, true, true, true, true, true => some ⟨.c (.osl top 0 (m0 + m) none), [i], [(i, none), (top, some ⟨b.rows.take m0 ++ List.replicate m (te.zero.map .v), s, e, false⟩)], top + 1⟩
        | _, _, _, _, _, _, _ => none
       | none => none
      | _, _ => none
     | _, _ => none
    | _, _ => none
   | true, some ti, some (.pl (.one cy)) => match ti.elem with
    | some (e, s, bt) => match srcOf0 K s cy with
     | some (src, m, rd) => match evf F x with
      | some (.pl (.one (.osl i 0 m0 cp))) => match K i with
       | some b => match aprOk m0 m b.rows.length cp src && Nat.beq b.sz s with
        | true => some ⟨.c (.osl i 0 (m0 + m) cp), i :: rd, [(i, some ⟨lay b.rows m0 src, b.sz, b.ty, b.bx⟩)], top⟩
        | false => match growB cp (m0 + m), Nat.beq b.sz s, Nat.beq b.ty e, apdOk m0 b.rows.length m src bt with
         | true, true, _, true => some ⟨.c (.osl top 0 (m0 + m) none), i :: rd, [(top, some ⟨b.rows.take m0 ++ src, s, e, false⟩)], top + 1⟩
         | false, true, true, true => some ⟨.c (.osl top 0 (m0 + m) none), i :: rd, [(i, none), (top, some ⟨b.rows.take m0 ++ src, s, e, false⟩)], top + 1⟩
         | _, _, _, _ => none
       | none => none
      | some (.pl (.one (.v (.slice none 0 0)))) => match Nat.blt 0 m, apdOk 0 0 m src bt with
       | true, true => some ⟨.c (.osl top 0 m none), rd, [(top, some ⟨src, s, e, false⟩)], top + 1⟩
       | false, _ => some ⟨.val (.slice none 0 0), rd, [], top⟩
       | _, _ => none
      | _ => none
     | none => none
    | none => none
   | _, _, _ => none
  | _, _ => none
 | .call ⟨.builtin .copy, args, tys⟩ => match args.toList, tys.toList with
  | [x, y], [t, t'] => match tyGet T t, evf F x, evf F y with
   | some ti, some (.pl (.one (.osl i q m0 _))), some (.pl (.one cy)) => match ti.elem with
    | some (_, s, _) => match K i, srcOf0 K s cy with
     | some b, some (src, m, rd) => match Nat.beq b.sz s, cpyOk q m0 b.rows.length m src with
      | true, true => some ⟨.val (.int .i64 (Nat.min m m0 : Nat)), i :: rd, [(i, some ⟨lay b.rows q (src.take (Nat.min m m0)), b.sz, b.ty, b.bx⟩)], top⟩
      | _, _ => none
     | _, _ => none
    | none => none
   | _, _, _ => none
  | _, _ => none
 | .call ⟨.builtin .cap, args, tys⟩ => match args.toList, tys.toList with
  | [x], [t] => match tyGet T t, evf F x with
   | some ti, some (.pl (.one (.osl _ _ _ (some c)))) => match ti.elem with
    | some _ => some ⟨.val (.int .i64 c), [], [], top⟩
    | none => none
   | _, _ => none
  | _, _ => none
 | .makeSlice t x y => match tyGet T t, evf F x, evf F y with
  | some ti, some (.pl (.one (.v (.int _ l)))), some (.pl (.one (.v (.int _ c)))) => match ti.elem with
   | some (e, s, bt) => match tyGet T e, mkB l c bt with
    | some te, some (l', c') => some ⟨.c (.osl top 0 l' (some c')), [], [(top, some ⟨List.replicate l' (te.zero.map .v), s, e, false⟩)], top + 1⟩
    | _, _ => none
   | none => none
  | _, _, _ => none
 | .buildSlice t len ps => match tyGet T t with
  | some ti => match ti.elem with
   | some (e, s, bt) => match tyGet T e, evb F ps.toList, Nat.blt 0 s, Nat.ble (len * s) 16777216 with
    | some te, some avs, true, true => match fillC ((List.range len).map fun i => (i * s, s, false)) (List.replicate len (te.zero.map Ce.v)).flatten avs with
     | some out => some ⟨.c (.osl top 0 len (some len)), [], [(top, some ⟨(List.range len).map fun q => (out.drop (q * s)).take s, s, e, false⟩)], top + 1⟩
     | none => none
    | _, _, _, _ => none
   | none => none
  | none => none
 | .slice t x lo hi mx => match mx, tyGet T t, intOf' F lo, intOf' F hi with
  | none, some ti, some l, some h => match ti.elem with
   | some (_, s, _) => match evf F x with
    | some (.pl (.one (.osl i q m c))) => match K i with
     | some b => match Nat.beq b.sz s, slB l h m c with
      | true, some (l', h') => match neB l' h' l with
       | true => some ⟨.c (.osl i (q + l') (h' - l') (c.map (· - l'))), [i], [], top⟩
       | false => match Nat.beq l' h' with
        | true => some ⟨.c (.ro true s []), [i], [], top⟩
        | false => none
      | _, _ => none
     | none => none
    | some (.pl (.one (.ro fl s' rows))) => match Nat.beq s' s, slB l h rows.length none with
     | true, some (l', h') => some ⟨.c (.ro fl s' ((rows.drop l').take (h' - l'))), [], [], top⟩
     | _, _ => none
    | some (.pl (.one (.v (.slice none 0 0)))) => match slB l h 0 none with
     | some (l', h') => some ⟨.val (.slice none 0 0), [], [], top⟩
     | none => none
    | _ => none
   | none => none
  | _, _, _, _ => none
 | .call ⟨.builtin .min, args, tys⟩ => match args.toList with
  | [x, y] => match evf F x, evf F y with
   | some (.pl (.one (.v (.int kx p)))), some (.pl (.one (.v (.int ky q)))) => match decide (kx = ky) with
    | true => some ⟨.val (.int kx (min p q)), [], [], top⟩
    | false => none
   | _, _ => none
  | _ => none
 | .call ⟨.builtin .max, args, tys⟩ => match args.toList with
  | [x, y] => match evf F x, evf F y with
   | some (.pl (.one (.v (.int kx p)))), some (.pl (.one (.v (.int ky q)))) => match decide (kx = ky) with
    | true => some ⟨.val (.int kx (max p q)), [], [], top⟩
    | false => none
   | _, _ => none
  | _ => none
 | _ => none
theorem e_appendo {P : Program} {o : Oper} {F0 : Nat → Option AV} {K0 : Nat → Option Blk} {top : Nat} (x y : Operand) (t : TypeId) (ho : o.op = .call ⟨.builtin .append, #[x, y], #[t, t]⟩) (ti : TI) (ht : tiOf P t = some ti) (e s bt : Nat) (hel : ti.elem = some (e, s, bt)) (hx : evf F0 x = some (.val (.slice none 0 0)))
  (cy : Ce) (hy : evf F0 y = some (.c cy)) (src : List (List Ce)) (m : Nat) (rd : List Nat) (hsrc : srcOf K0 s cy = some (src, m, rd)) (h0 : 0 < m) (hn : apdN 0 0 m src bt True) :
  OpEff P o F0 K0 top ⟨.c (.osl top 0 m none), rd, [(top, some ⟨src, s, e, false⟩)], top + 1⟩ := by
 intro n W F K I R a w hst hxx hk hf hd next Q hnext
 have hm : ∀ z ∈ [x, y], evf F z = evf F0 z := fun z hz => hxx z (by simpa [ho, Op.operands, Call.operands] using hz)
 have hu := ev_plain hst ((hm x (by simp)).trans hx)
 have hvy := hst.ev ((hm y (by simp)).trans hy)
 have htop := (hf top (Nat.le_refl _) (by simp)).1
 have h1 := hn.max
 have h2 := hn.room
 rw [Nat.zero_add] at h1 h2
 obtain ⟨g, cn, w', hrun, h3, h4⟩ := append_nil hst.wd (ty := o.type) ht hel htop (srcOf_agree hk hsrc) hn.len h0 hvy h1 h2
 have hsl := hn.len
 unfold Oper.wp
 rw [builtin_append o x y t ho a.eval w (by rw [hu]; exact hrun)]
 exact hnext _ _ _ _ (hst.put (.ext htop) (.refl _) h4 hd ⟨⟨g, s, cn⟩, cn, by simp [Wx.ext], by simp, h3, by simp, fun _ h => (by cases h)⟩) (.ext htop) dom_ext (.refl _)
theorem blt0 {m : Nat} (h : Nat.blt 0 m = false) : m = 0 := by
 have h2 : ¬ Nat.blt 0 m = true := by rw [h]; simp
 rw [Nat.blt_eq] at h2
 omega
theorem apdOk_spec {m0 L m : Nat} {src : List (List Ce)} {bt : Nat} (h : apdOk m0 L m src bt = true) : apdN m0 L m src bt True := apd_mkc h trivial
theorem cpyOk_spec {q n L m : Nat} {src : List (List Ce)} (h : cpyOk q n L m src = true) : cpyN q n L m src True := cpy_mkc h trivial
section
variable {P : Program} {T : Tab} {o : Oper} {F : Nat → Option AV} {K : Nat → Option Blk} {top : Nat} {e : Eff}
theorem opE_sound (hT : TabOk P T) (h : opE T o F K top = some e) : OpEff P o F K top e := by
 obtain ⟨dst, op, ty, pos, after, guard⟩ := o
 unfold opE at h
 dsimp only at h
 split at h
 case h_1 =>
  split at h
  ·rename_i v hv; cases h; exact (y_move _ (.inl rfl) v hv).eff
  ·cases h
 case h_2 =>
  split at h
  ·rename_i v hv; cases h; exact (y_move _ (.inr rfl) v hv).eff
  ·cases h
 case h_3 =>
  split at h
  ·rename_i hb
   split at h
   ·rename_i v hv; cases h; exact (y_pick _ _ _ rfl true hb v (fun _ => hv) (fun h => by cases h)).eff
   ·cases h
  ·rename_i hb
   split at h
   ·rename_i v hv; cases h; exact (y_pick _ _ _ rfl false hb v (fun h => by cases h) (fun _ => hv)).eff
   ·cases h
  ·cases h
 case h_4 =>
  split at h
  ·rename_i i q l hx; cases h; exact (y_nilc _ rfl _ hx rfl).eff
  ·rename_i fl row l hx; cases h; exact (y_nilc _ rfl _ hx rfl).eff
  ·rename_i f cap hx; cases h; exact (y_nilc _ rfl _ hx rfl).eff
  ·cases h
 case h_5 =>
  split at h
  ·rename_i b hx; cases h; exact (y_not _ _ rfl b hx).eff
  ·cases h
 case h_6 =>
  split at h
  ·rename_i kx p ky q hx hy
   split at h
   ·split at h
    ·rename_i hz; cases h; exact (y_shift _ _ _ _ _ rfl kx ky p q hx hy (of_decide_eq_true hz) _ (.inl ⟨rfl, rfl⟩)).eff
    ·cases h
   ·split at h
    ·rename_i hz; cases h; exact (y_shift _ _ _ _ _ rfl kx ky p q hx hy (of_decide_eq_true hz) _ (.inr ⟨rfl, rfl⟩)).eff
    ·cases h
   ·split at h
    ·rename_i hk
     have hk := of_decide_eq_true hk
     subst hk
     split at h
     ·cases h; exact (y_int _ _ _ _ _ rfl kx p q hx hy _ (by simp [intOp])).eff
     ·cases h; exact (y_int _ _ _ _ _ rfl kx p q hx hy _ (by simp [intOp])).eff
     ·cases h; exact (y_int _ _ _ _ _ rfl kx p q hx hy _ (by simp [intOp])).eff
     ·split at h
      ·rename_i hz; cases h; exact (y_div _ _ _ _ _ rfl kx p q hx hy (of_decide_eq_false hz) _ (.inl ⟨rfl, rfl⟩)).eff
      ·cases h
     ·split at h
      ·rename_i hz; cases h; exact (y_div _ _ _ _ _ rfl kx p q hx hy (of_decide_eq_false hz) _ (.inr ⟨rfl, rfl⟩)).eff
      ·cases h
     ·split at h
      ·rename_i r hr; cases h; exact (y_cmp _ _ _ _ _ rfl kx p q hx hy _ hr).eff
      ·cases h
    ·cases h
  ·rename_i p q hx hy
   split at h
   ·rename_i ti ht
    split at h
    ·rename_i hb; cases h; exact (y_bool _ _ _ _ _ rfl p q hx hy (tiOf_bool (hT _ _ ht) hb) _ (.inl ⟨rfl, rfl⟩)).eff
    ·rename_i hb; cases h; exact (y_bool _ _ _ _ _ rfl p q hx hy (tiOf_bool (hT _ _ ht) hb) _ (.inr ⟨rfl, rfl⟩)).eff
    ·cases h
   ·cases h
  ·rename_i xs ys hx hy
   split at h
   ·rename_i ti ht
    split at h
    ·rename_i ks hks
     split at h
     ·rename_i r hr; cases h; exact (y_eqS _ _ _ _ _ rfl ti (hT _ _ ht) ks hks xs ys hx hy r hr _ (.inl ⟨rfl, rfl⟩)).eff
     ·rename_i r hr; cases h; exact (y_eqS _ _ _ _ _ rfl ti (hT _ _ ht) ks hks xs ys hx hy r hr _ (.inr ⟨rfl, rfl⟩)).eff
     ·cases h
    ·cases h
   ·cases h
  ·rename_i c l m hx hy
   split at h
   ·rename_i ti ht
    split at h
    ·rename_i hel hr; cases h; exact (y_eqN _ _ _ _ _ rfl ti (hT _ _ ht) _ hel _ hx _ _ hy _ hr _ (.inl ⟨rfl, rfl⟩)).eff
    ·rename_i hel hr; cases h; exact (y_eqN _ _ _ _ _ rfl ti (hT _ _ ht) _ hel _ hx _ _ hy _ hr _ (.inr ⟨rfl, rfl⟩)).eff
    ·cases h
   ·cases h
  ·cases h
 case h_7 =>
  split at h
  ·rename_i i j kk p hi hj hx
   split at h
   ·rename_i ks kd h1 h2
    cases h
    exact (y_conv _ _ _ rfl i j kd ks (hT _ _ hi) (hT _ _ hj) h1 h2 kk p hx).eff
   ·cases h
  ·cases h
 case h_8 =>
  split at h
  ·rename_i l hx
   split at h
   ·rename_i c hc; cases h; exact (y_extract _ _ rfl l hx c hc).eff
   ·cases h
  ·cases h
 case h_9 =>
  split at h
  ·rename_i ps h1 h2
   have := toList_nil h1
   subst this
   cases h
   exact (y_func _ _ rfl ps (ptsOf_all h2)).eff
  ·cases h
 case h_10 =>
  split at h
  ·rename_i ti ht
   split at h
   ·rename_i off sz r hf
    split at h
    ·rename_i i q l hz hx; cases h; exact (y_fieldAddr _ _ _ rfl ti (hT _ _ ht) off sz r hf hz _ _ hx rfl).eff
    ·rename_i fl row l hz hx; cases h; exact (y_fieldAddr _ _ _ rfl ti (hT _ _ ht) off sz r hf hz _ _ hx rfl).eff
    ·cases h
   ·cases h
  ·cases h
 case h_11 =>
  split at h
  ·rename_i ti ht
   split at h
   ·rename_i off sz r hf
    split at h
    ·rename_i cs hz hx
     split at h
     ·rename_i v hv; cases h; exact (y_field _ _ _ rfl ti (hT _ _ ht) off sz r hf hz cs hx v hv).eff
     ·cases h
    ·cases h
   ·cases h
  ·cases h
 case h_12 =>
  split at h
  ·rename_i ti i q l ht hx
   split at h
   ·rename_i b hb
    split at h
    ·rename_i row hr
     split at h
     ·rename_i v hv; cases h; exact (y_load _ _ rfl ti (hT _ _ ht) i q l hx b hb row hr v hv).eff
     ·cases h
    ·cases h
   ·cases h
  ·rename_i ti fl row l ht hx
   split at h
   ·rename_i v hv; cases h; exact (y_loadr _ _ rfl ti (hT _ _ ht) fl row l hx v hv).eff
   ·cases h
  ·cases h
 case h_13 =>
  split at h
  ·rename_i ti i q l v ht hx hy
   split at h
   ·rename_i b hb
    split at h
    ·rename_i row hr
     split at h
     ·rename_i h1 h2 h3; cases h; exact e_store _ _ _ rfl rfl ti (hT _ _ ht) i q l hx b hb row hr v hy h1 h2 h3
     ·cases h
    ·cases h
   ·cases h
  ·cases h
 case h_14 =>
  split at h
  ·rename_i ti ht; cases h; exact e_alloc _ rfl ti (hT _ _ ht)
  ·cases h
 case h_15 =>
  split at h
  ·rename_i v hx
   split at h
   ·rename_i h1; cases h; exact e_box _ _ rfl v hx h1
   ·cases h
  ·cases h
 case h_16 =>
  split at h
  ·rename_i ti ht
   split at h
   ·rename_i avs ho hx
    split at h
    ·rename_i out hout; cases h; exact (y_build _ _ rfl ti (hT _ _ ht) ho avs hx out hout).eff
    ·cases h
   ·cases h
  ·cases h
 case h_17 =>
  split at h
  ·rename_i ti kj j ht hy
   split at h
   ·rename_i e s bt hel
    split at h
    ·rename_i i q m c hx
     split at h
     ·rename_i b hb
      split at h
      ·rename_i j' hs hj
       split at h
       ·rename_i hlt
        cases h
        exact (y_index _ _ _ rfl ti (hT _ _ ht) e s bt hel i q m c (.inl hx) b hb hs kj j hy j' (natOf_spec hj) (by simpa [Nat.blt_eq] using hlt)).eff
       ·cases h
      ·cases h
     ·cases h
    ·rename_i fl sz rows hx
     split at h
     ·rename_i j' hs hj
      split at h
      ·rename_i row hr
       cases h
       exact (y_indexr _ _ _ rfl ti (hT _ _ ht) e s bt hel fl sz rows hx hs kj j hy j' (natOf_spec hj) row hr).eff
      ·cases h
     ·cases h
    ·cases h
   ·split at h
    ·rename_i m s r hel
     split at h
     ·rename_i i q l j' hx hj
      split at h
      ·rename_i hlt; cases h; exact (y_indexa _ _ _ rfl ti (hT _ _ ht) m s r hel _ _ hx kj j hy j' (natOf_spec hj) (by simpa [Nat.blt_eq] using hlt) rfl).eff
      ·cases h
     ·rename_i fl row l j' hx hj
      split at h
      ·rename_i hlt; cases h; exact (y_indexa _ _ _ rfl ti (hT _ _ ht) m s r hel _ _ hx kj j hy j' (natOf_spec hj) (by simpa [Nat.blt_eq] using hlt) rfl).eff
      ·cases h
     ·cases h
    ·cases h
  ·cases h
 case h_18 =>
  split at h
  ·rename_i x t ha ht'
   have := toList_one ha; subst this
   have := toList_one ht'; subst this
   split at h
   ·rename_i ti ht
    split at h
    ·rename_i el hel
     obtain ⟨e, s, bt⟩ := el
     split at h
     ·rename_i i q m c hx; cases h; exact (y_len _ _ rfl ti (hT _ _ ht) e s bt hel _ hx m rfl).eff
     ·rename_i fl sz rows hx; cases h; exact (y_len _ _ rfl ti (hT _ _ ht) e s bt hel _ hx rows.length rfl).eff
     ·rename_i ad m cap hx; cases h; exact (y_len _ _ rfl ti (hT _ _ ht) e s bt hel _ hx m rfl).eff
     ·cases h
    ·cases h
   ·cases h
  ·cases h
 case h_19 =>
  split at h
  ·rename_i x y t t' ha htt
   have := toList_two ha; subst this
   have := toList_two htt; subst this
   split at h
   ·rename_i ti kj j hb ht hy
    split at h
    ·rename_i tj m htn hj
     split at h
     ·rename_i kk e s bt hkk hel
      split at h
      ·rename_i te i m0 cp hte hx
       split at h
       ·rename_i b hK
        split at h
        ·rename_i h0 h1 h3 h4 h5 h6
         obtain ⟨c0, rfl, hgt⟩ := growB_spec h0
         cases h
         exact e_appendz_new _ _ _ _ rfl ti (hT _ _ ht) tj (hT _ _ htn) kk hkk e s bt hel te (hT _ _ hte) i m0 c0 hx b hK h1 kj j hy m (natOf_spec hj) (Nat.le_of_ble_eq_true h3) (Nat.le_of_ble_eq_true h4) (Nat.le_of_ble_eq_true h5) h6 hgt
        ·rename_i h0 h1 h2 h3 h4 h5 h6
         cases h
         exact e_appendz _ _ _ _ rfl ti (hT _ _ ht) tj (hT _ _ htn) kk hkk e s bt hel te (hT _ _ hte) i m0 cp hx b hK h1 h2 kj j hy m (natOf_spec hj) (Nat.le_of_ble_eq_true h3) (Nat.le_of_ble_eq_true h4) (Nat.le_of_ble_eq_true h5) h6
        ·cases h
       ·cases h
      ·cases h
     ·cases h
    ·cases h
   ·rename_i ti cy hb ht hy
    have := Nat.eq_of_beq_eq_true hb
    have ho' : (Op.call ⟨.builtin .append, #[x, y], #[t, t']⟩) = (Op.call ⟨.builtin .append, #[x, y], #[t, t]⟩) := by rw [this]
    split at h
    ·rename_i e s bt hel
     split at h
     ·rename_i src m rd hsrc
      split at h
      ·rename_i i m0 cp hx
       split at h
       ·rename_i b hK
        split at h
        ·rename_i hap
         cases h
         obtain ⟨g1, g2⟩ := (Bool.and_eq_true _ _).mp hap
         exact e_appendr _ _ _ ho' ti (hT _ _ ht) e s bt hel i m0 cp hx b hK g2 cy hy src m rd (srcOf_of0 hsrc) (aprOk_spec g1)
        ·split at h
         ·rename_i h0 h1 h3
          obtain ⟨c0, rfl, hgt⟩ := growB_spec h0
          cases h
          exact e_append_new _ _ _ ho' ti (hT _ _ ht) e s bt hel i m0 c0 hx b hK h1 cy hy src m rd (srcOf_of0 hsrc) (apdOk_spec h3) hgt
         ·rename_i h0 h1 h2 h3
          cases h
          exact e_append _ _ _ ho' ti (hT _ _ ht) e s bt hel i m0 cp hx b hK h1 h2 cy hy src m rd (srcOf_of0 hsrc) (apdOk_spec h3)
         ·cases h
       ·cases h
      ·rename_i hx
       split at h
       ·rename_i h1 h2
        cases h
        exact e_appendo _ _ _ ho' ti (hT _ _ ht) e s bt hel hx cy hy src m rd (srcOf_of0 hsrc) (by simpa [Nat.blt_eq] using h1) (apdOk_spec h2)
       ·rename_i h1
        cases h
        exact e_append00 _ _ _ ho' ti (hT _ _ ht) e s bt hel hx cy hy src m rd hsrc (blt0 h1)
       ·cases h
      ·cases h
     ·cases h
    ·cases h
   ·cases h
  ·cases h
 case h_20 =>
  split at h
  ·rename_i x y t t' ha htt
   have := toList_two ha; subst this
   have := toList_two htt; subst this
   split at h
   ·rename_i ti i q m0 cp cy ht hx hy
    split at h
    ·rename_i e s bt hel
     split at h
     ·rename_i b src m rd hK hsrc
      split at h
      ·rename_i hs hc
       cases h
       exact e_copy _ _ _ _ rfl ti (hT _ _ ht) e s bt hel i q m0 cp hx b hK hs cy hy src m rd (srcOf_of0 hsrc) (cpyOk_spec hc)
      ·cases h
     ·cases h
    ·cases h
   ·cases h
  ·cases h
 case h_21 =>
  split at h
  ·rename_i x t ha htt
   have := toList_one ha; subst this
   have := toList_one htt; subst this
   split at h
   ·rename_i ti i q m0 c ht hx
    split at h
    ·rename_i el hel
     obtain ⟨e, s, bt⟩ := el
     cases h
     exact (y_cap _ _ rfl ti (hT _ _ ht) e s bt hel i q m0 c hx).eff
    ·cases h
   ·cases h
  ·cases h
 case h_22 =>
  split at h
  ·rename_i ti kl l kc c ht hx hy
   split at h
   ·rename_i e s bt hel
    split at h
    ·rename_i te l' c' hte hm
     obtain ⟨h1, h2, h3, h4, h5⟩ := mkB_spec hm
     cases h
     exact e_make _ _ _ rfl ti (hT _ _ ht) e s bt hel te (hT _ _ hte) kl kc l c hx hy l' c' h1 h2 h3 h4 h5
    ·cases h
   ·cases h
  ·cases h
 case h_23 =>
  split at h
  ·rename_i ti ht
   split at h
   ·rename_i e s bt hel
    split at h
    ·rename_i te avs hte hx hs hl
     split at h
     ·rename_i out hout
      cases h
      exact e_lit _ _ _ rfl ti (hT _ _ ht) e s bt hel te (hT _ _ hte) hs hl avs hx out hout
     ·cases h
    ·cases h
   ·cases h
  ·cases h
 case h_24 =>
  split at h
  ·rename_i ti l hi' ht hl hh
   split at h
   ·rename_i e s bt hel
    split at h
    ·rename_i i q m0 c hx
     split at h
     ·rename_i b hK
      split at h
      ·rename_i l' h' hs hb
       obtain ⟨h1, h2, h3, h4⟩ := slB_spec hb
       split at h
       ·rename_i hne
        cases h
        exact (y_slo _ _ _ _ rfl ti (hT _ _ ht) e s bt hel i q m0 c (.inl hx) b hK hs l' h' (intOf_spec hl h1) (intOf_spec hh h2) h3 h4 (neB_spec h1 hne)).eff
       ·split at h
        ·rename_i he
         cases h
         exact (y_sle _ _ _ _ rfl ti (hT _ _ ht) e s bt hel i q m0 c hx b hK hs l' h' (intOf_spec hl h1) (intOf_spec hh h2) h3 h4 (Nat.eq_of_beq_eq_true he)).eff
        ·cases h
      ·cases h
     ·cases h
    ·rename_i fl s' rows hx
     split at h
     ·rename_i l' h' hs hb
      have := Nat.eq_of_beq_eq_true hs; subst this
      obtain ⟨h1, h2, h3, h4⟩ := slB_spec hb
      cases h
      exact (y_slr _ _ _ _ rfl ti (hT _ _ ht) e _ bt hel fl rows hx l' h' (intOf_spec hl h1) (intOf_spec hh h2) h3 (by rcases h4 with h4 | ⟨c, h4, _⟩; exact h4; cases h4)).eff
     ·cases h
    ·rename_i hx
     split at h
     ·rename_i l' h' hb
      obtain ⟨h1, h2, h3, h4⟩ := slB_spec hb
      cases h
      exact (y_sl0 _ _ _ _ rfl ti (hT _ _ ht) e s bt hel hx l' h' (intOf_spec hl h1) (intOf_spec hh h2) h3 (by rcases h4 with h4 | ⟨c, h4, _⟩; exact h4; cases h4)).eff
     ·cases h
    ·cases h
   ·cases h
  ·cases h
 case h_25 =>
  split at h
  ·rename_i x y ha
   have := toList_two ha; subst this
   split at h
   ·rename_i kx p ky q hx hy
    split at h
    ·rename_i hk
     have hk := of_decide_eq_true hk
     subst hk
     cases h
     exact (y_mm false _ _ _ rfl kx p q hx hy).eff
    ·cases h
   ·cases h
  ·cases h
 case h_26 =>
  split at h
  ·rename_i x y ha
   have := toList_two ha; subst this
   split at h
   ·rename_i kx p ky q hx hy
    split at h
    ·rename_i hk
     have hk := of_decide_eq_true hk
     subst hk
     cases h
     exact (y_mm true _ _ _ rfl kx p q hx hy).eff
    ·cases h
   ·cases h
  ·cases h
 case h_27 => cases h
end
end Go.Proofs.Ytopieffkpdlpbaa.Wx
