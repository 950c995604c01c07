/-
  A walk by computation: what is asked of code, as a proposition that is computed; loops, calls, results.
-/
import Derived.Test.YtllnmdmmmkoiaaaWn
import Derived.Test.YtllnmdmmmkoiaaaWe0
import Derived.Test.YtllnmdmmmkoiaaaWnr
import Derived.Scope
import Derived.IntWalk
import Derived.Lib.SliceRun
import Derived.ChangeKeysEq
namespace Go.Proofs.Ytllnmdmmmkoiaaa.Wx
open Go Go.RowKit
set_option linter.unusedVariables false

structure S where
  F : Fr
  K : Kr
  top : Nat
/-- A way parts at a truth value. -/
structure spB (b : Bool) (A B : Prop) : Prop where
  t : b = true → A
  f : b = false → B
/-- What an integer comes to, wrapped. -/
structure wr (k : IntKind) (z : Int) (A : Int → Prop) : Prop where
  h : ∃ r, k.wrap z = r ∧ A r
/-- An index below a length. -/
structure ixN (j : Int) (m : Nat) (A : Nat → Prop) : Prop where
  h : ∃ j' : Nat, j = (j' : Int) ∧ j' < m ∧ A j'
/-- A row. -/
structure rowN {α : Type} (rows : List α) (q : Nat) (A : α → Prop) : Prop where
  h : ∃ r, rows[q]? = some r ∧ A r
structure vN (z : Int) (A : Int → Prop) : Prop where
  h : ∃ r, z = r ∧ A r
structure nzN (q : Int) (A : Prop) : Prop where
  h : q ≠ 0
  k : A
theorem spB_t {A B : Prop} (h : A) : spB true A B := ⟨fun _ => h, fun h => (by cases h)⟩
theorem spB_f {A B : Prop} (h : B) : spB false A B := ⟨fun h => (by cases h), fun _ => h⟩
theorem spB_yes {b : Bool} {A B : Prop} (hb : b = true) (h : A) : spB b A B := ⟨fun _ => h, fun h => (by rw [hb] at h; cases h)⟩
theorem spB_no {b : Bool} {A B : Prop} (hb : b = false) (h : B) : spB b A B := ⟨fun h => (by rw [hb] at h; cases h), fun _ => h⟩
theorem spB_mk {b : Bool} {A B : Prop} (h1 : b = true → A) (h2 : b = false → B) : spB b A B := ⟨h1, h2⟩
theorem wr_mk {k : IntKind} {z : Int} {A : Int → Prop} (r : Int) (h : k.wrap z = r) (h2 : A r) : wr k z A := ⟨r, h, h2⟩
theorem wr_i64 {z : Int} {A : Int → Prop} (h1 : -9223372036854775808 ≤ z ∧ z ≤ 9223372036854775807) (h2 : A z) : wr .i64 z A := ⟨z, IntWalk.i64_in z h1, h2⟩
theorem ixN_mk {j : Int} {m : Nat} {A : Nat → Prop} (j' : Nat) (h : j = (j' : Int)) (h1 : j' < m) (h2 : A j') : ixN j m A := ⟨j', h, h1, h2⟩
theorem rowN_mk {α : Type} {rows : List α} {q : Nat} {A : α → Prop} (r : α) (h : rows[q]? = some r) (h2 : A r) : rowN rows q A := ⟨r, h, h2⟩
theorem nzN_mk {q : Int} {A : Prop} (h : q ≠ 0) (h2 : A) : nzN q A := ⟨h, h2⟩

/-- A row of a block: of a variable at once. -/
def rowB (b : Blk) (q : Nat) (A : List Ce → Prop) : Prop :=
  match b.bx with
  | true => match b.rows, q with
    | [r], 0 => A r
    | _, _ => False
  | false => rowN b.rows q A
def pasOf : List Ce → Option (List Pa)
  | [] => some []
  | .own i q k :: r => match pasOf r with
    | some l => some (.own i q k :: l)
    | none => none
  | .v u :: r => match pasOf r with
    | some l => some (.v u :: l)
    | none => none
  | _ :: _ => none
theorem pasOf_eq : ∀ {cs : List Ce} {l : List Pa}, pasOf cs = some l → cs = l.map Pa.ce
  | [], l, h => by simp only [pasOf, Option.some.injEq] at h; subst h; rfl
  | c :: r, l, h => by
    cases c with
    | own i q k =>
      simp only [pasOf] at h
      split at h
      · rename_i l' hl; simp only [Option.some.injEq] at h; subst h; rw [pasOf_eq hl]; rfl
      · cases h
    | v u =>
      simp only [pasOf] at h
      split at h
      · rename_i l' hl; simp only [Option.some.injEq] at h; subst h; rw [pasOf_eq hl]; rfl
      · cases h
    | _ => cases h
def ptsOf (F : Nat → Option AV) : List Operand → Option (List Pt)
  | [] => some []
  | x :: r => match evf F x, ptsOf F r with
    | some (.pl (.one (.own i q k))), some l => some (.own i q k :: l)
    | some (.pl (.one (.v u))), some l => some (.v u :: l)
    | some (.pl (.agg cs)), some l => match pasOf cs with
      | some ps => some (.ag ps :: l)
      | none => none
    | _, _ => none
theorem ptsOf_all {F : Nat → Option AV} : ∀ {l : List Operand} {ps : List Pt}, ptsOf F l = some ps → All2 (fun x p => evf F x = some p.asV) l ps
  | [], ps, h => by simp only [ptsOf, Option.some.injEq] at h; subst h; trivial
  | x :: r, ps, h => by
    simp only [ptsOf] at h
    split at h
    · rename_i i q k l h1 h2
      simp only [Option.some.injEq] at h
      subst h
      exact ⟨h1, ptsOf_all h2⟩
    · rename_i u l h1 h2
      simp only [Option.some.injEq] at h
      subst h
      exact ⟨h1, ptsOf_all h2⟩
    · rename_i cs l h1 h2
      split at h
      · rename_i ps hps
        simp only [Option.some.injEq] at h
        subst h
        exact ⟨show evf F x = some (Pt.asV (.ag ps)) by rw [h1, pasOf_eq hps]; rfl, ptsOf_all h2⟩
      · cases h
    · cases h
def eqC : List (Option IntKind) → List Ce → List Ce → Option Bool
  | [], [], [] => some true
  | some k :: r, .v (.int k1 a) :: xs, .v (.int k2 b) :: ys => match decide (k1 = k) && decide (k2 = k) with
    | true => match eqC r xs ys with
      | some t => some ((a == b) && t)
      | none => none
    | false => none
  | none :: r, .v (.bool a) :: xs, .v (.bool b) :: ys => match eqC r xs ys with
    | some t => some ((a == b) && t)
    | none => none
  | _, _, _ => none
def fnB (P : Program) (g : FuncId) : Bool :=
  match P.funcs[g]? with
  | some fn => !(fn.name == "runtime.NumGoroutine") && fn.body.isSome
  | none => false
/-- What a make asks. -/
structure mkN (l c : Int) (bt : Nat) (A : Nat → Nat → Prop) : Prop where
  h : ∃ l' c' : Nat, l = (l' : Int) ∧ c = (c' : Int) ∧ l' ≤ c' ∧ c' ≤ maxLen ∧ bt * c' ≤ 140737488355328 ∧ A l' c'
/-- Whether a slice is nil. -/
def nilOf : Ce → Option Bool
  | .v (.slice none _ _) => some true
  | .v (.slice (some _) _ _) => some false
  | .osl _ _ _ _ => some false
  | .gsl _ rows => some rows.isEmpty
  | .ro _ _ (_ :: _) => some false
  | _ => none
structure posN (m : Nat) (A : Prop) : Prop where
  h : 0 < m
  k : A
structure posE (m : Nat) (B A : Prop) : Prop where
  h : (m = 0 ∧ B) ∨ (0 < m ∧ A)
theorem posE_nil {m : Nat} {B A : Prop} (h : m = 0) (k : B) : posE m B A := ⟨.inl ⟨h, k⟩⟩
theorem posE_pos {m : Nat} {B A : Prop} (h : 0 < m) (k : A) : posE m B A := ⟨.inr ⟨h, k⟩⟩
structure eqN {α : Type} (a b : α) (A : Prop) : Prop where
  h : a = b
  k : A
def intOf' (F : Nat → Option AV) : Option Operand → Option (Option Int)
  | none => some none
  | some y => match evf F y with
    | some (.pl (.one (.v (.int _ j)))) => some (some j)
    | _ => none
theorem intOf_spec {F : Nat → Option AV} {o : Option Operand} {r : Option Int} {l d : Nat} (h : intOf' F o = some r) (hl : bnd r l d) : bndo F o l d := by
  cases o with
  | none => simp only [intOf', Option.some.injEq] at h; subst h; exact hl
  | some y =>
    simp only [intOf'] at h
    split at h
    · rename_i k j hy
      simp only [Option.some.injEq] at h
      subst h
      have hl : j = (l : Int) := hl
      subst hl
      exact ⟨k, hy⟩
    · cases h
theorem toList_one {α : Type} {a : Array α} {x : α} (h : a.toList = [x]) : a = #[x] := by apply Array.ext'; simpa using h
theorem toList_two {α : Type} {a : Array α} {x y : α} (h : a.toList = [x, y]) : a = #[x, y] := by apply Array.ext'; simpa using h
/-- What an operation asks, and what it hands on. -/
def opB (P : Program) (T : Tab) (o : Oper) (F : Nat → Option AV) (K : Nat → Option Blk) (top : Nat) (k : Eff → Prop) : Prop :=
  match o.op with
  | .build t ps => match tyGet T t with
    | some ti => match ti.arr, evb F ps.toList with
      | some (m, s, r), some avs => match fillC ((List.range m).map fun i => (i * s, s, r)) (ti.zero.map .v) avs with
        | some out => k ⟨.pl (.agg out), [], [], top⟩
        | none => False
      | _, _ => False
    | none => False
  | .index t x y => match tyGet T t, evf F x, evf F y with
    | some ti, some (.pl (.agg cs)), some (.pl (.one (.v (.int _ j)))) => match ti.arr with
      | some (m, s, r) => ixN j m fun j' => match cut r (j' * s) s cs with
        | some v => k ⟨.pl v, [], [], top⟩
        | none => False
      | none => False
    | some ti, some (.pl (.one (.v (.string p)))), some (.pl (.one (.v (.int _ j)))) => match Nat.beq ti.kd 3 with
      | true => sixN p j fun b => k ⟨.val (.int .u8 b), [], [], top⟩
      | false => False
    | _, _, _ => False
  | .convert s d x => match tyGet T s, tyGet T d, evf F x with
    | some ti, some tj, some (.pl (.one cx)) => match ti.elem, Nat.beq tj.kd 3 with
      | some (e, 1, _), true => match tyGet T e, srcOf K 1 cx with
        | some te, some (src, m, rd) => match te.ikind with
          | some .u8 => strN src m fun xs => k ⟨.val (.string (strOfNums xs)), rd, [], top⟩
          | _ => False
        | _, _ => False
      | _, _ => False
    | _, _, _ => False
  | .binOp op t x y _ => match evf F x, evf F y with
    | some (.pl (.one (.v (.string p)))), some (.pl (.one (.v (.string q)))) => match op with
      | .eql => k ⟨.val (.bool (p.toList == q.toList)), [], [], top⟩
      | .neq => k ⟨.val (.bool (!(p.toList == q.toList))), [], [], top⟩
      | _ => False
    | some (.pl (.one c)), some (.pl (.one (.v (.pointer none)))) => match tyGet T t, ptrNil c, op with
      | some ti, some r, .eql => match Nat.beq ti.kd 4 with
        | true => k ⟨.val (.bool r), [], [], top⟩
        | false => False
      | some ti, some r, .neq => match Nat.beq ti.kd 4 with
        | true => k ⟨.val (.bool (!r)), [], [], top⟩
        | false => False
      | _, _, _ => False
    | _, _ => False
  | .unOp .neg _ x => match evf F x with
    | some (.pl (.one (.v (.int kx p)))) => wr kx (0 - p) fun r => k ⟨.val (.int kx r), [], [], top⟩
    | _ => False
  | .slice t x lo (some hi) (some mx) => match tyGet T t, evf F x, intOf' F lo, evf F hi, evf F mx with
    | some ti, some (.pl (.one (.osl i q m c))), some l, some (.pl (.one (.v (.int _ h)))), some (.pl (.one (.v (.int _ mm)))) => match ti.elem, K i with
      | some (_, s, _), some b => match Nat.beq b.sz s with
        | true => sl3N l h mm m c fun l' h' mm' => k ⟨.c (.osl i (q + l') (h' - l') (some (mm' - l'))), [i], [], top⟩
        | false => False
      | _, _ => False
    | _, _, _, _, _ => False
  | .call ⟨.builtin .clear, args, tys⟩ => match args.toList, tys.toList with
    | [x], [t] => match tyGet T t, evf F x with
      | some ti, some (.pl (.one (.osl i q m0 _))) => match ti.elem, K i with
        | some (e, s, _), some b => match tyGet T e, Nat.beq b.sz s with
          | some te, true => clrN q m0 b.rows.length (te.zero.all fun v => v.oneCell') (k ⟨.tup [], [i], [(i, some ⟨lay b.rows q (List.replicate m0 (te.zero.map .v)), b.sz, b.ty, b.bx⟩)], top⟩)
          | _, _ => False
        | _, _ => False
      | _, _ => False
    | _, _ => False
  | _ => False
theorem opB_sound {P : Program} {T : Tab} {o : Oper} {F : Nat → Option AV} {K : Nat → Option Blk} {top : Nat} {k : Eff → Prop} (hT : TabOk P T) (h : opB P T o F K top k) : ∃ e, OpEff P o F K top e ∧ k e := by
  obtain ⟨dst, op, ty, pos, after, guard⟩ := o
  unfold opB at h
  dsimp only at h
  split at h
  · split at h
    · rename_i ti ht
      split at h
      · rename_i m s r avs hel hx
        split at h
        · rename_i out hout; exact ⟨_, (y_builda _ _ rfl ti (hT _ _ ht) m s r hel avs hx out hout).eff, h⟩
        · exact h.elim
      · exact h.elim
    · exact h.elim
  · split at h
    · rename_i ti cs kj j ht hx hy
      split at h
      · rename_i m s r hel
        obtain ⟨j', h1, h2, h⟩ := h.h
        split at h
        · rename_i v hv; exact ⟨_, (y_indexv _ _ _ rfl ti (hT _ _ ht) m s r hel cs hx kj j hy j' h1 h2 v hv).eff, h⟩
        · exact h.elim
      · exact h.elim
    · rename_i ti p kj j ht hx hy
      split at h
      · rename_i hkd
        obtain ⟨j', b, h1, h2, h⟩ := h.h
        exact ⟨_, (y_indexstr _ _ _ rfl ti (hT _ _ ht) (Nat.eq_of_beq_eq_true hkd) p hx kj j hy j' h1 b h2).eff, h⟩
      · exact h.elim
    · exact h.elim
  · split at h
    · rename_i ti tj cx hti htj hx
      split at h
      · rename_i e bt hel hkd
        split at h
        · rename_i te src m rd hte hsrc
          split at h
          · rename_i hk
            obtain ⟨xs, h1, h2, h⟩ := h.h
            exact ⟨_, (y_str _ _ _ rfl ti (hT _ _ hti) e bt hel te (hT _ _ hte) hk tj (hT _ _ htj) (Nat.eq_of_beq_eq_true hkd) cx hx xs src m rd hsrc h1 h2).eff, h⟩
          · exact h.elim
        · exact h.elim
      · exact h.elim
    · exact h.elim
  · split at h
    · rename_i p q hx hy
      split at h
      · exact ⟨_, (y_eqStr _ _ _ _ _ rfl p q hx hy _ (.inl ⟨rfl, rfl⟩)).eff, h⟩
      · exact ⟨_, (y_eqStr _ _ _ _ _ rfl p q hx hy _ (.inr ⟨rfl, rfl⟩)).eff, h⟩
      · exact h.elim
    · rename_i c hx hy
      split at h
      · rename_i ti r ht hr
        split at h
        · rename_i hk; exact ⟨_, (y_eqP _ _ _ _ _ rfl ti (hT _ _ ht) (Nat.eq_of_beq_eq_true hk) c hx hy r hr _ (.inl ⟨rfl, rfl⟩)).eff, h⟩
        · exact h.elim
      · rename_i ti r ht hr
        split at h
        · rename_i hk; exact ⟨_, (y_eqP _ _ _ _ _ rfl ti (hT _ _ ht) (Nat.eq_of_beq_eq_true hk) c hx hy r hr _ (.inr ⟨rfl, rfl⟩)).eff, h⟩
        · exact h.elim
      · exact h.elim
    · exact h.elim
  · split at h
    · rename_i kx p hx
      obtain ⟨r, rfl, h⟩ := h.h
      exact ⟨_, (y_neg _ _ rfl kx p hx).eff, h⟩
    · exact h.elim
  · split at h
    · rename_i ti i q m c l kh hh km mm ht hx hl hhi hmx
      split at h
      · rename_i e s bt b hel hb
        split at h
        · rename_i hs
          obtain ⟨l', h', mm', g1, rfl, rfl, g4, g5, g6, g7, h⟩ := h.h
          exact ⟨_, (y_sl3' _ _ _ _ _ rfl ti (hT _ _ ht) e s bt hel i q m c hx b hb hs l' h' mm' (intOf_spec hl g1) kh km hhi hmx g4 g5 g6 g7).eff, h⟩
        · exact h.elim
      · exact h.elim
    · exact h.elim
  · split at h
    · rename_i x t ha hty
      split at h
      · rename_i ti i q m0 cp ht hx
        split at h
        · rename_i e s bt b hel hb
          split at h
          · rename_i te hte hs
            exact ⟨_, e_clear x t (by rw [toList_one ha, toList_one hty]) ti (hT _ _ ht) e s bt hel te (hT _ _ hte) i q m0 cp hx b hb hs h.fit h.one, h.k⟩
          · exact h.elim
        · exact h.elim
      · exact h.elim
    · exact h.elim
  · exact h.elim
def opA (P : Program) (T : Tab) (o : Oper) (F : Nat → Option AV) (K : Nat → Option Blk) (top : Nat) (k : Eff → Prop) : Prop :=
  match o.op with
  | .move x => match evf F x with
    | some v => k ⟨v, [], [], top⟩
    | none => False
  | .assign x => match evf F x with
    | some v => k ⟨v, [], [], top⟩
    | none => False
  | .pick c x y => match evf F c with
    | some (.pl (.one (.v (.bool b)))) => spB b (match evf F x with | some v => k ⟨v, [], [], top⟩ | none => False) (match evf F y with | some v => k ⟨v, [], [], top⟩ | none => False)
    | _ => False
  | .nilCheck x => match evf F x with
    | some (.pl (.one (.own i q l))) => k ⟨.c (.own i q l), [], [], top⟩
    | some (.pl (.one (.rp fl row l))) => k ⟨.c (.rp fl row l), [], [], top⟩
    | some (.pl (.one (.fn f cap))) => k ⟨.c (.fn f cap), [], [], top⟩
    | _ => False
  | .unOp .not _ x => match evf F x with
    | some (.pl (.one (.v (.bool b)))) => k ⟨.val (.bool (!b)), [], [], top⟩
    | _ => False
  | .binOp op t x y _ => match evf F x, evf F y with
    | some (.pl (.one (.v (.int kx p)))), some (.pl (.one (.v (.int ky q)))) => match decide (kx = ky) with
      | true => match op with
        | .add => wr kx (p + q) fun r => k ⟨.val (.int kx r), [], [], top⟩
        | .sub => wr kx (p - q) fun r => k ⟨.val (.int kx r), [], [], top⟩
        | .mul => wr kx (p * q) fun r => k ⟨.val (.int kx r), [], [], top⟩
        | .quo => nzN q (wr kx (p.tdiv q) fun r => k ⟨.val (.int kx r), [], [], top⟩)
        | .rem => nzN q (vN (p.tmod q) fun r => k ⟨.val (.int kx r), [], [], top⟩)
        | .eql => k ⟨.val (.bool (p == q)), [], [], top⟩
        | .neq => k ⟨.val (.bool (p != q)), [], [], top⟩
        | .lss => k ⟨.val (.bool (decide (p < q))), [], [], top⟩
        | .leq => k ⟨.val (.bool (decide (p ≤ q))), [], [], top⟩
        | .gtr => k ⟨.val (.bool (decide (p > q))), [], [], top⟩
        | .geq => k ⟨.val (.bool (decide (p ≥ q))), [], [], top⟩
        | .shl => eqN (decide (0 ≤ q)) true (wr kx (p * 2 ^ (min q.toNat kx.bits)) fun r => k ⟨.val (.int kx r), [], [], top⟩)
        | .shr => eqN (decide (0 ≤ q)) true (vN (p.fdiv (2 ^ (min q.toNat kx.bits))) fun r => k ⟨.val (.int kx r), [], [], top⟩)
        | op => match bitOp op kx p q with
          | some r => k ⟨.val (.int kx r), [], [], top⟩
          | none => False
      | false => match op with
        | .shl => eqN (decide (0 ≤ q)) true (wr kx (p * 2 ^ (min q.toNat kx.bits)) fun r => k ⟨.val (.int kx r), [], [], top⟩)
        | .shr => eqN (decide (0 ≤ q)) true (vN (p.fdiv (2 ^ (min q.toNat kx.bits))) fun r => k ⟨.val (.int kx r), [], [], top⟩)
        | _ => False
    | some (.pl (.one (.v (.bool p)))), some (.pl (.one (.v (.bool q)))) => match tyGet T t with
      | some ti => match ti.isB, op with
        | true, .eql => k ⟨.val (.bool (p == q)), [], [], top⟩
        | true, .neq => k ⟨.val (.bool (p != q)), [], [], top⟩
        | _, _ => False
      | none => False
    | some (.pl (.agg xs)), some (.pl (.agg ys)) => match tyGet T t with
      | some ti => match ti.eqk with
        | some ks => match eqC ks xs ys, op with
          | some r, .eql => k ⟨.val (.bool r), [], [], top⟩
          | some r, .neq => k ⟨.val (.bool (!r)), [], [], top⟩
          | _, _ => False
        | none => False
      | none => False
    | some (.pl (.one c)), some (.pl (.one (.v (.slice none _ _)))) => match tyGet T t with
      | some ti => match ti.elem, nilOf c, op with
        | some _, some r, .eql => k ⟨.val (.bool r), [], [], top⟩
        | some _, some r, .neq => k ⟨.val (.bool (!r)), [], [], top⟩
        | _, _, _ => False
      | none => False
    | _, _ => opB P T o F K top k
  | .convert s d x => match tyGet T s, tyGet T d, evf F x with
    | some i, some j, some (.pl (.one (.v (.int kk p)))) => match i.ikind, j.ikind with
      | some _, some kd => wr kd p fun r => k ⟨.val (.int kd r), [], [], top⟩
      | _, _ => False
    | _, _, _ => opB P T o F K top k
  | .extract x i => match evf F x with
    | some (.tup l) => match l[i]? with
      | some c => k ⟨.pl c, [], [], top⟩
      | none => False
    | _ => False
  | .makeFunc (.func f) first caps => match first.toList, ptsOf F caps.toList with
    | [], some ps => k ⟨.c (.fn f ps), [], [], top⟩
    | _, _ => False
  | .fieldAddr s x f => match tyGet T s with
    | some ti => match ti.offs[f]? with
      | some (off, sz, _) => match Nat.blt 0 sz, evf F x with
        | true, some (.pl (.one (.own i q l))) => k ⟨.c (.own i q (l + off)), [], [], top⟩
        | true, some (.pl (.one (.rp fl row l))) => k ⟨.c (.rp fl row (l + off)), [], [], top⟩
        | _, _ => False
      | none => False
    | none => False
  | .field s x f => match tyGet T s with
    | some ti => match ti.offs[f]? with
      | some (off, sz, r) => match Nat.blt 0 sz, evf F x with
        | true, some (.pl (.agg cs)) => match cut r off sz cs with
          | some v => k ⟨.pl v, [], [], top⟩
          | none => False
        | _, _ => False
      | none => False
    | none => False
  | .load t x => match tyGet T t, evf F x with
    | some ti, some (.pl (.one (.own i q l))) => match K i with
      | some b => rowB b q fun row => match cut ti.row l ti.size row with
        | some v => k ⟨.pl v, [i], [], top⟩
        | none => False
      | none => False
    | some ti, some (.pl (.one (.rp fl row l))) => match cut ti.row l ti.size (row.map (RT.ce fl)) with
      | some v => k ⟨.pl v, [], [], top⟩
      | none => False
    | _, _ => False
  | .store t x y => match o.dst, tyGet T t, evf F x, evf F y with
    | none, some ti, some (.pl (.one (.own i q l))), some (.pl v) => match K i with
      | some b => rowB b q fun row => match Nat.beq v.cells.length ti.size, v.cells.all Ce.single, Nat.ble (l + v.cells.length) row.length with
        | true, true, true => k ⟨.val undef, [i], [(i, some ⟨b.rows.set q (spl row l v.cells), b.sz, b.ty, b.bx⟩)], top⟩
        | _, _, _ => False
      | none => False
    | _, _, _, _ => False
  | .alloc t => match tyGet T t with
    | some ti => k ⟨.c (.own top 0 0), [], [(top, some ⟨[ti.zero.map .v], (ti.zero.map Ce.v).length, t, true⟩)], top + 1⟩
    | none => False
  | .box t x => match evf F x with
    | some (.pl v) => match v.cells.all Ce.single with
      | true => k ⟨.c (.own top 0 0), [], [(top, some ⟨[v.cells], v.cells.length, t, true⟩)], top + 1⟩
      | false => False
    | _ => False
  | .build t ps => match tyGet T t with
    | some ti => match (match ti.offs with | [] => false | _ => ti.offs.all fun x => Nat.blt 0 x.2.1), evb F ps.toList with
      | true, some avs => match fillC ti.offs (ti.zero.map .v) avs with
        | some out => k ⟨.pl (.agg out), [], [], top⟩
        | none => False
      | _, _ => opB P T o F K top k
    | none => False
  | .indexAddr t x y => match tyGet T t, evf F y with
    | some ti, some (.pl (.one (.v (.int _ j)))) => match ti.elem with
      | some (_, s, _) => match evf F x with
        | some (.pl (.one (.osl i q m c))) => match K i with
          | some b => match Nat.beq b.sz s with
            | true => ixN j m fun j' => k ⟨.c (.own i (q + j') 0), [i], [], top⟩
            | false => False
          | none => False
        | some (.pl (.one (.ro fl sz rows))) => match Nat.beq sz s with
          | true => ixN j rows.length fun j' => rowN rows j' fun row => k ⟨.c (.rp fl row 0), [], [], top⟩
          | false => False
        | some (.pl (.one (.gsl i rows))) => match K i with
          | some b => match Nat.beq b.sz s with
            | true => ixN j rows.length fun j' => k ⟨.c (.own i (0 + j') 0), [i], [], top⟩
            | false => False
          | none => False
        | _ => False
      | none => match ti.arr with
        | some (m, s, _) => match evf F x with
          | some (.pl (.one (.own i q l))) => ixN j m fun j' => k ⟨.c (.own i q (l + j' * s)), [], [], top⟩
          | some (.pl (.one (.rp fl row l))) => ixN j m fun j' => k ⟨.c (.rp fl row (l + j' * s)), [], [], top⟩
          | _ => False
        | none => False
    | _, _ => False
  | .call ⟨.builtin .len, args, tys⟩ => match args.toList, tys.toList with
    | [x], [t] => match tyGet T t with
      | some ti => match ti.elem with
        | some _ => match evf F x with
          | some (.pl (.one (.osl _ _ m _))) => k ⟨.val (.int .i64 m), [], [], top⟩
          | some (.pl (.one (.ro _ _ rows))) => k ⟨.val (.int .i64 rows.length), [], [], top⟩
          | some (.pl (.one (.gsl _ rows))) => k ⟨.val (.int .i64 rows.length), [], [], top⟩
          | some (.pl (.one (.v (.slice _ m _)))) => k ⟨.val (.int .i64 m), [], [], top⟩
          | _ => False
        | none => False
      | none => False
    | _, _ => False
  | .call ⟨.builtin .append, args, tys⟩ => match args.toList, tys.toList with
    | [x, y], [t, t'] => match Nat.beq t t', tyGet T t, evf F y with
      | false, some ti, some (.pl (.one (.v (.int _ j)))) => match tyGet T t' with
        | some tj => match tj.ikind, ti.elem with
          | some _, some (e, s, bt) => match tyGet T e, evf F x with
            | some te, some (.pl (.one (.osl i 0 m0 cp))) => match K i with
              | some b => match Nat.beq b.sz s, Nat.beq b.ty e with
                | true, true => apzE (apzN j m0 b.rows.length bt (te.zero.all fun v => v.oneCell') fun m => k ⟨.c (.osl top 0 (m0 + m) none), [i], [(i, none), (top, some ⟨b.rows.take m0 ++ List.replicate m (te.zero.map .v), s, e, false⟩)], top + 1⟩) (apzK cp j m0 b.rows.length bt (te.zero.all fun v => v.oneCell') fun m => k ⟨.c (.osl top 0 (m0 + m) none), [i], [(top, some ⟨b.rows.take m0 ++ List.replicate m (te.zero.map .v), s, e, false⟩)], top + 1⟩)
                | _, _ => False
              | none => False
            | some te, some (.pl (.one (.v (.slice none 0 0)))) => apz0N j bt fun m => k ⟨.c (.osl top 0 m none), [], [(top, some ⟨List.replicate m (te.zero.map .v), s, e, false⟩)], top + 1⟩
            | _, _ => False
          | _, _ => False
        | none => False
      | true, some ti, some (.pl (.one cy)) => match ti.elem with
        | some (e, s, bt) => match srcOf K s cy with
          | some (src, m, rd) => match evf F x with
            | some (.pl (.one (.osl i 0 m0 cp))) => match K i with
              | some b => match Nat.beq b.sz s, Nat.beq b.ty e with
                | true, true => apdE (aprN m0 m b.rows.length cp src (k ⟨.c (.osl i 0 (m0 + m) cp), i :: rd, [(i, some ⟨lay b.rows m0 src, b.sz, b.ty, b.bx⟩)], top⟩)) (apdN m0 b.rows.length m src bt (k ⟨.c (.osl top 0 (m0 + m) none), i :: rd, [(i, none), (top, some ⟨b.rows.take m0 ++ src, s, e, false⟩)], top + 1⟩)) (apkN cp (m0 + m) (apdN m0 b.rows.length m src bt (k ⟨.c (.osl top 0 (m0 + m) none), i :: rd, [(top, some ⟨b.rows.take m0 ++ src, s, e, false⟩)], top + 1⟩)))
                | _, _ => False
              | none => False
            | some (.pl (.one (.gsl i rows))) => eqN (K i) (gB s e rows) (posE m (match srcOf0 K s cy with
              | some _ => k ⟨.c (.gsl i rows), rd, [], top⟩
              | none => False) (apdN rows.length rows.length m src bt (k ⟨.c (.gsl top (rows ++ src)), i :: rd, [(i, none), (top, some ⟨rows ++ src, s, e, false⟩)], top + 1⟩)))
            | some (.pl (.one (.v (.slice none 0 0)))) => posE m (match srcOf0 K s cy with
              | some _ => k ⟨.val (.slice none 0 0), rd, [], top⟩
              | none => False) (apdN 0 0 m src bt (k ⟨.c (.gsl top src), rd, [(top, some ⟨src, s, e, false⟩)], top + 1⟩))
            | _ => False
          | none => False
        | none => False
      | _, _, _ => False
    | _, _ => False
  | .call ⟨.builtin .copy, args, tys⟩ => match args.toList, tys.toList with
    | [x, y], [t, t'] => match tyGet T t, evf F x, evf F y with
      | some ti, some (.pl (.one (.osl i q m0 _))), some (.pl (.one cy)) => match ti.elem with
        | some (_, s, _) => match K i, srcOf K s cy with
          | some b, some (src, m, rd) => match Nat.beq b.sz s with
            | true => cpyN q m0 b.rows.length m src (k ⟨.val (.int .i64 (Nat.min m m0 : Nat)), i :: rd, [(i, some ⟨lay b.rows q (src.take (Nat.min m m0)), b.sz, b.ty, b.bx⟩)], top⟩)
            | false => False
          | _, _ => False
        | none => False
      | _, _, _ => False
    | _, _ => False
  | .call ⟨.builtin .cap, args, tys⟩ => match args.toList, tys.toList with
    | [x], [t] => match tyGet T t, evf F x with
      | some ti, some (.pl (.one (.osl _ _ _ (some c)))) => match ti.elem with
        | some _ => k ⟨.val (.int .i64 c), [], [], top⟩
        | none => False
      | some ti, some (.pl (.one (.v (.slice _ _ c)))) => match ti.elem with
        | some _ => k ⟨.val (.int .i64 c), [], [], top⟩
        | none => False
      | _, _ => False
    | _, _ => False
  | .makeSlice t x y => match tyGet T t, evf F x, evf F y with
    | some ti, some (.pl (.one (.v (.int _ l)))), some (.pl (.one (.v (.int _ c)))) => match ti.elem with
      | some (e, s, bt) => match tyGet T e with
        | some te => mkN l c bt fun l' c' => k ⟨.c (.osl top 0 l' (some c')), [], [(top, some ⟨List.replicate l' (te.zero.map .v), s, e, false⟩)], top + 1⟩
        | none => False
      | none => False
    | _, _, _ => False
  | .buildSlice t len ps => match tyGet T t with
    | some ti => match ti.elem with
      | some (e, s, bt) => match tyGet T e, evb F ps.toList, Nat.blt 0 s, Nat.ble (len * s) 16777216 with
        | some te, some avs, true, true => match fillC ((List.range len).map fun i => (i * s, s, false)) (List.replicate len (te.zero.map Ce.v)).flatten avs with
          | some out => k ⟨.c (.osl top 0 len (some len)), [], [(top, some ⟨(List.range len).map fun q => (out.drop (q * s)).take s, s, e, false⟩)], top + 1⟩
          | none => False
        | _, _, _, _ => False
      | none => False
    | none => False
  | .slice t x lo hi mx => match mx, tyGet T t, intOf' F lo, intOf' F hi with
    | none, some ti, some l, some h => match ti.elem with
      | some (_, s, _) => match evf F x with
        | some (.pl (.one (.osl i q m c))) => match K i with
          | some b => match Nat.beq b.sz s with
            | true => slN l h m c fun l' h' => match l with
              | none => k ⟨.c (.osl i (q + l') (h' - l') (c.map (· - l'))), [i], [], top⟩
              | some _ => slE l' h' (k ⟨.c (.osl i (q + l') (h' - l') (c.map (· - l'))), [i], [], top⟩) (k ⟨.c (.ro true s []), [i], [], top⟩)
            | false => False
          | none => False
        | some (.pl (.one (.ro fl s' rows))) => match Nat.beq s' s with
          | true => slN l h rows.length none fun l' h' => k ⟨.c (.ro fl s' ((rows.drop l').take (h' - l'))), [], [], top⟩
          | false => False
        | some (.pl (.one (.gsl i rows))) => match K i with
          | some b => match Nat.beq b.sz s with
            | true => posN rows.length (slN l h rows.length none fun l' h' => match l with
              | none => k ⟨.c (.osl i (0 + l') (h' - l') none), [i], [], top⟩
              | some _ => (l' = 0 ∨ l' < h') ∧ k ⟨.c (.osl i (0 + l') (h' - l') none), [i], [], top⟩)
            | false => False
          | none => False
        | some (.pl (.one (.v (.slice none 0 0)))) => slN l h 0 none fun _ _ => k ⟨.val (.slice none 0 0), [], [], top⟩
        | _ => False
      | none => False
    | _, _, _, _ => opB P T o F K top k
  | .call ⟨.builtin .min, args, tys⟩ => match args.toList with
    | [x, y] => match evf F x, evf F y with
      | some (.pl (.one (.v (.int kx p)))), some (.pl (.one (.v (.int ky q)))) => match decide (kx = ky) with
        | true => k ⟨.val (.int kx (min p q)), [], [], top⟩
        | false => False
      | _, _ => False
    | _ => False
  | .call ⟨.builtin .max, args, tys⟩ => match args.toList with
    | [x, y] => match evf F x, evf F y with
      | some (.pl (.one (.v (.int kx p)))), some (.pl (.one (.v (.int ky q)))) => match decide (kx = ky) with
        | true => k ⟨.val (.int kx (max p q)), [], [], top⟩
        | false => False
      | _, _ => False
    | _ => False
  | _ => opB P T o F K top k
theorem rowB_spec {b : Blk} {q : Nat} {A : List Ce → Prop} (h : rowB b q A) : ∃ r, b.rows[q]? = some r ∧ A r := by
  unfold rowB at h
  split at h
  · split at h
    · rename_i r hb; exact ⟨r, by rw [hb]; rfl, h⟩
    · exact h.elim
  · exact h.h
theorem srcOf_of0 {K : Nat → Option Blk} {s : Nat} {c : Ce} {r : List (List Ce) × Nat × List Nat} (h : srcOf0 K s c = some r) : srcOf K s c = some r := by
  unfold srcOf
  split
  · simp [srcOf0] at h
  · exact h
theorem e_append00 {P : Program} {o : Oper} {F0 : Nat → Option AV} {K0 : Nat → Option Blk} {top : Nat} (x y : Operand) (t : TypeId) (ho : o.op = .call ⟨.builtin .append, #[x, y], #[t, t]⟩) (ti : TI) (ht : tiOf P t = some ti) (e s bt : Nat) (hel : ti.elem = some (e, s, bt)) (hx : evf F0 x = some (.val (.slice none 0 0)))
    (cy : Ce) (hy : evf F0 y = some (.c cy)) (src : List (List Ce)) (m : Nat) (rd : List Nat) (hsrc : srcOf0 K0 s cy = some (src, m, rd)) (hm0 : m = 0) :
    OpEff P o F0 K0 top ⟨.val (.slice none 0 0), rd, [], top⟩ := by
  subst hm0
  obtain ⟨hu', inf, z, hinf, hz, hs1, hs2, hs3⟩ := tiOf_elem ht hel
  intro n W F K I R a w hst hxx hk hf hd next Q hnext
  have hm : ∀ z ∈ [x, y], evf F z = evf F0 z := fun z hz => hxx z (by simpa [ho, Op.operands, Call.operands] using hz)
  have hu := ev_plain hst ((hm x (by simp)).trans hx)
  have hvy := hst.ev ((hm y (by simp)).trans hy)
  have hsl : ∃ ad cp, a.eval y = .slice ad 0 cp := by
    have hv : cy.rel I R (a.eval y) := hvy
    generalize a.eval y = u at hv
    unfold srcOf0 at hsrc
    split at hsrc
    · split at hsrc
      · split at hsrc
        · simp only [Option.some.injEq, Prod.mk.injEq] at hsrc
          obtain ⟨_, rfl, _⟩ := hsrc
          obtain ⟨p, c', hp, rfl, _⟩ := hv
          exact ⟨_, _, rfl⟩
        · cases hsrc
      · cases hsrc
    · rename_i fl s' rows0
      split at hsrc
      · simp only [Option.some.injEq, Prod.mk.injEq] at hsrc
        obtain ⟨_, h0, _⟩ := hsrc
        have : rows0 = [] := List.eq_nil_of_length_eq_zero h0
        subst this
        simp only [Ce.rel] at hv
        cases hv with
        | nil => exact ⟨_, _, rfl⟩
        | emp => exact ⟨_, _, rfl⟩
        | ro => exact ⟨_, _, rfl⟩
      · cases hsrc
    · cases hv; exact ⟨_, _, rfl⟩
    · cases hsrc
  obtain ⟨ad, cp, hsl⟩ := hsl
  unfold Oper.wp
  have hrun : (Builtin.append_ #[t, t] o.type #[.slice none 0 0, .slice ad 0 cp]).run P w = .ok (.slice none 0 0) w := by
    cases ad <;> simp [Builtin.append_, run_underlying hu', sizeOf, typeInfo, hinf, Builtin.lenOf, Builtin.firstCells, loadCells, loadCellsFrom]
  rw [builtin_append o x y t ho a.eval w (by rw [hu, hsl]; exact hrun)]
  exact hnext I R _ _ (hst.put (.refl _) (.refl _) hst.wd hd rfl) (.refl _) (fun _ _ => rfl) (.refl _)
theorem e_append0g {P : Program} {o : Oper} {F0 : Nat → Option AV} {K0 : Nat → Option Blk} {top : Nat} (x y : Operand) (t : TypeId) (ho : o.op = .call ⟨.builtin .append, #[x, y], #[t, t]⟩) (ti : TI) (ht : tiOf P t = some ti) (e s bt : Nat) (hel : ti.elem = some (e, s, bt)) (gi : Nat) (grows : List (List Ce)) (hx : evf F0 x = some (.c (.gsl gi grows)))
    (cy : Ce) (hy : evf F0 y = some (.c cy)) (src : List (List Ce)) (m : Nat) (rd : List Nat) (hsrc : srcOf0 K0 s cy = some (src, m, rd)) (hm0 : m = 0) :
    OpEff P o F0 K0 top ⟨.c (.gsl gi grows), rd, [], top⟩ := by
  subst hm0
  obtain ⟨hu', inf, z, hinf, hz, hs1, hs2, hs3⟩ := tiOf_elem ht hel
  intro n W F K I R a w hst hxx hk hf hd next Q hnext
  have hm : ∀ z ∈ [x, y], evf F z = evf F0 z := fun z hz => hxx z (by simpa [ho, Op.operands, Call.operands] using hz)
  have hux := hst.ev ((hm x (by simp)).trans hx)
  obtain ⟨ad0, n0, c0, hu, hle0⟩ : ∃ ad0 n0 c0, a.eval x = .slice ad0 n0 c0 ∧ n0 ≤ c0 := by
    rcases hux with ⟨_, h⟩ | ⟨_, p, c', _, h, h2, _⟩
    · exact ⟨_, _, _, h, Nat.le_refl _⟩
    · exact ⟨_, _, _, h, h2⟩
  have hvy := hst.ev ((hm y (by simp)).trans hy)
  have hsl : ∃ ad cp, a.eval y = .slice ad 0 cp := by
    have hv : cy.rel I R (a.eval y) := hvy
    generalize a.eval y = u at hv
    unfold srcOf0 at hsrc
    split at hsrc
    · split at hsrc
      · split at hsrc
        · simp only [Option.some.injEq, Prod.mk.injEq] at hsrc
          obtain ⟨_, rfl, _⟩ := hsrc
          obtain ⟨p, c', hp, rfl, _⟩ := hv
          exact ⟨_, _, rfl⟩
        · cases hsrc
      · cases hsrc
    · rename_i fl s' rows0
      split at hsrc
      · simp only [Option.some.injEq, Prod.mk.injEq] at hsrc
        obtain ⟨_, h0, _⟩ := hsrc
        have : rows0 = [] := List.eq_nil_of_length_eq_zero h0
        subst this
        simp only [Ce.rel] at hv
        cases hv with
        | nil => exact ⟨_, _, rfl⟩
        | emp => exact ⟨_, _, rfl⟩
        | ro => exact ⟨_, _, rfl⟩
      · cases hsrc
    · cases hv; exact ⟨_, _, rfl⟩
    · cases hsrc
  obtain ⟨ad, cp, hsl⟩ := hsl
  unfold Oper.wp
  have hrun : (Builtin.append_ #[t, t] o.type #[.slice ad0 n0 c0, .slice ad 0 cp]).run P w = .ok (.slice ad0 n0 c0) w := by
    cases ad <;> cases ad0 <;> simp [Builtin.append_, run_underlying hu', sizeOf, typeInfo, hinf, Builtin.lenOf, Builtin.firstCells, loadCells, loadCellsFrom, hle0, storeCells]
  rw [builtin_append o x y t ho a.eval w (by rw [hu, hsl]; exact hrun)]
  exact hnext I R _ _ (hst.put (.refl _) (.refl _) hst.wd hd (hu ▸ hux)) (.refl _) (fun _ _ => rfl) (.refl _)
section
variable {P : Program} {T : Tab} {o : Oper} {F : Nat → Option AV} {K : Nat → Option Blk} {top : Nat} {k : Eff → Prop}
theorem toList_nil {α : Type} {a : Array α} (h : a.toList = []) : a = #[] := by apply Array.ext'; simpa using h
theorem part_one {w : World} {t : TypeId} {d : TypeDesc} (hu : P.underlying t = some d) (hd : d.isRow = false) (cs : Array Value) (off : Nat) (u : Value) (h : cs[off]? = some u) : (part t cs off).run P w = .ok u w := by
  have hagg : (isAgg t).run P w = .ok false w := by
    unfold isAgg
    rw [Sem.run_bind, run_underlying hu w]
    cases d <;> simp_all
  unfold part
  rw [Sem.run_bind, hagg]
  simp [h]
theorem run_eqFields {I : IM} {R : RM} {w : World} (d : Nat) (vs us : Array Value) : ∀ (fs : List Field) (n : Nat) (ks : List (Option IntKind)) (xs ys : List Ce) (r : Bool), kindsOf P n fs = some ks → eqC ks xs ys = some r →
    All2 (Ce.rel I R) xs (vs.toList.drop n) → All2 (Ce.rel I R) ys (us.toList.drop n) → (Op.eqFields (d + 1) vs us fs).run P w = .ok r w
  | [], n, ks, xs, ys, r, hk, hr, h1, h2 => by
    simp only [kindsOf, Option.some.injEq] at hk
    subst hk
    cases xs <;> cases ys <;> simp only [eqC, Option.some.injEq, reduceCtorEq] at hr
    subst hr
    simp [Op.eqFields]
  | f :: fs, n, ks, xs, ys, r, hk, hr, h1, h2 => by
    simp only [kindsOf] at hk
    split at hk
    · rename_i kf l hkf hl
      split at hk
      · rename_i hc
        simp only [Bool.and_eq_true, beq_iff_eq, bne_iff_ne, ne_eq] at hc
        obtain ⟨ho, hname⟩ := hc
        simp only [Option.some.injEq] at hk
        subst hk
        have heads : ∀ {xs : List Ce} {x : Ce} {vs : Array Value}, All2 (Ce.rel I R) (x :: xs) (vs.toList.drop n) → ∃ v, vs[n]? = some v ∧ x.rel I R v ∧ All2 (Ce.rel I R) xs (vs.toList.drop (n + 1)) := by
          intro xs x vs h
          cases hd : vs.toList.drop n with
          | nil => rw [hd] at h; exact h.elim
          | cons v r =>
            rw [hd] at h
            refine ⟨v, ?_, h.1, ?_⟩
            · have : (vs.toList.drop n)[0]? = some v := by rw [hd]; rfl
              simpa using this
            · rw [show n + 1 = n + 1 from rfl, ← List.drop_drop, hd]
              simpa using h.2
        simp only [Op.eqFields, ne_eq, hname, not_false_eq_true, if_true]
        cases kf with
        | some kk =>
          cases xs with
          | nil => simp [eqC] at hr
          | cons x xs =>
            cases ys with
            | nil => simp [eqC] at hr
            | cons y ys =>
              cases x with
              | v xv =>
                cases xv with
                | int k1 a =>
                  cases y with
                  | v yv =>
                    cases yv with
                    | int k2 b =>
                      simp only [eqC] at hr
                      split at hr
                      · rename_i hkk
                        simp only [Bool.and_eq_true, decide_eq_true_eq] at hkk
                        obtain ⟨rfl, rfl⟩ := hkk
                        split at hr
                        · rename_i t ht
                          simp only [Option.some.injEq] at hr
                          obtain ⟨v, hv, hvr, hvs⟩ := heads h1
                          obtain ⟨u, hu, hur, hus⟩ := heads h2
                          cases hvr
                          cases hur
                          have hund : P.underlying f.type = some (.int k2) := by
                            unfold kindOf at hkf
                            split at hkf
                            · rename_i k3 h3; simp only [Option.some.injEq] at hkf; subst hkf; exact h3
                            · simp at hkf
                            · cases hkf
                          have ih := run_eqFields (w := w) d vs us fs (n + 1) l xs ys t hl ht hvs hus
                          rw [ho, Sem.run_bind, part_one hund rfl vs n _ hv]
                          simp only [Result.andThen_ok]
                          rw [Sem.run_bind, part_one hund rfl us n _ hu]
                          simp only [Result.andThen_ok]
                          rw [Sem.run_bind, run_equalIn_int w d f.type k2 k2 a b hund]
                          simp only [Result.andThen_ok, Sem.run_ite]
                          cases hab : (a == b) with
                          | true => simp only [Bool.not_true, Bool.false_eq_true, if_false, ih, ← hr, hab, Bool.true_and]
                          | false => simp [← hr, hab]
                        · cases hr
                      · cases hr
                    | _ => simp [eqC] at hr
                  | _ => simp [eqC] at hr
                | _ => simp [eqC] at hr
              | _ => simp [eqC] at hr
        | none =>
          cases xs with
          | nil => simp [eqC] at hr
          | cons x xs =>
            cases ys with
            | nil => simp [eqC] at hr
            | cons y ys =>
              cases x with
              | v xv =>
                cases xv with
                | bool a =>
                  cases y with
                  | v yv =>
                    cases yv with
                    | bool b =>
                      simp only [eqC] at hr
                      split at hr
                      · rename_i t ht
                        simp only [Option.some.injEq] at hr
                        obtain ⟨v, hv, hvr, hvs⟩ := heads h1
                        obtain ⟨u, hu, hur, hus⟩ := heads h2
                        cases hvr
                        cases hur
                        have hund : P.underlying f.type = some .bool := by
                          unfold kindOf at hkf
                          split at hkf
                          · simp at hkf
                          · rename_i h3; exact h3
                          · cases hkf
                        have ih := run_eqFields (w := w) d vs us fs (n + 1) l xs ys t hl ht hvs hus
                        rw [ho, Sem.run_bind, part_one hund rfl vs n _ hv]
                        simp only [Result.andThen_ok]
                        rw [Sem.run_bind, part_one hund rfl us n _ hu]
                        simp only [Result.andThen_ok]
                        rw [Sem.run_bind, run_equalIn_bool' w d f.type a b hund]
                        simp only [Result.andThen_ok, Sem.run_ite]
                        cases hab : (a == b) with
                        | true => simp only [Bool.not_true, Bool.false_eq_true, if_false, ih, ← hr, hab, Bool.true_and]
                        | false => simp [← hr, hab]
                      · cases hr
                    | _ => simp [eqC] at hr
                  | _ => simp [eqC] at hr
                | _ => simp [eqC] at hr
              | _ => simp [eqC] at hr
      · cases hk
    · cases hk
theorem run_eqItems1 {I : IM} {R : RM} {w : World} (d : Nat) {e : TypeId} {kd : Option IntKind} (hk : kindOf P e = some kd) (vs us : Array Value) : ∀ (m k : Nat) (xs ys : List Ce) (r : Bool), eqC (List.replicate m kd) xs ys = some r →
    All2 (Ce.rel I R) xs (vs.toList.drop k) → All2 (Ce.rel I R) ys (us.toList.drop k) → (Op.eqItems (d + 1) e 1 vs us (List.range' k m)).run P w = .ok r w
  | 0, k, xs, ys, r, hr, h1, h2 => by
    cases xs <;> cases ys <;> simp only [List.replicate, eqC, Option.some.injEq, reduceCtorEq] at hr
    subst hr
    simp [Op.eqItems]
  | m + 1, k, xs, ys, r, hr, h1, h2 => by
    have heads : ∀ {xs : List Ce} {x : Ce} {vs : Array Value}, All2 (Ce.rel I R) (x :: xs) (vs.toList.drop k) → ∃ v, vs[k]? = some v ∧ x.rel I R v ∧ All2 (Ce.rel I R) xs (vs.toList.drop (k + 1)) := by
      intro xs x vs h
      cases hd : vs.toList.drop k with
      | nil => rw [hd] at h; exact h.elim
      | cons v r =>
        rw [hd] at h
        refine ⟨v, ?_, h.1, ?_⟩
        · have : (vs.toList.drop k)[0]? = some v := by rw [hd]; rfl
          simpa using this
        · rw [← List.drop_drop, hd]
          simpa using h.2
    rw [List.replicate_succ] at hr
    rw [List.range'_succ]
    simp only [Op.eqItems, Nat.mul_one]
    cases kd with
    | some kk =>
      cases xs with
      | nil => simp [eqC] at hr
      | cons x xs =>
        cases ys with
        | nil => simp [eqC] at hr
        | cons y ys =>
          cases x with
          | v xv =>
            cases xv with
            | int k1 a =>
              cases y with
              | v yv =>
                cases yv with
                | int k2 b =>
                  simp only [eqC] at hr
                  split at hr
                  · rename_i hkk
                    simp only [Bool.and_eq_true, decide_eq_true_eq] at hkk
                    obtain ⟨rfl, rfl⟩ := hkk
                    split at hr
                    · rename_i t ht
                      simp only [Option.some.injEq] at hr
                      obtain ⟨v, hv, hvr, hvs⟩ := heads h1
                      obtain ⟨u, hu, hur, hus⟩ := heads h2
                      cases hvr
                      cases hur
                      have hund : P.underlying e = some (.int k2) := by
                        unfold kindOf at hk
                        split at hk
                        · rename_i k3 h3; simp only [Option.some.injEq] at hk; subst hk; exact h3
                        · simp at hk
                        · cases hk
                      have ih := run_eqItems1 (w := w) d hk vs us m (k + 1) xs ys t ht hvs hus
                      rw [Sem.run_bind, part_one hund rfl vs k _ hv]
                      simp only [Result.andThen_ok]
                      rw [Sem.run_bind, part_one hund rfl us k _ hu]
                      simp only [Result.andThen_ok]
                      rw [Sem.run_bind, run_equalIn_int w d e k2 k2 a b hund]
                      simp only [Result.andThen_ok, Sem.run_ite]
                      cases hab : (a == b) with
                      | true => simp only [Bool.not_true, Bool.false_eq_true, if_false, ih, ← hr, hab, Bool.true_and]
                      | false => simp [← hr, hab]
                    · cases hr
                  · cases hr
                | _ => simp [eqC] at hr
              | _ => simp [eqC] at hr
            | _ => simp [eqC] at hr
          | _ => simp [eqC] at hr
    | none =>
      cases xs with
      | nil => simp [eqC] at hr
      | cons x xs =>
        cases ys with
        | nil => simp [eqC] at hr
        | cons y ys =>
          cases x with
          | v xv =>
            cases xv with
            | bool a =>
              cases y with
              | v yv =>
                cases yv with
                | bool b =>
                  simp only [eqC] at hr
                  split at hr
                  · rename_i t ht
                    simp only [Option.some.injEq] at hr
                    obtain ⟨v, hv, hvr, hvs⟩ := heads h1
                    obtain ⟨u, hu, hur, hus⟩ := heads h2
                    cases hvr
                    cases hur
                    have hund : P.underlying e = some .bool := by
                      unfold kindOf at hk
                      split at hk
                      · simp at hk
                      · rename_i h3; exact h3
                      · cases hk
                    have ih := run_eqItems1 (w := w) d hk vs us m (k + 1) xs ys t ht hvs hus
                    rw [Sem.run_bind, part_one hund rfl vs k _ hv]
                    simp only [Result.andThen_ok]
                    rw [Sem.run_bind, part_one hund rfl us k _ hu]
                    simp only [Result.andThen_ok]
                    rw [Sem.run_bind, run_equalIn_bool' w d e a b hund]
                    simp only [Result.andThen_ok, Sem.run_ite]
                    cases hab : (a == b) with
                    | true => simp only [Bool.not_true, Bool.false_eq_true, if_false, ih, ← hr, hab, Bool.true_and]
                    | false => simp [← hr, hab]
                  · cases hr
                | _ => simp [eqC] at hr
              | _ => simp [eqC] at hr
            | _ => simp [eqC] at hr
          | _ => simp [eqC] at hr
theorem eqC_append : ∀ (kf l : List (Option IntKind)) (xs ys : List Ce) (r : Bool), eqC (kf ++ l) xs ys = some r → ∃ x1 x2 y1 y2 r1 r2, xs = x1 ++ x2 ∧ ys = y1 ++ y2 ∧ x1.length = kf.length ∧ y1.length = kf.length ∧ eqC kf x1 y1 = some r1 ∧ eqC l x2 y2 = some r2 ∧ r = (r1 && r2)
  | [], l, xs, ys, r, h => ⟨[], xs, [], ys, true, r, rfl, rfl, rfl, rfl, rfl, h, by simp⟩
  | k :: kf, l, xs, ys, r, h => by
    rw [List.cons_append] at h
    cases xs with
    | nil => cases k <;> simp [eqC] at h
    | cons x xs => cases ys with
      | nil => cases k <;> cases x <;> simp [eqC] at h
      | cons y ys =>
        cases k with
        | some kk =>
          unfold eqC at h
          split at h
          · rename_i heq1 heq2 heq3; cases heq1
          · rename_i k0 r0 k1 a xs0 k2 b ys0 e1 e2 e3
            simp only [List.cons.injEq, Option.some.injEq] at e1 e2 e3
            obtain ⟨rfl, rfl⟩ := e1
            obtain ⟨rfl, rfl⟩ := e2
            obtain ⟨rfl, rfl⟩ := e3
            split at h
            · rename_i hk
              split at h
              · rename_i t ht
                simp only [Option.some.injEq] at h
                obtain ⟨x1, x2, y1, y2, r1, r2, rfl, rfl, l1, l2, g1, g2, rfl⟩ := eqC_append kf l _ _ _ ht
                refine ⟨_ :: x1, x2, _ :: y1, y2, (a == b) && r1, r2, rfl, rfl, by simp [l1], by simp [l2], ?_, g2, by rw [← h, Bool.and_assoc]⟩
                simp only [eqC, hk, g1]
              · cases h
            · cases h
          · rename_i e1 _ _; simp at e1
          · cases h
        | none =>
          unfold eqC at h
          split at h
          · rename_i heq1 heq2 heq3; cases heq1
          · rename_i e1 _ _; simp at e1
          · rename_i r0 a xs0 b ys0 e1 e2 e3
            simp only [List.cons.injEq] at e1 e2 e3
            obtain ⟨_, rfl⟩ := e1
            obtain ⟨rfl, rfl⟩ := e2
            obtain ⟨rfl, rfl⟩ := e3
            split at h
            · rename_i t ht
              simp only [Option.some.injEq] at h
              obtain ⟨x1, x2, y1, y2, r1, r2, rfl, rfl, l1, l2, g1, g2, rfl⟩ := eqC_append kf l _ _ _ ht
              refine ⟨_ :: x1, x2, _ :: y1, y2, (a == b) && r1, r2, rfl, rfl, by simp [l1], by simp [l2], ?_, g2, by rw [← h, Bool.and_assoc]⟩
              simp only [eqC, g1]
            · cases h
          · cases h
theorem all2_split {α β : Type} {r : α → β → Prop} : ∀ {x1 x2 : List α} {vs : List β}, All2 r (x1 ++ x2) vs → All2 r x1 (vs.take x1.length) ∧ All2 r x2 (vs.drop x1.length)
  | [], x2, vs, h => ⟨trivial, h⟩
  | a :: x1, x2, [], h => h.elim
  | a :: x1, x2, v :: vs, h => by
    obtain ⟨h1, h2⟩ := all2_split (x1 := x1) h.2
    exact ⟨⟨h.1, h1⟩, h2⟩
def packV (row : Bool) (vs : List Value) : Value := match row with | true => .agg vs.toArray | false => vs.headD undef
theorem flat_desc {P : Program} {d : Nat} {t : TypeId} {ks : List (Option IntKind)} (h : flatOf P d t = some ks) : ∃ de, P.underlying t = some de ∧ (de.isRow = false → ks.length = 1) := by
  cases d with
  | zero => cases h
  | succ d =>
    unfold flatOf at h
    split at h
    · rename_i k hk; cases h; exact ⟨_, hk, fun _ => rfl⟩
    · rename_i hk; cases h; exact ⟨_, hk, fun _ => rfl⟩
    · rename_i fs hk; exact ⟨_, hk, fun hh => by cases hh⟩
    · cases h
theorem part_pack {P : Program} {w : World} {t : TypeId} {de : TypeDesc} {inf : TypeInfo} (hd : P.underlying t = some de) (hi : P.info? t = some inf) (cs : Array Value) (off : Nat) (h1 : de.isRow = false → inf.size = 1) (hlen : de.isRow = false → off + 1 ≤ cs.size) : (part t cs off).run P w = .ok (packV de.isRow ((cs.toList.drop off).take inf.size)) w := by
  cases hr : de.isRow with
  | true =>
    have hagg : (isAgg t).run P w = .ok true w := by
      unfold isAgg
      rw [Sem.run_bind, run_underlying hd w]
      cases de <;> simp_all
    unfold part
    rw [Sem.run_bind, hagg]
    simp only [Result.andThen_ok, if_true]
    obtain ⟨l⟩ := cs
    simp [sizeOf, typeInfo, hi, packV, List.extract]
  | false =>
    have hs := h1 hr
    have hlt : off < cs.size := hlen hr
    rw [part_one hd hr cs off cs[off] (by simp [hlt])]
    have : (cs.toList.drop off).take inf.size = [cs[off]] := by
      rw [hs, List.drop_eq_getElem_cons (by simpa using hlt)]
      simp
    rw [this]; rfl
theorem run_flatFs {P : Program} {I : IM} {R : RM} {w : World} (D : Nat) {g : TypeId → Option (List (Option IntKind))}
    (hg : ∀ t ks, g t = some ks → ∃ de, P.underlying t = some de ∧ (de.isRow = false → ks.length = 1) ∧ ∀ (xs ys : List Ce) (r : Bool) (vs us : List Value), eqC ks xs ys = some r → All2 (Ce.rel I R) xs vs → All2 (Ce.rel I R) ys us → (Op.equalIn D t (packV de.isRow vs) (packV de.isRow us)).run P w = .ok r w)
    (vs us : Array Value) : ∀ (fs : List Field) (n : Nat) (ks : List (Option IntKind)) (xs ys : List Ce) (r : Bool), flatFs P g n fs = some ks → eqC ks xs ys = some r →
    All2 (Ce.rel I R) xs (vs.toList.drop n) → All2 (Ce.rel I R) ys (us.toList.drop n) → (Op.eqFields D vs us fs).run P w = .ok r w
  | [], n, ks, xs, ys, r, hk, hr, h1, h2 => by
    simp only [flatFs, Option.some.injEq] at hk
    subst hk
    cases xs <;> cases ys <;> simp only [eqC, Option.some.injEq, reduceCtorEq] at hr
    subst hr
    simp [Op.eqFields]
  | f :: fs, n, ks, xs, ys, r, hk, hr, h1, h2 => by
    simp only [flatFs] at hk
    split at hk
    · rename_i kf hkf
      split at hk
      · rename_i l hl
        split at hk
        · rename_i hc
          simp only [Bool.and_eq_true, beq_iff_eq, bne_iff_ne, ne_eq] at hc
          obtain ⟨⟨ho, hname⟩, hsz⟩ := hc
          simp only [Option.some.injEq] at hk
          subst hk
          obtain ⟨de, hde, hone, heq⟩ := hg _ _ hkf
          obtain ⟨inf, hinf, hsz⟩ : ∃ inf, P.info? f.type = some inf ∧ inf.size = kf.length := by
            unfold szB at hsz
            split at hsz
            · rename_i i hi; exact ⟨i, hi, by simpa using hsz⟩
            · cases hsz
          obtain ⟨x1, x2, y1, y2, r1, r2, rfl, rfl, l1, l2, g1, g2, rfl⟩ := eqC_append kf l _ _ _ hr
          obtain ⟨a1, a2⟩ := all2_split h1
          obtain ⟨b1, b2⟩ := all2_split h2
          have hlv := h1.length
          have hlu := h2.length
          simp only [List.length_append, List.length_drop, Array.length_toList] at hlv hlu
          rw [l1] at a1 a2
          rw [l2] at b1 b2
          rw [List.drop_drop] at a2 b2
          have ih := run_flatFs D hg vs us fs (n + kf.length) l x2 y2 r2 hl g2 a2 b2
          have p1 := part_pack (w := w) hde hinf vs n (fun hh => hsz.trans (hone hh)) (fun hh => by have := hone hh; omega)
          have p2 := part_pack (w := w) hde hinf us n (fun hh => hsz.trans (hone hh)) (fun hh => by have := hone hh; omega)
          rw [hsz] at p1 p2
          have e := heq x1 y1 r1 _ _ g1 a1 b1
          simp only [Op.eqFields, ne_eq, hname, not_false_eq_true, if_true]
          rw [ho, Sem.run_bind, p1]
          simp only [Result.andThen_ok]
          rw [Sem.run_bind, p2]
          simp only [Result.andThen_ok]
          rw [Sem.run_bind, e]
          simp only [Result.andThen_ok, Sem.run_ite]
          cases r1 with
          | true => simp [ih]
          | false => simp
        · cases hk
      · cases hk
    · cases hk
theorem eqC_one {k : Option IntKind} {xs ys : List Ce} {r : Bool} (h : eqC [k] xs ys = some r) : (∃ kk a b, k = some kk ∧ xs = [.v (.int kk a)] ∧ ys = [.v (.int kk b)] ∧ r = (a == b)) ∨ ∃ a b, k = none ∧ xs = [.v (.bool a)] ∧ ys = [.v (.bool b)] ∧ r = (a == b) := by
  unfold eqC at h
  split at h
  · rename_i e1; cases e1
  · rename_i k0 r0 k1 a xs0 k2 b ys0 e1
    simp only [List.cons.injEq] at e1
    obtain ⟨rfl, rfl⟩ := e1
    split at h
    · rename_i hk
      simp only [Bool.and_eq_true, decide_eq_true_eq] at hk
      obtain ⟨rfl, rfl⟩ := hk
      cases xs0 <;> cases ys0 <;> simp [eqC] at h
      exact .inl ⟨_, a, b, rfl, rfl, rfl, h.symm⟩
    · cases h
  · rename_i r0 a xs0 b ys0 e1
    simp only [List.cons.injEq] at e1
    obtain ⟨rfl, rfl⟩ := e1
    cases xs0 <;> cases ys0 <;> simp [eqC] at h
    exact .inr ⟨a, b, rfl, rfl, rfl, h.symm⟩
  · cases h
theorem run_flatOf {P : Program} {I : IM} {R : RM} {w : World} (D : Nat) : ∀ (d : Nat) (t : TypeId) (ks : List (Option IntKind)), flatOf P d t = some ks → ∃ de, P.underlying t = some de ∧ (de.isRow = false → ks.length = 1) ∧ ∀ (xs ys : List Ce) (r : Bool) (vs us : List Value), eqC ks xs ys = some r → All2 (Ce.rel I R) xs vs → All2 (Ce.rel I R) ys us → (Op.equalIn (D + d) t (packV de.isRow vs) (packV de.isRow us)).run P w = .ok r w
  | 0, t, ks, h => by cases h
  | d + 1, t, ks, h => by
    unfold flatOf at h
    split at h
    · rename_i k hk
      cases h
      refine ⟨_, hk, fun _ => rfl, fun xs ys r vs us hr h1 h2 => ?_⟩
      rcases eqC_one hr with ⟨kk, a, b, e1, rfl, rfl, rfl⟩ | ⟨a, b, e1, _⟩
      · cases e1
        match vs, us, h1, h2 with
        | [v], [u], h1, h2 =>
          cases h1.1; cases h2.1
          exact run_equalIn_int w (D + d) t _ _ a b hk
      · cases e1
    · rename_i hk
      cases h
      refine ⟨_, hk, fun _ => rfl, fun xs ys r vs us hr h1 h2 => ?_⟩
      rcases eqC_one hr with ⟨kk, a, b, e1, _⟩ | ⟨a, b, e1, rfl, rfl, rfl⟩
      · cases e1
      · match vs, us, h1, h2 with
        | [v], [u], h1, h2 =>
          cases h1.1; cases h2.1
          exact run_equalIn_bool' w (D + d) t a b hk
    · rename_i fs hk
      split at h
      · cases h
      · rename_i hst
        refine ⟨_, hk, (fun hh => by cases hh), fun xs ys r vs us hr h1 h2 => ?_⟩
        have hfs : P.fieldsOf t = fs := by simp [Program.fieldsOf, hk]
        show (Op.equalIn (D + d + 1) t (.agg vs.toArray) (.agg us.toArray)).run P w = .ok r w
        rw [run_equalIn_struct w (D + d) t _ _ (by rw [hfs]; exact hk) (by simpa using hst), hfs]
        exact run_flatFs (D + d) (fun t ks h => run_flatOf D d t ks h) vs.toArray us.toArray fs.toList 0 ks xs ys r h hr (by simpa using h1) (by simpa using h2)
    · cases h
theorem nilOf_spec {I : IM} {R : RM} {c : Ce} {r : Bool} (h : nilOf c = some r) {u : Value} (hu : c.rel I R u) : ∃ ad l m, u = .slice ad l m ∧ ad.isNone = r := by
  cases c with
  | v x =>
    cases hu
    cases u with
    | slice ad l m => cases ad <;> (simp [nilOf] at h; subst h; exact ⟨_, _, _, rfl, rfl⟩)
    | _ => simp [nilOf] at h
  | osl i q n c => obtain ⟨p, c', _, rfl, _⟩ := hu; simp [nilOf] at h; subst h; exact ⟨_, _, _, rfl, rfl⟩
  | gsl i rows =>
    simp [nilOf] at h
    rcases hu with ⟨rfl, rfl⟩ | ⟨h0, p, c', _, rfl, _⟩
    · subst h; exact ⟨_, _, _, rfl, rfl⟩
    · refine ⟨_, _, _, rfl, ?_⟩
      cases rows with
      | nil => exact absurd rfl h0
      | cons => simpa using h
  | ro fl sz rows =>
    cases rows with
    | nil => simp [nilOf] at h
    | cons r0 rows => simp [nilOf] at h; subst h; cases hu; exact ⟨_, _, _, rfl, rfl⟩
  | _ => simp [nilOf] at h
theorem y_eqN (t : TypeId) (x y : Operand) (yt : TypeId) (op : BinOp) (ho : o.op = .binOp op t x y yt) (ti : TI) (ht : tiOf P t = some ti) (e : TypeId × Nat × Nat) (hel : ti.elem = some e) (c : Ce) (hx : evf F x = some (.c c)) (l m : Nat) (hy : evf F y = some (.val (.slice none l m))) (r : Bool) (hr : nilOf c = some r) (z : Bool)
    (hz : (op = .eql ∧ z = r) ∨ (op = .neq ∧ z = !r)) : Yv P o F K [] (.val (.bool z)) := by
  obtain ⟨e, s, bt⟩ := e
  obtain ⟨hu, -⟩ := tiOf_elem ht hel
  intro n W F' K' I R a w hs hxx hk
  have hm : ∀ z ∈ [x, y], evf F' z = evf F z := fun z hz => hxx z (by simpa [ho, Op.operands] using hz)
  have e1 := hs.ev ((hm x (by simp)).trans hx)
  have e2 := ev_plain hs ((hm y (by simp)).trans hy)
  obtain ⟨ad, l', m', v1, v2⟩ := nilOf_spec hr e1
  have hg : (eqGuard op t x y (.slice ad l' m') (.slice none l m)).run P w = .ok () w := by
    unfold eqGuard
    rcases hz with ⟨rfl, _⟩ | ⟨rfl, _⟩ <;> rfl
  refine ⟨_, ?_, rfl⟩
  simp only [execOp, ho, v1, e2]
  rw [Sem.run_bind, Sem.run_bind, hg]
  simp only [Result.andThen_ok]
  rcases hz with ⟨rfl, rfl⟩ | ⟨rfl, rfl⟩
  · rw [Go.Lib.run_eql_slice_nil w t e ad l' m' l m hu, v2]; rfl
  · simp only [binOp, Op.equal, Op.maxDepth, Sem.run_bind]
    rw [Go.Lib.run_equalIn_slice_nil w 9999 t e ad l' m' l m hu, v2]; rfl
theorem y_eqS (t : TypeId) (x y : Operand) (yt : TypeId) (op : BinOp) (ho : o.op = .binOp op t x y yt) (ti : TI) (ht : tiOf P t = some ti) (ks : List (Option IntKind)) (hks : ti.eqk = some ks) (xs ys : List Ce) (hx : evf F x = some (.pl (.agg xs))) (hy : evf F y = some (.pl (.agg ys))) (r : Bool) (hr : eqC ks xs ys = some r) (z : Bool)
    (hz : (op = .eql ∧ z = r) ∨ (op = .neq ∧ z = !r)) : Yv P o F K [] (.val (.bool z)) := by
  have hcase : P.eqGuardType P.depth t = false ∧ ((∃ fs, P.underlying t = some (.struct fs) ∧ P.stoodInHeld t = false ∧ flatFs P (flatOf P 4) 0 fs.toList = some ks) ∨ ∃ n e i kd, P.underlying t = some (.array n e) ∧ P.info? e = some i ∧ i.size = 1 ∧ kindOf P e = some kd ∧ ks = List.replicate n kd) := by
    unfold tiOf at ht
    split at ht
    · rename_i d inf hd hi
      split at ht
      · simp only [Option.some.injEq] at ht
        subst ht
        cases d <;> simp only [reduceCtorEq] at hks
        · rename_i n e
          split at hks
          · rename_i i kd h1 h2
            split at hks
            · cases hks
            · rename_i hne
              simp only [Bool.or_eq_true, not_or, Bool.not_eq_true, bne_eq_false_iff_eq] at hne
              simp only [Option.some.injEq] at hks
              exact ⟨hne.1, .inr ⟨n, e, i, kd, hd, h1, hne.2, h2, hks.symm⟩⟩
          · cases hks
        · rename_i fs
          split at hks
          · cases hks
          · rename_i hne
            simp only [Bool.or_eq_true, not_or, Bool.not_eq_true] at hne
            exact ⟨hne.2, .inl ⟨fs, hd, hne.1, hks⟩⟩
      · cases ht
    · cases ht
  obtain ⟨h3, hcase⟩ := hcase
  intro n W F' K' I R a w hs hxx hk
  have hm : ∀ z ∈ [x, y], evf F' z = evf F z := fun z hz => hxx z (by simpa [ho, Op.operands] using hz)
  have e1 := hs.ev ((hm x (by simp)).trans hx)
  have e2 := hs.ev ((hm y (by simp)).trans hy)
  simp only [AV.rel, A0.rel] at e1 e2
  obtain ⟨vs, v1, v2⟩ := e1
  obtain ⟨us, u1, u2⟩ := e2
  have heq : (Op.equalIn 10000 t (.agg vs.toArray) (.agg us.toArray)).run P w = .ok r w := by
    rcases hcase with ⟨fs, h1, h2, h4⟩ | ⟨m, e, i, kd, h1, h2, h4, h5, rfl⟩
    · have hfs : P.fieldsOf t = fs := by simp [Program.fieldsOf, h1]
      have hrun := run_flatFs (P := P) (I := I) (R := R) (w := w) 9999 (fun t ks h => run_flatOf 9995 4 t ks h) vs.toArray us.toArray fs.toList 0 ks xs ys r h4 hr (by simpa using v2) (by simpa using u2)
      rw [show 10000 = 9999 + 1 from rfl, run_equalIn_struct w 9999 t _ _ (by rw [hfs]; exact h1) h2, hfs]
      exact hrun
    · have hc : P.cellsOf e = 1 := by simp [Program.cellsOf, h2, h4]
      have hrun := run_eqItems1 (P := P) (I := I) (R := R) (w := w) 9998 h5 vs.toArray us.toArray m 0 xs ys r hr (by simpa using v2) (by simpa using u2)
      rw [show 10000 = 9999 + 1 from rfl, run_equalIn_array w 9999 vs.toArray us.toArray h1 h2, hc, List.range_eq_range']
      exact hrun
  refine ⟨_, ?_, rfl⟩
  simp only [execOp, ho, v1, u1]
  rw [Sem.run_bind, Sem.run_bind, run_eqGuard_agg _ _ _ _ _ _ _ h3]
  simp only [Result.andThen_ok]
  rcases hz with ⟨rfl, rfl⟩ | ⟨rfl, rfl⟩
  · rw [run_eql_struct, heq]; rfl
  · rw [run_neq_struct, heq]; rfl
theorem opA_sound (hT : TabOk P T) (h : opA P T o F K top k) : ∃ e, OpEff P o F K top e ∧ k e := by
  obtain ⟨dst, op, ty, pos, after, guard⟩ := o
  unfold opA at h
  dsimp only at h
  split at h
  case h_1 => 
    split at h
    · rename_i v hv; exact ⟨_, (y_move _ (.inl rfl) v hv).eff, h⟩
    · exact h.elim
  case h_2 => 
    split at h
    · rename_i v hv; exact ⟨_, (y_move _ (.inr rfl) v hv).eff, h⟩
    · exact h.elim
  case h_3 => 
    split at h
    · rename_i b hb
      cases b with
      | true =>
        have h1 := h.t rfl
        split at h1
        · rename_i v hv; exact ⟨_, (y_pick _ _ _ rfl true hb v (fun _ => hv) (fun h => by cases h)).eff, h1⟩
        · exact h1.elim
      | false =>
        have h1 := h.f rfl
        split at h1
        · rename_i v hv; exact ⟨_, (y_pick _ _ _ rfl false hb v (fun h => by cases h) (fun _ => hv)).eff, h1⟩
        · exact h1.elim
    · exact h.elim
  case h_4 =>
    split at h
    · rename_i i q l hx; exact ⟨_, (y_nilc _ rfl _ hx rfl).eff, h⟩
    · rename_i fl row l hx; exact ⟨_, (y_nilc _ rfl _ hx rfl).eff, h⟩
    · rename_i f cap hx; exact ⟨_, (y_nilc _ rfl _ hx rfl).eff, h⟩
    · exact h.elim
  case h_5 =>
    split at h
    · rename_i b hx; exact ⟨_, (y_not _ _ rfl b hx).eff, h⟩
    · exact h.elim
  case h_6 =>
    split at h
    · rename_i kx p ky q hx hy
      split at h
      · rename_i hk
        have hk := of_decide_eq_true hk
        subst hk
        split at h
        · obtain ⟨r, hr, h⟩ := h.h; exact ⟨_, (y_int _ _ _ _ _ rfl kx p q hx hy r (by simp [intOp, hr])).eff, h⟩
        · obtain ⟨r, hr, h⟩ := h.h; exact ⟨_, (y_int _ _ _ _ _ rfl kx p q hx hy r (by simp [intOp, hr])).eff, h⟩
        · obtain ⟨r, hr, h⟩ := h.h; exact ⟨_, (y_int _ _ _ _ _ rfl kx p q hx hy r (by simp [intOp, hr])).eff, h⟩
        · obtain ⟨hz, ⟨r, hr, h⟩⟩ := h; exact ⟨_, (y_div _ _ _ _ _ rfl kx p q hx hy hz r (.inl ⟨rfl, hr.symm⟩)).eff, h⟩
        · obtain ⟨hz, ⟨r, hr, h⟩⟩ := h; exact ⟨_, (y_div _ _ _ _ _ rfl kx p q hx hy hz r (.inr ⟨rfl, hr.symm⟩)).eff, h⟩
        · exact ⟨_, (y_cmp _ _ _ _ _ rfl kx p q hx hy _ rfl).eff, h⟩
        · exact ⟨_, (y_cmp _ _ _ _ _ rfl kx p q hx hy _ rfl).eff, h⟩
        · exact ⟨_, (y_cmp _ _ _ _ _ rfl kx p q hx hy _ rfl).eff, h⟩
        · exact ⟨_, (y_cmp _ _ _ _ _ rfl kx p q hx hy _ rfl).eff, h⟩
        · exact ⟨_, (y_cmp _ _ _ _ _ rfl kx p q hx hy _ rfl).eff, h⟩
        · exact ⟨_, (y_cmp _ _ _ _ _ rfl kx p q hx hy _ rfl).eff, h⟩
        · obtain ⟨hz, ⟨r, hr, h⟩⟩ := h; exact ⟨_, (y_shift _ _ _ _ _ rfl kx kx p q hx hy (of_decide_eq_true hz) r (.inl ⟨rfl, hr.symm⟩)).eff, h⟩
        · obtain ⟨hz, ⟨r, hr, h⟩⟩ := h; exact ⟨_, (y_shift _ _ _ _ _ rfl kx kx p q hx hy (of_decide_eq_true hz) r (.inr ⟨rfl, hr.symm⟩)).eff, h⟩
        · split at h
          · rename_i r hr; exact ⟨_, (y_bits _ _ _ _ _ rfl kx p q hx hy r hr).eff, h⟩
          · exact h.elim
      · split at h
        · obtain ⟨hz, ⟨r, hr, h⟩⟩ := h; exact ⟨_, (y_shift _ _ _ _ _ rfl kx ky p q hx hy (of_decide_eq_true hz) r (.inl ⟨rfl, hr.symm⟩)).eff, h⟩
        · obtain ⟨hz, ⟨r, hr, h⟩⟩ := h; exact ⟨_, (y_shift _ _ _ _ _ rfl kx ky p q hx hy (of_decide_eq_true hz) r (.inr ⟨rfl, hr.symm⟩)).eff, h⟩
        · exact h.elim
    · rename_i p q hx hy
      split at h
      · rename_i ti ht
        split at h
        · rename_i hb; exact ⟨_, (y_bool _ _ _ _ _ rfl p q hx hy (tiOf_bool (hT _ _ ht) hb) _ (.inl ⟨rfl, rfl⟩)).eff, h⟩
        · rename_i hb; exact ⟨_, (y_bool _ _ _ _ _ rfl p q hx hy (tiOf_bool (hT _ _ ht) hb) _ (.inr ⟨rfl, rfl⟩)).eff, h⟩
        · exact h.elim
      · exact h.elim
    · rename_i xs ys hx hy
      split at h
      · rename_i ti ht
        split at h
        · rename_i ks hks
          split at h
          · rename_i r hr; exact ⟨_, (y_eqS _ _ _ _ _ rfl ti (hT _ _ ht) ks hks xs ys hx hy r hr _ (.inl ⟨rfl, rfl⟩)).eff, h⟩
          · rename_i r hr; exact ⟨_, (y_eqS _ _ _ _ _ rfl ti (hT _ _ ht) ks hks xs ys hx hy r hr _ (.inr ⟨rfl, rfl⟩)).eff, h⟩
          · exact h.elim
        · exact h.elim
      · exact h.elim
    · rename_i c l m hx hy
      split at h
      · rename_i ti ht
        split at h
        · rename_i hel hr; exact ⟨_, (y_eqN _ _ _ _ _ rfl ti (hT _ _ ht) _ hel _ hx _ _ hy _ hr _ (.inl ⟨rfl, rfl⟩)).eff, h⟩
        · rename_i hel hr; exact ⟨_, (y_eqN _ _ _ _ _ rfl ti (hT _ _ ht) _ hel _ hx _ _ hy _ hr _ (.inr ⟨rfl, rfl⟩)).eff, h⟩
        · exact h.elim
      · exact h.elim
    · exact opB_sound hT h
  case h_7 =>
    split at h
    · rename_i i j kk p hi hj hx
      split at h
      · rename_i ks kd h1 h2
        obtain ⟨r, rfl, h⟩ := h.h
        exact ⟨_, (y_conv _ _ _ rfl i j kd ks (hT _ _ hi) (hT _ _ hj) h1 h2 kk p hx).eff, h⟩
      · exact h.elim
    · exact opB_sound hT h
  case h_8 =>
    split at h
    · rename_i l hx
      split at h
      · rename_i c hc; exact ⟨_, (y_extract _ _ rfl l hx c hc).eff, h⟩
      · exact h.elim
    · exact h.elim
  case h_9 =>
    split at h
    · rename_i ps h1 h2
      have := toList_nil h1
      subst this
      exact ⟨_, (y_func _ _ rfl ps (ptsOf_all h2)).eff, h⟩
    · exact h.elim
  case h_10 =>
    split at h
    · rename_i ti ht
      split at h
      · rename_i off sz r hf
        split at h
        · rename_i i q l hz hx; exact ⟨_, (y_fieldAddr _ _ _ rfl ti (hT _ _ ht) off sz r hf hz _ _ hx rfl).eff, h⟩
        · rename_i fl row l hz hx; exact ⟨_, (y_fieldAddr _ _ _ rfl ti (hT _ _ ht) off sz r hf hz _ _ hx rfl).eff, h⟩
        · exact h.elim
      · exact h.elim
    · exact h.elim
  case h_11 =>
    split at h
    · rename_i ti ht
      split at h
      · rename_i off sz r hf
        split at h
        · rename_i cs hz hx
          split at h
          · rename_i v hv; exact ⟨_, (y_field _ _ _ rfl ti (hT _ _ ht) off sz r hf hz cs hx v hv).eff, h⟩
          · exact h.elim
        · exact h.elim
      · exact h.elim
    · exact h.elim
  case h_12 =>
    split at h
    · rename_i ti i q l ht hx
      split at h
      · rename_i b hb
        obtain ⟨row, hr, h⟩ := rowB_spec h
        split at h
        · rename_i v hv; exact ⟨_, (y_load _ _ rfl ti (hT _ _ ht) i q l hx b hb row hr v hv).eff, h⟩
        · exact h.elim
      · exact h.elim
    · rename_i ti fl row l ht hx
      split at h
      · rename_i v hv; exact ⟨_, (y_loadr _ _ rfl ti (hT _ _ ht) fl row l hx v hv).eff, h⟩
      · exact h.elim
    · exact h.elim
  case h_13 =>
    split at h
    · rename_i ti i q l v ht hx hy
      split at h
      · rename_i b hb
        obtain ⟨row, hr, h⟩ := rowB_spec h
        split at h
        · rename_i h1 h2 h3; exact ⟨_, e_store _ _ _ rfl rfl ti (hT _ _ ht) i q l hx b hb row hr v hy h1 h2 h3, h⟩
        · exact h.elim
      · exact h.elim
    · exact h.elim
  case h_14 =>
    split at h
    · rename_i ti ht; exact ⟨_, e_alloc _ rfl ti (hT _ _ ht), h⟩
    · exact h.elim
  case h_15 =>
    split at h
    · rename_i v hx
      split at h
      · rename_i h1; exact ⟨_, e_box _ _ rfl v hx h1, h⟩
      · exact h.elim
    · exact h.elim
  case h_16 =>
    split at h
    · rename_i ti ht
      split at h
      · rename_i avs ho hx
        split at h
        · rename_i out hout; exact ⟨_, (y_build _ _ rfl ti (hT _ _ ht) ho avs hx out hout).eff, h⟩
        · exact h.elim
      · exact opB_sound hT h
    · exact h.elim
  case h_17 =>
    split at h
    · rename_i ti kj j ht hy
      split at h
      · rename_i e s bt hel
        split at h
        · rename_i i q m c hx
          split at h
          · rename_i b hb
            split at h
            · rename_i hs
              obtain ⟨j', h1, h2, h⟩ := h.h
              exact ⟨_, (y_index _ _ _ rfl ti (hT _ _ ht) e s bt hel i q m c (.inl hx) b hb hs kj j hy j' h1 h2).eff, h⟩
            · exact h.elim
          · exact h.elim
        · rename_i fl sz rows hx
          split at h
          · rename_i hs
            obtain ⟨j', h1, h2, ⟨row, hr, h⟩⟩ := h.h
            exact ⟨_, (y_indexr _ _ _ rfl ti (hT _ _ ht) e s bt hel fl sz rows hx hs kj j hy j' h1 row hr).eff, h⟩
          · exact h.elim
        · rename_i i rows hx
          split at h
          · rename_i b hb
            split at h
            · rename_i hs
              obtain ⟨j', h1, h2, h⟩ := h.h
              exact ⟨_, (y_index _ _ _ rfl ti (hT _ _ ht) e s bt hel i 0 rows.length none (.inr ⟨rfl, rows, rfl, hx⟩) b hb hs kj j hy j' h1 h2).eff, h⟩
            · exact h.elim
          · exact h.elim
        · exact h.elim
      · split at h
        · rename_i m s r hel
          split at h
          · rename_i i q l hx
            obtain ⟨j', h1, h2, h⟩ := h.h
            exact ⟨_, (y_indexa _ _ _ rfl ti (hT _ _ ht) m s r hel _ _ hx kj j hy j' h1 h2 rfl).eff, h⟩
          · rename_i fl row l hx
            obtain ⟨j', h1, h2, h⟩ := h.h
            exact ⟨_, (y_indexa _ _ _ rfl ti (hT _ _ ht) m s r hel _ _ hx kj j hy j' h1 h2 rfl).eff, h⟩
          · exact h.elim
        · exact h.elim
    · exact h.elim
  case h_18 =>
    split at h
    · rename_i x t ha ht'
      have := toList_one ha; subst this
      have := toList_one ht'; subst this
      split at h
      · rename_i ti ht
        split at h
        · rename_i el hel
          obtain ⟨e, s, bt⟩ := el
          split at h
          · rename_i i q m c hx; exact ⟨_, (y_len _ _ rfl ti (hT _ _ ht) e s bt hel _ hx m rfl).eff, h⟩
          · rename_i fl sz rows hx; exact ⟨_, (y_len _ _ rfl ti (hT _ _ ht) e s bt hel _ hx rows.length rfl).eff, h⟩
          · rename_i i rows hx; exact ⟨_, (y_len _ _ rfl ti (hT _ _ ht) e s bt hel _ hx rows.length rfl).eff, h⟩
          · rename_i ad m cap hx; exact ⟨_, (y_len _ _ rfl ti (hT _ _ ht) e s bt hel _ hx m rfl).eff, h⟩
          · exact h.elim
        · exact h.elim
      · exact h.elim
    · exact h.elim
  case h_19 =>
    split at h
    · rename_i x y t t' ha htt
      have := toList_two ha; subst this
      have := toList_two htt; subst this
      split at h
      · rename_i ti kj j hb ht hy
        split at h
        · rename_i tj htn
          split at h
          · rename_i kk e s bt hkk hel
            split at h
            · rename_i te i m0 cp hte hx
              split at h
              · rename_i b hK
                split at h
                · rename_i h1 h2
                  rcases h.h with h | h
                  · obtain ⟨m, g1, g2, g3, g4, g5, h⟩ := h.h
                    exact ⟨_, e_appendz _ _ _ _ rfl ti (hT _ _ ht) tj (hT _ _ htn) kk hkk e s bt hel te (hT _ _ hte) i m0 cp hx b hK h1 h2 kj j hy m g1 g2 g3 g4 g5, h⟩
                  · obtain ⟨m, c0, hcp, hgt, g1, g2, g3, g4, g5, h9⟩ := h.h
                    subst hcp
                    exact ⟨_, e_appendz_new _ _ _ _ rfl ti (hT _ _ ht) tj (hT _ _ htn) kk hkk e s bt hel te (hT _ _ hte) i m0 c0 hx b hK h1 kj j hy m g1 g2 g3 g4 g5 hgt, h9⟩
                · exact h.elim
              · exact h.elim
            · rename_i te hte hx
              obtain ⟨m, g1, g2, g3, g4, h⟩ := h.h
              exact ⟨_, e_appendz0 _ _ _ _ rfl ti (hT _ _ ht) tj (hT _ _ htn) kk hkk e s bt hel te (hT _ _ hte) hx kj j hy m g1 g2 g3 g4, h⟩
            · exact h.elim
          · exact h.elim
        · exact h.elim
      · rename_i ti cy hb ht hy
        have := Nat.eq_of_beq_eq_true hb
        have ho' : (Op.call ⟨.builtin .append, #[x, y], #[t, t']⟩) = (Op.call ⟨.builtin .append, #[x, y], #[t, t]⟩) := by rw [this]
        split at h
        · rename_i e s bt hel
          split at h
          · rename_i src m rd hsrc
            split at h
            · rename_i i m0 cp hx
              split at h
              · rename_i b hK
                split at h
                · rename_i h1 h2
                  rcases h.h with h | h | h
                  · exact ⟨_, e_appendr _ _ _ ho' ti (hT _ _ ht) e s bt hel i m0 cp hx b hK h1 cy hy src m rd hsrc ⟨h.h, h.len, h.one, h.fit, trivial⟩, h.k⟩
                  · exact ⟨_, e_append _ _ _ ho' ti (hT _ _ ht) e s bt hel i m0 cp hx b hK h1 h2 cy hy src m rd hsrc ⟨h.len, h.one, h.le, h.max, h.room, trivial⟩, h.k⟩
                  · obtain ⟨⟨c0, hcp, hgt⟩, h9⟩ := h
                    subst hcp
                    exact ⟨_, e_append_new _ _ _ ho' ti (hT _ _ ht) e s bt hel i m0 c0 hx b hK h1 cy hy src m rd hsrc ⟨h9.len, h9.one, h9.le, h9.max, h9.room, trivial⟩ hgt, h9.k⟩
                · exact h.elim
              · exact h.elim
            · rename_i i rows hx
              obtain ⟨h1, h⟩ := h
              rcases h.h with ⟨h2, h⟩ | ⟨h2, h⟩
              · split at h
                · rename_i r0 hs0
                  have : r0 = (src, m, rd) := by have := (srcOf_of0 hs0).symm.trans hsrc; cases this; rfl
                  subst this
                  exact ⟨_, e_append0g _ _ _ ho' ti (hT _ _ ht) e s bt hel i rows hx cy hy src m rd hs0 h2, h⟩
                · exact h.elim
              · exact ⟨_, e_appendg _ _ _ ho' ti (hT _ _ ht) e s bt hel i rows hx h1 cy hy src m rd hsrc h2 ⟨h.len, h.one, h.le, h.max, h.room, trivial⟩, h.k⟩
            · rename_i hx
              rcases h.h with ⟨h2, h⟩ | ⟨h2, h⟩
              · split at h
                · rename_i r0 hs0
                  have : r0 = (src, m, rd) := by have := (srcOf_of0 hs0).symm.trans hsrc; cases this; rfl
                  subst this
                  exact ⟨_, e_append00 _ _ _ ho' ti (hT _ _ ht) e s bt hel hx cy hy src m rd hs0 h2, h⟩
                · exact h.elim
              · exact ⟨_, e_appendn _ _ _ ho' ti (hT _ _ ht) e s bt hel hx cy hy src m rd hsrc h2 ⟨h.len, h.one, h.le, h.max, h.room, trivial⟩, h.k⟩
            · exact h.elim
          · exact h.elim
        · exact h.elim
      · exact h.elim
    · exact h.elim
  case h_20 =>
    split at h
    · rename_i x y t t' ha htt
      have := toList_two ha; subst this
      have := toList_two htt; subst this
      split at h
      · rename_i ti i q m0 cp cy ht hx hy
        split at h
        · rename_i e s bt hel
          split at h
          · rename_i b src m rd hK hsrc
            split at h
            · rename_i hs
              exact ⟨_, e_copy _ _ _ _ rfl ti (hT _ _ ht) e s bt hel i q m0 cp hx b hK hs cy hy src m rd hsrc ⟨h.len, h.one, h.fit, trivial⟩, h.k⟩
            · exact h.elim
          · exact h.elim
        · exact h.elim
      · exact h.elim
    · exact h.elim
  case h_21 =>
    split at h
    · rename_i x t ha htt
      have := toList_one ha; subst this
      have := toList_one htt; subst this
      split at h
      · rename_i ti i q m0 c ht hx
        split at h
        · rename_i el hel
          obtain ⟨e, s, bt⟩ := el
          exact ⟨_, (y_cap _ _ rfl ti (hT _ _ ht) e s bt hel i q m0 c hx).eff, h⟩
        · exact h.elim
      · rename_i ti ad m0 c ht hx
        split at h
        · rename_i el hel
          obtain ⟨e, s, bt⟩ := el
          exact ⟨_, (y_capv _ _ rfl ti (hT _ _ ht) e s bt hel ad m0 c hx).eff, h⟩
        · exact h.elim
      · exact h.elim
    · exact h.elim
  case h_22 =>
    split at h
    · rename_i ti kl l kc c ht hx hy
      split at h
      · rename_i e s bt hel
        split at h
        · rename_i te hte
          obtain ⟨l', c', h1, h2, h3, h4, h5, h⟩ := h.h
          exact ⟨_, e_make _ _ _ rfl ti (hT _ _ ht) e s bt hel te (hT _ _ hte) kl kc l c hx hy l' c' h1 h2 h3 h4 h5, h⟩
        · exact h.elim
      · exact h.elim
    · exact h.elim
  case h_23 =>
    split at h
    · rename_i ti ht
      split at h
      · rename_i e s bt hel
        split at h
        · rename_i te avs hte hx hs hl
          split at h
          · rename_i out hout
            exact ⟨_, e_lit _ _ _ rfl ti (hT _ _ ht) e s bt hel te (hT _ _ hte) hs hl avs hx out hout, h⟩
          · exact h.elim
        · exact h.elim
      · exact h.elim
    · exact h.elim
  case h_24 =>
    split at h
    · rename_i ti l hi' ht hl hh
      split at h
      · rename_i e s bt hel
        split at h
        · rename_i i q m0 c hx
          split at h
          · rename_i b hK
            split at h
            · rename_i hs
              obtain ⟨l', h', h1, h2, h3, h4, h⟩ := h.h
              have g1 := intOf_spec hl h1
              have g2 := intOf_spec hh h2
              cases l with
              | none => exact ⟨_, (y_slo _ _ _ _ rfl ti (hT _ _ ht) e s bt hel i q m0 c (.inl hx) b hK hs l' h' g1 g2 h3 h4 (.inl h1)).eff, h⟩
              | some l =>
                rcases h.h with ⟨g3, h⟩ | ⟨g3, h⟩
                · exact ⟨_, (y_slo _ _ _ _ rfl ti (hT _ _ ht) e s bt hel i q m0 c (.inl hx) b hK hs l' h' g1 g2 h3 h4 g3).eff, h⟩
                · exact ⟨_, (y_sle _ _ _ _ rfl ti (hT _ _ ht) e s bt hel i q m0 c hx b hK hs l' h' g1 g2 h3 h4 g3).eff, h⟩
            · exact h.elim
          · exact h.elim
        · rename_i fl s' rows hx
          split at h
          · rename_i hs
            have := Nat.eq_of_beq_eq_true hs; subst this
            obtain ⟨l', h', h1, h2, h3, h4, h⟩ := h.h
            have g1 := intOf_spec hl h1
            have g2 := intOf_spec hh h2
            exact ⟨_, (y_slr _ _ _ _ rfl ti (hT _ _ ht) e _ bt hel fl rows hx l' h' g1 g2 h3 (by rcases h4 with h4 | ⟨c, h4, _⟩; exact h4; cases h4)).eff, h⟩
          · exact h.elim
        · rename_i i rows hx
          split at h
          · rename_i b hK
            split at h
            · rename_i hs
              obtain ⟨h0, h⟩ := h
              obtain ⟨l', h', h1, h2, h3, h4, h⟩ := h.h
              have g1 := intOf_spec hl h1
              have g2 := intOf_spec hh h2
              cases l with
              | none => exact ⟨_, (y_slo _ _ _ _ rfl ti (hT _ _ ht) e s bt hel i 0 rows.length none (.inr ⟨rfl, rfl, rows, rfl, h0, hx⟩) b hK hs l' h' g1 g2 h3 h4 (.inl h1)).eff, h⟩
              | some l => exact ⟨_, (y_slo _ _ _ _ rfl ti (hT _ _ ht) e s bt hel i 0 rows.length none (.inr ⟨rfl, rfl, rows, rfl, h0, hx⟩) b hK hs l' h' g1 g2 h3 h4 h.1).eff, h.2⟩
            · exact h.elim
          · exact h.elim
        · rename_i hx
          obtain ⟨l', h', h1, h2, h3, h4, h⟩ := h.h
          exact ⟨_, (y_sl0 _ _ _ _ rfl ti (hT _ _ ht) e s bt hel hx l' h' (intOf_spec hl h1) (intOf_spec hh h2) h3 (by rcases h4 with h4 | ⟨c, h4, _⟩; exact h4; cases h4)).eff, h⟩
        · exact h.elim
      · exact h.elim
    · exact opB_sound hT h
  case h_25 =>
    split at h
    · rename_i x y ha
      have := toList_two ha; subst this
      split at h
      · rename_i kx p ky q hx hy
        split at h
        · rename_i hk
          have hk := of_decide_eq_true hk
          subst hk
          exact ⟨_, (y_mm false _ _ _ rfl kx p q hx hy).eff, h⟩
        · exact h.elim
      · exact h.elim
    · exact h.elim
  case h_26 =>
    split at h
    · rename_i x y ha
      have := toList_two ha; subst this
      split at h
      · rename_i kx p ky q hx hy
        split at h
        · rename_i hk
          have hk := of_decide_eq_true hk
          subst hk
          exact ⟨_, (y_mm true _ _ _ rfl kx p q hx hy).eff, h⟩
        · exact h.elim
      · exact h.elim
    · exact h.elim
  case h_27 => exact opB_sound hT h
end
end Go.Proofs.Ytllnmdmmmkoiaaa.Wx
