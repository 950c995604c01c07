/-
  Concrete data: an operation's effect, reckoned.
-/
import Derived.Test.YtllnmdmmmkoiaaaWh
namespace Go.Proofs.Ytllnmdmmmkoiaaa.Wx
open Go Go.RowKit
set_option linter.unusedVariables false

/-! ### Tables by number: binary trees -/
inductive Bt (α : Type) where
  | e
  | n (l : Bt α) (v : Option α) (r : Bt α)
namespace Bt
variable {α : Type}
def get : Bt α → Nat → Option α
  | .e, _ => none
  | .n l v r, k => match Nat.beq k 0 with
    | true => v
    | false => match Nat.beq (Nat.mod k 2) 1 with
      | true => l.get (Nat.div k 2)
      | false => r.get (Nat.div (Nat.sub k 1) 2)
/-- Laid at a place that is below 2^d - 1. -/
def put : Nat → Bt α → Nat → Option α → Bt α
  | 0, t, _, _ => t
  | d + 1, .e, k, x => match Nat.beq k 0 with
    | true => .n .e x .e
    | false => match Nat.beq (Nat.mod k 2) 1 with
      | true => .n (put d .e (Nat.div k 2) x) none .e
      | false => .n .e none (put d .e (Nat.div (Nat.sub k 1) 2) x)
  | d + 1, .n l v r, k, x => match Nat.beq k 0 with
    | true => .n l x r
    | false => match Nat.beq (Nat.mod k 2) 1 with
      | true => .n (put d l (Nat.div k 2) x) v r
      | false => .n l v (put d r (Nat.div (Nat.sub k 1) 2) x)
theorem beq_false {a b : Nat} (h : a ≠ b) : Nat.beq a b = false := by
  cases hb : Nat.beq a b with
  | false => rfl
  | true => exact absurd (Nat.eq_of_beq_eq_true hb) h
theorem get_n (l r : Bt α) (v : Option α) (k : Nat) : (Bt.n l v r).get k = if k = 0 then v else if k % 2 = 1 then l.get (k / 2) else r.get ((k - 1) / 2) := by
  show (match Nat.beq k 0 with | true => v | false => match Nat.beq (k % 2) 1 with | true => l.get (k / 2) | false => r.get ((k - 1) / 2)) = _
  by_cases h0 : k = 0
  · subst h0; rfl
  · rw [beq_false h0, if_neg h0]
    by_cases h1 : k % 2 = 1
    · rw [h1]; rfl
    · rw [beq_false h1, if_neg h1]
theorem put_e (d : Nat) (k : Nat) (x : Option α) : put (d + 1) (.e : Bt α) k x = put (d + 1) (.n .e none .e) k x := by
  unfold put
  cases Nat.beq k 0 <;> rfl
theorem get_e' (k : Nat) : (Bt.n .e none .e : Bt α).get k = none := by
  rw [get_n]
  split
  · rfl
  · split <;> rfl
theorem get_put : ∀ (d : Nat) (t : Bt α) (k : Nat) (x : Option α) (j : Nat), k + 1 < 2 ^ d → (put d t k x).get j = if j = k then x else t.get j
  | 0, t, k, x, j, h => by omega
  | d + 1, .e, k, x, j, h => by
    rw [put_e, get_put_n d .e none .e k x j h]
    split
    · rfl
    · rw [get_e']; rfl
  | d + 1, .n l v r, k, x, j, h => get_put_n d l v r k x j h
where
  get_put_n : ∀ (d : Nat) (l : Bt α) (v : Option α) (r : Bt α) (k : Nat) (x : Option α) (j : Nat), k + 1 < 2 ^ (d + 1) → (put (d + 1) (.n l v r) k x).get j = if j = k then x else (Bt.n l v r).get j := by
    intro d l v r k x j h
    rw [Nat.pow_succ] at h
    unfold put
    by_cases h0 : k = 0
    · subst h0
      show (Bt.n l x r).get j = _
      rw [get_n, get_n]
      by_cases hj : j = 0
      · rw [if_pos hj, if_pos hj]
      · rw [if_neg hj, if_neg hj, if_neg hj]
    · rw [beq_false h0]
      by_cases h1 : k % 2 = 1
      · have e1 : Nat.beq (Nat.mod k 2) 1 = true := by show Nat.beq (k % 2) 1 = true; rw [h1]; rfl
        rw [e1]
        show (Bt.n (put d l (k / 2) x) v r).get j = _
        rw [get_n, get_n]
        by_cases hj : j = 0
        · rw [if_pos hj, if_neg (by omega), if_pos hj]
        · rw [if_neg hj, if_neg hj]
          by_cases hj1 : j % 2 = 1
          · rw [if_pos hj1, if_pos hj1, get_put d l (k / 2) x (j / 2) (by omega)]
            by_cases he : j = k
            · subst he; simp
            · rw [if_neg he, if_neg (by omega)]
          · rw [if_neg hj1, if_neg hj1, if_neg (by rintro rfl; exact hj1 h1)]
      · have e1 : Nat.beq (Nat.mod k 2) 1 = false := beq_false h1
        rw [e1]
        show (Bt.n l v (put d r ((k - 1) / 2) x)).get j = _
        rw [get_n, get_n]
        by_cases hj : j = 0
        · rw [if_pos hj, if_neg (by omega), if_pos hj]
        · rw [if_neg hj, if_neg hj]
          by_cases hj1 : j % 2 = 1
          · rw [if_pos hj1, if_pos hj1, if_neg (by rintro rfl; exact h1 hj1)]
          · rw [if_neg hj1, if_neg hj1, get_put d r ((k - 1) / 2) x ((j - 1) / 2) (by omega)]
            by_cases he : j = k
            · subst he; simp
            · rw [if_neg he, if_neg (by omega)]
end Bt
/-! ### Operations -/
def natOf : Int → Option Nat
  | .ofNat n => some n
  | .negSucc _ => none
theorem natOf_spec {z : Int} {n : Nat} (h : natOf z = some n) : z = (n : Int) := by
  cases z with
  | ofNat m => simp only [natOf, Option.some.injEq] at h; subst h; rfl
  | negSucc m => cases h
def mkB (l c : Int) (bt : Nat) : Option (Nat × Nat) :=
  match natOf l, natOf c with
  | some l', some c' => match Nat.ble l' c', Nat.ble c' maxLen, Nat.ble (bt * c') 140737488355328 with
    | true, true, true => some (l', c')
    | _, _, _ => none
  | _, _ => none
theorem mkB_spec {l c : Int} {bt l' c' : Nat} (h : mkB l c bt = some (l', c')) : l = (l' : Int) ∧ c = (c' : Int) ∧ l' ≤ c' ∧ c' ≤ maxLen ∧ bt * c' ≤ 140737488355328 := by
  unfold mkB at h
  split at h
  · rename_i a b h1 h2
    split at h
    · rename_i g1 g2 g3
      simp only [Option.some.injEq, Prod.mk.injEq] at h
      obtain ⟨rfl, rfl⟩ := h
      exact ⟨natOf_spec h1, natOf_spec h2, Nat.le_of_ble_eq_true g1, Nat.le_of_ble_eq_true g2, Nat.le_of_ble_eq_true g3⟩
    · cases h
  · cases h
def bndE (o : Option Int) (d : Nat) : Option Nat :=
  match o with
  | none => some d
  | some x => natOf x
theorem bndE_spec {o : Option Int} {d l : Nat} (h : bndE o d = some l) : bnd o l d := by
  cases o with
  | none => simp only [bndE, Option.some.injEq] at h; exact h.symm
  | some x => exact natOf_spec h
/-- Bounds of a slice of a slice. -/
def slB (lo hi : Option Int) (len : Nat) (cap : Option Nat) : Option (Nat × Nat) :=
  match bndE lo 0, bndE hi len with
  | some l, some h => match Nat.ble l h, (match Nat.ble h len with | true => true | false => match cap with | some c => Nat.ble h c | none => false) with
    | true, true => some (l, h)
    | _, _ => none
  | _, _ => none
theorem slB_spec {lo hi : Option Int} {len : Nat} {cap : Option Nat} {l h : Nat} (hh : slB lo hi len cap = some (l, h)) : bnd lo l 0 ∧ bnd hi h len ∧ l ≤ h ∧ (h ≤ len ∨ ∃ c, cap = some c ∧ h ≤ c) := by
  unfold slB at hh
  split at hh
  · rename_i a b h1 h2
    split at hh
    · rename_i g1 g2
      simp only [Option.some.injEq, Prod.mk.injEq] at hh
      obtain ⟨rfl, rfl⟩ := hh
      refine ⟨bndE_spec h1, bndE_spec h2, Nat.le_of_ble_eq_true g1, ?_⟩
      split at g2
      · rename_i g; exact .inl (Nat.le_of_ble_eq_true g)
      · split at g2
        · rename_i c; exact .inr ⟨c, rfl, Nat.le_of_ble_eq_true g2⟩
        · cases g2
    · cases hh
  · cases hh
def neB (l h : Nat) (lo : Option Int) : Bool :=
  match lo with
  | none => true
  | some _ => match Nat.beq l 0 with | true => true | false => Nat.blt l h
theorem neB_spec {l h : Nat} {lo : Option Int} (hb : bnd lo l 0) (hh : neB l h lo = true) : l = 0 ∨ l < h := by
  cases lo with
  | none => exact .inl hb
  | some x =>
    unfold neB at hh
    simp only at hh
    split at hh
    · rename_i g; exact .inl (Nat.eq_of_beq_eq_true g)
    · simp only [Nat.blt_eq] at hh; exact .inr hh
/-- Surely more than there is room for? -/
def aprOk (m0 m L : Nat) (cp : Option Nat) (src : List (List Ce)) : Bool :=
  (match cp with | some c => Nat.ble (m0 + m) c | none => false) && Nat.beq src.length m && Nat.ble (m0 + m) L && src.all (fun r => r.all Ce.single)
theorem aprOk_spec {m0 m L : Nat} {cp : Option Nat} {src : List (List Ce)} (h : aprOk m0 m L cp src = true) : aprN m0 m L cp src True := by
  simp only [aprOk, Bool.and_eq_true] at h
  obtain ⟨⟨⟨h1, h2⟩, h3⟩, h4⟩ := h
  refine ⟨?_, Nat.eq_of_beq_eq_true h2, fun r hr c hc => List.all_eq_true.1 (List.all_eq_true.1 h4 r hr) c hc, Nat.le_of_ble_eq_true h3, trivial⟩
  cases cp with
  | none => cases h1
  | some c => exact ⟨c, rfl, Nat.le_of_ble_eq_true h1⟩
def growB : Option Nat → Nat → Bool
  | some c, n => Nat.blt c n
  | none, _ => false
theorem growB_spec {c : Option Nat} {n : Nat} (h : growB c n = true) : ∃ c0, c = some c0 ∧ c0 < n := by
  cases c with
  | none => cases h
  | some c0 => exact ⟨c0, rfl, by simpa [growB, Nat.blt_eq] using h⟩
def opE (T : Tab) (o : Oper) (F : Nat → Option AV) (K : Nat → Option Blk) (top : Nat) : Option Eff :=
  match o.op with
  | .move x => match evf F x with
    | some v => some ⟨v, [], [], top⟩
    | none => none
  | .assign x => match evf F x with
    | some v => some ⟨v, [], [], top⟩
    | none => none
  | .pick c x y => match evf F c with
    | some (.pl (.one (.v (.bool true)))) => match evf F x with
      | some v => some ⟨v, [], [], top⟩
      | none => none
    | some (.pl (.one (.v (.bool false)))) => match evf F y with
      | some v => some ⟨v, [], [], top⟩
      | none => none
    | _ => none
  | .nilCheck x => match evf F x with
    | some (.pl (.one (.own i q l))) => some ⟨.c (.own i q l), [], [], top⟩
    | some (.pl (.one (.rp fl row l))) => some ⟨.c (.rp fl row l), [], [], top⟩
    | some (.pl (.one (.fn f cap))) => some ⟨.c (.fn f cap), [], [], top⟩
    | _ => none
  | .unOp .not _ x => match evf F x with
    | some (.pl (.one (.v (.bool b)))) => some ⟨.val (.bool (!b)), [], [], top⟩
    | _ => none
  | .binOp op t x y _ => match evf F x, evf F y with
    | some (.pl (.one (.v (.int kx p)))), some (.pl (.one (.v (.int ky q)))) => match op with
      | .shl => match decide (0 ≤ q) with
        | true => some ⟨.val (.int kx (kx.wrap (p * 2 ^ (min q.toNat kx.bits)))), [], [], top⟩
        | false => none
      | .shr => match decide (0 ≤ q) with
        | true => some ⟨.val (.int kx (p.fdiv (2 ^ (min q.toNat kx.bits)))), [], [], top⟩
        | false => none
      | op => match decide (kx = ky) with
        | true => match op with
          | .add => some ⟨.val (.int kx (kx.wrap (p + q))), [], [], top⟩
          | .sub => some ⟨.val (.int kx (kx.wrap (p - q))), [], [], top⟩
          | .mul => some ⟨.val (.int kx (kx.wrap (p * q))), [], [], top⟩
          | .quo => match decide (q = 0) with
            | false => some ⟨.val (.int kx (kx.wrap (p.tdiv q))), [], [], top⟩
            | true => none
          | .rem => match decide (q = 0) with
            | false => some ⟨.val (.int kx (p.tmod q)), [], [], top⟩
            | true => none
          | op => match cmpOp op p q with
            | some r => some ⟨.val (.bool r), [], [], top⟩
            | none => none
        | false => none
    | some (.pl (.one (.v (.bool p)))), some (.pl (.one (.v (.bool q)))) => match tyGet T t with
      | some ti => match ti.isB, op with
        | true, .eql => some ⟨.val (.bool (p == q)), [], [], top⟩
        | true, .neq => some ⟨.val (.bool (p != q)), [], [], top⟩
        | _, _ => none
      | none => none
    | some (.pl (.agg xs)), some (.pl (.agg ys)) => match tyGet T t with
      | some ti => match ti.eqk with
        | some ks => match eqC ks xs ys, op with
          | some r, .eql => some ⟨.val (.bool r), [], [], top⟩
          | some r, .neq => some ⟨.val (.bool (!r)), [], [], top⟩
          | _, _ => none
        | none => none
      | none => none
    | some (.pl (.one c)), some (.pl (.one (.v (.slice none _ _)))) => match tyGet T t with
      | some ti => match ti.elem, nilOf c, op with
        | some _, some r, .eql => some ⟨.val (.bool r), [], [], top⟩
        | some _, some r, .neq => some ⟨.val (.bool (!r)), [], [], top⟩
        | _, _, _ => none
      | none => none
    | _, _ => none
  | .convert s d x => match tyGet T s, tyGet T d, evf F x with
    | some i, some j, some (.pl (.one (.v (.int kk p)))) => match i.ikind, j.ikind with
      | some _, some kd => some ⟨.val (.int kd (kd.wrap p)), [], [], top⟩
      | _, _ => none
    | _, _, _ => none
  | .extract x i => match evf F x with
    | some (.tup l) => match l[i]? with
      | some c => some ⟨.pl c, [], [], top⟩
      | none => none
    | _ => none
  | .makeFunc (.func f) first caps => match first.toList, ptsOf F caps.toList with
    | [], some ps => some ⟨.c (.fn f ps), [], [], top⟩
    | _, _ => none
  | .fieldAddr s x f => match tyGet T s with
    | some ti => match ti.offs[f]? with
      | some (off, sz, _) => match Nat.blt 0 sz, evf F x with
        | true, some (.pl (.one (.own i q l))) => some ⟨.c (.own i q (l + off)), [], [], top⟩
        | true, some (.pl (.one (.rp fl row l))) => some ⟨.c (.rp fl row (l + off)), [], [], top⟩
        | _, _ => none
      | none => none
    | none => none
  | .field s x f => match tyGet T s with
    | some ti => match ti.offs[f]? with
      | some (off, sz, r) => match Nat.blt 0 sz, evf F x with
        | true, some (.pl (.agg cs)) => match cut r off sz cs with
          | some v => some ⟨.pl v, [], [], top⟩
          | none => none
        | _, _ => none
      | none => none
    | none => none
  | .load t x => match tyGet T t, evf F x with
    | some ti, some (.pl (.one (.own i q l))) => match K i with
      | some b => match b.rows[q]? with
        | some row => match cut ti.row l ti.size row with
          | some v => some ⟨.pl v, [i], [], top⟩
          | none => none
        | none => none
      | none => none
    | some ti, some (.pl (.one (.rp fl row l))) => match cut ti.row l ti.size (row.map (RT.ce fl)) with
      | some v => some ⟨.pl v, [], [], top⟩
      | none => none
    | _, _ => none
  | .store t x y => match o.dst, tyGet T t, evf F x, evf F y with
    | none, some ti, some (.pl (.one (.own i q l))), some (.pl v) => match K i with
      | some b => match b.rows[q]? with
        | some row => match Nat.beq v.cells.length ti.size, v.cells.all Ce.single, Nat.ble (l + v.cells.length) row.length with
          | true, true, true => some ⟨.val undef, [i], [(i, some ⟨b.rows.set q (spl row l v.cells), b.sz, b.ty, b.bx⟩)], top⟩
          | _, _, _ => none
        | none => none
      | none => none
    | _, _, _, _ => none
  | .alloc t => match tyGet T t with
    | some ti => some ⟨.c (.own top 0 0), [], [(top, some ⟨[ti.zero.map .v], (ti.zero.map Ce.v).length, t, true⟩)], top + 1⟩
    | none => none
  | .box t x => match evf F x with
    | some (.pl v) => match v.cells.all Ce.single with
      | true => some ⟨.c (.own top 0 0), [], [(top, some ⟨[v.cells], v.cells.length, t, true⟩)], top + 1⟩
      | false => none
    | _ => none
  | .build t ps => match tyGet T t with
    | some ti => match (match ti.offs with | [] => false | _ => ti.offs.all fun x => Nat.blt 0 x.2.1), evb F ps.toList with
      | true, some avs => match fillC ti.offs (ti.zero.map .v) avs with
        | some out => some ⟨.pl (.agg out), [], [], top⟩
        | none => none
      | _, _ => none
    | none => none
  | .indexAddr t x y => match tyGet T t, evf F y with
    | some ti, some (.pl (.one (.v (.int _ j)))) => match ti.elem with
      | some (_, s, _) => match evf F x with
        | some (.pl (.one (.osl i q m c))) => match K i with
          | some b => match Nat.beq b.sz s, natOf j with
            | true, some j' => match Nat.blt j' m with
              | true => some ⟨.c (.own i (q + j') 0), [i], [], top⟩
              | false => none
            | _, _ => none
          | none => none
        | some (.pl (.one (.ro fl sz rows))) => match Nat.beq sz s, natOf j with
          | true, some j' => match rows[j']? with
            | some row => some ⟨.c (.rp fl row 0), [], [], top⟩
            | none => none
          | _, _ => none
        | _ => none
      | none => match ti.arr with
        | some (m, s, _) => match evf F x, natOf j with
          | some (.pl (.one (.own i q l))), some j' => match Nat.blt j' m with
            | true => some ⟨.c (.own i q (l + j' * s)), [], [], top⟩
            | false => none
          | some (.pl (.one (.rp fl row l))), some j' => match Nat.blt j' m with
            | true => some ⟨.c (.rp fl row (l + j' * s)), [], [], top⟩
            | false => none
          | _, _ => none
        | none => none
    | _, _ => none
  | .call ⟨.builtin .len, args, tys⟩ => match args.toList, tys.toList with
    | [x], [t] => match tyGet T t with
      | some ti => match ti.elem with
        | some _ => match evf F x with
          | some (.pl (.one (.osl _ _ m _))) => some ⟨.val (.int .i64 m), [], [], top⟩
          | some (.pl (.one (.ro _ _ rows))) => some ⟨.val (.int .i64 rows.length), [], [], top⟩
          | some (.pl (.one (.v (.slice _ m _)))) => some ⟨.val (.int .i64 m), [], [], top⟩
          | _ => none
        | none => none
      | none => none
    | _, _ => none
  | .call ⟨.builtin .append, args, tys⟩ => match args.toList, tys.toList with
    | [x, y], [t, t'] => match Nat.beq t t', tyGet T t, evf F y with
      | false, some ti, some (.pl (.one (.v (.int _ j)))) => match tyGet T t', natOf j with
        | some tj, some m => match tj.ikind, ti.elem with
          | some _, some (e, s, bt) => match tyGet T e, evf F x with
            | some te, some (.pl (.one (.osl i 0 m0 cp))) => match K i with
              | some b => match growB cp (m0 + m), Nat.beq b.sz s, Nat.beq b.ty e, Nat.ble m0 b.rows.length, Nat.ble (m0 + m) maxLen, Nat.ble ((m0 + m) * bt) 140737488355328, te.zero.all fun v => v.oneCell' with
                | true, true, _, true, true, true, true => some ⟨.c (.osl top 0 (m0 + m) none), [i], [(top, some ⟨b.rows.take m0 ++ List.replicate m (te.zero.map .v), s, e, false⟩)], top + 1⟩
                | false, true, true, true, true, true, true => some ⟨.c (.osl top 0 (m0 + m) none), [i], [(i, none), (top, some ⟨b.rows.take m0 ++ List.replicate m (te.zero.map .v), s, e, false⟩)], top + 1⟩
                | _, _, _, _, _, _, _ => none
              | none => none
            | _, _ => none
          | _, _ => none
        | _, _ => none
      | true, some ti, some (.pl (.one cy)) => match ti.elem with
        | some (e, s, bt) => match srcOf0 K s cy with
          | some (src, m, rd) => match evf F x with
            | some (.pl (.one (.osl i 0 m0 cp))) => match K i with
              | some b => match aprOk m0 m b.rows.length cp src && Nat.beq b.sz s with
                | true => some ⟨.c (.osl i 0 (m0 + m) cp), i :: rd, [(i, some ⟨lay b.rows m0 src, b.sz, b.ty, b.bx⟩)], top⟩
                | false => match growB cp (m0 + m), Nat.beq b.sz s, Nat.beq b.ty e, apdOk m0 b.rows.length m src bt with
                  | true, true, _, true => some ⟨.c (.osl top 0 (m0 + m) none), i :: rd, [(top, some ⟨b.rows.take m0 ++ src, s, e, false⟩)], top + 1⟩
                  | false, true, true, true => some ⟨.c (.osl top 0 (m0 + m) none), i :: rd, [(i, none), (top, some ⟨b.rows.take m0 ++ src, s, e, false⟩)], top + 1⟩
                  | _, _, _, _ => none
              | none => none
            | some (.pl (.one (.v (.slice none 0 0)))) => match Nat.blt 0 m, apdOk 0 0 m src bt with
              | true, true => some ⟨.c (.osl top 0 m none), rd, [(top, some ⟨src, s, e, false⟩)], top + 1⟩
              | false, _ => some ⟨.val (.slice none 0 0), rd, [], top⟩
              | _, _ => none
            | _ => none
          | none => none
        | none => none
      | _, _, _ => none
    | _, _ => none
  | .call ⟨.builtin .copy, args, tys⟩ => match args.toList, tys.toList with
    | [x, y], [t, t'] => match tyGet T t, evf F x, evf F y with
      | some ti, some (.pl (.one (.osl i q m0 _))), some (.pl (.one cy)) => match ti.elem with
        | some (_, s, _) => match K i, srcOf0 K s cy with
          | some b, some (src, m, rd) => match Nat.beq b.sz s, cpyOk q m0 b.rows.length m src with
            | true, true => some ⟨.val (.int .i64 (Nat.min m m0 : Nat)), i :: rd, [(i, some ⟨lay b.rows q (src.take (Nat.min m m0)), b.sz, b.ty, b.bx⟩)], top⟩
            | _, _ => none
          | _, _ => none
        | none => none
      | _, _, _ => none
    | _, _ => none
  | .call ⟨.builtin .cap, args, tys⟩ => match args.toList, tys.toList with
    | [x], [t] => match tyGet T t, evf F x with
      | some ti, some (.pl (.one (.osl _ _ _ (some c)))) => match ti.elem with
        | some _ => some ⟨.val (.int .i64 c), [], [], top⟩
        | none => none
      | _, _ => none
    | _, _ => none
  | .makeSlice t x y => match tyGet T t, evf F x, evf F y with
    | some ti, some (.pl (.one (.v (.int _ l)))), some (.pl (.one (.v (.int _ c)))) => match ti.elem with
      | some (e, s, bt) => match tyGet T e, mkB l c bt with
        | some te, some (l', c') => some ⟨.c (.osl top 0 l' (some c')), [], [(top, some ⟨List.replicate l' (te.zero.map .v), s, e, false⟩)], top + 1⟩
        | _, _ => none
      | none => none
    | _, _, _ => none
  | .buildSlice t len ps => match tyGet T t with
    | some ti => match ti.elem with
      | some (e, s, bt) => match tyGet T e, evb F ps.toList, Nat.blt 0 s, Nat.ble (len * s) 16777216 with
        | some te, some avs, true, true => match fillC ((List.range len).map fun i => (i * s, s, false)) (List.replicate len (te.zero.map Ce.v)).flatten avs with
          | some out => some ⟨.c (.osl top 0 len (some len)), [], [(top, some ⟨(List.range len).map fun q => (out.drop (q * s)).take s, s, e, false⟩)], top + 1⟩
          | none => none
        | _, _, _, _ => none
      | none => none
    | none => none
  | .slice t x lo hi mx => match mx, tyGet T t, intOf' F lo, intOf' F hi with
    | none, some ti, some l, some h => match ti.elem with
      | some (_, s, _) => match evf F x with
        | some (.pl (.one (.osl i q m c))) => match K i with
          | some b => match Nat.beq b.sz s, slB l h m c with
            | true, some (l', h') => match neB l' h' l with
              | true => some ⟨.c (.osl i (q + l') (h' - l') (c.map (· - l'))), [i], [], top⟩
              | false => match Nat.beq l' h' with
                | true => some ⟨.c (.ro true s []), [i], [], top⟩
                | false => none
            | _, _ => none
          | none => none
        | some (.pl (.one (.ro fl s' rows))) => match Nat.beq s' s, slB l h rows.length none with
          | true, some (l', h') => some ⟨.c (.ro fl s' ((rows.drop l').take (h' - l'))), [], [], top⟩
          | _, _ => none
        | some (.pl (.one (.v (.slice none 0 0)))) => match slB l h 0 none with
          | some (l', h') => some ⟨.val (.slice none 0 0), [], [], top⟩
          | none => none
        | _ => none
      | none => none
    | _, _, _, _ => none
  | .call ⟨.builtin .min, args, tys⟩ => match args.toList with
    | [x, y] => match evf F x, evf F y with
      | some (.pl (.one (.v (.int kx p)))), some (.pl (.one (.v (.int ky q)))) => match decide (kx = ky) with
        | true => some ⟨.val (.int kx (min p q)), [], [], top⟩
        | false => none
      | _, _ => none
    | _ => none
  | .call ⟨.builtin .max, args, tys⟩ => match args.toList with
    | [x, y] => match evf F x, evf F y with
      | some (.pl (.one (.v (.int kx p)))), some (.pl (.one (.v (.int ky q)))) => match decide (kx = ky) with
        | true => some ⟨.val (.int kx (max p q)), [], [], top⟩
        | false => none
      | _, _ => none
    | _ => none
  | _ => none
theorem e_appendo {P : Program} {o : Oper} {F0 : Nat → Option AV} {K0 : Nat → Option Blk} {top : Nat} (x y : Operand) (t : TypeId) (ho : o.op = .call ⟨.builtin .append, #[x, y], #[t, t]⟩) (ti : TI) (ht : tiOf P t = some ti) (e s bt : Nat) (hel : ti.elem = some (e, s, bt)) (hx : evf F0 x = some (.val (.slice none 0 0)))
    (cy : Ce) (hy : evf F0 y = some (.c cy)) (src : List (List Ce)) (m : Nat) (rd : List Nat) (hsrc : srcOf K0 s cy = some (src, m, rd)) (h0 : 0 < m) (hn : apdN 0 0 m src bt True) :
    OpEff P o F0 K0 top ⟨.c (.osl top 0 m none), rd, [(top, some ⟨src, s, e, false⟩)], top + 1⟩ := by
  intro n W F K I R a w hst hxx hk hf hd next Q hnext
  have hm : ∀ z ∈ [x, y], evf F z = evf F0 z := fun z hz => hxx z (by simpa [ho, Op.operands, Call.operands] using hz)
  have hu := ev_plain hst ((hm x (by simp)).trans hx)
  have hvy := hst.ev ((hm y (by simp)).trans hy)
  have htop := (hf top (Nat.le_refl _) (by simp)).1
  have h1 := hn.max
  have h2 := hn.room
  rw [Nat.zero_add] at h1 h2
  obtain ⟨g, cn, w', hrun, h3, h4⟩ := append_nil hst.wd (ty := o.type) ht hel htop (srcOf_agree hk hsrc) hn.len h0 hvy h1 h2
  have hsl := hn.len
  unfold Oper.wp
  rw [builtin_append o x y t ho a.eval w (by rw [hu]; exact hrun)]
  exact hnext _ _ _ _ (hst.put (.ext htop) (.refl _) h4 hd ⟨⟨g, s, cn⟩, cn, by simp [Wx.ext], by simp, h3, by simp, fun _ h => (by cases h)⟩) (.ext htop) dom_ext (.refl _)
theorem blt0 {m : Nat} (h : Nat.blt 0 m = false) : m = 0 := by
  have h2 : ¬ Nat.blt 0 m = true := by rw [h]; simp
  rw [Nat.blt_eq] at h2
  omega
theorem apdOk_spec {m0 L m : Nat} {src : List (List Ce)} {bt : Nat} (h : apdOk m0 L m src bt = true) : apdN m0 L m src bt True := apd_mkc h trivial
theorem cpyOk_spec {q n L m : Nat} {src : List (List Ce)} (h : cpyOk q n L m src = true) : cpyN q n L m src True := cpy_mkc h trivial
theorem cmpOp_int {op : BinOp} {p q : Int} {r : Bool} (h : cmpOp op p q = some r) : True := trivial
section
variable {P : Program} {T : Tab} {o : Oper} {F : Nat → Option AV} {K : Nat → Option Blk} {top : Nat} {e : Eff}
theorem opE_sound (hT : TabOk P T) (h : opE T o F K top = some e) : OpEff P o F K top e := by
  obtain ⟨dst, op, ty, pos, after, guard⟩ := o
  unfold opE at h
  dsimp only at h
  split at h
  case h_1 =>
    split at h
    · rename_i v hv; cases h; exact (y_move _ (.inl rfl) v hv).eff
    · cases h
  case h_2 =>
    split at h
    · rename_i v hv; cases h; exact (y_move _ (.inr rfl) v hv).eff
    · cases h
  case h_3 =>
    split at h
    · rename_i hb
      split at h
      · rename_i v hv; cases h; exact (y_pick _ _ _ rfl true hb v (fun _ => hv) (fun h => by cases h)).eff
      · cases h
    · rename_i hb
      split at h
      · rename_i v hv; cases h; exact (y_pick _ _ _ rfl false hb v (fun h => by cases h) (fun _ => hv)).eff
      · cases h
    · cases h
  case h_4 =>
    split at h
    · rename_i i q l hx; cases h; exact (y_nilc _ rfl _ hx rfl).eff
    · rename_i fl row l hx; cases h; exact (y_nilc _ rfl _ hx rfl).eff
    · rename_i f cap hx; cases h; exact (y_nilc _ rfl _ hx rfl).eff
    · cases h
  case h_5 =>
    split at h
    · rename_i b hx; cases h; exact (y_not _ _ rfl b hx).eff
    · cases h
  case h_6 =>
    split at h
    · rename_i kx p ky q hx hy
      split at h
      · split at h
        · rename_i hz; cases h; exact (y_shift _ _ _ _ _ rfl kx ky p q hx hy (of_decide_eq_true hz) _ (.inl ⟨rfl, rfl⟩)).eff
        · cases h
      · split at h
        · rename_i hz; cases h; exact (y_shift _ _ _ _ _ rfl kx ky p q hx hy (of_decide_eq_true hz) _ (.inr ⟨rfl, rfl⟩)).eff
        · cases h
      · split at h
        · rename_i hk
          have hk := of_decide_eq_true hk
          subst hk
          split at h
          · cases h; exact (y_int _ _ _ _ _ rfl kx p q hx hy _ (by simp [intOp])).eff
          · cases h; exact (y_int _ _ _ _ _ rfl kx p q hx hy _ (by simp [intOp])).eff
          · cases h; exact (y_int _ _ _ _ _ rfl kx p q hx hy _ (by simp [intOp])).eff
          · split at h
            · rename_i hz; cases h; exact (y_div _ _ _ _ _ rfl kx p q hx hy (of_decide_eq_false hz) _ (.inl ⟨rfl, rfl⟩)).eff
            · cases h
          · split at h
            · rename_i hz; cases h; exact (y_div _ _ _ _ _ rfl kx p q hx hy (of_decide_eq_false hz) _ (.inr ⟨rfl, rfl⟩)).eff
            · cases h
          · split at h
            · rename_i r hr; cases h; exact (y_cmp _ _ _ _ _ rfl kx p q hx hy _ hr).eff
            · cases h
        · cases h
    · rename_i p q hx hy
      split at h
      · rename_i ti ht
        split at h
        · rename_i hb; cases h; exact (y_bool _ _ _ _ _ rfl p q hx hy (tiOf_bool (hT _ _ ht) hb) _ (.inl ⟨rfl, rfl⟩)).eff
        · rename_i hb; cases h; exact (y_bool _ _ _ _ _ rfl p q hx hy (tiOf_bool (hT _ _ ht) hb) _ (.inr ⟨rfl, rfl⟩)).eff
        · cases h
      · cases h
    · rename_i xs ys hx hy
      split at h
      · rename_i ti ht
        split at h
        · rename_i ks hks
          split at h
          · rename_i r hr; cases h; exact (y_eqS _ _ _ _ _ rfl ti (hT _ _ ht) ks hks xs ys hx hy r hr _ (.inl ⟨rfl, rfl⟩)).eff
          · rename_i r hr; cases h; exact (y_eqS _ _ _ _ _ rfl ti (hT _ _ ht) ks hks xs ys hx hy r hr _ (.inr ⟨rfl, rfl⟩)).eff
          · cases h
        · cases h
      · cases h
    · rename_i c l m hx hy
      split at h
      · rename_i ti ht
        split at h
        · rename_i hel hr; cases h; exact (y_eqN _ _ _ _ _ rfl ti (hT _ _ ht) _ hel _ hx _ _ hy _ hr _ (.inl ⟨rfl, rfl⟩)).eff
        · rename_i hel hr; cases h; exact (y_eqN _ _ _ _ _ rfl ti (hT _ _ ht) _ hel _ hx _ _ hy _ hr _ (.inr ⟨rfl, rfl⟩)).eff
        · cases h
      · cases h
    · cases h
  case h_7 =>
    split at h
    · rename_i i j kk p hi hj hx
      split at h
      · rename_i ks kd h1 h2
        cases h
        exact (y_conv _ _ _ rfl i j kd ks (hT _ _ hi) (hT _ _ hj) h1 h2 kk p hx).eff
      · cases h
    · cases h
  case h_8 =>
    split at h
    · rename_i l hx
      split at h
      · rename_i c hc; cases h; exact (y_extract _ _ rfl l hx c hc).eff
      · cases h
    · cases h
  case h_9 =>
    split at h
    · rename_i ps h1 h2
      have := toList_nil h1
      subst this
      cases h
      exact (y_func _ _ rfl ps (ptsOf_all h2)).eff
    · cases h
  case h_10 =>
    split at h
    · rename_i ti ht
      split at h
      · rename_i off sz r hf
        split at h
        · rename_i i q l hz hx; cases h; exact (y_fieldAddr _ _ _ rfl ti (hT _ _ ht) off sz r hf hz _ _ hx rfl).eff
        · rename_i fl row l hz hx; cases h; exact (y_fieldAddr _ _ _ rfl ti (hT _ _ ht) off sz r hf hz _ _ hx rfl).eff
        · cases h
      · cases h
    · cases h
  case h_11 =>
    split at h
    · rename_i ti ht
      split at h
      · rename_i off sz r hf
        split at h
        · rename_i cs hz hx
          split at h
          · rename_i v hv; cases h; exact (y_field _ _ _ rfl ti (hT _ _ ht) off sz r hf hz cs hx v hv).eff
          · cases h
        · cases h
      · cases h
    · cases h
  case h_12 =>
    split at h
    · rename_i ti i q l ht hx
      split at h
      · rename_i b hb
        split at h
        · rename_i row hr
          split at h
          · rename_i v hv; cases h; exact (y_load _ _ rfl ti (hT _ _ ht) i q l hx b hb row hr v hv).eff
          · cases h
        · cases h
      · cases h
    · rename_i ti fl row l ht hx
      split at h
      · rename_i v hv; cases h; exact (y_loadr _ _ rfl ti (hT _ _ ht) fl row l hx v hv).eff
      · cases h
    · cases h
  case h_13 =>
    split at h
    · rename_i ti i q l v ht hx hy
      split at h
      · rename_i b hb
        split at h
        · rename_i row hr
          split at h
          · rename_i h1 h2 h3; cases h; exact e_store _ _ _ rfl rfl ti (hT _ _ ht) i q l hx b hb row hr v hy h1 h2 h3
          · cases h
        · cases h
      · cases h
    · cases h
  case h_14 =>
    split at h
    · rename_i ti ht; cases h; exact e_alloc _ rfl ti (hT _ _ ht)
    · cases h
  case h_15 =>
    split at h
    · rename_i v hx
      split at h
      · rename_i h1; cases h; exact e_box _ _ rfl v hx h1
      · cases h
    · cases h
  case h_16 =>
    split at h
    · rename_i ti ht
      split at h
      · rename_i avs ho hx
        split at h
        · rename_i out hout; cases h; exact (y_build _ _ rfl ti (hT _ _ ht) ho avs hx out hout).eff
        · cases h
      · cases h
    · cases h
  case h_17 =>
    split at h
    · rename_i ti kj j ht hy
      split at h
      · rename_i e s bt hel
        split at h
        · rename_i i q m c hx
          split at h
          · rename_i b hb
            split at h
            · rename_i j' hs hj
              split at h
              · rename_i hlt
                cases h
                exact (y_index _ _ _ rfl ti (hT _ _ ht) e s bt hel i q m c (.inl hx) b hb hs kj j hy j' (natOf_spec hj) (by simpa [Nat.blt_eq] using hlt)).eff
              · cases h
            · cases h
          · cases h
        · rename_i fl sz rows hx
          split at h
          · rename_i j' hs hj
            split at h
            · rename_i row hr
              cases h
              exact (y_indexr _ _ _ rfl ti (hT _ _ ht) e s bt hel fl sz rows hx hs kj j hy j' (natOf_spec hj) row hr).eff
            · cases h
          · cases h
        · cases h
      · split at h
        · rename_i m s r hel
          split at h
          · rename_i i q l j' hx hj
            split at h
            · rename_i hlt; cases h; exact (y_indexa _ _ _ rfl ti (hT _ _ ht) m s r hel _ _ hx kj j hy j' (natOf_spec hj) (by simpa [Nat.blt_eq] using hlt) rfl).eff
            · cases h
          · rename_i fl row l j' hx hj
            split at h
            · rename_i hlt; cases h; exact (y_indexa _ _ _ rfl ti (hT _ _ ht) m s r hel _ _ hx kj j hy j' (natOf_spec hj) (by simpa [Nat.blt_eq] using hlt) rfl).eff
            · cases h
          · cases h
        · cases h
    · cases h
  case h_18 =>
    split at h
    · rename_i x t ha ht'
      have := toList_one ha; subst this
      have := toList_one ht'; subst this
      split at h
      · rename_i ti ht
        split at h
        · rename_i el hel
          obtain ⟨e, s, bt⟩ := el
          split at h
          · rename_i i q m c hx; cases h; exact (y_len _ _ rfl ti (hT _ _ ht) e s bt hel _ hx m rfl).eff
          · rename_i fl sz rows hx; cases h; exact (y_len _ _ rfl ti (hT _ _ ht) e s bt hel _ hx rows.length rfl).eff
          · rename_i ad m cap hx; cases h; exact (y_len _ _ rfl ti (hT _ _ ht) e s bt hel _ hx m rfl).eff
          · cases h
        · cases h
      · cases h
    · cases h
  case h_19 =>
    split at h
    · rename_i x y t t' ha htt
      have := toList_two ha; subst this
      have := toList_two htt; subst this
      split at h
      · rename_i ti kj j hb ht hy
        split at h
        · rename_i tj m htn hj
          split at h
          · rename_i kk e s bt hkk hel
            split at h
            · rename_i te i m0 cp hte hx
              split at h
              · rename_i b hK
                split at h
                · rename_i h0 h1 h3 h4 h5 h6
                  obtain ⟨c0, rfl, hgt⟩ := growB_spec h0
                  cases h
                  exact e_appendz_new _ _ _ _ rfl ti (hT _ _ ht) tj (hT _ _ htn) kk hkk e s bt hel te (hT _ _ hte) i m0 c0 hx b hK h1 kj j hy m (natOf_spec hj) (Nat.le_of_ble_eq_true h3) (Nat.le_of_ble_eq_true h4) (Nat.le_of_ble_eq_true h5) h6 hgt
                · rename_i h0 h1 h2 h3 h4 h5 h6
                  cases h
                  exact e_appendz _ _ _ _ rfl ti (hT _ _ ht) tj (hT _ _ htn) kk hkk e s bt hel te (hT _ _ hte) i m0 cp hx b hK h1 h2 kj j hy m (natOf_spec hj) (Nat.le_of_ble_eq_true h3) (Nat.le_of_ble_eq_true h4) (Nat.le_of_ble_eq_true h5) h6
                · cases h
              · cases h
            · cases h
          · cases h
        · cases h
      · rename_i ti cy hb ht hy
        have := Nat.eq_of_beq_eq_true hb
        have ho' : (Op.call ⟨.builtin .append, #[x, y], #[t, t']⟩) = (Op.call ⟨.builtin .append, #[x, y], #[t, t]⟩) := by rw [this]
        split at h
        · rename_i e s bt hel
          split at h
          · rename_i src m rd hsrc
            split at h
            · rename_i i m0 cp hx
              split at h
              · rename_i b hK
                split at h
                · rename_i hap
                  cases h
                  obtain ⟨g1, g2⟩ := (Bool.and_eq_true _ _).mp hap
                  exact e_appendr _ _ _ ho' ti (hT _ _ ht) e s bt hel i m0 cp hx b hK g2 cy hy src m rd (srcOf_of0 hsrc) (aprOk_spec g1)
                · split at h
                  · rename_i h0 h1 h3
                    obtain ⟨c0, rfl, hgt⟩ := growB_spec h0
                    cases h
                    exact e_append_new _ _ _ ho' ti (hT _ _ ht) e s bt hel i m0 c0 hx b hK h1 cy hy src m rd (srcOf_of0 hsrc) (apdOk_spec h3) hgt
                  · rename_i h0 h1 h2 h3
                    cases h
                    exact e_append _ _ _ ho' ti (hT _ _ ht) e s bt hel i m0 cp hx b hK h1 h2 cy hy src m rd (srcOf_of0 hsrc) (apdOk_spec h3)
                  · cases h
              · cases h
            · rename_i hx
              split at h
              · rename_i h1 h2
                cases h
                exact e_appendo _ _ _ ho' ti (hT _ _ ht) e s bt hel hx cy hy src m rd (srcOf_of0 hsrc) (by simpa [Nat.blt_eq] using h1) (apdOk_spec h2)
              · rename_i h1
                cases h
                exact e_append00 _ _ _ ho' ti (hT _ _ ht) e s bt hel hx cy hy src m rd hsrc (blt0 h1)
              · cases h
            · cases h
          · cases h
        · cases h
      · cases h
    · cases h
  case h_20 =>
    split at h
    · rename_i x y t t' ha htt
      have := toList_two ha; subst this
      have := toList_two htt; subst this
      split at h
      · rename_i ti i q m0 cp cy ht hx hy
        split at h
        · rename_i e s bt hel
          split at h
          · rename_i b src m rd hK hsrc
            split at h
            · rename_i hs hc
              cases h
              exact e_copy _ _ _ _ rfl ti (hT _ _ ht) e s bt hel i q m0 cp hx b hK hs cy hy src m rd (srcOf_of0 hsrc) (cpyOk_spec hc)
            · cases h
          · cases h
        · cases h
      · cases h
    · cases h
  case h_21 =>
    split at h
    · rename_i x t ha htt
      have := toList_one ha; subst this
      have := toList_one htt; subst this
      split at h
      · rename_i ti i q m0 c ht hx
        split at h
        · rename_i el hel
          obtain ⟨e, s, bt⟩ := el
          cases h
          exact (y_cap _ _ rfl ti (hT _ _ ht) e s bt hel i q m0 c hx).eff
        · cases h
      · cases h
    · cases h
  case h_22 =>
    split at h
    · rename_i ti kl l kc c ht hx hy
      split at h
      · rename_i e s bt hel
        split at h
        · rename_i te l' c' hte hm
          obtain ⟨h1, h2, h3, h4, h5⟩ := mkB_spec hm
          cases h
          exact e_make _ _ _ rfl ti (hT _ _ ht) e s bt hel te (hT _ _ hte) kl kc l c hx hy l' c' h1 h2 h3 h4 h5
        · cases h
      · cases h
    · cases h
  case h_23 =>
    split at h
    · rename_i ti ht
      split at h
      · rename_i e s bt hel
        split at h
        · rename_i te avs hte hx hs hl
          split at h
          · rename_i out hout
            cases h
            exact e_lit _ _ _ rfl ti (hT _ _ ht) e s bt hel te (hT _ _ hte) hs hl avs hx out hout
          · cases h
        · cases h
      · cases h
    · cases h
  case h_24 =>
    split at h
    · rename_i ti l hi' ht hl hh
      split at h
      · rename_i e s bt hel
        split at h
        · rename_i i q m0 c hx
          split at h
          · rename_i b hK
            split at h
            · rename_i l' h' hs hb
              obtain ⟨h1, h2, h3, h4⟩ := slB_spec hb
              split at h
              · rename_i hne
                cases h
                exact (y_slo _ _ _ _ rfl ti (hT _ _ ht) e s bt hel i q m0 c (.inl hx) b hK hs l' h' (intOf_spec hl h1) (intOf_spec hh h2) h3 h4 (neB_spec h1 hne)).eff
              · split at h
                · rename_i he
                  cases h
                  exact (y_sle _ _ _ _ rfl ti (hT _ _ ht) e s bt hel i q m0 c hx b hK hs l' h' (intOf_spec hl h1) (intOf_spec hh h2) h3 h4 (Nat.eq_of_beq_eq_true he)).eff
                · cases h
            · cases h
          · cases h
        · rename_i fl s' rows hx
          split at h
          · rename_i l' h' hs hb
            have := Nat.eq_of_beq_eq_true hs; subst this
            obtain ⟨h1, h2, h3, h4⟩ := slB_spec hb
            cases h
            exact (y_slr _ _ _ _ rfl ti (hT _ _ ht) e _ bt hel fl rows hx l' h' (intOf_spec hl h1) (intOf_spec hh h2) h3 (by rcases h4 with h4 | ⟨c, h4, _⟩; exact h4; cases h4)).eff
          · cases h
        · rename_i hx
          split at h
          · rename_i l' h' hb
            obtain ⟨h1, h2, h3, h4⟩ := slB_spec hb
            cases h
            exact (y_sl0 _ _ _ _ rfl ti (hT _ _ ht) e s bt hel hx l' h' (intOf_spec hl h1) (intOf_spec hh h2) h3 (by rcases h4 with h4 | ⟨c, h4, _⟩; exact h4; cases h4)).eff
          · cases h
        · cases h
      · cases h
    · cases h
  case h_25 =>
    split at h
    · rename_i x y ha
      have := toList_two ha; subst this
      split at h
      · rename_i kx p ky q hx hy
        split at h
        · rename_i hk
          have hk := of_decide_eq_true hk
          subst hk
          cases h
          exact (y_mm false _ _ _ rfl kx p q hx hy).eff
        · cases h
      · cases h
    · cases h
  case h_26 =>
    split at h
    · rename_i x y ha
      have := toList_two ha; subst this
      split at h
      · rename_i kx p ky q hx hy
        split at h
        · rename_i hk
          have hk := of_decide_eq_true hk
          subst hk
          cases h
          exact (y_mm true _ _ _ rfl kx p q hx hy).eff
        · cases h
      · cases h
    · cases h
  case h_27 => cases h
end
end Go.Proofs.Ytllnmdmmmkoiaaa.Wx
