import Derived.Test.YtopieffkpdlpbaaLib3
import Derived.Test.YtopieffkpdlpbaaLib4
import Derived.Shelf.SlGeneric
import Derived.Shelf.SlSortCmp.WholeK
import Derived.Ground.SlsfProg
import Derived.Test.YtopieffkpdlpbaaProg
import Derived.Test.YtopieffkpdlpbaaLib5
set_option linter.unusedVariables false
set_option linter.unusedSimpArgs false
namespace Go.Proofs.Ytopieffkpdlpbaa
open Go Go.RowKit Wx
set_option maxHeartbeats 4000000
namespace Tab
def be : Nat → Int → List Int
 | 0, _ => []
 | n + 1, x => be n (x / 256) ++ [x % 256]
def numR (l : List Int) : Int := l.foldl (fun x b => x * 256 + b) 0
def isB (l : List Int) : Prop := ∀ b ∈ l, 0 ≤ b ∧ b ≤ 255
theorem mkN_any {lz cz : Int} (l : Nat) {bt : Nat} {A : Nat → Nat → Prop} (e1 : lz = (l : Int)) (e2 : cz = (l : Int)) (h2 : l ≤ maxLen) (h3 : bt * l ≤ 140737488355328) (k : A l l) : mkN lz cz bt A := ⟨l, l, e1, e2, Nat.le_refl _, h2, h3, k⟩
def cmpI (a b : Int) : Int := if a < b then -1 else if b < a then 1 else 0
def cmpR (s k s2 k2 : Int) : Int := if cmpI s s2 ≠ 0 then cmpI s s2 else cmpI k k2
structure Kc where
 src : Int
 key : Int
 cnt : Int
 sum : Int
deriving DecidableEq
def keyOk (s k : Int) : Bool := decide ((0 ≤ s ∧ s < 8) ∧ 0 ≤ k ∧ k < 32)
def kLt (s k s2 k2 : Int) : Prop := s < s2 ∨ (s = s2 ∧ k < k2)
instance (s k s2 k2 : Int) : Decidable (kLt s k s2 k2) := by unfold kLt; infer_instance
def okT : Option Kc → List Kc → Bool
 | _, [] => true
 | none, x :: r => keyOk x.src x.key && decide (0 < x.cnt) && okT (some x) r
 | some p, x :: r => keyOk x.src x.key && decide (0 < x.cnt) && decide (kLt p.src p.key x.src x.key) && okT (some x) r
def tabR (l : List Kc) : Bool := okT none l
theorem okT_all : ∀ {l : List Kc} {p : Option Kc}, okT p l = true → ∀ x ∈ l, keyOk x.src x.key = true ∧ 0 < x.cnt
 | [], _, _, x, hx => nomatch hx
 | y :: l, p, h, x, hx => by
  have h' : (keyOk y.src y.key = true ∧ 0 < y.cnt) ∧ okT (some y) l = true := by
   cases p with
   | none => simp only [okT, Bool.and_eq_true, decide_eq_true_eq] at h; exact ⟨h.1, h.2⟩
   | some p => simp only [okT, Bool.and_eq_true, decide_eq_true_eq] at h; exact ⟨h.1.1, h.2⟩
  rcases List.mem_cons.1 hx with rfl | hx
  ·exact h'.1
  ·exact okT_all h'.2 x hx
theorem keyOk_iff {s k : Int} : keyOk s k = true ↔ (0 ≤ s ∧ s < 8) ∧ 0 ≤ k ∧ k < 32 := by unfold keyOk; exact decide_eq_true_iff
theorem okT_len : ∀ {l : List Kc} {p : Kc}, keyOk p.src p.key = true → okT (some p) l = true → (l.length : Int) ≤ 255 - (p.src * 32 + p.key)
 | [], p, hp, _ => by rw [keyOk_iff] at hp; simp; omega
 | x :: l, p, hp, h => by
  simp only [okT, Bool.and_eq_true, decide_eq_true_eq] at h
  have ih := okT_len h.1.1.1 h.2
  have hx := keyOk_iff.1 h.1.1.1
  have hp' := keyOk_iff.1 hp
  have hk := h.1.2
  unfold kLt at hk
  simp only [List.length_cons]
  omega
theorem tab_len {l : List Kc} (h : tabR l = true) : l.length ≤ 256 := by
 cases l with
 | nil => simp
 | cons x l =>
  unfold tabR at h
  simp only [okT, Bool.and_eq_true, decide_eq_true_eq] at h
  have ih := okT_len h.1.1 h.2
  have hx := keyOk_iff.1 h.1.1
  simp only [List.length_cons]
  omega
def rowD (b : List Int) : Kc := ⟨(b.take 1).headD 0, ((b.drop 1).take 1).headD 0, IntKind.i64.wrap (numR ((b.drop 2).take 8)), IntKind.i64.wrap (numR ((b.drop 10).take 8))⟩
def decK : Nat → List Int → List Kc × Int × List Int
 | 0, b => ([], 0, b)
 | n + 1, b => if b.length < 18 then ([], 7, []) else if (decK n (b.drop 18)).2.1 = 0 then (rowD b :: (decK n (b.drop 18)).1, 0, (decK n (b.drop 18)).2.2) else ([], 7, [])
theorem kLt_trans {a b c d e f : Int} (h1 : kLt a b c d) (h2 : kLt c d e f) : kLt a b e f := by unfold kLt at *; omega
theorem kLt_irr {a b : Int} : ¬ kLt a b a b := by unfold kLt; omega
theorem kLt_asym {a b c d : Int} (h : kLt a b c d) : ¬ kLt c d a b := by unfold kLt at *; omega
theorem kLt_tri {a b c d : Int} : kLt a b c d ∨ (a = c ∧ b = d) ∨ kLt c d a b := by unfold kLt; omega
abbrev kLtK (x y : Kc) : Prop := kLt x.src x.key y.src y.key
theorem okT_pw : ∀ {l : List Kc} {p : Kc}, okT (some p) l = true → (∀ x ∈ l, kLtK p x) ∧ l.Pairwise kLtK
 | [], _, _ => ⟨(fun x hx => nomatch hx), List.Pairwise.nil⟩
 | y :: l, p, h => by
  simp only [okT, Bool.and_eq_true, decide_eq_true_eq] at h
  obtain ⟨h1, h2⟩ := okT_pw h.2
  refine ⟨fun x hx => ?_, List.Pairwise.cons h1 h2⟩
  rcases List.mem_cons.1 hx with rfl | hx
  ·exact h.1.2
  ·exact kLt_trans h.1.2 (h1 x hx)
theorem okT_of : ∀ {l : List Kc} {p : Kc}, (∀ x ∈ l, keyOk x.src x.key = true ∧ 0 < x.cnt) → (∀ x ∈ l, kLtK p x) → l.Pairwise kLtK → okT (some p) l = true
 | [], _, _, _, _ => rfl
 | y :: l, p, h, hp, hw => by
  rw [List.pairwise_cons] at hw
  simp only [okT, Bool.and_eq_true, decide_eq_true_eq]
  exact ⟨⟨h y (by simp), hp y (by simp)⟩, okT_of (fun x hx => h x (by simp [hx])) hw.1 hw.2⟩
theorem tab_iff {l : List Kc} : tabR l = true ↔ (∀ x ∈ l, keyOk x.src x.key = true ∧ 0 < x.cnt) ∧ l.Pairwise kLtK := by
 constructor
 ·intro h
  refine ⟨okT_all h, ?_⟩
  cases l with
  | nil => exact List.Pairwise.nil
  | cons y l =>
   unfold tabR at h
   simp only [okT, Bool.and_eq_true] at h
   exact List.Pairwise.cons (okT_pw h.2).1 (okT_pw h.2).2
 ·rintro ⟨h1, h2⟩
  cases l with
  | nil => rfl
  | cons y l =>
   rw [List.pairwise_cons] at h2
   unfold tabR
   simp only [okT, Bool.and_eq_true, decide_eq_true_eq]
   exact ⟨h1 y (by simp), okT_of (fun x hx => h1 x (by simp [hx])) h2.1 h2.2⟩
def ltK (s k : Int) (x : Kc) : Bool := decide (kLt x.src x.key s k)
def gtK (s k : Int) (x : Kc) : Bool := decide (kLt s k x.src x.key)
def eqK (s k : Int) (x : Kc) : Bool := decide (x.src = s ∧ x.key = k)
def ownK (s k : Int) (c : Int × Int) : List Kc := if c = (0, 0) then [] else [⟨s, k, c.1, c.2⟩]
def putR (l : List Kc) (s k : Int) (c : Int × Int) : List Kc := l.filter (ltK s k) ++ ownK s k c ++ l.filter (gtK s k)
def getR (l : List Kc) (s k : Int) : Int × Int := match l.find? (eqK s k) with
 | none => (0, 0)
 | some x => (x.cnt, x.sum)
theorem put_tab {l : List Kc} {s k : Int} {c : Int × Int} (h : tabR l = true) (hk : keyOk s k = true) (hc : c = (0, 0) ∨ 0 < c.1) : tabR (putR l s k c) = true := by
 rw [tab_iff] at h ⊢
 obtain ⟨h1, h2⟩ := h
 have hown : ∀ x ∈ ownK s k c, x.src = s ∧ x.key = k ∧ 0 < x.cnt := fun x hx => by
  unfold ownK at hx
  split at hx
  ·cases hx
  ·rename_i h0
   rw [List.mem_singleton.1 hx]
   exact ⟨rfl, rfl, hc.resolve_left h0⟩
 refine ⟨fun x hx => ?_, ?_⟩
 ·unfold putR at hx
  simp only [List.mem_append, List.mem_filter] at hx
  rcases hx with (hx | hx) | hx
  ·exact h1 x hx.1
  ·obtain ⟨e1, e2, e3⟩ := hown x hx
   rw [e1, e2]; exact ⟨hk, e3⟩
  ·exact h1 x hx.1
 ·unfold putR
  rw [List.pairwise_append, List.pairwise_append]
  refine ⟨⟨h2.filter _, ?_, fun x hx y hy => ?_⟩, h2.filter _, fun x hx y hy => ?_⟩
  ·unfold ownK; split
   ·exact List.Pairwise.nil
   ·exact List.pairwise_singleton _ _
  ·obtain ⟨e1, e2, _⟩ := hown y hy
   have := of_decide_eq_true (List.mem_filter.1 hx).2
   unfold kLtK; rw [e1, e2]; exact this
  ·have hy' := of_decide_eq_true (List.mem_filter.1 hy).2
   rcases List.mem_append.1 hx with hx | hx
   ·exact kLt_trans (of_decide_eq_true (List.mem_filter.1 hx).2) hy'
   ·obtain ⟨e1, e2, _⟩ := hown x hx
    unfold kLtK; rw [e1, e2]; exact hy'
def posR (l : List Kc) (s k : Int) : Nat := (l.filter (ltK s k)).length
theorem filter_none {α : Type} {p : α → Bool} {l : List α} (h : ∀ x ∈ l, p x = false) : l.filter p = [] := List.filter_eq_nil_iff.2 fun x hx => by simp [h x hx]
theorem filter_all {α : Type} {p : α → Bool} {l : List α} (h : ∀ x ∈ l, p x = true) : l.filter p = l := List.filter_eq_self.2 h
theorem cut_lt : ∀ {l : List Kc} {s k : Int}, l.Pairwise kLtK → l.filter (ltK s k) = l.take (posR l s k) ∧ l.filter (gtK s k) = l.drop (posR l s k + (l.filter (eqK s k)).length)
 | [], _, _, _ => ⟨rfl, rfl⟩
 | x :: l, s, k, h => by
  rw [List.pairwise_cons] at h
  obtain ⟨i1, i2⟩ := cut_lt (s := s) (k := k) h.2
  rcases @kLt_tri x.src x.key s k with h1 | ⟨h1, h2⟩ | h1
  ·have e1 : ltK s k x = true := decide_eq_true h1
   have e2 : gtK s k x = false := decide_eq_false (kLt_asym h1)
   have e3 : eqK s k x = false := decide_eq_false fun e => by rw [e.1, e.2] at h1; exact kLt_irr h1
   have hp : posR (x :: l) s k = posR l s k + 1 := by unfold posR; rw [List.filter_cons_of_pos e1]; rfl
   rw [hp, List.filter_cons_of_pos e1, List.filter_cons_of_neg (by simp [e2]), List.filter_cons_of_neg (by simp [e3]), List.take_succ_cons, i1, show posR l s k + 1 + (l.filter (eqK s k)).length = (posR l s k + (l.filter (eqK s k)).length) + 1 by omega, List.drop_succ_cons, i2]
   exact ⟨rfl, rfl⟩
  ·have hg : ∀ y ∈ l, kLt s k y.src y.key := fun y hy => by have := h.1 y hy; unfold kLtK at this; rw [h1, h2] at this; exact this
   have e1 : ltK s k x = false := decide_eq_false (by rw [h1, h2]; exact kLt_irr)
   have e2 : gtK s k x = false := decide_eq_false (by rw [h1, h2]; exact kLt_irr)
   have e3 : eqK s k x = true := decide_eq_true ⟨h1, h2⟩
   have f1 : l.filter (ltK s k) = [] := filter_none fun y hy => decide_eq_false (kLt_asym (hg y hy))
   have f2 : l.filter (gtK s k) = l := filter_all fun y hy => decide_eq_true (hg y hy)
   have f3 : l.filter (eqK s k) = [] := filter_none fun y hy => decide_eq_false fun e => by have := hg y hy; rw [e.1, e.2] at this; exact kLt_irr this
   have hp : posR (x :: l) s k = 0 := by unfold posR; rw [List.filter_cons_of_neg (by simp [e1]), f1]; rfl
   rw [hp, List.filter_cons_of_neg (by simp [e1]), List.filter_cons_of_neg (by simp [e2]), List.filter_cons_of_pos e3, f1, f2, f3]
   exact ⟨rfl, rfl⟩
  ·have hg : ∀ y ∈ l, kLt s k y.src y.key := fun y hy => kLt_trans h1 (h.1 y hy)
   have e1 : ltK s k x = false := decide_eq_false (kLt_asym h1)
   have e2 : gtK s k x = true := decide_eq_true h1
   have e3 : eqK s k x = false := decide_eq_false fun e => by rw [e.1, e.2] at h1; exact kLt_irr h1
   have f1 : l.filter (ltK s k) = [] := filter_none fun y hy => decide_eq_false (kLt_asym (hg y hy))
   have f2 : l.filter (gtK s k) = l := filter_all fun y hy => decide_eq_true (hg y hy)
   have f3 : l.filter (eqK s k) = [] := filter_none fun y hy => decide_eq_false fun e => by have := hg y hy; rw [e.1, e.2] at this; exact kLt_irr this
   have hp : posR (x :: l) s k = 0 := by unfold posR; rw [List.filter_cons_of_neg (by simp [e1]), f1]; rfl
   rw [hp, List.filter_cons_of_neg (by simp [e1]), List.filter_cons_of_pos e2, List.filter_cons_of_neg (by simp [e3]), f1, f2, f3]
   exact ⟨rfl, rfl⟩
theorem eq_at : ∀ {l : List Kc} {s k : Int}, l.Pairwise kLtK → (l.filter (eqK s k)).length ≤ 1 ∧ ((l.filter (eqK s k)).length = 1 ↔ ∃ x, l[posR l s k]? = some x ∧ x.src = s ∧ x.key = k)
 | [], _, _, _ => by simp
 | x :: l, s, k, h => by
  rw [List.pairwise_cons] at h
  obtain ⟨i1, i2⟩ := eq_at (s := s) (k := k) h.2
  rcases @kLt_tri x.src x.key s k with h1 | ⟨h1, h2⟩ | h1
  ·have e1 : ltK s k x = true := decide_eq_true h1
   have e3 : eqK s k x = false := decide_eq_false fun e => by rw [e.1, e.2] at h1; exact kLt_irr h1
   have hp : posR (x :: l) s k = posR l s k + 1 := by unfold posR; rw [List.filter_cons_of_pos e1]; rfl
   rw [hp, List.filter_cons_of_neg (by simp [e3]), List.getElem?_cons_succ]
   exact ⟨i1, i2⟩
  ·have hg : ∀ y ∈ l, kLt s k y.src y.key := fun y hy => by have := h.1 y hy; unfold kLtK at this; rw [h1, h2] at this; exact this
   have e1 : ltK s k x = false := decide_eq_false (by rw [h1, h2]; exact kLt_irr)
   have e3 : eqK s k x = true := decide_eq_true ⟨h1, h2⟩
   have f1 : l.filter (ltK s k) = [] := filter_none fun y hy => decide_eq_false (kLt_asym (hg y hy))
   have f3 : l.filter (eqK s k) = [] := filter_none fun y hy => decide_eq_false fun e => by have := hg y hy; rw [e.1, e.2] at this; exact kLt_irr this
   have hp : posR (x :: l) s k = 0 := by unfold posR; rw [List.filter_cons_of_neg (by simp [e1]), f1]; rfl
   rw [hp, List.filter_cons_of_pos e3, f3]
   exact ⟨Nat.le_refl _, fun _ => ⟨x, rfl, h1, h2⟩, fun _ => rfl⟩
  ·have hg : ∀ y ∈ l, kLt s k y.src y.key := fun y hy => kLt_trans h1 (h.1 y hy)
   have e1 : ltK s k x = false := decide_eq_false (kLt_asym h1)
   have e3 : eqK s k x = false := decide_eq_false fun e => by rw [e.1, e.2] at h1; exact kLt_irr h1
   have f1 : l.filter (ltK s k) = [] := filter_none fun y hy => decide_eq_false (kLt_asym (hg y hy))
   have f3 : l.filter (eqK s k) = [] := filter_none fun y hy => decide_eq_false fun e => by have := hg y hy; rw [e.1, e.2] at this; exact kLt_irr this
   have hp : posR (x :: l) s k = 0 := by unfold posR; rw [List.filter_cons_of_neg (by simp [e1]), f1]; rfl
   rw [hp, List.filter_cons_of_neg (by simp [e3]), f3]
   refine ⟨Nat.zero_le _, fun h => by simp at h, ?_⟩
   rintro ⟨y, hy, h2, h3⟩
   cases hy
   rw [h2, h3] at h1
   exact absurd h1 kLt_irr
theorem put_no {l : List Kc} {s k : Int} {c : Int × Int} (h : tabR l = true) (hn : ∀ x, l[posR l s k]? = some x → ¬ (x.src = s ∧ x.key = k)) : putR l s k c = l.take (posR l s k) ++ ownK s k c ++ l.drop (posR l s k) := by
 have hw := (tab_iff.1 h).2
 have h1 : (l.filter (eqK s k)).length = 0 := by
  have := (eq_at (s := s) (k := k) hw).1
  have h2 : ¬ (l.filter (eqK s k)).length = 1 := fun e => by
   obtain ⟨x, hx, he⟩ := ((eq_at hw).2).1 e
   exact hn x hx he
  omega
 unfold putR
 rw [(cut_lt hw).1, (cut_lt hw).2, h1, Nat.add_zero]
def putS (s k : Int) (c : Int × Int) (p : List Kc × Bool) (x : Kc) : List Kc × Bool :=
 (p.1 ++ (if p.2 = false ∧ gtK s k x = true then [⟨s, k, c.1, c.2⟩] else []) ++ (if eqK s k x = true then [] else [x]), p.2 || gtK s k x)
def putD (l : List Kc) (s k : Int) (c : Int × Int) : List Kc :=
 (l.foldl (putS s k c) ([], decide (c = (0, 0)))).1 ++ (if (l.foldl (putS s k c) ([], decide (c = (0, 0)))).2 = false then [⟨s, k, c.1, c.2⟩] else [])
theorem putS_gt {s k : Int} {c : Int × Int} : ∀ {l : List Kc} {o : List Kc}, (∀ x ∈ l, gtK s k x = true) → l.foldl (putS s k c) (o, true) = (o ++ l, true)
 | [], o, _ => by simp
 | x :: l, o, h => by
  have hx := h x (by simp)
  have he : eqK s k x = false := decide_eq_false fun e => by have := of_decide_eq_true hx; rw [e.1, e.2] at this; exact kLt_irr this
  rw [List.foldl_cons, putS]
  simp only [he, hx, Bool.true_or, Bool.true_eq_false, false_and, if_false, List.append_nil, Bool.false_eq_true]
  rw [putS_gt fun y hy => h y (by simp [hy])]
  simp
theorem putD_go {s k : Int} {c : Int × Int} : ∀ {l : List Kc} {o : List Kc}, l.Pairwise kLtK → (l.foldl (putS s k c) (o, decide (c = (0, 0)))).1 ++ (if (l.foldl (putS s k c) (o, decide (c = (0, 0)))).2 = false then [⟨s, k, c.1, c.2⟩] else []) = o ++ putR l s k c
 | [], o, _ => by
  unfold putR ownK
  by_cases hc : c = (0, 0) <;> simp [hc]
 | x :: l, o, h => by
  rw [List.pairwise_cons] at h
  rw [List.foldl_cons]
  rcases @kLt_tri x.src x.key s k with h1 | ⟨h1, h2⟩ | h1
  ·have e1 : ltK s k x = true := decide_eq_true h1
   have e2 : gtK s k x = false := decide_eq_false (kLt_asym h1)
   have e3 : eqK s k x = false := decide_eq_false fun e => by rw [e.1, e.2] at h1; exact kLt_irr h1
   have hs : putS s k c (o, decide (c = (0, 0))) x = (o ++ [x], decide (c = (0, 0))) := by unfold putS; simp [e2, e3]
   rw [hs, putD_go h.2]
   unfold putR
   rw [List.filter_cons_of_pos e1, List.filter_cons_of_neg (by simp [e2])]
   simp
  ·have hg : ∀ y ∈ l, kLt s k y.src y.key := fun y hy => by have := h.1 y hy; unfold kLtK at this; rw [h1, h2] at this; exact this
   have e1 : ltK s k x = false := decide_eq_false (by rw [h1, h2]; exact kLt_irr)
   have e2 : gtK s k x = false := decide_eq_false (by rw [h1, h2]; exact kLt_irr)
   have e3 : eqK s k x = true := decide_eq_true ⟨h1, h2⟩
   have hs : putS s k c (o, decide (c = (0, 0))) x = (o, decide (c = (0, 0))) := by unfold putS; simp [e2, e3]
   rw [hs, putD_go h.2]
   unfold putR
   rw [List.filter_cons_of_neg (by simp [e1]), List.filter_cons_of_neg (by simp [e2])]
  ·have hg : ∀ y ∈ l, kLt s k y.src y.key := fun y hy => kLt_trans h1 (h.1 y hy)
   have e1 : ltK s k x = false := decide_eq_false (kLt_asym h1)
   have e2 : gtK s k x = true := decide_eq_true h1
   have e3 : eqK s k x = false := decide_eq_false fun e => by rw [e.1, e.2] at h1; exact kLt_irr h1
   have f1 : l.filter (ltK s k) = [] := filter_none fun y hy => decide_eq_false (kLt_asym (hg y hy))
   have f2 : l.filter (gtK s k) = l := filter_all fun y hy => decide_eq_true (hg y hy)
   have hs : putS s k c (o, decide (c = (0, 0))) x = (o ++ ownK s k c ++ [x], true) := by
    unfold putS ownK
    by_cases hc : c = (0, 0) <;> simp [hc, e2, e3]
   rw [hs, putS_gt fun y hy => decide_eq_true (hg y hy)]
   unfold putR
   rw [List.filter_cons_of_neg (by simp [e1]), List.filter_cons_of_pos e2, f1, f2]
   simp
theorem putD_eq {l : List Kc} {s k : Int} {c : Int × Int} (h : tabR l = true) : putD l s k c = putR l s k c := by
 have := putD_go (s := s) (k := k) (c := c) (o := []) (tab_iff.1 h).2
 rw [List.nil_append] at this
 exact this
theorem cmp_lt {s k s2 k2 : Int} : decide (0 ≤ cmpR s k s2 k2) = !decide (kLt s k s2 k2) := by
 unfold cmpR cmpI kLt
 by_cases h1 : s < s2
 ·simp [h1]
 ·by_cases h2 : s2 < s
  ·have h3 : ¬ s = s2 := by omega
   simp [h1, h2, h3]
  ·have h3 : s = s2 := by omega
   by_cases h4 : k < k2
   ·simp [h3, h4]
   ·by_cases h5 : k2 < k
    ·simp [h3, h4, h5]
    ·simp [h3, h4, h5]
theorem cmp_eq (s k s2 k2 : Int) : (cmpR s k s2 k2 == 0) = (s == s2 && k == k2) := by
 unfold cmpR cmpI
 by_cases h1 : s < s2
 ·have : ¬ s = s2 := by omega
  simp [h1, this]
 ·by_cases h2 : s2 < s
  ·have : ¬ s = s2 := by omega
   simp [h1, h2, this]
  ·have h3 : s = s2 := by omega
   by_cases h4 : k < k2
   ·have : ¬ k = k2 := by omega
    simp [h3, h4, this]
   ·by_cases h5 : k2 < k
    ·have : ¬ k = k2 := by omega
     simp [h3, h4, h5, this]
    ·have : k = k2 := by omega
     simp [h3, this]
abbrev eK (x : Kc) : List RT := [RT.v (.int .i64 x.src), RT.v (.int .i64 x.key), RT.v (.int .i64 x.cnt), RT.v (.int .i64 x.sum)]
abbrev cK (x : Kc) : List Ce := [Ce.v (.int .i64 x.src), Ce.v (.int .i64 x.key), Ce.v (.int .i64 x.cnt), Ce.v (.int .i64 x.sum)]
def prevR (l : List Kc) : Nat → Option Kc
 | 0 => none
 | i + 1 => l[i]?
theorem okT_at {l : List Kc} {i : Nat} {x : Kc} (h : l[i]? = some x) : okT (prevR l i) (l.drop i) = (keyOk x.src x.key && decide (0 < x.cnt) && (match prevR l i with | none => true | some q => decide (kLt q.src q.key x.src x.key)) && okT (prevR l (i + 1)) (l.drop (i + 1))) := by
 rw [drop_cons h]
 have e : prevR l (i + 1) = some x := h
 rw [e]
 cases hp : prevR l i with
 | none => simp [okT]
 | some q => simp [okT]
end Tab
end Go.Proofs.Ytopieffkpdlpbaa
namespace Go.Proofs.Ytopieffkpdlpbaa
open Go Go.RowKit Wx
set_option maxHeartbeats 4000000
namespace Tab
theorem nan_con (a : Int)  : Con Try.prog 117 [.one (.v (.int .i64 a))] (fun rx rK rt => rx = .val (.bool false) ∧ rK = [] ∧ rt = 0) := by
 refine Z.con_ofF tabOk 6 Try.f117 _ Try.func117 (by kernel_rfl) rfl rfl rfl rfl ?_
 repeat' ((conv => whnf); first
  | with_reducible first | refine spB_t ?_
  | fail)
 all_goals (try (conv => whnf))
 all_goals first
  | ((first | (with_reducible apply Z.retF1)); (focus rfl); (repeat' (first | exact trivial | (with_reducible apply Z.frz_one) | (with_reducible apply Z.fq_bool) | apply And.intro)); (all_goals (try exact (fun _ => none))); all_goals (simp))
  | fail
theorem cmp_con (a b : Int)  : Con Try.prog 108 [.one (.v (.int .i64 a)), .one (.v (.int .i64 b))] (fun rx rK rt => rx = .val (.int .i64 (cmpI a b)) ∧ rK = [] ∧ rt = 0) := by
 refine Z.con_ofF tabOk 20 Try.f108 _ Try.func108 (by kernel_rfl) rfl rfl rfl rfl ?_
 repeat' ((conv => whnf); first
  | with_reducible first | refine spB_no (by decide) ?_
  | (with_reducible refine spB_dec ?_ ?_ <;> intro _ <;> (try (exfalso; (first | (rename_i hz; with_reducible exact absurd rfl hz)))))
  | ((first | (with_reducible apply Z.callZ_mk ?_ (nan_con _) ?_)); (rotate_left 1); (focus ((repeat' (first | exact trivial | exact rfl | apply And.intro)); done)))
  | fail)
 all_goals (try (conv => whnf))
 all_goals first
  | ((first | (with_reducible apply Z.retF1)); (focus rfl); (repeat' (first | exact trivial | (with_reducible apply Z.frz_one) | (with_reducible apply Z.fq_int) | apply And.intro)); (all_goals (try exact (fun _ => none))); all_goals (first | (unfold cmpI; first | rw [if_pos (by omega)] | rw [if_neg (by omega), if_pos (by omega)] | rw [if_neg (by omega), if_neg (by omega)])))
  | fail
theorem or_con (a b : Int)  : Con Try.prog 107 [.one (.ro false 1 [[.v (.int .i64 a)], [.v (.int .i64 b)]])] (fun rx rK rt => rx = .val (.int .i64 (if a ≠ 0 then a else b)) ∧ rK = [] ∧ rt = 0) := by
 refine Z.con_ofF tabOk 18 Try.f107 _ Try.func107 (by kernel_rfl) rfl rfl rfl rfl ?_
 repeat' ((conv => whnf); first
  | (with_reducible refine spB_dec ?_ ?_ <;> intro _ <;> (try (exfalso; (first | (rename_i hz; simp at hz; done)))))
  | (with_reducible refine spB_bne ?_ ?_ <;> intro _ <;> (try (exfalso; (first | (simp only [LN] at *; omega)))))
  | with_reducible first | refine Z.loopZ_unroll tabOk 3 ?_
  | ((with_reducible apply rowN_mk); (focus rfl))
  | ((with_reducible apply ixN_lit); (focus rfl); (focus rfl))
  | with_reducible refine wr_i64 (by first | omega | (simp only [LN] at *; omega)) ?_
  | fail)
 all_goals (try (conv => whnf))
 all_goals try first | (show Nat.ble _ _ = true; rfl) | (exfalso; rename_i hz; cases hz; done) | (exfalso; (try simp only [LN] at *) <;> omega)
 all_goals first
  | ((first | (with_reducible apply Z.retF1)); (focus rfl); (repeat' (first | exact trivial | (with_reducible apply Z.frz_one) | (with_reducible apply Z.fq_int) | (apply Z.fq_int) | apply And.intro)); (all_goals (try exact (fun _ => none))); all_goals (first | (simp_all; done)))
  | fail
theorem compare_con (s k v s2 k2 v2 : Int)  : Con Try.prog 99 [.agg [.v (.int .i64 s), .v (.int .i64 k), .v (.int .i64 v)], .agg [.v (.int .i64 s2), .v (.int .i64 k2), .v (.int .i64 v2)]] (fun rx rK rt => rx = .val (.int .i64 (cmpR s k s2 k2)) ∧ rK = [] ∧ rt = 0) := by
 refine Z.con_ofF tabOk 17 Try.f99 _ Try.func99 (by kernel_rfl) rfl rfl rfl rfl ?_
 repeat' ((conv => whnf); first
  | ((first | (with_reducible apply Z.conZ_mz ?_ (or_con _ _) ?_) | (with_reducible apply Z.conZ_mz ?_ (cmp_con _ _) ?_)); (rotate_left 2); (focus ((repeat' (first | exact trivial | exact ⟨_, rfl, rfl, rfl⟩ | exact rfl | apply And.intro)); done)))
  | with_reducible first | refine Z.drawZ_rule tabOk mixOk ?_ | refine Z.apZ_mk (by kernel_rfl) ?_
  | fail)
 all_goals (try (conv => whnf))
 all_goals first
  | ((first | (with_reducible apply Z.retF1)); (focus rfl); (repeat' (first | exact trivial | exact rfl | apply And.intro)); (all_goals (try exact (fun _ => none))); all_goals (rfl))
  | fail
theorem rec_con (s k v : Int)  : Con Try.prog 64 [.agg [.v (.int .i64 s), .v (.int .i64 k), .v (.int .i64 v)]] (fun rx rK rt => rx = .val (.int .i64 (bif keyOk s k then 0 else 150)) ∧ rK = [] ∧ rt = 0) := by
 refine Z.con_ofF tabOk 21 Try.f64 _ Try.func64 (by kernel_rfl) rfl rfl rfl rfl ?_
 repeat' ((conv => whnf); first
  | with_reducible first | refine spB_t ?_
  | with_reducible first | refine spB_no (by decide) ?_
  | (with_reducible refine spB_dec ?_ ?_ <;> intro _ <;> (try (exfalso; (first | (simp only [LN] at *; omega)))))
  | fail)
 all_goals (try (conv => whnf))
 all_goals try first | (show Nat.ble _ _ = true; rfl) | (exfalso; rename_i hz; cases hz; done) | (exfalso; (try simp only [LN] at *) <;> omega)
 all_goals first
  | ((first | (with_reducible apply Z.retF1)); (focus rfl); (repeat' (first | exact trivial | (with_reducible apply Z.frz_one) | (with_reducible apply Z.fq_int) | apply And.intro)); (all_goals (try exact (fun _ => none))); all_goals (first | (rw [show keyOk s k = true from keyOk_iff.2 (by omega)]; rfl) | (rw [show keyOk s k = false by (cases hz : keyOk s k with | false => rfl | true => exact absurd (keyOk_iff.1 hz) (by omega))]; rfl)))
  | fail
theorem rrec_con (s k v : Int)  : Con Try.prog 73 [.agg [.v (.int .i64 s), .v (.int .i64 k), .v (.int .i64 v)]] (fun rx rK rt => rx = .val (.bool (keyOk s k)) ∧ rK = [] ∧ rt = 0) := by
 refine Z.con_ofF tabOk 21 Try.f73 _ Try.func73 (by kernel_rfl) rfl rfl rfl rfl ?_
 repeat' ((conv => whnf); first
  | with_reducible first | refine spB_t ?_
  | with_reducible first | refine spB_no (by decide) ?_
  | (with_reducible refine spB_dec ?_ ?_ <;> intro _ <;> (try (exfalso; (first | (simp only [LN] at *; omega)))))
  | fail)
 all_goals (try (conv => whnf))
 all_goals try first | (show Nat.ble _ _ = true; rfl) | (exfalso; rename_i hz; cases hz; done) | (exfalso; (try simp only [LN] at *) <;> omega)
 all_goals first
  | ((first | (with_reducible apply Z.retF1)); (focus rfl); (repeat' (first | exact trivial | (with_reducible apply Z.frz_one) | (with_reducible apply Z.fq_bool) | apply And.intro)); (all_goals (try exact (fun _ => none))); all_goals (first | (unfold keyOk; exact decide_eq_decide.2 (by omega)) | (rw [show keyOk s k = false by (cases hz : keyOk s k with | false => rfl | true => exact absurd (keyOk_iff.1 hz) (by omega))])))
  | fail
theorem rcompare_con (s k v s2 k2 v2 : Int)  : Con Try.prog 75 [.agg [.v (.int .i64 s), .v (.int .i64 k), .v (.int .i64 v)], .agg [.v (.int .i64 s2), .v (.int .i64 k2), .v (.int .i64 v2)]] (fun rx rK rt => rx = .val (.int .i64 (cmpR s k s2 k2)) ∧ rK = [] ∧ rt = 0) := by
 refine Z.con_ofF tabOk 36 Try.f75 _ Try.func75 (by kernel_rfl) rfl rfl rfl rfl ?_
 repeat' ((conv => whnf); first
  | with_reducible first | refine spB_t ?_
  | with_reducible first | refine spB_no (by decide) ?_
  | (with_reducible refine spB_dec ?_ ?_ <;> intro _ <;> (try (exfalso; (first | (simp only [LN] at *; omega)))))
  | (with_reducible refine spB_beq ?_ ?_ <;> intro _ <;> (try (exfalso; (first | contradiction))))
  | fail)
 all_goals (try (conv => whnf))
 all_goals try first | (show Nat.ble _ _ = true; rfl) | (exfalso; rename_i hz; cases hz; done) | (exfalso; (try simp only [LN] at *) <;> omega)
 all_goals first
  | ((first | (with_reducible apply Z.retF1)); (focus rfl); (repeat' (first | exact trivial | (with_reducible apply Z.frz_one) | (with_reducible apply Z.fq_int) | apply And.intro)); (all_goals (try exact (fun _ => none))); all_goals ((unfold cmpR cmpI; repeat' split) <;> first | rfl | omega))
  | fail
end Tab
end Go.Proofs.Ytopieffkpdlpbaa
namespace Go.Proofs.Ytopieffkpdlpbaa
open Go Go.RowKit Wx
set_option maxHeartbeats 4000000
namespace Tab
theorem check_con (l : List Kc) (hl : l.length ≤ 9223372036854775807) : Con Try.prog 66 [.agg [.ro false 4 (l.map eK)]] (fun rx rK rt => rx = .val (.int .i64 (bif tabR l then 0 else 220)) ∧ rK = [] ∧ rt = 0) := by
 refine Z.con_ofF tabOk 42 Try.f66 _ Try.func66 (by kernel_rfl) rfl rfl rfl rfl ?_
 repeat' ((conv => whnf); first
  | with_reducible first | refine spB_t ?_
  | fail)
 all_goals (try (conv => whnf))
 all_goals try first | (show Nat.ble _ _ = true; rfl) | (exfalso; rename_i hz; cases hz; done) | (exfalso; (try simp only [LN] at *) <;> omega)
 refine Z.loopK tabOk (fun zq : Nat => [(9, .val (.int .i64 (zq : Int)))]) (fun zq : Nat => ([(0, some (Z.Ob.b ⟨[[.ro false 4 (l.map eK)]], 1, 28, true⟩))] : Z.Kr)) (fun zq => zq ≤ l.length ∧ tabR l = okT (prevR l zq) (l.drop zq)) (fun zq => l.length - zq) 0 1 [(1, _), (7, _), (8, _)] ⟨rfl, rfl, rfl, trivial⟩ [] trivial ?_ ?_ rfl rfl ⟨Nat.zero_le _, rfl⟩ ?_
 ·repeat' (first | exact trivial | apply And.intro | exact ⟨_, rfl, Z.Imp.refl _⟩)
 ·repeat' (first | exact trivial | exact (fun b hb => ⟨b, hb, Z.ImpO.refl b⟩) | apply And.intro)
 rintro i HINV
 (try dsimp only at HINV); (try dsimp only)
 obtain ⟨HI, HT⟩ := HINV
 by_cases hi : i < l.length
 ·obtain ⟨x, hx⟩ := getElem?_some' (xs := l) (i := i) hi
  rw [okT_at hx] at HT
  have ck := rec_con x.src x.key 0
  cases hk : keyOk x.src x.key
  ·rw [hk] at ck HT
   simp only [Bool.false_and, cond_false] at ck HT
   rw [HT]
   try simp only [cond_false]
   repeat' ((conv => whnf); first
    | with_reducible first | refine spB_t ?_
    | ((with_reducible apply spB_cong); (focus (simp only [splQ, Int.reduceBEq, Int.reduceBNe]; rfl)))
    | (with_reducible refine spB_dec ?_ ?_ <;> intro _ <;> (try (exfalso; (first | (simp only [LN] at *; omega)))))
    | with_reducible first | refine Z.rowN_known hx ?_
    | ((with_reducible apply ixN_litp); (focus rfl); (focus ((try simp only [LN] at *) <;> omega)))
    | with_reducible first | refine Z.callZ_in tabOk 8 Try.f69 _ Try.func69 (by kernel_rfl) rfl rfl rfl ?_
    | ((first | (with_reducible refine Z.conZ_mz ?_ (ck) ?_)); (focus ((repeat' (first | exact trivial | exact rfl | apply And.intro)); done)))
    | ((with_reducible apply ex_and); exact rfl)
    | with_reducible first | refine Z.drawZ_rule tabOk mixOk ?_ | refine Z.apZ_mk (by kernel_rfl) ?_
    | fail)
   all_goals (try (conv => whnf))
   all_goals try first | (show Nat.ble _ _ = true; rfl) | (exfalso; rename_i hz; cases hz; done) | (exfalso; (try simp only [LN] at *) <;> omega)
   all_goals first
    | ((first | (with_reducible apply Z.retF1)); (focus rfl); (repeat' (first | exact trivial | (with_reducible apply Z.frz_one) | (with_reducible apply Z.fq_int) | exact rfl | apply And.intro)); (all_goals (try exact (fun _ => none))); all_goals (first | (simp; done)))
    | fail
  rw [hk] at ck HT
  simp only [Bool.true_and, cond_true] at ck HT
  by_cases hc : 0 < x.cnt
  rotate_left
  ·rw [decide_eq_false hc, Bool.false_and, Bool.false_and] at HT
   rw [HT]
   try simp only [cond_false]
   repeat' ((conv => whnf); first
    | with_reducible first | refine spB_t ?_
    | ((with_reducible apply spB_cong); (focus (simp only [splQ, Int.reduceBEq, Int.reduceBNe]; rfl)))
    | with_reducible first | refine spB_no (by decide) ?_
    | (with_reducible refine spB_dec ?_ ?_ <;> intro _ <;> (try (exfalso; (first | omega | (simp only [LN] at *; omega)))))
    | with_reducible first | refine Z.rowN_known hx ?_
    | ((with_reducible apply ixN_litp); (focus rfl); (focus ((try simp only [LN] at *) <;> omega)))
    | with_reducible first | refine Z.callZ_in tabOk 8 Try.f69 _ Try.func69 (by kernel_rfl) rfl rfl rfl ?_
    | ((first | (with_reducible refine Z.conZ_mz ?_ (ck) ?_)); (focus ((repeat' (first | exact trivial | exact rfl | apply And.intro)); done)))
    | ((with_reducible apply ex_and); exact rfl)
    | with_reducible first | refine Z.drawZ_rule tabOk mixOk ?_ | refine Z.apZ_mk (by kernel_rfl) ?_
    | fail)
   all_goals (try (conv => whnf))
   all_goals try first | (show Nat.ble _ _ = true; rfl) | (exfalso; rename_i hz; cases hz; done) | (exfalso; (try simp only [LN] at *) <;> omega)
   all_goals first
    | ((first | (with_reducible apply Z.retF1)); (focus rfl); (repeat' (first | exact trivial | (with_reducible apply Z.frz_one) | (with_reducible apply Z.fq_int) | exact rfl | apply And.intro)); (all_goals (try exact (fun _ => none))); all_goals (first | (simp; done)))
    | fail
  rw [decide_eq_true hc, Bool.true_and] at HT
  rcases i with _ | j
  ·have HT2 : tabR l = okT (prevR l 1) (l.drop 1) := by rw [HT]; rfl
   repeat' ((conv => whnf); first
    | ((with_reducible apply spB_cong); (focus (simp only [splQ, Int.reduceBEq, Int.reduceBNe]; rfl)))
    | with_reducible first | refine spB_no (by decide) ?_
    | (with_reducible refine spB_dec ?_ ?_ <;> intro _ <;> (try (exfalso; (first | omega | (simp only [LN] at *; omega)))))
    | with_reducible first | refine Z.rowN_known hx ?_
    | ((with_reducible apply ixN_litp); (focus rfl); (focus ((try simp only [LN] at *) <;> omega)))
    | with_reducible refine wr_i64 (by first | omega | (simp only [LN] at *; omega)) ?_
    | with_reducible first | refine Z.callZ_in tabOk 8 Try.f69 _ Try.func69 (by kernel_rfl) rfl rfl rfl ?_
    | ((first | (with_reducible refine Z.conZ_mz ?_ (ck) ?_)); (focus ((repeat' (first | exact trivial | exact rfl | apply And.intro)); done)))
    | ((with_reducible apply ex_and); exact rfl)
    | with_reducible first | refine Z.drawZ_rule tabOk mixOk ?_ | refine Z.apZ_mk (by kernel_rfl) ?_
    | fail)
   all_goals (try (conv => whnf))
   all_goals try first | (show Nat.ble _ _ = true; rfl) | (exfalso; rename_i hz; cases hz; done) | (exfalso; (try simp only [LN] at *) <;> omega)
   all_goals first
    | ((refine Z.rndK (1) (fun s => [0]) rfl rfl rfl rfl ?_ ?_ ?_ ?_); (focus (repeat' (first | exact trivial | exact rfl | apply And.intro))); (focus (repeat' (first | exact trivial | (intro b hb; cases hb; rfl) | apply And.intro))); (focus (exact ⟨by (try dsimp only); omega, HT2⟩)); ((try dsimp only); omega))
    | fail
  obtain ⟨q, hq⟩ := getElem?_some' (xs := l) (i := j) (by omega)
  have hpr : prevR l (j + 1) = some q := hq
  rw [hpr] at HT
  simp only at HT
  have cc := compare_con q.src q.key 0 x.src x.key 0
  have hcl := @cmp_lt q.src q.key x.src x.key
  generalize cmpR q.src q.key x.src x.key = C at *
  by_cases hlt : kLt q.src q.key x.src x.key
  ·rw [decide_eq_true hlt] at HT hcl
   have hC : ¬ 0 ≤ C := of_decide_eq_false (by simpa using hcl)
   rw [Bool.true_and] at HT
   repeat' ((conv => whnf); first
    | with_reducible first | refine spB_t ?_
    | ((with_reducible apply spB_cong); (focus (simp only [splQ, Int.reduceBEq, Int.reduceBNe]; rfl)))
    | with_reducible first | refine spB_no (by decide) ?_
    | (with_reducible refine spB_dec ?_ ?_ <;> intro _ <;> (try (exfalso; (first | contradiction | omega | (simp only [LN] at *; omega)))))
    | with_reducible first | refine Z.rowN_known hx ?_ | refine Z.rowN_known hq ?_
    | ((with_reducible refine ixN_mk (j) ?_ ?_ ?_); (focus (first | ((try simp only [LN] at *) <;> omega))); (focus ((try simp only [LN] at *) <;> omega)))
    | ((with_reducible apply ixN_litp); (focus rfl); (focus ((try simp only [LN] at *) <;> omega)))
    | with_reducible refine wr_i64 (by first | omega | (simp only [LN] at *; omega)) ?_
    | with_reducible first | refine Z.callZ_in tabOk 8 Try.f69 _ Try.func69 (by kernel_rfl) rfl rfl rfl ?_
    | ((first | (with_reducible refine Z.conZ_mz ?_ (ck) ?_) | (with_reducible refine Z.conZ_mz ?_ (cc) ?_)); (focus ((repeat' (first | exact trivial | exact rfl | apply And.intro)); done)))
    | ((with_reducible apply ex_and); exact rfl)
    | with_reducible first | refine Z.drawZ_rule tabOk mixOk ?_ | refine Z.apZ_mk (by kernel_rfl) ?_
    | ((with_reducible refine Z.ConZ.red ?_); (try subst hlb); (apply Z.conZ_all); (focus (repeat (first | exact Z.FK.nil | (apply Z.FK.keep; exact rfl)))); (focus rfl); (focus rfl); (focus (repeat (first | exact trivial | (refine ⟨(fun o ho => (by first | (cases ho; rfl) | (cases ho; exact Z.inL_map fun _ => rfl) | (cases ho; exact Z.inL_mapr fun _ => rfl) | exact Z.inL_gB ho fun _ => rfl)), ?_⟩)))))
    | ((refine ⟨rfl, ?_, rfl⟩); (focus (repeat (first | exact Z.DK.nil | apply Z.DK.cons))))
    | fail)
   all_goals (try (conv => whnf))
   all_goals try first | (show Nat.ble _ _ = true; rfl) | (exfalso; rename_i hz; cases hz; done) | (exfalso; (try simp only [LN] at *) <;> omega)
   all_goals first
    | ((refine Z.rndK ((j + 1 + 1)) (fun s => [0]) rfl rfl rfl rfl ?_ ?_ ?_ ?_); (focus (repeat' (first | exact trivial | exact rfl | apply And.intro))); (focus (repeat' (first | exact trivial | (intro b hb; cases hb; rfl) | apply And.intro))); (focus (exact ⟨by (try dsimp only); omega, HT⟩)); ((try dsimp only); omega))
    | fail
  ·rw [decide_eq_false hlt] at HT hcl
   have hC : 0 ≤ C := of_decide_eq_true (by simpa using hcl)
   rw [Bool.false_and] at HT
   rw [HT]
   try simp only [cond_false]
   repeat' ((conv => whnf); first
    | with_reducible first | refine spB_t ?_
    | ((with_reducible apply spB_cong); (focus (simp only [splQ, Int.reduceBEq, Int.reduceBNe]; rfl)))
    | with_reducible first | refine spB_no (by decide) ?_
    | (with_reducible refine spB_dec ?_ ?_ <;> intro _ <;> (try (exfalso; (first | contradiction | omega | (simp only [LN] at *; omega)))))
    | with_reducible first | refine Z.rowN_known hx ?_ | refine Z.rowN_known hq ?_
    | ((with_reducible refine ixN_mk (j) ?_ ?_ ?_); (focus (first | ((try simp only [LN] at *) <;> omega))); (focus ((try simp only [LN] at *) <;> omega)))
    | ((with_reducible apply ixN_litp); (focus rfl); (focus ((try simp only [LN] at *) <;> omega)))
    | with_reducible refine wr_i64 (by first | omega | (simp only [LN] at *; omega)) ?_
    | with_reducible first | refine Z.callZ_in tabOk 8 Try.f69 _ Try.func69 (by kernel_rfl) rfl rfl rfl ?_
    | ((first | (with_reducible refine Z.conZ_mz ?_ (ck) ?_) | (with_reducible refine Z.conZ_mz ?_ (cc) ?_)); (focus ((repeat' (first | exact trivial | exact rfl | apply And.intro)); done)))
    | ((with_reducible apply ex_and); exact rfl)
    | with_reducible first | refine Z.drawZ_rule tabOk mixOk ?_ | refine Z.apZ_mk (by kernel_rfl) ?_
    | ((with_reducible refine Z.ConZ.red ?_); (try subst hlb); (apply Z.conZ_all); (focus (repeat (first | exact Z.FK.nil | (apply Z.FK.keep; exact rfl)))); (focus rfl); (focus rfl); (focus (repeat (first | exact trivial | (refine ⟨(fun o ho => (by first | (cases ho; rfl) | (cases ho; exact Z.inL_map fun _ => rfl) | (cases ho; exact Z.inL_mapr fun _ => rfl) | exact Z.inL_gB ho fun _ => rfl)), ?_⟩)))))
    | ((refine ⟨rfl, ?_, rfl⟩); (focus (repeat (first | exact Z.DK.nil | apply Z.DK.cons))))
    | fail)
   all_goals (try (conv => whnf))
   all_goals try first | (show Nat.ble _ _ = true; rfl) | (exfalso; rename_i hz; cases hz; done) | (exfalso; (try simp only [LN] at *) <;> omega)
   all_goals first
    | ((first | (with_reducible apply Z.retF1)); (focus rfl); (repeat' (first | exact trivial | (with_reducible apply Z.frz_one) | (with_reducible apply Z.fq_int) | exact rfl | apply And.intro)); (all_goals (try exact (fun _ => none))); all_goals (first | (simp; done)))
    | fail
 have hil : i = l.length := by omega
 subst hil
 rw [List.drop_length] at HT
 have HT3 : tabR l = true := by rw [HT]; cases prevR l l.length <;> rfl
 rw [HT3]
 try simp only [cond_true]
 repeat' ((conv => whnf); first
  | (with_reducible refine spB_dec ?_ ?_ <;> intro _ <;> (try (exfalso; (first | (rename_i hz; simp at hz; done)))))
  | fail)
 all_goals (try (conv => whnf))
 all_goals try first | (show Nat.ble _ _ = true; rfl) | (exfalso; rename_i hz; cases hz; done) | (exfalso; (try simp only [LN] at *) <;> omega)
 all_goals first
  | ((first | (with_reducible apply Z.retF1)); (focus rfl); (repeat' (first | exact trivial | (with_reducible apply Z.frz_one) | (with_reducible apply Z.fq_int) | exact rfl | apply And.intro)); (all_goals (try exact (fun _ => none))); all_goals (first | (simp; done)))
  | fail
end Tab
end Go.Proofs.Ytopieffkpdlpbaa
namespace Go.Proofs.Ytopieffkpdlpbaa
open Go Go.RowKit Wx
set_option maxHeartbeats 4000000
structure Nm where
 s : Int
 a : Int
 n : Int
deriving DecidableEq
abbrev eN (x : Nm) : List RT := [RT.v (.int .i64 x.s), RT.v (.int .i64 x.a), RT.v (.int .i64 x.n)]
abbrev cN (x : Nm) : List Ce := [Ce.v (.int .i64 x.s), Ce.v (.int .i64 x.a), Ce.v (.int .i64 x.n)]
theorem nm_eq {x y : Nm} (h : (x.s == y.s && (x.a == y.a && (x.n == y.n && true))) = true) : x = y := by
 simp at h; cases x; cases y; simp_all
structure Sn where
 op : Int
 ix : Int
 w : Int
 en : Bool
 rows : List Tab.Kc
 o0 : Int
 o1 : Int
 o2 : Int
 o3 : Int
 o4 : Int
 o5 : Int
 o6 : Int
 o7 : Int
 txs : List Nm
deriving DecidableEq
theorem rnames_con (a b : List Nm) (hla : a.length ≤ 9223372036854775807)  : Con Try.prog 39 [.one (.ro false 3 (a.map eN)), .one (.ro false 3 (b.map eN))] (fun rx rK rt => rx = .val (.bool (decide (a = b))) ∧ rK = [] ∧ rt = 0) := by
 refine Z.con_ofF tabOk 26 Try.f39 _ Try.func39 (by kernel_rfl) rfl rfl rfl rfl ?_
 repeat' ((conv => whnf); first
  | (with_reducible refine spB_bne ?_ ?_ <;> intro _ <;> (try (exfalso; first | contradiction | omega | (rename_i hz; with_reducible exact absurd rfl hz))))
  | fail)
 all_goals (try (conv => whnf))
 all_goals try ((first | (with_reducible apply Z.retF1)); (focus rfl); (repeat' (first | exact trivial | (with_reducible apply Z.frz_one) | (with_reducible apply Z.fq_bool) | apply And.intro)); (all_goals (try exact (fun _ => none))); all_goals (exact bool_f (ne_len (by simp only [LN] at *; omega))))
 refine Z.loopK tabOk (fun zq : Nat => [(13, .val (.int .i64 (zq : Int)))]) (fun zq : Nat => ([] : Z.Kr)) (fun zq => zq ≤ a.length ∧ a.length = b.length ∧ a.take zq = b.take zq) (fun zq => a.length - zq) 0 0 [(0, _), (1, _), (12, _)] ⟨rfl, rfl, rfl, trivial⟩ [] trivial ?_ ?_ rfl rfl ⟨Nat.zero_le _, by simp only [LN] at *; omega, rfl⟩ ?_
 ·repeat' (first | exact trivial | apply And.intro | exact ⟨_, rfl, Z.Imp.refl _⟩)
 ·repeat' (first | exact trivial)
 rintro i HINV
 dsimp only at HINV ⊢
 obtain ⟨HI, HL, HT⟩ := HINV
 repeat' ((conv => whnf); first
  | with_reducible first | refine spB_not ?_
  | (with_reducible refine spB_dec ?_ ?_ <;> intro _ <;> (try (exfalso; first | contradiction | omega | (rename_i hz; with_reducible exact absurd rfl hz))))
  | (with_reducible refine spB_mk ?_ ?_ <;> intro _ <;> (try (exfalso; first | contradiction | omega | (rename_i hz; with_reducible exact absurd rfl hz))))
  | ((with_reducible apply ixN_litp); (focus rfl); (focus ((try simp only [LN] at *) <;> omega)))
  | with_reducible refine wr_i64 (by first | omega | (simp only [LN] at *; omega)) ?_
  | ((with_reducible refine rowN_map ?_ ?_); (focus ((try simp only [LN] at *) <;> omega)); intro x hx)
  | with_reducible first | refine Z.drawZ_rule tabOk mixOk ?_ | refine Z.apZ_mk (by kernel_rfl) ?_
  | fail)
 all_goals (try (conv => whnf))
 all_goals first
  | ((refine Z.rndK (i + 1) (fun s => []) rfl rfl rfl rfl ?_ ?_ ?_ ?_); (focus (repeat' (first | exact trivial | exact rfl | apply And.intro))); (focus (repeat' (first | exact trivial))); (focus (refine ⟨by simp only [LN] at *; omega, HL, eq_step HT (by assumption) (by assumption) ?_⟩; (first | exact nm_eq (by assumption)))); (try simp only [LN] at *); (try dsimp only); omega)
  | ((first | (with_reducible apply Z.retF1)); (focus rfl); (repeat' (first | exact trivial | (with_reducible apply Z.frz_one) | (with_reducible apply Z.fq_bool) | apply And.intro)); (all_goals (try exact (fun _ => none))); all_goals (first | exact bool_t (eq_end HL HT (by simp only [LN] at *; omega)) | (refine bool_f (ne_at (by assumption) (by assumption) ?_); intro e; subst e; first | contradiction | (simp_all; done))))
  | fail
end Go.Proofs.Ytopieffkpdlpbaa
namespace Go.Proofs.Ytopieffkpdlpbaa
open Go Go.RowKit Wx
set_option maxHeartbeats 4000000
namespace Tab
theorem kc_eq {x y : Kc} (h : (x.src == y.src && (x.key == y.key && (x.cnt == y.cnt && (x.sum == y.sum && true)))) = true) : x = y := by
 cases x; cases y; simp_all
theorem eqk_con (a b : List Kc) (hla : a.length ≤ 9223372036854775807)  : Con Try.prog 98 [.one (.ro false 4 (a.map eK)), .one (.ro false 4 (b.map eK))] (fun rx rK rt => rx = .val (.bool (decide (a = b))) ∧ rK = [] ∧ rt = 0) := by
 refine Z.con_ofF tabOk 26 Try.f98 _ Try.func98 (by kernel_rfl) rfl rfl rfl rfl ?_
 repeat' ((conv => whnf); first
  | (with_reducible refine spB_bne ?_ ?_ <;> intro _ <;> (try (exfalso; (first | (rename_i hz; with_reducible exact absurd rfl hz)))))
  | fail)
 all_goals (try (conv => whnf))
 all_goals try ((first | (with_reducible apply Z.retF1)); (focus rfl); (repeat' (first | exact trivial | (with_reducible apply Z.frz_one) | (with_reducible apply Z.fq_bool) | apply And.intro)); (all_goals (try exact (fun _ => none))); all_goals (exact bool_f (ne_len (by simp only [LN] at *; omega))))
 refine Z.loopK tabOk (fun zq : Nat => [(13, .val (.int .i64 (zq : Int)))]) (fun zq : Nat => ([] : Z.Kr)) (fun zq => zq ≤ a.length ∧ a.length = b.length ∧ a.take zq = b.take zq) (fun zq => a.length - zq) 0 0 [(0, _), (1, _), (12, _)] ⟨rfl, rfl, rfl, trivial⟩ [] trivial ?_ ?_ rfl rfl ⟨Nat.zero_le _, by simp only [LN] at *; omega, rfl⟩ ?_
 ·repeat' (first | exact trivial | apply And.intro | exact ⟨_, rfl, Z.Imp.refl _⟩)
 ·repeat' (first | exact trivial)
 rintro i HINV
 dsimp only at HINV ⊢
 obtain ⟨HI, HL, HT⟩ := HINV
 repeat' ((conv => whnf); first
  | with_reducible first | refine spB_not ?_
  | (with_reducible refine spB_dec ?_ ?_ <;> intro _ <;> (try (exfalso; (first | (rename_i hz; with_reducible exact absurd rfl hz)))))
  | (with_reducible refine spB_mk ?_ ?_ <;> intro _ <;> (try (exfalso; (first | (rename_i hz; with_reducible exact absurd rfl hz)))))
  | ((with_reducible apply ixN_litp); (focus rfl); (focus ((try simp only [LN] at *) <;> omega)))
  | with_reducible refine wr_i64 (by first | omega | (simp only [LN] at *; omega)) ?_
  | ((with_reducible refine rowN_map ?_ ?_); (focus ((try simp only [LN] at *) <;> omega)); intro x hx)
  | with_reducible first | refine Z.drawZ_rule tabOk mixOk ?_ | refine Z.apZ_mk (by kernel_rfl) ?_
  | fail)
 all_goals (try (conv => whnf))
 all_goals first
  | ((refine Z.rndK (i + 1) (fun s => []) rfl rfl rfl rfl ?_ ?_ ?_ ?_); (focus (repeat' (first | exact trivial | exact rfl | apply And.intro))); (focus (repeat' (first | exact trivial))); (focus (refine ⟨by simp only [LN] at *; omega, HL, eq_step HT (by assumption) (by assumption) ?_⟩; (first | exact kc_eq (by assumption)))); (try simp only [LN] at *); (try dsimp only); omega)
  | ((first | (with_reducible apply Z.retF1)); (focus rfl); (repeat' (first | exact trivial | (with_reducible apply Z.frz_one) | (with_reducible apply Z.fq_bool) | apply And.intro)); (all_goals (try exact (fun _ => none))); all_goals (first | exact bool_t (eq_end HL HT (by simp only [LN] at *; omega)) | (refine bool_f (ne_at (by assumption) (by assumption) ?_); intro e; subst e; first | contradiction | (simp_all; done))))
  | fail
theorem same_con (a b : List Kc) (hla : a.length ≤ 9223372036854775807) : Con Try.prog 62 [.agg [.ro false 4 (a.map eK)], .agg [.ro false 4 (b.map eK)]] (fun rx rK rt => rx = .val (.bool (decide (a = b))) ∧ rK = [] ∧ rt = 0) := by
 refine Z.con_ofF tabOk 10 Try.f62 _ Try.func62 (by kernel_rfl) rfl rfl rfl rfl ?_
 repeat' ((conv => whnf); first
  | ((first | (with_reducible apply Z.callZ_mk ?_ (eqk_con _ _ ?_) ?_)); (rotate_left 2); (focus ((repeat' (first | exact trivial | exact rfl | apply And.intro)); done)); (iterate 1 (focus (first | assumption))))
  | fail)
 all_goals (try (conv => whnf))
 all_goals try (show Nat.ble _ _ = true; rfl)
 all_goals first
  | ((first | (with_reducible apply Z.retF1)); (focus rfl); (repeat' (first | exact trivial | exact rfl | apply And.intro)); (all_goals (try exact (fun _ => none))); all_goals (rfl))
  | fail
end Tab
end Go.Proofs.Ytopieffkpdlpbaa
namespace Go.Proofs.Ytopieffkpdlpbaa
open Go Go.RowKit Wx
set_option maxHeartbeats 4000000
namespace Tab
theorem rsame_con (a b : List Kc) (hla : a.length ≤ 9223372036854775807) : Con Try.prog 38 [.agg [.ro false 4 (a.map eK)], .agg [.ro false 4 (b.map eK)]] (fun rx rK rt => rx = .val (.bool (decide (a = b))) ∧ rK = [] ∧ rt = 0) := by
 refine Z.con_ofF tabOk 31 Try.f38 _ Try.func38 (by kernel_rfl) rfl rfl rfl rfl ?_
 repeat' ((conv => whnf); first
  | (with_reducible refine spB_bne ?_ ?_ <;> intro _ <;> (try (exfalso; (first | (simp only [LN] at *; omega)))))
  | fail)
 all_goals (try (conv => whnf))
 all_goals try first | (show Nat.ble _ _ = true; rfl) | (exfalso; rename_i hz; cases hz; done) | (exfalso; (try simp only [LN] at *) <;> omega)
 all_goals try ((first | (with_reducible apply Z.retF1)); (focus rfl); (repeat' (first | exact trivial | (with_reducible apply Z.frz_one) | (with_reducible apply Z.fq_bool) | apply And.intro)); (all_goals (try exact (fun _ => none))); all_goals (exact bool_f (ne_len (by simp only [LN] at *; omega))))
 refine Z.loopK tabOk (fun zq : Nat => [(16, .val (.int .i64 (zq : Int)))]) (fun zq : Nat => ([(0, some (Z.Ob.b ⟨[[.ro false 4 (a.map eK)]], 1, 28, true⟩)), (1, some (Z.Ob.b ⟨[[.ro false 4 (b.map eK)]], 1, 28, true⟩))] : Z.Kr)) (fun zq => zq ≤ a.length ∧ a.length = b.length ∧ a.take zq = b.take zq) (fun zq => a.length - zq) 0 2 [(2, _), (3, _), (15, _)] ⟨rfl, rfl, rfl, trivial⟩ [] trivial ?_ ?_ rfl rfl ⟨Nat.zero_le _, by simp only [LN] at *; omega, rfl⟩ ?_
 ·repeat' (first | exact trivial | apply And.intro | exact ⟨_, rfl, Z.Imp.refl _⟩)
 ·repeat' (first | exact trivial | exact (fun b hb => ⟨b, hb, Z.ImpO.refl b⟩) | apply And.intro)
 rintro i HINV
 (try dsimp only at HINV); (try dsimp only)
 obtain ⟨HI, HL, HT⟩ := HINV
 by_cases hi : i < a.length
 ·obtain ⟨x, hx⟩ := getElem?_some' (xs := a) (i := i) hi
  obtain ⟨y, hy⟩ := getElem?_some' (xs := b) (i := i) (by omega)
  repeat' ((conv => whnf); first
   | with_reducible first | refine spB_not ?_
   | (with_reducible refine spB_dec ?_ ?_ <;> intro _ <;> (try (exfalso; (first | (simp only [LN] at *; omega)))))
   | (with_reducible refine spB_mk ?_ ?_ <;> intro _ <;> (try (exfalso; (first | (simp only [LN] at *; omega)))))
   | with_reducible first | refine Z.rowN_known hx ?_ | refine Z.rowN_known hy ?_
   | ((with_reducible refine ixN_mk (i) ?_ ?_ ?_); (focus (first | rfl)); (focus ((try simp only [LN] at *) <;> omega)))
   | with_reducible refine wr_i64 (by first | omega | (simp only [LN] at *; omega)) ?_
   | with_reducible first | refine Z.drawZ_rule tabOk mixOk ?_ | refine Z.apZ_mk (by kernel_rfl) ?_
   | fail)
  all_goals (try (conv => whnf))
  all_goals try first | (show Nat.ble _ _ = true; rfl) | (exfalso; rename_i hz; cases hz; done) | (exfalso; (try simp only [LN] at *) <;> omega)
  all_goals first
   | ((refine Z.rndK ((i + 1)) (fun s => [0, 1]) rfl rfl rfl rfl ?_ ?_ ?_ ?_); (focus (repeat' (first | exact trivial | exact rfl | apply And.intro))); (focus (repeat' (first | exact trivial | (intro b hb; cases hb; rfl) | apply And.intro))); (focus (exact ⟨by (try dsimp only); omega, HL, eq_step HT hx hy (kc_eq (by assumption))⟩)); ((try dsimp only); omega))
   | ((first | (with_reducible apply Z.retF1)); (focus rfl); (repeat' (first | exact trivial | (with_reducible apply Z.frz_one) | (with_reducible apply Z.fq_bool) | apply And.intro)); (all_goals (try exact (fun _ => none))); all_goals ((refine bool_f (ne_at hx hy ?_); intro e; subst e; first | contradiction | (simp_all; done))))
   | fail
 have hil : i = a.length := by omega
 repeat' ((conv => whnf); first
  | (with_reducible refine spB_dec ?_ ?_ <;> intro _ <;> (try (exfalso; (first | (simp only [LN] at *; omega)))))
  | fail)
 all_goals (try (conv => whnf))
 all_goals try first | (show Nat.ble _ _ = true; rfl) | (exfalso; rename_i hz; cases hz; done) | (exfalso; (try simp only [LN] at *) <;> omega)
 all_goals first
  | ((first | (with_reducible apply Z.retF1)); (focus rfl); (repeat' (first | exact trivial | (with_reducible apply Z.frz_one) | (with_reducible apply Z.fq_bool) | apply And.intro)); (all_goals (try exact (fun _ => none))); all_goals (first | exact bool_t (eq_end HL HT (by omega))))
  | fail
end Tab
end Go.Proofs.Ytopieffkpdlpbaa
namespace Go.Proofs.Ytopieffkpdlpbaa
open Go Go.RowKit Wx
set_option maxHeartbeats 4000000
theorem sn_iff2 (x y : Sn) : decide (x = y) = (x.op == y.op && (x.ix == y.ix && (x.w == y.w && (x.en == y.en && (decide (x.rows = y.rows) && (x.o0 == y.o0 && (x.o1 == y.o1 && (x.o2 == y.o2 && (x.o3 == y.o3 && (x.o4 == y.o4 && (x.o5 == y.o5 && (x.o6 == y.o6 && (x.o7 == y.o7 && decide (x.txs = y.txs)))))))))))))) := by
 cases x; cases y
 simp only [Sn.mk.injEq]
 rw [Bool.eq_iff_iff]
 simp only [Bool.and_eq_true, decide_eq_true_eq, beq_iff_eq]
theorem rsame_con (x y : Sn) (hr : x.rows.length ≤ 9223372036854775807) (ht : x.txs.length ≤ 9223372036854775807) : Con Try.prog 12 [.agg [.v (.int .i64 x.op), .v (.int .i64 x.ix), .v (.int .i64 x.w), .v (.bool x.en), .ro false 4 (x.rows.map Tab.eK), .v (.int .i64 x.o0), .v (.int .i64 x.o1), .v (.int .i64 x.o2), .v (.int .i64 x.o3), .v (.int .i64 x.o4), .v (.int .i64 x.o5), .v (.int .i64 x.o6), .v (.int .i64 x.o7), .ro false 3 (x.txs.map eN)], .agg [.v (.int .i64 y.op), .v (.int .i64 y.ix), .v (.int .i64 y.w), .v (.bool y.en), .ro false 4 (y.rows.map Tab.eK), .v (.int .i64 y.o0), .v (.int .i64 y.o1), .v (.int .i64 y.o2), .v (.int .i64 y.o3), .v (.int .i64 y.o4), .v (.int .i64 y.o5), .v (.int .i64 y.o6), .v (.int .i64 y.o7), .ro false 3 (y.txs.map eN)]] (fun rx rK rt => rx = .val (.bool (decide (x = y))) ∧ rK = [] ∧ rt = 0) := by
 refine Z.con_ofF tabOk 52 Try.f12 _ Try.func12 (by kernel_rfl) rfl rfl rfl rfl ?_
 have ct := Tab.rsame_con x.rows y.rows hr
 have cn := rnames_con x.txs y.txs ht
 have hz := sn_iff2 x y
 repeat' ((conv => whnf); first
  | with_reducible first | refine spB_t ?_
  | with_reducible first | refine spB_no (by decide) ?_
  | (with_reducible refine spB_dec ?_ ?_ <;> intro _ <;> (try (exfalso; (first | (simp only [LN] at *; omega)))))
  | (with_reducible refine spB_beq ?_ ?_ <;> intro _ <;> (try (exfalso; (first | (simp only [LN] at *; omega)))))
  | (with_reducible refine spB_mk ?_ ?_ <;> intro _ <;> (try (exfalso; (first | (simp only [LN] at *; omega)))))
  | ((first | (with_reducible refine Z.callZ_mk ?_ (ct) ?_) | (with_reducible refine Z.callZ_mk ?_ (cn) ?_)); (focus ((repeat' (first | exact trivial | exact rfl | apply And.intro)); done)))
  | fail)
 all_goals (try (conv => whnf))
 all_goals try first | (show Nat.ble _ _ = true; rfl) | (exfalso; rename_i hz; cases hz; done) | (exfalso; (try simp only [LN] at *) <;> omega)
 all_goals first
  | ((first | (with_reducible apply Z.retF1)); (focus rfl); (repeat' (first | exact trivial | (with_reducible apply Z.frz_one) | (with_reducible apply Z.fq_bool) | (apply Z.fq_bool) | apply And.intro)); (all_goals (try exact (fun _ => none))); all_goals (first | (rw [hz]; simp_all; done)))
  | fail
end Go.Proofs.Ytopieffkpdlpbaa
namespace Go.Proofs.Ytopieffkpdlpbaa
open Go Go.RowKit Wx
set_option maxHeartbeats 4000000
namespace Tab
namespace Ops
end Ops
abbrev ownP (R : List Kc) (e : Int) : AV → Kr → Nat → Prop := fun rx rK rt => ∃ (cap : Option Nat) (tl : List Kc), rx = .tup [.agg [.osl 0 0 R.length cap], .one (.v (.int .i64 e))] ∧ rK = [(0, some ⟨(R ++ tl).map cK, 4, 70, false⟩)] ∧ rt = 1
end Tab
end Go.Proofs.Ytopieffkpdlpbaa
namespace Go.Proofs.Ytopieffkpdlpbaa
open Go Go.RowKit Wx
set_option maxHeartbeats 4000000
namespace Tab
def thereR (l : List Kc) (s k : Int) : Bool := match l[posR l s k]? with
 | none => false
 | some x => x.src == s && x.key == k
end Tab
end Go.Proofs.Ytopieffkpdlpbaa
namespace Go.Proofs.Ytopieffkpdlpbaa
open Go Go.RowKit Wx
set_option maxHeartbeats 4000000
namespace Tab
theorem getR_at {l : List Kc} {i : Nat} {x : Kc} {s k : Int} (h : l[i]? = some x) : getR (l.drop i) s k = if x.src = s ∧ x.key = k then (x.cnt, x.sum) else getR (l.drop (i + 1)) s k := by
 rw [drop_cons h]
 unfold getR
 by_cases he : x.src = s ∧ x.key = k
 ·rw [List.find?_cons_of_pos (show eqK s k x = true from decide_eq_true he), if_pos he]
 ·rw [List.find?_cons_of_neg (by rw [show eqK s k x = false from decide_eq_false he]; simp), if_neg he]
theorem putS_at {l : List Kc} {i : Nat} {x : Kc} {s k : Int} {c : Int × Int} {o : List Kc} {d : Bool} (h : l[i]? = some x) (hf : (l.take i).foldl (putS s k c) ([], decide (c = (0, 0))) = (o, d)) : (l.take (i + 1)).foldl (putS s k c) ([], decide (c = (0, 0))) = putS s k c (o, d) x := by
 rw [take_snoc h, List.foldl_append, hf]; rfl
theorem rget_con (l : List Kc) (s k v : Int) (hl : l.length ≤ 9223372036854775807) : Con Try.prog 83 [.agg [.ro false 4 (l.map eK)], .agg [.v (.int .i64 s), .v (.int .i64 k), .v (.int .i64 v)]] (fun rx rK rt => rx = .pl (.agg [.v (.int .i64 (getR l s k).1), .v (.int .i64 (getR l s k).2)]) ∧ rK = [] ∧ rt = 0) := by
 refine Z.con_ofF tabOk 30 Try.f83 _ Try.func83 (by kernel_rfl) rfl rfl rfl rfl ?_
 repeat' ((conv => whnf); first
  | with_reducible first | refine spB_t ?_
  | fail)
 all_goals (try (conv => whnf))
 all_goals try first | (show Nat.ble _ _ = true; rfl) | (exfalso; rename_i hz; cases hz; done) | (exfalso; (try simp only [LN] at *) <;> omega)
 refine Z.loopK tabOk (fun zq : Nat => [(10, .val (.int .i64 (zq : Int)))]) (fun zq : Nat => ([(0, some (Z.Ob.b ⟨[[.ro false 4 (l.map eK)]], 1, 28, true⟩)), (1, some (Z.Ob.b ⟨[[.v (.int .i64 s), .v (.int .i64 k), .v (.int .i64 v)]], 3, 61, true⟩)), (2, some (Z.Ob.b ⟨[[.v (.int .i64 0), .v (.int .i64 0)]], 2, 65, true⟩))] : Z.Kr)) (fun zq => zq ≤ l.length ∧ getR l s k = getR (l.drop zq) s k) (fun zq => l.length - zq) 0 3 [(3, _), (4, _), (8, _), (9, _)] ⟨rfl, rfl, rfl, rfl, trivial⟩ [] trivial ?_ ?_ rfl rfl ⟨Nat.zero_le _, rfl⟩ ?_
 ·repeat' (first | exact trivial | apply And.intro | exact ⟨_, rfl, Z.Imp.refl _⟩)
 ·repeat' (first | exact trivial | exact (fun b hb => ⟨b, hb, Z.ImpO.refl b⟩) | apply And.intro)
 rintro i HINV
 (try dsimp only at HINV); (try dsimp only)
 obtain ⟨HI, HG⟩ := HINV
 by_cases hi : i < l.length
 ·obtain ⟨x, hx⟩ := getElem?_some' (xs := l) (i := i) hi
  rw [getR_at hx] at HG
  by_cases h1 : x.src = s
  all_goals by_cases h2 : x.key = k
  all_goals simp only [h1, h2, and_self, and_true, true_and, and_false, false_and, if_true, if_false] at HG
  all_goals (
   repeat' ((conv => whnf); first
    | with_reducible first | refine spB_t ?_
    | with_reducible first | refine spB_no (by decide) ?_
    | (with_reducible refine spB_dec ?_ ?_ <;> intro _ <;> (try (exfalso; (first | (simp only [LN] at *; omega)))))
    | (with_reducible refine spB_beq ?_ ?_ <;> intro _ <;> (try (exfalso; (first | contradiction))))
    | with_reducible first | refine Z.rowN_known hx ?_
    | ((with_reducible apply ixN_litp); (focus rfl); (focus ((try simp only [LN] at *) <;> omega)))
    | with_reducible refine wr_i64 (by first | omega | (simp only [LN] at *; omega)) ?_
    | fail)
   all_goals (try (conv => whnf)))
  all_goals try first | (show Nat.ble _ _ = true; rfl) | (exfalso; rename_i hz; cases hz; done) | (exfalso; (try simp only [LN] at *) <;> omega)
  all_goals first
   | ((refine Z.rndK ((i + 1)) (fun s => [0, 1, 2]) rfl rfl rfl rfl ?_ ?_ ?_ ?_); (focus (repeat' (first | exact trivial | exact rfl | apply And.intro))); (focus (repeat' (first | exact trivial | (intro b hb; cases hb; rfl) | apply And.intro))); (focus (exact ⟨by (try dsimp only); omega, HG⟩)); ((try dsimp only); omega))
   | (rw [HG]; ((first | (with_reducible apply Z.retF1)); (focus rfl); (repeat' (first | exact trivial | (with_reducible apply Z.frz_agg) | exact rfl | apply And.intro)); (all_goals (try exact (fun _ => none))); all_goals (first | (simp; done))))
   | fail
 have hil : i = l.length := by omega
 subst hil
 rw [List.drop_length] at HG
 have HG0 : getR l s k = (0, 0) := HG
 rw [HG0]
 repeat' ((conv => whnf); first
  | (with_reducible refine spB_dec ?_ ?_ <;> intro _ <;> (try (exfalso; (first | (rename_i hz; simp at hz; done)))))
  | fail)
 all_goals (try (conv => whnf))
 all_goals try first | (show Nat.ble _ _ = true; rfl) | (exfalso; rename_i hz; cases hz; done) | (exfalso; (try simp only [LN] at *) <;> omega)
 all_goals first
  | ((first | (with_reducible apply Z.retF1)); (focus rfl); (repeat' (first | exact trivial | (with_reducible apply Z.frz_agg) | (with_reducible apply Z.fq_int) | exact rfl | apply And.intro)); (all_goals (try exact (fun _ => none))); all_goals (first | (simp; done)))
  | fail
end Tab
end Go.Proofs.Ytopieffkpdlpbaa
namespace Go.Proofs.Ytopieffkpdlpbaa
open Go Go.RowKit Wx
set_option maxHeartbeats 4000000
namespace Tab
theorem there_no {l : List Kc} {s k : Int} (h : thereR l s k = false) : ∀ x, l[posR l s k]? = some x → ¬ (x.src = s ∧ x.key = k) := fun x hx he => by
 unfold thereR at h
 rw [hx] at h
 simp [he.1, he.2] at h
theorem there_at {l : List Kc} {s k : Int} (h : thereR l s k = true) : ∃ x, l[posR l s k]? = some x ∧ x.src = s ∧ x.key = k := by
 unfold thereR at h
 cases hx : l[posR l s k]? with
 | none => rw [hx] at h; cases h
 | some x => rw [hx] at h; exact ⟨x, rfl, by simpa using h⟩
theorem put_new {l : List Kc} {s k : Int} {c : Int × Int} (ht : tabR l = true) (hth : thereR l s k = false) (hc : 0 < c.1) : putR l s k c = l.take (posR l s k) ++ ⟨s, k, c.1, c.2⟩ :: l.drop (posR l s k) := by
 rw [put_no ht (there_no hth)]
 unfold ownK
 rw [if_neg (fun e => by rw [e] at hc; exact absurd hc (by decide))]; simp
end Tab
end Go.Proofs.Ytopieffkpdlpbaa
namespace Go.Proofs.Ytopieffkpdlpbaa
open Go Go.RowKit Wx
set_option maxHeartbeats 4000000
namespace Tab
theorem low_tlK {K : Nat → Option Blk} {i n : Nat} {c : Option Nat} {bx : Bool} {R : List (List Ce)} {l tl : List Kc} (h : K i = some ⟨R, 4, 70, bx⟩) (hR : R = (l ++ tl).map cK) (hn : n = l.length) : lowC K (.osl i 0 n c) (.ro false 4 (l.map eK)) := by
 subst hR hn
 simp only [lowC, h]
 exact ⟨_, rfl, by simp, by rw [List.drop_zero, List.map_append, List.take_left' (by simp), List.map_map, List.map_map]; rfl⟩
theorem ren_cK {L : List Kc} {r : Nat → Nat} : List.map (List.map (Ce.ren r)) (L.map cK) = L.map cK := ren_map fun _ => rfl
def spK (x : Kc) : Kc := ⟨x.src, x.key, x.cnt, 99⟩
def spR (R : List Kc) (j : Nat) : List Kc := (R.take j).map spK ++ R.drop j
theorem spR_get {R tl : List Kc} {j : Nat} {z : Kc} (h : R[j]? = some z) : ((spR R j ++ tl).map cK)[0 + j]? = some (cK z) := by
 have hl := (List.getElem?_eq_some_iff.1 h).1
 unfold spR
 rw [Nat.zero_add, List.getElem?_map, List.append_assoc, List.getElem?_append_right (by simp; omega), List.getElem?_append_left (by simp; omega), List.getElem?_drop]
 rw [show j + (j - ((R.take j).map spK).length) = j by simp; omega, h]
 rfl
theorem spR_set {R tl : List Kc} {j : Nat} {z : Kc} (h : R[j]? = some z) : ((spR R j ++ tl).map cK).set (0 + j) (cK (spK z)) = (spR R (j + 1) ++ tl).map cK := by
 have hl := (List.getElem?_eq_some_iff.1 h).1
 have e1 : ((R.take j).map spK).length = j := by simp; omega
 unfold spR
 rw [Nat.zero_add, ← List.map_set]
 congr 1
 rw [take_snoc h, drop_cons h, List.map_append, List.append_assoc, List.set_append_right _ _ (by omega), e1, Nat.sub_self]
 simp
theorem copyk_con (l : List Kc) (hl : l.length ≤ 1000) : Con Try.prog 82 [.agg [.ro false 4 (l.map eK)]] (fun rx rK rt => rx = .pl (.agg [.ro true 4 (l.map eK)]) ∧ rK = [] ∧ rt = 0) := by
 refine Z.con_ofF tabOk 8 Try.f82 _ Try.func82 (by kernel_rfl) rfl rfl rfl rfl ?_
 repeat' ((conv => whnf); first
  | ((with_reducible refine apdE_n ?_); (with_reducible refine apdN.mk ?_ ?_ ?_ ?_ ?_ ?_); (focus (first | (simp; done))); (focus (first | exact one_map2 (fun _ => rfl))); (focus (first | exact Nat.zero_le _)); (iterate 2 (focus ((try simp only [LN] at *) <;> omega))))
  | fail)
 all_goals (try (conv => whnf))
 all_goals try first | (show Nat.ble _ _ = true; rfl) | (exfalso; rename_i hz; cases hz; done) | (exfalso; (try simp only [LN] at *) <;> omega)
 all_goals first
  | ((first | (with_reducible apply Z.retF1)); (focus rfl); (repeat' (first | exact trivial | (with_reducible apply Z.frz_agg) | ((with_reducible apply Z.fq_src); (focus rfl); (focus (first | (simp only [List.length_map, Nat.zero_add]; done))); (focus (exact fun _ => rfl))) | exact rfl | apply And.intro)); (all_goals (try exact (fun _ => none))); all_goals (first | (simp; done)))
  | fail
end Tab
end Go.Proofs.Ytopieffkpdlpbaa
namespace Go.Proofs.Ytopieffkpdlpbaa
open Go Go.RowKit Wx
set_option maxHeartbeats 4000000
def shortS (x : Sn) : Sn := ⟨x.op, x.ix, x.w, x.en, x.rows.take 257, x.o0, x.o1, x.o2, x.o3, x.o4, x.o5, x.o6, x.o7, x.txs.take 25⟩
abbrev eSn (x : Sn) : List RT := [RT.v (.int .i64 x.op), RT.v (.int .i64 x.ix), RT.v (.int .i64 x.w), RT.v (.bool x.en), RT.ro 4 (x.rows.map Tab.eK), RT.v (.int .i64 x.o0), RT.v (.int .i64 x.o1), RT.v (.int .i64 x.o2), RT.v (.int .i64 x.o3), RT.v (.int .i64 x.o4), RT.v (.int .i64 x.o5), RT.v (.int .i64 x.o6), RT.v (.int .i64 x.o7), RT.ro 3 (x.txs.map eN)]
abbrev cSn (x : Sn) : List Ce := [Ce.v (.int .i64 x.op), Ce.v (.int .i64 x.ix), Ce.v (.int .i64 x.w), Ce.v (.bool x.en), Ce.ro true 4 (x.rows.map Tab.eK), Ce.v (.int .i64 x.o0), Ce.v (.int .i64 x.o1), Ce.v (.int .i64 x.o2), Ce.v (.int .i64 x.o3), Ce.v (.int .i64 x.o4), Ce.v (.int .i64 x.o5), Ce.v (.int .i64 x.o6), Ce.v (.int .i64 x.o7), Ce.ro true 3 (x.txs.map eN)]
theorem shortS_len (x : Sn) : (shortS x).rows.length ≤ 257 ∧ (shortS x).txs.length ≤ 25 := by unfold shortS; simp only [List.length_take]; omega
theorem cut_ro {α : Type} {f : α → List RT} (l : List α) (k : Nat) : (l.take k).map f = List.take ((l.take k).length - 0) (List.drop 0 (l.map f)) := by
 have e : List.take ((l.take k).length) l = l.take k := List.take_eq_take_iff.2 (by rw [List.length_take]; omega)
 rw [Nat.sub_zero, List.drop_zero, ← List.map_take, e]
theorem cut_n (l : List Nm) (k : Nat) (fl : Bool) : List.map (List.map (RT.ce fl)) (List.take ((l.take k).length - 0) (List.drop 0 (l.map eN))) = (l.take k).map cN := by
 rw [← cut_ro, List.map_map]
 rfl
theorem one_cutN {l : List Nm} {n m : Nat} {fl : Bool} : ∀ r ∈ List.map (List.map (RT.ce fl)) (List.take n (List.drop m (l.map eN))), ∀ c ∈ r, c.single = true := fun r hr c hc => by
 obtain ⟨t, ht, rfl⟩ := List.mem_map.1 hr
 obtain ⟨z, _, rfl⟩ := List.mem_map.1 (List.mem_of_mem_drop (List.mem_of_mem_take ht))
 simp only [List.map_cons, List.map_nil, List.mem_cons, List.not_mem_nil, or_false] at hc
 rcases hc with rfl | rfl | rfl <;> rfl
theorem shortS_con (x : Sn) (hr : x.rows.length ≤ 9223372036854775807) (ht : x.txs.length ≤ 9223372036854775807) : Con Try.prog 20 [.agg [.v (.int .i64 x.op), .v (.int .i64 x.ix), .v (.int .i64 x.w), .v (.bool x.en), .ro false 4 (x.rows.map Tab.eK), .v (.int .i64 x.o0), .v (.int .i64 x.o1), .v (.int .i64 x.o2), .v (.int .i64 x.o3), .v (.int .i64 x.o4), .v (.int .i64 x.o5), .v (.int .i64 x.o6), .v (.int .i64 x.o7), .ro false 3 (x.txs.map eN)]] (fun rx rK rt => rx = .pl (.agg [.v (.int .i64 (shortS x).op), .v (.int .i64 (shortS x).ix), .v (.int .i64 (shortS x).w), .v (.bool (shortS x).en), .ro true 4 ((shortS x).rows.map Tab.eK), .v (.int .i64 (shortS x).o0), .v (.int .i64 (shortS x).o1), .v (.int .i64 (shortS x).o2), .v (.int .i64 (shortS x).o3), .v (.int .i64 (shortS x).o4), .v (.int .i64 (shortS x).o5), .v (.int .i64 (shortS x).o6), .v (.int .i64 (shortS x).o7), .ro true 3 ((shortS x).txs.map eN)]) ∧ rK = [] ∧ rt = 0) := by
 refine Z.con_ofF tabOk 24 Try.f20 _ Try.func20 (by kernel_rfl) rfl rfl rfl rfl ?_
 have ccp := Tab.copyk_con (x.rows.take 257) (by rw [List.length_take]; omega)
 have htl : (x.txs.take 25).length ≤ 25 := by rw [List.length_take]; exact Nat.min_le_left _ _
 have HC := cut_n x.txs 25
 repeat' ((conv => whnf); first
  | ((with_reducible refine slN_hi ((x.rows.take 257).length) ?_ ?_ ?_); (focus (rw [List.length_take, List.length_map]; omega)); (focus (rw [List.length_take, List.length_map]; omega)))
  | ((with_reducible refine slN_hi ((x.txs.take 25).length) ?_ ?_ ?_); (focus (rw [List.length_take, List.length_map]; omega)); (focus (rw [List.length_take, List.length_map]; omega)))
  | ((with_reducible refine apdE_n ?_); (with_reducible refine apdN.mk ?_ ?_ ?_ ?_ ?_ ?_); (focus (first | (simp; done))); (focus (first | exact one_cutN)); (focus (first | exact Nat.zero_le _)); (iterate 2 (focus ((try simp only [LN] at *) <;> omega))))
  | with_reducible first | refine Z.callZ_in tabOk 13 Try.f47 _ Try.func47 (by kernel_rfl) rfl rfl rfl ?_
  | ((first | (with_reducible refine Z.conZ_mz ?_ (ccp) ?_)); (focus ((repeat' (first | exact trivial | exact congrArg (Ce.ro false 4) (cut_ro _ _) | apply And.intro)); done)))
  | ((with_reducible apply ex_and); exact rfl)
  | with_reducible first | refine Z.drawZ_rule tabOk mixOk ?_ | refine Z.apZ_mk (by kernel_rfl) ?_
  | fail)
 all_goals (try (conv => whnf))
 all_goals try first | (show Nat.ble _ _ = true; rfl) | (exfalso; rename_i hz; cases hz; done) | (exfalso; (try simp only [LN] at *) <;> omega)
 all_goals first
  | ((first | (with_reducible apply Z.retF1)); (focus rfl); (repeat' (first | exact trivial | (refine Z.frz_oslw (l := x.txs.take 25) (f := cN) (ty := 90) (bx := false) rfl ?_ ?_ (fun _ => rfl); (focus (first | (simp; done))); (focus (first | exact (congrArg (List.take _) (HC _)).trans (List.take_of_length_le (by simp))))) | (with_reducible apply Z.frz_agg) | (with_reducible apply Z.fq_int) | (with_reducible apply Z.fq_bool) | exact rfl | apply And.intro)); (all_goals (try exact (fun _ => none))); all_goals (first | (simp; done)))
  | fail
end Go.Proofs.Ytopieffkpdlpbaa
namespace Go.Proofs.Ytopieffkpdlpbaa
open Go Go.RowKit Wx
set_option maxHeartbeats 4000000
abbrev zN : Nm := ⟨0, 0, 0⟩
theorem fl_snoc {α : Type} {L : List (List α)} {k : Nat} {r : List α} (h : L[k]? = some r) : (L.take (k + 1)).flatten = (L.take k).flatten ++ r := by
 rw [take_snoc h, List.flatten_append]; simp
theorem fl_le {α : Type} {L : List (List α)} (k : Nat) : (L.take k).flatten.length ≤ L.flatten.length := by
 conv => rhs; rw [← List.take_append_drop k L, List.flatten_append, List.length_append]
 omega
def padN (L : List (List Nm)) (k : Nat) : List Nm := (L.take k).flatten ++ List.replicate (L.flatten.length - (L.take k).flatten.length) zN
theorem padN_zero {L : List (List Nm)} : List.replicate L.flatten.length [Ce.v (.int .i64 0), Ce.v (.int .i64 0), Ce.v (.int .i64 0)] = (padN L 0).map cN := by
 unfold padN; simp
theorem padN_len {L : List (List Nm)} {k : Nat} : (padN L k).length = L.flatten.length := by
 have := fl_le (L := L) k
 unfold padN; rw [List.length_append, List.length_replicate]; omega
theorem padN_all {L : List (List Nm)} : padN L L.length = L.flatten := by unfold padN; rw [List.take_length]; simp
theorem lay_pad {A r : List Nm} {M : Nat} : lay ((A ++ List.replicate M zN).map cN) A.length (r.map cN) = (A ++ r ++ List.replicate (M - r.length) zN).map cN := by
 unfold lay
 simp only [List.length_map, ← List.map_take, ← List.map_drop, ← List.map_append]
 congr 1
 rw [List.take_left' rfl, ← List.drop_drop, List.drop_left' rfl, List.drop_replicate, List.append_assoc]
theorem padN_set {L : List (List Nm)} {k n : Nat} {r : List Nm} {fl : Bool} (h : L[k]? = some r) (hn : r.length ≤ n) : lay ((padN L k).map cN) (L.take k).flatten.length (List.take n ((r.map eN).map (List.map (RT.ce fl)))) = (padN L (k + 1)).map cN := by
 have h1 : List.take n ((r.map eN).map (List.map (RT.ce fl))) = r.map cN := by
  rw [List.take_of_length_le (by rw [List.length_map, List.length_map]; exact hn)]
  exact map_ce fun _ => rfl
 rw [h1]
 unfold padN
 rw [lay_pad, fl_snoc h, List.length_append, Nat.sub_sub]
theorem padN_stay {L : List (List Nm)} {k : Nat} {r : List Nm} (h : L[k]? = some r) (hN : (L.take k).flatten.length = L.flatten.length) : padN L k = padN L (k + 1) := by
 have h3 := fl_le (L := L) (k + 1)
 rw [fl_snoc h, List.length_append] at h3
 have hr : r = [] := List.length_eq_zero_iff.1 (by omega)
 subst hr
 unfold padN
 rw [fl_snoc h, List.append_nil]
theorem joined_own (L : List (List Nm)) (hL : L.length ≤ 1000) (h0 : L.flatten.length ≤ 1000000) : Con Try.prog 43 [.one (.ro false 1 (L.map fun r => [RT.ro 3 (r.map eN)]))] (fun rx rK rt => rx = .c (.osl 0 0 L.flatten.length (some L.flatten.length)) ∧ rK = [(0, some ⟨L.flatten.map cN, 3, 90, false⟩)] ∧ rt = 1) := by
 refine Z.con_ofZ tabOk 38 Try.f43 _ Try.func43 (by kernel_rfl) rfl rfl rfl rfl ?_
 repeat' ((conv => whnf); first
  | with_reducible first | refine spB_t ?_
  | fail)
 all_goals (try (conv => whnf))
 all_goals try first | (show Nat.ble _ _ = true; rfl) | (exfalso; rename_i hz; cases hz; done) | (exfalso; (try simp only [LN] at *) <;> omega)
 refine Z.loopK tabOk (fun zq : Nat => [(12, .val (.int .i64 (zq : Int))), (3, .val (.int .i64 (((L.take zq).flatten.length : Nat) : Int)))]) (fun zq : Nat => ([] : Z.Kr)) (fun zq => zq ≤ L.length) (fun zq => L.length - zq) 0 0 [(0, _), (10, _), (11, _)] ⟨rfl, rfl, rfl, trivial⟩ [] trivial ?_ ?_ rfl rfl (Nat.zero_le _) ?_
 ·repeat' (first | exact trivial | apply And.intro | exact ⟨_, rfl, Z.Imp.refl _⟩)
 ·repeat' (first | exact trivial)
 rintro k HINV
 (try dsimp only at HINV); (try dsimp only)
 by_cases hi : k < L.length
 ·obtain ⟨r, hr⟩ := getElem?_some' (xs := L) (i := k) hi
  have hf := fl_snoc hr
  have hle := fl_le (L := L) (k + 1)
  have hz : (((L.take k).flatten.length : Nat) : Int) + (((r.map eN).length : Nat) : Int) = (((L.take (k + 1)).flatten.length : Nat) : Int) := by rw [hf, List.length_append, List.length_map]; omega
  have hb9 : r.length ≤ 1000000 := by rw [hf, List.length_append] at hle; omega
  repeat' ((conv => whnf); first
   | (with_reducible refine spB_dec ?_ ?_ <;> intro _ <;> (try (exfalso; (first | (simp only [LN] at *; omega)))))
   | with_reducible first | refine Z.rowN_known hr ?_
   | ((with_reducible apply ixN_litp); (focus rfl); (focus ((try simp only [LN] at *) <;> omega)))
   | with_reducible refine wr_i64 (by first | omega | (simp only [LN] at *; omega)) ?_
   | fail)
  all_goals (try (conv => whnf))
  all_goals try first | (show Nat.ble _ _ = true; rfl) | (exfalso; rename_i hz; cases hz; done) | (exfalso; (try simp only [LN] at *) <;> omega)
  all_goals first
   | ((refine Z.rndK ((k + 1)) (fun s => []) rfl rfl rfl rfl ?_ ?_ ?_ ?_); (focus (repeat' (first | exact trivial | exact congrArg (fun z : Int => some (AV.val (.int .i64 z))) hz | exact rfl | apply And.intro))); (focus (repeat' (first | exact trivial))); (focus (((try dsimp only); omega))); ((try dsimp only); omega))
   | fail
 have hil : k = L.length := by omega
 subst hil
 rw [List.take_length]
 repeat' ((conv => whnf); first
  | (with_reducible refine spB_dec ?_ ?_ <;> intro _ <;> (try (exfalso; (first | (rename_i hz; simp at hz; done)))))
  | ((with_reducible refine Tab.mkN_any L.flatten.length ?_ ?_ ?_ ?_ ?_); (iterate 2 (focus rfl)); (iterate 2 (focus ((try simp only [LN] at *) <;> omega))))
  | fail)
 all_goals (try (conv => whnf))
 all_goals try first | (show Nat.ble _ _ = true; rfl) | (exfalso; rename_i hz; cases hz; done) | (exfalso; (try simp only [LN] at *) <;> omega)
 refine Z.loopK tabOk (fun zq : Nat => [(25, .val (.int .i64 (zq : Int))), (7, .val (.int .i64 (((L.take zq).flatten.length : Nat) : Int)))]) (fun zq : Nat => ([(0, some (Z.Ob.b ⟨(padN L zq).map cN, 3, 90, false⟩))] : Z.Kr)) (fun zq => zq ≤ L.length) (fun zq => L.length - zq) 0 1 [(6, _), (23, _), (24, _)] ⟨rfl, rfl, rfl, trivial⟩ [] trivial ?_ ?_ rfl rfl (Nat.zero_le _) ?_
 ·repeat' (first | exact trivial | apply And.intro | exact ⟨_, rfl, Z.Imp.refl _⟩)
 ·repeat' (first | exact trivial | (intro b hb; cases hb; refine ⟨_, rfl, ⟨rfl, rfl, rfl⟩, Z.imp_eq ?_⟩; first | rfl | exact padN_zero; done) | apply And.intro)
 rintro k HINV
 (try dsimp only at HINV); (try dsimp only)
 by_cases hi2 : k < L.length
 ·obtain ⟨r, hr⟩ := getElem?_some' (xs := L) (i := k) hi2
  have hf := fl_snoc hr
  have hle := fl_le (L := L) (k + 1)
  have hle0 := fl_le (L := L) k
  have hpl := @padN_len L k
  have hfl := congrArg List.length hf
  rw [List.length_append] at hfl
  have hq : IntKind.i64.wrap ((((L.take k).flatten.length : Nat) : Int) + (((r.map eN).length.min (L.flatten.length - (L.take k).flatten.length) : Nat) : Int)) = (((L.take (k + 1)).flatten.length : Nat) : Int) := by
   rw [List.length_map, show Nat.min r.length (L.flatten.length - (L.take k).flatten.length) = r.length from Nat.min_eq_left (by omega)]
   exact (IntWalk.i64_in _ (by omega)).trans (by omega)
  repeat' ((conv => whnf); first
   | (with_reducible refine spB_dec ?_ ?_ <;> intro _ <;> (try (exfalso; (first | (simp only [LN] at *; omega)))))
   | with_reducible first | refine Z.rowN_known hr ?_ | refine wr_mk _ hq ?_
   | ((with_reducible refine Z.slN_lo ((L.take k).flatten.length) ?_ ?_ ?_); (focus rfl); (focus ((try simp only [LN] at *) <;> omega)))
   | ((with_reducible apply ixN_litp); (focus rfl); (focus ((try simp only [LN] at *) <;> omega)))
   | ((with_reducible refine slE_split ?_ ?_ ?_); (focus ((try simp only [LN] at *) <;> omega)); (all_goals intro _))
   | ((with_reducible refine cpyN.mk ?_ ?_ ?_ ?_); (focus (first | (simp; done))); (focus (first | exact one_map2 (fun _ => rfl))); (focus ((try simp only [LN] at *) <;> omega)))
   | with_reducible refine wr_i64 (by first | omega | (simp only [LN] at *; omega)) ?_
   | fail)
  all_goals (try (conv => whnf))
  all_goals try first | (show Nat.ble _ _ = true; rfl) | (exfalso; rename_i hz; cases hz; done) | (exfalso; (try simp only [LN] at *) <;> omega)
  all_goals first
   | ((refine Z.rnd_rw 0 ((padN L (k + 1)).map cN) rfl rfl ?_ ?_); (focus (first | (rw [Nat.zero_add]; exact padN_set hr (by rw [List.length_map]; exact Nat.le_min.2 ⟨Nat.le_refl _, by omega⟩)) | exact congrArg (List.map cN) (padN_stay hr (by assumption)))); ((refine Z.rndK ((k + 1)) (fun s => [0]) rfl rfl rfl rfl ?_ ?_ ?_ ?_); (focus (repeat' (first | exact trivial | (refine congrArg (fun z : Int => some (AV.val (.int .i64 z))) ?_; (try simp only [LN]); omega) | exact rfl | apply And.intro))); (focus (repeat' (first | exact trivial | exact Z.blk_sub rfl rfl (ren_map fun _ => rfl) | apply And.intro))); (focus (((try dsimp only); omega))); ((try dsimp only); omega)))
   | fail
 have hil : k = L.length := by omega
 subst hil
 rw [padN_all]
 repeat' ((conv => whnf); first
  | (with_reducible refine spB_dec ?_ ?_ <;> intro _ <;> (try (exfalso; (first | contradiction))))
  | fail)
 all_goals (try (conv => whnf))
 all_goals try first | (show Nat.ble _ _ = true; rfl) | (exfalso; rename_i hz; cases hz; done) | (exfalso; (try simp only [LN] at *) <;> omega)
 all_goals (refine ret1b 0 (.c (.osl 0 0 L.flatten.length (some L.flatten.length))) (L.flatten.map cN) 3 90 false _ rfl rfl (by rfl) rfl (ren_map fun _ => rfl) rfl (own_map fun _ => rfl) ⟨rfl, rfl, rfl⟩)
end Go.Proofs.Ytopieffkpdlpbaa
namespace Go.Proofs
open Go.Shelf
def Try.sortK_ren : Go.Shelf.Ren := ⟨fun | 6 => 104 | 15 => 115 | 14 => 114 | 28 => 127 | 29 => 128 | 20 => 119 | 21 => 120 | 22 => 121 | 23 => 122 | 24 => 123 | 25 => 124 | 26 => 125 | 27 => 126 | 46 => 130 | 47 => 131 | 48 => 132 | 49 => 133 | 50 => 134 | 57 => 135 | n => n, fun | 22 => 26 | 24 => 70 | 25 => 148 | 3 => 3 | 39 => 58 | 0 => 0 | 53 => 99 | 55 => 132 | 4 => 4 | 46 => 163 | 45 => 162 | 50 => 111 | 5 => 5 | 9 => 9 | 66 => 170 | 70 => 173 | 76 => 175 | 77 => 176 | n => n, fun | n => n⟩
theorem Try.sortK : Go.Proofs.SlLaysF0.n6 Try.prog Try.sortK_ren := {
 mixed := by kernel_rfl
 f6 := ⟨Try.f104.name, by decide, Try.func104.trans (congrArg some (by kernel_rfl))⟩
 f14 := ⟨Try.f114.name, by decide, Try.func114.trans (congrArg some (by kernel_rfl))⟩
 f15 := Try.func115.trans (congrArg some (by kernel_rfl))
 f20 := ⟨Try.f119.name, by decide, Try.func119.trans (congrArg some (by kernel_rfl))⟩
 f21 := ⟨Try.f120.name, by decide, Try.func120.trans (congrArg some (by kernel_rfl))⟩
 f22 := ⟨Try.f121.name, by decide, Try.func121.trans (congrArg some (by kernel_rfl))⟩
 f23 := ⟨Try.f122.name, by decide, Try.func122.trans (congrArg some (by kernel_rfl))⟩
 f24 := ⟨Try.f123.name, by decide, Try.func123.trans (congrArg some (by kernel_rfl))⟩
 f25 := ⟨Try.f124.name, by decide, Try.func124.trans (congrArg some (by kernel_rfl))⟩
 f26 := ⟨Try.f125.name, by decide, Try.func125.trans (congrArg some (by kernel_rfl))⟩
 f27 := ⟨Try.f126.name, by decide, Try.func126.trans (congrArg some (by kernel_rfl))⟩
 f28 := Try.func127.trans (congrArg some (by kernel_rfl))
 f29 := Try.func128.trans (congrArg some (by kernel_rfl))
 f46 := ⟨Try.f130.name, by decide, Try.func130.trans (congrArg some (by kernel_rfl))⟩
 f47 := Try.func131.trans (congrArg some (by kernel_rfl))
 f48 := Try.func132.trans (congrArg some (by kernel_rfl))
 f49 := ⟨Try.f133.name, by decide, Try.func133.trans (congrArg some (by kernel_rfl))⟩
 f50 := ⟨Try.f134.name, by decide, Try.func134.trans (congrArg some (by kernel_rfl))⟩
 f57 := ⟨Try.f135.name, by decide, Try.func135.trans (congrArg some (by kernel_rfl))⟩
 t0 := Try.underlying0
 a0 := Try.isAgg0
 z0 := Try.sizeOf0
 v0 := Try.zeroValue0
 t3 := Try.underlying3
 a3 := Try.isAgg3
 z3 := Try.sizeOf3
 v3 := Try.zeroValue3
 t4 := Try.underlying4
 a4 := Try.isAgg4
 z4 := Try.sizeOf4
 v4 := Try.zeroValue4
 t5 := Try.underlying5
 a5 := Try.isAgg5
 z5 := Try.sizeOf5
 v5 := Try.zeroValue5
 t9 := Try.underlying9
 a9 := Try.isAgg9
 z9 := Try.sizeOf9
 v9 := Try.zeroValue9
 t22 := Try.underlying26
 a22 := Try.isAgg26
 z22 := Try.sizeOf26
 v22 := Try.zeroValue26
 t25 := Try.underlying148
 a25 := Try.isAgg148
 z25 := Try.sizeOf148
 v25 := Try.zeroValue148
 t39 := Try.underlying58
 a39 := Try.isAgg58
 z39 := Try.sizeOf58
 v39 := Try.zeroValue58
 t45 := Try.underlying162
 a45 := Try.isAgg162
 z45 := Try.sizeOf162
 v45 := Try.zeroValue162
 t46 := Try.underlying163
 a46 := Try.isAgg163
 z46 := Try.sizeOf163
 v46 := Try.zeroValue163
 t50 := Try.underlying111
 a50 := Try.isAgg111
 z50 := Try.sizeOf111
 v50 := Try.zeroValue111
 t53 := Try.underlying99
 a53 := Try.isAgg99
 z53 := Try.sizeOf99
 v53 := Try.zeroValue99
 t55 := Try.underlying132
 a55 := Try.isAgg132
 z55 := Try.sizeOf132
 v55 := Try.zeroValue132
 t66 := Try.underlying170
 a66 := Try.isAgg170
 z66 := Try.sizeOf170
 v66 := Try.zeroValue170
 t70 := Try.underlying173
 a70 := Try.isAgg173
 z70 := Try.sizeOf173
 v70 := Try.zeroValue173
 t76 := Try.underlying175
 a76 := Try.isAgg175
 z76 := Try.sizeOf175
 v76 := Try.zeroValue175
 t77 := Try.underlying176
 a77 := Try.isAgg176
 z77 := Try.sizeOf176
 v77 := Try.zeroValue176 }
end Go.Proofs
namespace Go.Proofs.Ytopieffkpdlpbaa
open Go Go.RowKit Wx
set_option maxHeartbeats 4000000
namespace Tab
abbrev ev (x : Kc) : List Value := [.int .i64 x.src, .int .i64 x.key, .int .i64 x.cnt, .int .i64 x.sum]
instance : Inhabited Kc := ⟨⟨0, 0, 0, 0⟩⟩
def cfK (x y : Kc) : Int := cmpR x.src x.key y.src y.key
theorem cfK_lt (x y : Kc) : ltOf cfK x y = decide (kLtK x y) := by
 have h := @cmp_lt x.src x.key y.src y.key
 unfold ltOf cfK
 by_cases h1 : cmpR x.src x.key y.src y.key < 0
 ·rw [show decide (0 ≤ cmpR x.src x.key y.src y.key) = false by simpa using h1] at h
  have h2 : decide (kLtK x y) = true := by simpa using h.symm
  rw [h2]; simpa using h1
 ·rw [show decide (0 ≤ cmpR x.src x.key y.src y.key) = true by simp; omega] at h
  have h2 : decide (kLtK x y) = false := by simpa using h.symm
  rw [h2]; simpa using h1
theorem cfK_swo : Go.Sort.SWO (ltOf cfK) := {
 irrefl := fun x => by rw [cfK_lt]; simpa using kLt_irr
 trans := fun x y z h1 h2 => by
  rw [cfK_lt] at *
  exact decide_eq_true (kLt_trans (of_decide_eq_true h1) (of_decide_eq_true h2))
 ntrans := fun x y z h1 h2 => by
  rw [cfK_lt] at *
  have h1 := of_decide_eq_false h1
  have h2 := of_decide_eq_false h2
  refine decide_eq_false ?_
  unfold kLtK kLt at *
  omega }
abbrev neK (x y : Kc) : Prop := ¬ (x.src = y.src ∧ x.key = y.key)
def mrg (a b : List Kc) : List Kc := b.foldl (fun o x => putR o x.src x.key (x.cnt, x.sum)) a
def comm (a b : List Kc) : Bool := b.any fun x => decide (getR a x.src x.key ≠ (0, 0))
def joinT (a b : List Kc) : List Kc × Int := if tabR a = false ∨ tabR b = false then ([], 220) else if comm a b = true then ([], 5) else (mrg a b, 0)
theorem get_in {l : List Kc} (h : ∀ x ∈ l, 0 < x.cnt) {s k : Int} : getR l s k ≠ (0, 0) ↔ ∃ y ∈ l, y.src = s ∧ y.key = k := by
 unfold getR
 cases hx : l.find? (eqK s k) with
 | some x =>
  have h2 := List.find?_some hx
  unfold eqK at h2
  have h3 := h x (List.mem_of_find?_eq_some hx)
  refine ⟨fun _ => ⟨x, List.mem_of_find?_eq_some hx, of_decide_eq_true h2⟩, fun _ h9 => ?_⟩
  simp only [Prod.mk.injEq] at h9
  omega
 | none =>
  refine ⟨fun h1 => absurd rfl h1, ?_⟩
  rintro ⟨y, hy, he⟩
  have := List.find?_eq_none.1 hx y hy
  unfold eqK at this
  exact absurd (decide_eq_true he) this
theorem comm_no {a b : List Kc} (ha : tabR a = true) : comm a b = false ↔ ∀ x ∈ a, ∀ y ∈ b, neK x y := by
 have hp : ∀ x ∈ a, 0 < x.cnt := fun x hx => ((tab_iff.1 ha).1 x hx).2
 unfold comm
 rw [List.any_eq_false]
 constructor
 ·intro h x hx y hy he
  exact h y hy (decide_eq_true ((get_in hp).2 ⟨x, hx, he⟩))
 ·intro h y hy h1
  obtain ⟨x, hx, he⟩ := (get_in hp).1 (of_decide_eq_true h1)
  exact h x hx y hy he
theorem same_pw : ∀ {l m : List Kc}, l.Pairwise kLtK → m.Pairwise kLtK → (∀ x, x ∈ l ↔ x ∈ m) → l = m
 | [], [], _, _, _ => rfl
 | [], y :: m, _, _, h => absurd ((h y).2 (by simp)) (by simp)
 | x :: l, [], _, _, h => absurd ((h x).1 (by simp)) (by simp)
 | x :: l, y :: m, h1, h2, h => by
  rw [List.pairwise_cons] at h1 h2
  have hxy : x = y := by
   rcases List.mem_cons.1 ((h x).1 (by simp)) with e | e
   ·exact e
   ·rcases List.mem_cons.1 ((h y).2 (by simp)) with e2 | e2
    ·exact e2.symm
    ·exact absurd (h2.1 x e) (kLt_asym (h1.1 y e2))
  subst hxy
  have hs : ∀ z, z ∈ l ↔ z ∈ m := fun z => by
   constructor
   ·intro hz
    rcases List.mem_cons.1 ((h z).1 (by simp [hz])) with e | e
    ·subst e; exact absurd (h1.1 z hz) kLt_irr
    ·exact e
   ·intro hz
    rcases List.mem_cons.1 ((h z).2 (by simp [hz])) with e | e
    ·subst e; exact absurd (h2.1 z hz) kLt_irr
    ·exact e
  rw [same_pw h1.2 h2.2 hs]
theorem put_perm {o : List Kc} {x : Kc} (ht : tabR o = true) (hx : 0 < x.cnt) (hn : ∀ y ∈ o, neK y x) : (putR o x.src x.key (x.cnt, x.sum)).Perm (x :: o) := by
 have hth : thereR o x.src x.key = false := by
  cases h : thereR o x.src x.key with
  | false => rfl
  | true => obtain ⟨y, h1, h2⟩ := there_at h; exact absurd h2 (hn y (List.mem_of_getElem? h1))
 rw [put_new ht hth hx]
 refine List.perm_middle.trans ?_
 rw [List.take_append_drop]
theorem mrg_tab : ∀ {b a : List Kc}, tabR a = true → (∀ x ∈ b, keyOk x.src x.key = true ∧ 0 < x.cnt) → tabR (mrg a b) = true
 | [], a, h, _ => h
 | x :: b, a, h, hb => mrg_tab (b := b) (put_tab (c := (x.cnt, x.sum)) h (hb x (by simp)).1 (.inr (hb x (by simp)).2)) fun y hy => hb y (by simp [hy])
theorem mrg_perm : ∀ {b a : List Kc}, tabR a = true → (∀ x ∈ b, keyOk x.src x.key = true ∧ 0 < x.cnt) → (∀ x ∈ a, ∀ y ∈ b, neK x y) → b.Pairwise neK → (mrg a b).Perm (a ++ b)
 | [], a, h, _, _, _ => by rw [List.append_nil]; exact .refl _
 | x :: b, a, h, hb, hn, hp => by
  rw [List.pairwise_cons] at hp
  have p1 := put_perm (x := x) h (hb x (by simp)).2 fun y hy => hn y hy x (by simp)
  have p2 := mrg_perm (b := b) (put_tab (c := (x.cnt, x.sum)) h (hb x (by simp)).1 (.inr (hb x (by simp)).2)) (fun y hy => hb y (by simp [hy])) (fun y hy z hz => by
   rcases List.mem_cons.1 ((p1.mem_iff (a := y)).1 hy) with e | e
   ·subst e; exact hp.1 z hz
   ·exact hn y e z (by simp [hz])) hp.2
  show (mrg (putR a x.src x.key (x.cnt, x.sum)) b).Perm _
  exact p2.trans (((p1.append_right b).trans (.refl _)).trans (List.perm_middle.symm))
theorem pw_ne {l : List Kc} (h : l.Pairwise kLtK) : l.Pairwise neK := h.imp fun hxy he => by unfold kLtK kLt at hxy; omega
theorem sort_join {a b z : List Kc} (ha : tabR a = true) (hb : tabR b = true) (hp : z.Perm (a ++ b)) (hs : z.Pairwise fun x y => ltOf cfK y x = false) : tabR z = !comm a b ∧ (comm a b = false → z = mrg a b) := by
 have a1 := tab_iff.1 ha
 have b1 := tab_iff.1 hb
 have hk : ∀ x ∈ z, keyOk x.src x.key = true ∧ 0 < x.cnt := fun x hx => by
  rcases List.mem_append.1 ((hp.mem_iff (a := x)).1 hx) with e | e
  ·exact a1.1 x e
  ·exact b1.1 x e
 have sy : ∀ {x y : Kc}, neK x y → neK y x := fun h he => h ⟨he.1.symm, he.2.symm⟩
 cases hc : comm a b with
 | false =>
  have hn := (comm_no ha).1 hc
  have h2 : (a ++ b).Pairwise neK := List.pairwise_append.2 ⟨pw_ne a1.2, pw_ne b1.2, hn⟩
  have h3 : z.Pairwise neK := (hp.pairwise_iff sy).2 h2
  have h4 : z.Pairwise kLtK := (List.Pairwise.and hs h3).imp fun {x y} h => by
   have h5 := h.1
   rw [cfK_lt] at h5
   rcases @kLt_tri x.src x.key y.src y.key with e | e | e
   ·exact e
   ·exact absurd e h.2
   ·exact absurd e (of_decide_eq_false h5)
  refine ⟨tab_iff.2 ⟨hk, h4⟩, fun _ => ?_⟩
  refine same_pw h4 (tab_iff.1 (mrg_tab ha b1.1)).2 fun x => ?_
  exact (hp.mem_iff).trans (mrg_perm ha b1.1 hn (pw_ne b1.2)).mem_iff.symm
 | true =>
  refine ⟨?_, fun h => nomatch h⟩
  cases ht : tabR z with
  | false => rfl
  | true =>
   have h3 := pw_ne (tab_iff.1 ht).2
   have h2 := (hp.pairwise_iff sy).1 h3
   have := (comm_no (b := b) ha).2 (List.pairwise_append.1 h2).2.2
   rw [hc] at this
   cases this
theorem cmpk_con (x y : Kc)  : Con Try.prog 105 [.agg [.v (.int .i64 x.src), .v (.int .i64 x.key), .v (.int .i64 x.cnt), .v (.int .i64 x.sum)], .agg [.v (.int .i64 y.src), .v (.int .i64 y.key), .v (.int .i64 y.cnt), .v (.int .i64 y.sum)]] (fun rx rK rt => rx = .val (.int .i64 (cfK x y)) ∧ rK = [] ∧ rt = 0) := by
 refine Z.con_ofF tabOk 10 Try.f105 _ Try.func105 (by kernel_rfl) rfl rfl rfl rfl ?_
 have cc := compare_con x.src x.key 0 y.src y.key 0
 repeat' ((conv => whnf); first
  | with_reducible first | refine Z.callZ_in tabOk 8 Try.f69 _ Try.func69 (by kernel_rfl) rfl rfl rfl ?_
  | ((first | (with_reducible refine Z.conZ_mz ?_ (cc) ?_)); (focus ((repeat' (first | exact trivial | exact rfl | apply And.intro)); done)))
  | ((with_reducible apply ex_and); exact rfl)
  | with_reducible first | refine Z.drawZ_rule tabOk mixOk ?_ | refine Z.apZ_mk (by kernel_rfl) ?_
  | ((with_reducible refine Z.ConZ.red ?_); (try subst hlb); (apply Z.conZ_all); (focus (repeat (first | exact Z.FK.nil | (apply Z.FK.keep; exact rfl)))); (focus rfl); (focus rfl); (focus (repeat (first | exact trivial | (refine ⟨(fun o ho => (by first | (cases ho; rfl) | (cases ho; exact Z.inL_map fun _ => rfl) | (cases ho; exact Z.inL_mapr fun _ => rfl) | exact Z.inL_gB ho fun _ => rfl)), ?_⟩)))))
  | ((refine ⟨rfl, ?_, rfl⟩); (focus (repeat (first | exact Z.DK.nil | apply Z.DK.cons))))
  | fail)
 all_goals (try (conv => whnf))
 all_goals try (show Nat.ble _ _ = true; rfl)
 all_goals first
  | ((first | (with_reducible apply Z.retF1)); (focus rfl); (repeat' (first | exact trivial | exact rfl | apply And.intro)); (all_goals (try exact (fun _ => none))); all_goals (first | (simp; done)))
  | fail
end Tab
end Go.Proofs.Ytopieffkpdlpbaa
namespace Go.Proofs.Ytopieffkpdlpbaa
open Go Go.RowKit Wx
set_option maxHeartbeats 4000000
namespace Tab
end Tab
end Go.Proofs.Ytopieffkpdlpbaa
namespace Go.Proofs.Ytopieffkpdlpbaa
open Go Go.RowKit Wx
set_option maxHeartbeats 4000000
namespace Tab
end Tab
end Go.Proofs.Ytopieffkpdlpbaa
namespace Go.Proofs.Ytopieffkpdlpbaa
open Go Go.RowKit Wx
set_option maxHeartbeats 4000000
namespace Tab
def ownG (g w : Int) : Int := (g * w) / 8
def okS (i w : Int) : Prop := (1 ≤ w ∧ w ≤ 3) ∧ 0 ≤ i ∧ i < w
instance (i w : Int) : Decidable (okS i w) := by unfold okS; infer_instance
def mineB (s k i w : Int) : Bool := keyOk s k && (decide (okS i w) && decide (ownG (k % 8) w = i))
def partL (l : List Kc) (i w : Int) : List Kc := l.filter fun x => mineB x.src x.key i w
def partT (l : List Kc) (i w : Int) : List Kc × Int := if tabR l = false then ([], 220) else if okS i w then (partL l i w, 0) else ([], 2)
theorem part_at {l : List Kc} {j : Nat} {x : Kc} {i w : Int} (h : l[j]? = some x) : partL (l.take (j + 1)) i w = partL (l.take j) i w ++ (bif mineB x.src x.key i w then [x] else []) := by
 unfold partL
 rw [take_snoc h, List.filter_append]
 cases hm : mineB x.src x.key i w <;> simp [hm]
theorem part_len {l : List Kc} {i w : Int} : (partL l i w).length ≤ l.length := List.length_filter_le _ _
theorem share_con (i w : Int)  : Con Try.prog 70 [.one (.v (.int .i64 i)), .one (.v (.int .i64 w))] (fun rx rK rt => rx = .val (.bool (decide (okS i w))) ∧ rK = [] ∧ rt = 0) := by
 refine Z.con_ofF tabOk 16 Try.f70 _ Try.func70 (by kernel_rfl) rfl rfl rfl rfl ?_
 by_cases h : okS i w
 ·rw [decide_eq_true h]
  unfold okS at h
  repeat' ((conv => whnf); first
   | with_reducible first | refine spB_t ?_
   | (with_reducible refine spB_dec ?_ ?_ <;> intro _ <;> (try (exfalso; first | contradiction | omega | (rename_i hz; refine hz ?_; simp; done) | (rename_i hz; simp at hz; done) | (simp only [LN] at *; omega))))
   | with_reducible first | refine Z.callZ_in tabOk 9 Try.f102 _ Try.func102 (by kernel_rfl) rfl rfl rfl ?_
   | ((with_reducible apply ex_and); exact rfl)
   | fail)
  all_goals (try (conv => whnf))
  all_goals try first | (show Nat.ble _ _ = true; rfl) | (exfalso; rename_i hz; cases hz; done) | (exfalso; (try simp only [LN] at *) <;> omega)
  all_goals first
   | ((first | (with_reducible apply Z.retF1)); (focus rfl); (repeat' (first | exact trivial | (with_reducible apply Z.frz_one) | (with_reducible apply Z.fq_bool) | apply And.intro)); (all_goals (try exact (fun _ => none))); all_goals (first | (simp_all; done)))
   | fail
 ·rw [decide_eq_false h]
  unfold okS at h
  repeat' ((conv => whnf); first
   | with_reducible first | refine spB_t ?_
   | with_reducible first | refine spB_no (by decide) ?_
   | (with_reducible refine spB_dec ?_ ?_ <;> intro _ <;> (try (exfalso; first | contradiction | omega | (rename_i hz; refine hz ?_; simp; done) | (rename_i hz; simp at hz; done) | (simp only [LN] at *; omega))))
   | with_reducible first | refine Z.callZ_in tabOk 9 Try.f102 _ Try.func102 (by kernel_rfl) rfl rfl rfl ?_
   | ((with_reducible apply ex_and); exact rfl)
   | fail)
  all_goals (try (conv => whnf))
  all_goals try first | (show Nat.ble _ _ = true; rfl) | (exfalso; rename_i hz; cases hz; done) | (exfalso; (try simp only [LN] at *) <;> omega)
  all_goals first
   | ((first | (with_reducible apply Z.retF1)); (focus rfl); (repeat' (first | exact trivial | (with_reducible apply Z.frz_one) | (with_reducible apply Z.fq_bool) | exact rfl | apply And.intro)); (all_goals (try exact (fun _ => none))); all_goals (first | (simp_all; done)))
   | fail
theorem rshare_con (i w : Int)  : Con Try.prog 50 [.one (.v (.int .i64 i)), .one (.v (.int .i64 w))] (fun rx rK rt => rx = .val (.bool (decide (okS i w))) ∧ rK = [] ∧ rt = 0) := by
 refine Z.con_ofF tabOk 20 Try.f50 _ Try.func50 (by kernel_rfl) rfl rfl rfl rfl ?_
 by_cases h : okS i w
 ·rw [decide_eq_true h]
  unfold okS at h
  repeat' ((conv => whnf); first
   | with_reducible first | refine spB_t ?_
   | (with_reducible refine spB_dec ?_ ?_ <;> intro _ <;> (try (exfalso; first | contradiction | omega | (rename_i hz; refine hz ?_; simp; done) | (rename_i hz; simp at hz; done) | (simp only [LN] at *; omega))))
   | fail)
  all_goals (try (conv => whnf))
  all_goals try first | (show Nat.ble _ _ = true; rfl) | (exfalso; rename_i hz; cases hz; done) | (exfalso; (try simp only [LN] at *) <;> omega)
  all_goals first
   | ((first | (with_reducible apply Z.retF1)); (focus rfl); (repeat' (first | exact trivial | (with_reducible apply Z.frz_one) | (with_reducible apply Z.fq_bool) | apply And.intro)); (all_goals (try exact (fun _ => none))); all_goals (first | (simp_all; done)))
   | fail
 ·rw [decide_eq_false h]
  unfold okS at h
  repeat' ((conv => whnf); first
   | with_reducible first | refine spB_t ?_
   | with_reducible first | refine spB_no (by decide) ?_
   | (with_reducible refine spB_dec ?_ ?_ <;> intro _ <;> (try (exfalso; first | contradiction | omega | (rename_i hz; refine hz ?_; simp; done) | (rename_i hz; simp at hz; done) | (simp only [LN] at *; omega))))
   | fail)
  all_goals (try (conv => whnf))
  all_goals try first | (show Nat.ble _ _ = true; rfl) | (exfalso; rename_i hz; cases hz; done) | (exfalso; (try simp only [LN] at *) <;> omega)
  all_goals first
   | ((first | (with_reducible apply Z.retF1)); (focus rfl); (repeat' (first | exact trivial | (with_reducible apply Z.frz_one) | (with_reducible apply Z.fq_bool) | exact rfl | apply And.intro)); (all_goals (try exact (fun _ => none))); all_goals (first | (simp_all; done)))
   | fail
theorem owners_1 : Con Try.prog 71 [.one (.v (.int .i64 1))] (fun rx rK rt => rx = .pl (.agg [.v (.int .i64 0), .v (.int .i64 0), .v (.int .i64 0), .v (.int .i64 0), .v (.int .i64 0), .v (.int .i64 0), .v (.int .i64 0), .v (.int .i64 0)]) ∧ rK = [] ∧ rt = 0) := Y.con_eval ftabOk tabOk mixOk 40 12 (by kernel_rfl) (by rfl) (by kernel_rfl)
theorem rw_0_1 : Con Try.prog 78 [.one (.v (.int .i64 0)), .one (.v (.int .i64 1))] (fun rx rK rt => rx = .val (.int .i64 0) ∧ rK = [] ∧ rt = 0) := Y.con_eval ftabOk tabOk mixOk 40 12 (by kernel_rfl) (by rfl) (by kernel_rfl)
theorem rw_1_1 : Con Try.prog 78 [.one (.v (.int .i64 1)), .one (.v (.int .i64 1))] (fun rx rK rt => rx = .val (.int .i64 0) ∧ rK = [] ∧ rt = 0) := Y.con_eval ftabOk tabOk mixOk 40 12 (by kernel_rfl) (by rfl) (by kernel_rfl)
theorem rw_2_1 : Con Try.prog 78 [.one (.v (.int .i64 2)), .one (.v (.int .i64 1))] (fun rx rK rt => rx = .val (.int .i64 0) ∧ rK = [] ∧ rt = 0) := Y.con_eval ftabOk tabOk mixOk 40 12 (by kernel_rfl) (by rfl) (by kernel_rfl)
theorem rw_3_1 : Con Try.prog 78 [.one (.v (.int .i64 3)), .one (.v (.int .i64 1))] (fun rx rK rt => rx = .val (.int .i64 0) ∧ rK = [] ∧ rt = 0) := Y.con_eval ftabOk tabOk mixOk 40 12 (by kernel_rfl) (by rfl) (by kernel_rfl)
theorem rw_4_1 : Con Try.prog 78 [.one (.v (.int .i64 4)), .one (.v (.int .i64 1))] (fun rx rK rt => rx = .val (.int .i64 0) ∧ rK = [] ∧ rt = 0) := Y.con_eval ftabOk tabOk mixOk 40 12 (by kernel_rfl) (by rfl) (by kernel_rfl)
theorem rw_5_1 : Con Try.prog 78 [.one (.v (.int .i64 5)), .one (.v (.int .i64 1))] (fun rx rK rt => rx = .val (.int .i64 0) ∧ rK = [] ∧ rt = 0) := Y.con_eval ftabOk tabOk mixOk 40 12 (by kernel_rfl) (by rfl) (by kernel_rfl)
theorem rw_6_1 : Con Try.prog 78 [.one (.v (.int .i64 6)), .one (.v (.int .i64 1))] (fun rx rK rt => rx = .val (.int .i64 0) ∧ rK = [] ∧ rt = 0) := Y.con_eval ftabOk tabOk mixOk 40 12 (by kernel_rfl) (by rfl) (by kernel_rfl)
theorem rw_7_1 : Con Try.prog 78 [.one (.v (.int .i64 7)), .one (.v (.int .i64 1))] (fun rx rK rt => rx = .val (.int .i64 0) ∧ rK = [] ∧ rt = 0) := Y.con_eval ftabOk tabOk mixOk 40 12 (by kernel_rfl) (by rfl) (by kernel_rfl)
theorem owners_2 : Con Try.prog 71 [.one (.v (.int .i64 2))] (fun rx rK rt => rx = .pl (.agg [.v (.int .i64 0), .v (.int .i64 0), .v (.int .i64 0), .v (.int .i64 0), .v (.int .i64 1), .v (.int .i64 1), .v (.int .i64 1), .v (.int .i64 1)]) ∧ rK = [] ∧ rt = 0) := Y.con_eval ftabOk tabOk mixOk 40 12 (by kernel_rfl) (by rfl) (by kernel_rfl)
theorem rw_0_2 : Con Try.prog 78 [.one (.v (.int .i64 0)), .one (.v (.int .i64 2))] (fun rx rK rt => rx = .val (.int .i64 0) ∧ rK = [] ∧ rt = 0) := Y.con_eval ftabOk tabOk mixOk 40 12 (by kernel_rfl) (by rfl) (by kernel_rfl)
theorem rw_1_2 : Con Try.prog 78 [.one (.v (.int .i64 1)), .one (.v (.int .i64 2))] (fun rx rK rt => rx = .val (.int .i64 0) ∧ rK = [] ∧ rt = 0) := Y.con_eval ftabOk tabOk mixOk 40 12 (by kernel_rfl) (by rfl) (by kernel_rfl)
theorem rw_2_2 : Con Try.prog 78 [.one (.v (.int .i64 2)), .one (.v (.int .i64 2))] (fun rx rK rt => rx = .val (.int .i64 0) ∧ rK = [] ∧ rt = 0) := Y.con_eval ftabOk tabOk mixOk 40 12 (by kernel_rfl) (by rfl) (by kernel_rfl)
theorem rw_3_2 : Con Try.prog 78 [.one (.v (.int .i64 3)), .one (.v (.int .i64 2))] (fun rx rK rt => rx = .val (.int .i64 0) ∧ rK = [] ∧ rt = 0) := Y.con_eval ftabOk tabOk mixOk 40 12 (by kernel_rfl) (by rfl) (by kernel_rfl)
theorem rw_4_2 : Con Try.prog 78 [.one (.v (.int .i64 4)), .one (.v (.int .i64 2))] (fun rx rK rt => rx = .val (.int .i64 1) ∧ rK = [] ∧ rt = 0) := Y.con_eval ftabOk tabOk mixOk 40 12 (by kernel_rfl) (by rfl) (by kernel_rfl)
theorem rw_5_2 : Con Try.prog 78 [.one (.v (.int .i64 5)), .one (.v (.int .i64 2))] (fun rx rK rt => rx = .val (.int .i64 1) ∧ rK = [] ∧ rt = 0) := Y.con_eval ftabOk tabOk mixOk 40 12 (by kernel_rfl) (by rfl) (by kernel_rfl)
theorem rw_6_2 : Con Try.prog 78 [.one (.v (.int .i64 6)), .one (.v (.int .i64 2))] (fun rx rK rt => rx = .val (.int .i64 1) ∧ rK = [] ∧ rt = 0) := Y.con_eval ftabOk tabOk mixOk 40 12 (by kernel_rfl) (by rfl) (by kernel_rfl)
theorem rw_7_2 : Con Try.prog 78 [.one (.v (.int .i64 7)), .one (.v (.int .i64 2))] (fun rx rK rt => rx = .val (.int .i64 1) ∧ rK = [] ∧ rt = 0) := Y.con_eval ftabOk tabOk mixOk 40 12 (by kernel_rfl) (by rfl) (by kernel_rfl)
theorem owners_3 : Con Try.prog 71 [.one (.v (.int .i64 3))] (fun rx rK rt => rx = .pl (.agg [.v (.int .i64 0), .v (.int .i64 0), .v (.int .i64 0), .v (.int .i64 1), .v (.int .i64 1), .v (.int .i64 1), .v (.int .i64 2), .v (.int .i64 2)]) ∧ rK = [] ∧ rt = 0) := Y.con_eval ftabOk tabOk mixOk 40 12 (by kernel_rfl) (by rfl) (by kernel_rfl)
theorem rw_0_3 : Con Try.prog 78 [.one (.v (.int .i64 0)), .one (.v (.int .i64 3))] (fun rx rK rt => rx = .val (.int .i64 0) ∧ rK = [] ∧ rt = 0) := Y.con_eval ftabOk tabOk mixOk 40 12 (by kernel_rfl) (by rfl) (by kernel_rfl)
theorem rw_1_3 : Con Try.prog 78 [.one (.v (.int .i64 1)), .one (.v (.int .i64 3))] (fun rx rK rt => rx = .val (.int .i64 0) ∧ rK = [] ∧ rt = 0) := Y.con_eval ftabOk tabOk mixOk 40 12 (by kernel_rfl) (by rfl) (by kernel_rfl)
theorem rw_2_3 : Con Try.prog 78 [.one (.v (.int .i64 2)), .one (.v (.int .i64 3))] (fun rx rK rt => rx = .val (.int .i64 0) ∧ rK = [] ∧ rt = 0) := Y.con_eval ftabOk tabOk mixOk 40 12 (by kernel_rfl) (by rfl) (by kernel_rfl)
theorem rw_3_3 : Con Try.prog 78 [.one (.v (.int .i64 3)), .one (.v (.int .i64 3))] (fun rx rK rt => rx = .val (.int .i64 1) ∧ rK = [] ∧ rt = 0) := Y.con_eval ftabOk tabOk mixOk 40 12 (by kernel_rfl) (by rfl) (by kernel_rfl)
theorem rw_4_3 : Con Try.prog 78 [.one (.v (.int .i64 4)), .one (.v (.int .i64 3))] (fun rx rK rt => rx = .val (.int .i64 1) ∧ rK = [] ∧ rt = 0) := Y.con_eval ftabOk tabOk mixOk 40 12 (by kernel_rfl) (by rfl) (by kernel_rfl)
theorem rw_5_3 : Con Try.prog 78 [.one (.v (.int .i64 5)), .one (.v (.int .i64 3))] (fun rx rK rt => rx = .val (.int .i64 1) ∧ rK = [] ∧ rt = 0) := Y.con_eval ftabOk tabOk mixOk 40 12 (by kernel_rfl) (by rfl) (by kernel_rfl)
theorem rw_6_3 : Con Try.prog 78 [.one (.v (.int .i64 6)), .one (.v (.int .i64 3))] (fun rx rK rt => rx = .val (.int .i64 2) ∧ rK = [] ∧ rt = 0) := Y.con_eval ftabOk tabOk mixOk 40 12 (by kernel_rfl) (by rfl) (by kernel_rfl)
theorem rw_7_3 : Con Try.prog 78 [.one (.v (.int .i64 7)), .one (.v (.int .i64 3))] (fun rx rK rt => rx = .val (.int .i64 2) ∧ rK = [] ∧ rt = 0) := Y.con_eval ftabOk tabOk mixOk 40 12 (by kernel_rfl) (by rfl) (by kernel_rfl)
theorem group_con (s k v : Int)  : Con Try.prog 65 [.agg [.v (.int .i64 s), .v (.int .i64 k), .v (.int .i64 v)]] (fun rx rK rt => rx = .val (.int .i64 (k.tmod 8)) ∧ rK = [] ∧ rt = 0) := by
 refine Z.con_ofF tabOk 6 Try.f65 _ Try.func65 (by kernel_rfl) rfl rfl rfl rfl ?_
 repeat' ((conv => whnf); first
  | with_reducible first | refine vN_mk ?_
  | with_reducible refine nzN_mk (by omega) ?_
  | fail)
 all_goals (try (conv => whnf))
 all_goals try (show Nat.ble _ _ = true; rfl)
 all_goals first
  | ((first | (with_reducible apply Z.retF1)); (focus rfl); (repeat' (first | exact trivial | (with_reducible apply Z.frz_one) | (with_reducible apply Z.fq_int) | exact rfl | apply And.intro)); (all_goals (try exact (fun _ => none))); all_goals (rfl))
  | fail
theorem rgroup_con (k : Int)  : Con Try.prog 37 [.one (.v (.int .i64 k))] (fun rx rK rt => rx = .val (.int .i64 (k.tmod 8)) ∧ rK = [] ∧ rt = 0) := by
 refine Z.con_ofF tabOk 5 Try.f37 _ Try.func37 (by kernel_rfl) rfl rfl rfl rfl ?_
 repeat' ((conv => whnf); first
  | with_reducible first | refine vN_mk ?_
  | with_reducible refine nzN_mk (by omega) ?_
  | fail)
 all_goals (try (conv => whnf))
 all_goals try (show Nat.ble _ _ = true; rfl)
 all_goals first
  | ((first | (with_reducible apply Z.retF1)); (focus rfl); (repeat' (first | exact trivial | (with_reducible apply Z.frz_one) | (with_reducible apply Z.fq_int) | exact rfl | apply And.intro)); (all_goals (try exact (fun _ => none))); all_goals (rfl))
  | fail
theorem owned_0_1 : ∃ L, Con Try.prog 72 [.one (.v (.int .i64 0)), .one (.v (.int .i64 1))] (fun rx rK rt => rx = .tup [.one (.ro true 1 L), .one (.v (.int .i64 0))] ∧ rK = [] ∧ rt = 0) := ⟨_, Z.con_fz [.one (.ro true 1 [[.v (.int .i64 0)], [.v (.int .i64 1)], [.v (.int .i64 2)], [.v (.int .i64 3)], [.v (.int .i64 4)], [.v (.int .i64 5)], [.v (.int .i64 6)], [.v (.int .i64 7)]]), .one (.v (.int .i64 0))] (xs := [.one (.osl 17 0 8 none), .one (.v (.int .i64 0))]) (K0 := [(17, some ⟨[[.v (.int .i64 0)], [.v (.int .i64 1)], [.v (.int .i64 2)], [.v (.int .i64 3)], [.v (.int .i64 4)], [.v (.int .i64 5)], [.v (.int .i64 6)], [.v (.int .i64 7)]], 1, 3, false⟩)]) (t0 := 18) (Y.con_evalK ftabOk tabOk mixOk 40 12 (by kernel_rfl) (by rfl) (by kernel_rfl)) ⟨⟨_, rfl, rfl, rfl⟩, rfl, trivial⟩⟩
theorem owned_0_2 : ∃ L, Con Try.prog 72 [.one (.v (.int .i64 0)), .one (.v (.int .i64 2))] (fun rx rK rt => rx = .tup [.one (.ro true 1 L), .one (.v (.int .i64 0))] ∧ rK = [] ∧ rt = 0) := ⟨_, Z.con_fz [.one (.ro true 1 [[.v (.int .i64 0)], [.v (.int .i64 1)], [.v (.int .i64 2)], [.v (.int .i64 3)]]), .one (.v (.int .i64 0))] (xs := [.one (.osl 9 0 4 none), .one (.v (.int .i64 0))]) (K0 := [(9, some ⟨[[.v (.int .i64 0)], [.v (.int .i64 1)], [.v (.int .i64 2)], [.v (.int .i64 3)]], 1, 3, false⟩)]) (t0 := 10) (Y.con_evalK ftabOk tabOk mixOk 40 12 (by kernel_rfl) (by rfl) (by kernel_rfl)) ⟨⟨_, rfl, rfl, rfl⟩, rfl, trivial⟩⟩
theorem owned_1_2 : ∃ L, Con Try.prog 72 [.one (.v (.int .i64 1)), .one (.v (.int .i64 2))] (fun rx rK rt => rx = .tup [.one (.ro true 1 L), .one (.v (.int .i64 0))] ∧ rK = [] ∧ rt = 0) := ⟨_, Z.con_fz [.one (.ro true 1 [[.v (.int .i64 4)], [.v (.int .i64 5)], [.v (.int .i64 6)], [.v (.int .i64 7)]]), .one (.v (.int .i64 0))] (xs := [.one (.osl 9 0 4 none), .one (.v (.int .i64 0))]) (K0 := [(9, some ⟨[[.v (.int .i64 4)], [.v (.int .i64 5)], [.v (.int .i64 6)], [.v (.int .i64 7)]], 1, 3, false⟩)]) (t0 := 10) (Y.con_evalK ftabOk tabOk mixOk 40 12 (by kernel_rfl) (by rfl) (by kernel_rfl)) ⟨⟨_, rfl, rfl, rfl⟩, rfl, trivial⟩⟩
theorem owned_0_3 : ∃ L, Con Try.prog 72 [.one (.v (.int .i64 0)), .one (.v (.int .i64 3))] (fun rx rK rt => rx = .tup [.one (.ro true 1 L), .one (.v (.int .i64 0))] ∧ rK = [] ∧ rt = 0) := ⟨_, Z.con_fz [.one (.ro true 1 [[.v (.int .i64 0)], [.v (.int .i64 1)], [.v (.int .i64 2)]]), .one (.v (.int .i64 0))] (xs := [.one (.osl 7 0 3 none), .one (.v (.int .i64 0))]) (K0 := [(7, some ⟨[[.v (.int .i64 0)], [.v (.int .i64 1)], [.v (.int .i64 2)]], 1, 3, false⟩)]) (t0 := 8) (Y.con_evalK ftabOk tabOk mixOk 40 12 (by kernel_rfl) (by rfl) (by kernel_rfl)) ⟨⟨_, rfl, rfl, rfl⟩, rfl, trivial⟩⟩
theorem owned_1_3 : ∃ L, Con Try.prog 72 [.one (.v (.int .i64 1)), .one (.v (.int .i64 3))] (fun rx rK rt => rx = .tup [.one (.ro true 1 L), .one (.v (.int .i64 0))] ∧ rK = [] ∧ rt = 0) := ⟨_, Z.con_fz [.one (.ro true 1 [[.v (.int .i64 3)], [.v (.int .i64 4)], [.v (.int .i64 5)]]), .one (.v (.int .i64 0))] (xs := [.one (.osl 7 0 3 none), .one (.v (.int .i64 0))]) (K0 := [(7, some ⟨[[.v (.int .i64 3)], [.v (.int .i64 4)], [.v (.int .i64 5)]], 1, 3, false⟩)]) (t0 := 8) (Y.con_evalK ftabOk tabOk mixOk 40 12 (by kernel_rfl) (by rfl) (by kernel_rfl)) ⟨⟨_, rfl, rfl, rfl⟩, rfl, trivial⟩⟩
theorem owned_2_3 : ∃ L, Con Try.prog 72 [.one (.v (.int .i64 2)), .one (.v (.int .i64 3))] (fun rx rK rt => rx = .tup [.one (.ro true 1 L), .one (.v (.int .i64 0))] ∧ rK = [] ∧ rt = 0) := ⟨_, Z.con_fz [.one (.ro true 1 [[.v (.int .i64 6)], [.v (.int .i64 7)]]), .one (.v (.int .i64 0))] (xs := [.one (.osl 5 0 2 none), .one (.v (.int .i64 0))]) (K0 := [(5, some ⟨[[.v (.int .i64 6)], [.v (.int .i64 7)]], 1, 3, false⟩)]) (t0 := 6) (Y.con_evalK ftabOk tabOk mixOk 40 12 (by kernel_rfl) (by rfl) (by kernel_rfl)) ⟨⟨_, rfl, rfl, rfl⟩, rfl, trivial⟩⟩
theorem owned_ok (i w : Int) (h : okS i w) : ∃ L, Con Try.prog 72 [.one (.v (.int .i64 i)), .one (.v (.int .i64 w))] (fun rx rK rt => rx = .tup [.one (.ro true 1 L), .one (.v (.int .i64 0))] ∧ rK = [] ∧ rt = 0) := by
 have hc : (i = 0 ∧ w = 1) ∨ (i = 0 ∧ w = 2) ∨ (i = 1 ∧ w = 2) ∨ (i = 0 ∧ w = 3) ∨ (i = 1 ∧ w = 3) ∨ (i = 2 ∧ w = 3) := by unfold okS at h; omega
 rcases hc with ⟨rfl, rfl⟩ | ⟨rfl, rfl⟩ | ⟨rfl, rfl⟩ | ⟨rfl, rfl⟩ | ⟨rfl, rfl⟩ | ⟨rfl, rfl⟩
 ·exact owned_0_1
 ·exact owned_0_2
 ·exact owned_1_2
 ·exact owned_0_3
 ·exact owned_1_3
 ·exact owned_2_3
theorem owned_bad (i w : Int) (h : ¬ okS i w) : Con Try.prog 72 [.one (.v (.int .i64 i)), .one (.v (.int .i64 w))] (fun rx rK rt => rx = .tup [.one (.ro true 1 []), .one (.v (.int .i64 2))] ∧ rK = [] ∧ rt = 0) := by
 refine Z.con_ofF tabOk 29 Try.f72 _ Try.func72 (by kernel_rfl) rfl rfl rfl rfl ?_
 have csh := share_con i w
 rw [decide_eq_false h] at csh
 repeat' ((conv => whnf); first
  | with_reducible first | refine spB_t ?_
  | ((with_reducible apply spB_cong); (focus (simp only [splQ, Int.reduceBEq, Int.reduceBNe]; rfl)))
  | ((first | (with_reducible refine Z.callZ_mk ?_ (csh) ?_)); (focus ((repeat' (first | exact trivial | exact rfl | apply And.intro)); done)))
  | fail)
 all_goals (try (conv => whnf))
 all_goals try first | (show Nat.ble _ _ = true; rfl) | (exfalso; rename_i hz; cases hz; done) | (exfalso; (try simp only [LN] at *) <;> omega)
 all_goals first
  | ((first | (with_reducible apply Z.retF2)); (focus rfl); (repeat' (first | exact trivial | (with_reducible apply Z.frz_one) | (with_reducible apply Z.fq_int) | (exact Z.frz_nil) | exact rfl | apply And.intro)); (all_goals (try exact (fun _ => none))); all_goals (first | (simp_all; done)))
  | fail
end Tab
end Go.Proofs.Ytopieffkpdlpbaa
namespace Go.Proofs.Ytopieffkpdlpbaa
open Go Go.RowKit Wx
set_option maxHeartbeats 4000000
namespace Tab
theorem mine_in (s k v i w : Int) (c0 c1 c2 c3 c4 c5 c6 c7 : Int) (hk : keyOk s k = true) (hs : okS i w) (cow : Con Try.prog 71 [.one (.v (.int .i64 w))] (fun rx rK rt => rx = .pl (.agg [.v (.int .i64 c0), .v (.int .i64 c1), .v (.int .i64 c2), .v (.int .i64 c3), .v (.int .i64 c4), .v (.int .i64 c5), .v (.int .i64 c6), .v (.int .i64 c7)]) ∧ rK = [] ∧ rt = 0)) : Con Try.prog 29 [.agg [.v (.int .i64 s), .v (.int .i64 k), .v (.int .i64 v)], .one (.v (.int .i64 i)), .one (.v (.int .i64 w))] (fun rx rK rt => rx = .val (.bool (decide ((([c0, c1, c2, c3, c4, c5, c6, c7] : List Int).getD (k % 8).toNat 0) = i))) ∧ rK = [] ∧ rt = 0) := by
 refine Z.con_ofF tabOk 24 Try.f29 _ Try.func29 (by kernel_rfl) rfl rfl rfl rfl ?_
 have ck := rec_con s k v
 have csh := share_con i w
 rw [hk] at ck
 rw [decide_eq_true hs] at csh
 try simp only [cond_true] at ck
 have hk2 := keyOk_iff.1 hk
 have cg := group_con s k v
 rw [show k.tmod 8 = k % 8 from Int.tmod_eq_emod_of_nonneg (by omega)] at cg
 have hj : k % 8 = 0 ∨ k % 8 = 1 ∨ k % 8 = 2 ∨ k % 8 = 3 ∨ k % 8 = 4 ∨ k % 8 = 5 ∨ k % 8 = 6 ∨ k % 8 = 7 := by omega
 rcases hj with hj | hj | hj | hj | hj | hj | hj | hj
 all_goals rw [hj] at cg ⊢
 all_goals (
  repeat' ((conv => whnf); first
   | with_reducible first | refine spB_t ?_
   | ((with_reducible apply spB_cong); (focus (simp only [splQ, Int.reduceBEq, Int.reduceBNe]; rfl)))
   | ((with_reducible apply ixN_lit); (focus rfl); (focus rfl))
   | ((first | (with_reducible refine Z.conZ_mz ?_ (ck) ?_) | (with_reducible refine Z.conZ_mz ?_ (cg) ?_) | (with_reducible refine Z.conZ_mz ?_ (csh) ?_) | (with_reducible refine Z.conZ_mz ?_ (cow) ?_)); (focus ((repeat' (first | exact trivial | exact rfl | apply And.intro)); done)))
   | with_reducible first | refine Z.drawZ_rule tabOk mixOk ?_ | refine Z.apZ_mk (by kernel_rfl) ?_
   | fail)
  all_goals (try (conv => whnf))
  all_goals try first | (show Nat.ble _ _ = true; rfl) | (exfalso; rename_i hz; cases hz; done) | (exfalso; (try simp only [LN] at *) <;> omega)
  all_goals first
   | ((first | (with_reducible apply Z.retF1)); (focus rfl); (repeat' (first | exact trivial | (with_reducible apply Z.frz_one) | (with_reducible apply Z.fq_bool) | exact rfl | apply And.intro)); (all_goals (try exact (fun _ => none))); all_goals (first | (simp_all; done)))
   | fail
  )
theorem mine_rec (s k v i w : Int) (hk : keyOk s k = false) : Con Try.prog 29 [.agg [.v (.int .i64 s), .v (.int .i64 k), .v (.int .i64 v)], .one (.v (.int .i64 i)), .one (.v (.int .i64 w))] (fun rx rK rt => rx = .val (.bool false) ∧ rK = [] ∧ rt = 0) := by
 refine Z.con_ofF tabOk 24 Try.f29 _ Try.func29 (by kernel_rfl) rfl rfl rfl rfl ?_
 have ck := rec_con s k v
 have csh := share_con i w
 rw [hk] at ck
 try simp only [cond_false] at ck
 repeat' ((conv => whnf); first
  | ((with_reducible apply spB_cong); (focus (simp only [splQ, Int.reduceBEq, Int.reduceBNe]; rfl)))
  | with_reducible first | refine spB_no (by decide) ?_
  | ((first | (with_reducible refine Z.conZ_mz ?_ (ck) ?_)); (focus ((repeat' (first | exact trivial | exact rfl | apply And.intro)); done)))
  | with_reducible first | refine Z.drawZ_rule tabOk mixOk ?_ | refine Z.apZ_mk (by kernel_rfl) ?_
  | fail)
 all_goals (try (conv => whnf))
 all_goals try first | (show Nat.ble _ _ = true; rfl) | (exfalso; rename_i hz; cases hz; done) | (exfalso; (try simp only [LN] at *) <;> omega)
 all_goals first
  | ((first | (with_reducible apply Z.retF1)); (focus rfl); (repeat' (first | exact trivial | (with_reducible apply Z.frz_one) | (with_reducible apply Z.fq_bool) | exact rfl | apply And.intro)); (all_goals (try exact (fun _ => none))); all_goals (first | (simp_all; done)))
  | fail
theorem mine_sh (s k v i w : Int) (hk : keyOk s k = true) (hs : ¬ okS i w) : Con Try.prog 29 [.agg [.v (.int .i64 s), .v (.int .i64 k), .v (.int .i64 v)], .one (.v (.int .i64 i)), .one (.v (.int .i64 w))] (fun rx rK rt => rx = .val (.bool false) ∧ rK = [] ∧ rt = 0) := by
 refine Z.con_ofF tabOk 24 Try.f29 _ Try.func29 (by kernel_rfl) rfl rfl rfl rfl ?_
 have ck := rec_con s k v
 have csh := share_con i w
 rw [hk] at ck
 rw [decide_eq_false hs] at csh
 try simp only [cond_true] at ck
 repeat' ((conv => whnf); first
  | with_reducible first | refine spB_t ?_
  | ((with_reducible apply spB_cong); (focus (simp only [splQ, Int.reduceBEq, Int.reduceBNe]; rfl)))
  | with_reducible first | refine spB_no (by decide) ?_
  | ((first | (with_reducible refine Z.conZ_mz ?_ (ck) ?_) | (with_reducible refine Z.conZ_mz ?_ (csh) ?_)); (focus ((repeat' (first | exact trivial | exact rfl | apply And.intro)); done)))
  | with_reducible first | refine Z.drawZ_rule tabOk mixOk ?_ | refine Z.apZ_mk (by kernel_rfl) ?_
  | fail)
 all_goals (try (conv => whnf))
 all_goals try first | (show Nat.ble _ _ = true; rfl) | (exfalso; rename_i hz; cases hz; done) | (exfalso; (try simp only [LN] at *) <;> omega)
 all_goals first
  | ((first | (with_reducible apply Z.retF1)); (focus rfl); (repeat' (first | exact trivial | (with_reducible apply Z.frz_one) | (with_reducible apply Z.fq_bool) | exact rfl | apply And.intro)); (all_goals (try exact (fun _ => none))); all_goals (first | (simp_all; done)))
  | fail
theorem mine_con (s k v i w : Int) : Con Try.prog 29 [.agg [.v (.int .i64 s), .v (.int .i64 k), .v (.int .i64 v)], .one (.v (.int .i64 i)), .one (.v (.int .i64 w))] (fun rx rK rt => rx = .val (.bool (mineB s k i w)) ∧ rK = [] ∧ rt = 0) := by
 unfold mineB
 cases hk : keyOk s k
 ·simp only [Bool.false_and]
  exact mine_rec s k v i w hk
 by_cases hs : okS i w
 rotate_left
 ·rw [decide_eq_false hs]
  simp only [Bool.true_and, Bool.false_and]
  exact mine_sh s k v i w hk hs
 rw [decide_eq_true hs]
 simp only [Bool.true_and]
 have hk2 := keyOk_iff.1 hk
 have hw : w = 1 ∨ w = 2 ∨ w = 3 := by unfold okS at hs; omega
 have hj : k % 8 = 0 ∨ k % 8 = 1 ∨ k % 8 = 2 ∨ k % 8 = 3 ∨ k % 8 = 4 ∨ k % 8 = 5 ∨ k % 8 = 6 ∨ k % 8 = 7 := by omega
 rcases hw with rfl | rfl | rfl
 ·have h := mine_in s k v i 1 _ _ _ _ _ _ _ _ hk hs owners_1
  have e : ([0, 0, 0, 0, 0, 0, 0, 0] : List Int).getD (k % 8).toNat 0 = ownG (k % 8) 1 := by rcases hj with hj | hj | hj | hj | hj | hj | hj | hj <;> rw [hj] <;> decide
  rw [e] at h
  exact h
 ·have h := mine_in s k v i 2 _ _ _ _ _ _ _ _ hk hs owners_2
  have e : ([0, 0, 0, 0, 1, 1, 1, 1] : List Int).getD (k % 8).toNat 0 = ownG (k % 8) 2 := by rcases hj with hj | hj | hj | hj | hj | hj | hj | hj <;> rw [hj] <;> decide
  rw [e] at h
  exact h
 ·have h := mine_in s k v i 3 _ _ _ _ _ _ _ _ hk hs owners_3
  have e : ([0, 0, 0, 1, 1, 1, 2, 2] : List Int).getD (k % 8).toNat 0 = ownG (k % 8) 3 := by rcases hj with hj | hj | hj | hj | hj | hj | hj | hj <;> rw [hj] <;> decide
  rw [e] at h
  exact h
theorem rmine_in (s k v i w : Int) (c : Int) (hk : keyOk s k = true) (hs : okS i w) (cow : Con Try.prog 78 [.one (.v (.int .i64 (k.tmod 8))), .one (.v (.int .i64 w))] (fun rx rK rt => rx = .val (.int .i64 c) ∧ rK = [] ∧ rt = 0)) : Con Try.prog 89 [.agg [.v (.int .i64 s), .v (.int .i64 k), .v (.int .i64 v)], .one (.v (.int .i64 i)), .one (.v (.int .i64 w))] (fun rx rK rt => rx = .val (.bool (decide (c = i))) ∧ rK = [] ∧ rt = 0) := by
 refine Z.con_ofF tabOk 23 Try.f89 _ Try.func89 (by kernel_rfl) rfl rfl rfl rfl ?_
 have ck := rrec_con s k v
 have csh := rshare_con i w
 rw [hk] at ck
 rw [decide_eq_true hs] at csh
 try simp only [cond_true] at ck
 have hk2 := keyOk_iff.1 hk
 have cg := rgroup_con k
 repeat' ((conv => whnf); first
  | with_reducible first | refine spB_t ?_
  | ((first | (with_reducible refine Z.callZ_mk ?_ (cg) ?_) | (with_reducible refine Z.callZ_mk ?_ (csh) ?_) | (with_reducible refine Z.callZ_mk ?_ (ck) ?_) | (with_reducible refine Z.callZ_mk ?_ (cow) ?_)); (focus ((repeat' (first | exact trivial | exact rfl | apply And.intro)); done)))
  | fail)
 all_goals (try (conv => whnf))
 all_goals try first | (show Nat.ble _ _ = true; rfl) | (exfalso; rename_i hz; cases hz; done) | (exfalso; (try simp only [LN] at *) <;> omega)
 all_goals first
  | ((first | (with_reducible apply Z.retF1)); (focus rfl); (repeat' (first | exact trivial | (with_reducible apply Z.frz_one) | (with_reducible apply Z.fq_bool) | exact rfl | apply And.intro)); (all_goals (try exact (fun _ => none))); all_goals (first | (simp_all; done)))
  | fail
theorem rmine_rec (s k v i w : Int) (hk : keyOk s k = false) : Con Try.prog 89 [.agg [.v (.int .i64 s), .v (.int .i64 k), .v (.int .i64 v)], .one (.v (.int .i64 i)), .one (.v (.int .i64 w))] (fun rx rK rt => rx = .val (.bool false) ∧ rK = [] ∧ rt = 0) := by
 refine Z.con_ofF tabOk 23 Try.f89 _ Try.func89 (by kernel_rfl) rfl rfl rfl rfl ?_
 have ck := rrec_con s k v
 have csh := rshare_con i w
 rw [hk] at ck
 try simp only [cond_false] at ck
 repeat' ((conv => whnf); first
  | with_reducible first | refine spB_no (by decide) ?_
  | ((first | (with_reducible refine Z.callZ_mk ?_ (ck) ?_)); (focus ((repeat' (first | exact trivial | exact rfl | apply And.intro)); done)))
  | fail)
 all_goals (try (conv => whnf))
 all_goals try first | (show Nat.ble _ _ = true; rfl) | (exfalso; rename_i hz; cases hz; done) | (exfalso; (try simp only [LN] at *) <;> omega)
 all_goals first
  | ((first | (with_reducible apply Z.retF1)); (focus rfl); (repeat' (first | exact trivial | (with_reducible apply Z.frz_one) | (with_reducible apply Z.fq_bool) | exact rfl | apply And.intro)); (all_goals (try exact (fun _ => none))); all_goals (first | (simp_all; done)))
  | fail
theorem rmine_sh (s k v i w : Int) (hk : keyOk s k = true) (hs : ¬ okS i w) : Con Try.prog 89 [.agg [.v (.int .i64 s), .v (.int .i64 k), .v (.int .i64 v)], .one (.v (.int .i64 i)), .one (.v (.int .i64 w))] (fun rx rK rt => rx = .val (.bool false) ∧ rK = [] ∧ rt = 0) := by
 refine Z.con_ofF tabOk 23 Try.f89 _ Try.func89 (by kernel_rfl) rfl rfl rfl rfl ?_
 have ck := rrec_con s k v
 have csh := rshare_con i w
 rw [hk] at ck
 rw [decide_eq_false hs] at csh
 try simp only [cond_true] at ck
 repeat' ((conv => whnf); first
  | with_reducible first | refine spB_t ?_
  | with_reducible first | refine spB_no (by decide) ?_
  | ((first | (with_reducible refine Z.callZ_mk ?_ (csh) ?_) | (with_reducible refine Z.callZ_mk ?_ (ck) ?_)); (focus ((repeat' (first | exact trivial | exact rfl | apply And.intro)); done)))
  | fail)
 all_goals (try (conv => whnf))
 all_goals try first | (show Nat.ble _ _ = true; rfl) | (exfalso; rename_i hz; cases hz; done) | (exfalso; (try simp only [LN] at *) <;> omega)
 all_goals first
  | ((first | (with_reducible apply Z.retF1)); (focus rfl); (repeat' (first | exact trivial | (with_reducible apply Z.frz_one) | (with_reducible apply Z.fq_bool) | exact rfl | apply And.intro)); (all_goals (try exact (fun _ => none))); all_goals (first | (simp_all; done)))
  | fail
theorem rmine_con (s k v i w : Int) : Con Try.prog 89 [.agg [.v (.int .i64 s), .v (.int .i64 k), .v (.int .i64 v)], .one (.v (.int .i64 i)), .one (.v (.int .i64 w))] (fun rx rK rt => rx = .val (.bool (mineB s k i w)) ∧ rK = [] ∧ rt = 0) := by
 unfold mineB
 cases hk : keyOk s k
 ·simp only [Bool.false_and]
  exact rmine_rec s k v i w hk
 by_cases hs : okS i w
 rotate_left
 ·rw [decide_eq_false hs]
  simp only [Bool.true_and, Bool.false_and]
  exact rmine_sh s k v i w hk hs
 rw [decide_eq_true hs]
 simp only [Bool.true_and]
 have hk2 := keyOk_iff.1 hk
 have hw : w = 1 ∨ w = 2 ∨ w = 3 := by unfold okS at hs; omega
 have hj : k % 8 = 0 ∨ k % 8 = 1 ∨ k % 8 = 2 ∨ k % 8 = 3 ∨ k % 8 = 4 ∨ k % 8 = 5 ∨ k % 8 = 6 ∨ k % 8 = 7 := by omega
 have ht : k.tmod 8 = k % 8 := Int.tmod_eq_emod_of_nonneg (by omega)
 refine rmine_in s k v i w (ownG (k % 8) w) hk hs ?_
 rw [ht]
 rcases hw with rfl | rfl | rfl <;> rcases hj with hj | hj | hj | hj | hj | hj | hj | hj <;> rw [hj]
 ·exact rw_0_1
 ·exact rw_1_1
 ·exact rw_2_1
 ·exact rw_3_1
 ·exact rw_4_1
 ·exact rw_5_1
 ·exact rw_6_1
 ·exact rw_7_1
 ·exact rw_0_2
 ·exact rw_1_2
 ·exact rw_2_2
 ·exact rw_3_2
 ·exact rw_4_2
 ·exact rw_5_2
 ·exact rw_6_2
 ·exact rw_7_2
 ·exact rw_0_3
 ·exact rw_1_3
 ·exact rw_2_3
 ·exact rw_3_3
 ·exact rw_4_3
 ·exact rw_5_3
 ·exact rw_6_3
 ·exact rw_7_3
end Tab
end Go.Proofs.Ytopieffkpdlpbaa
namespace Go.Proofs.Ytopieffkpdlpbaa
open Go Go.RowKit Wx
set_option maxHeartbeats 4000000
namespace Tab
theorem part_tab (l : List Kc) (a w : Int) (hl : l.length ≤ 1000) (ht : tabR l = false) : Con Try.prog 87 [.agg [.ro false 4 (l.map eK)], .one (.v (.int .i64 a)), .one (.v (.int .i64 w))] (fun rx rK rt => rx = .tup [.agg [.ro true 4 (([] : List Kc).map eK)], .one (.v (.int .i64 220))] ∧ rK = [] ∧ rt = 0) := by
 refine Z.con_ofF tabOk 41 Try.f87 _ Try.func87 (by kernel_rfl) rfl rfl rfl rfl ?_
 have cc := check_con l (by omega)
 rw [ht] at cc
 simp only [cond_false] at cc
 repeat' ((conv => whnf); first
  | with_reducible first | refine spB_t ?_
  | ((with_reducible apply spB_cong); (focus (simp only [splQ, Int.reduceBEq, Int.reduceBNe]; rfl)))
  | ((first | (with_reducible refine Z.callZ_mk ?_ (cc) ?_)); (focus ((repeat' (first | exact trivial | exact rfl | apply And.intro)); done)))
  | fail)
 all_goals (try (conv => whnf))
 all_goals try first | (show Nat.ble _ _ = true; rfl) | (exfalso; rename_i hz; cases hz; done) | (exfalso; (try simp only [LN] at *) <;> omega)
 all_goals first
  | ((first | (with_reducible apply Z.retF2)); (focus rfl); (repeat' (first | exact trivial | (with_reducible apply Z.frz_agg) | (exact Z.frz_nil) | exact rfl | apply And.intro)); (all_goals (try exact (fun _ => none))); all_goals (first | (simp; done)))
  | fail
theorem part_sh (l : List Kc) (a w : Int) (hl : l.length ≤ 1000) (ht : tabR l = true) (hs : ¬ okS a w) : Con Try.prog 87 [.agg [.ro false 4 (l.map eK)], .one (.v (.int .i64 a)), .one (.v (.int .i64 w))] (fun rx rK rt => rx = .tup [.agg [.ro true 4 (([] : List Kc).map eK)], .one (.v (.int .i64 2))] ∧ rK = [] ∧ rt = 0) := by
 refine Z.con_ofF tabOk 41 Try.f87 _ Try.func87 (by kernel_rfl) rfl rfl rfl rfl ?_
 have cc := check_con l (by omega)
 rw [ht] at cc
 simp only [cond_true] at cc
 have cow := owned_bad a w hs
 repeat' ((conv => whnf); first
  | with_reducible first | refine spB_t ?_
  | ((with_reducible apply spB_cong); (focus (simp only [splQ, Int.reduceBEq, Int.reduceBNe]; rfl)))
  | with_reducible first | refine spB_no (by decide) ?_
  | ((first | (with_reducible refine Z.callZ_mk ?_ (cc) ?_) | (with_reducible refine Z.callZ_mk ?_ (cow) ?_)); (focus ((repeat' (first | exact trivial | exact rfl | apply And.intro)); done)))
  | fail)
 all_goals (try (conv => whnf))
 all_goals try first | (show Nat.ble _ _ = true; rfl) | (exfalso; rename_i hz; cases hz; done) | (exfalso; (try simp only [LN] at *) <;> omega)
 all_goals first
  | ((first | (with_reducible apply Z.retF2)); (focus rfl); (repeat' (first | exact trivial | (with_reducible apply Z.frz_agg) | (exact Z.frz_nil) | exact rfl | apply And.intro)); (all_goals (try exact (fun _ => none))); all_goals (first | (simp; done)))
  | fail
end Tab
end Go.Proofs.Ytopieffkpdlpbaa
namespace Go.Proofs.Ytopieffkpdlpbaa
open Go Go.RowKit Wx
set_option maxHeartbeats 4000000
namespace Tab
theorem part_ok (l : List Kc) (a w : Int) (hl : l.length ≤ 1000) (ht : tabR l = true) (hs : okS a w) : Con Try.prog 87 [.agg [.ro false 4 (l.map eK)], .one (.v (.int .i64 a)), .one (.v (.int .i64 w))] (fun rx rK rt => rx = .tup [.agg [.ro true 4 ((partL l a w : List Kc).map eK)], .one (.v (.int .i64 0))] ∧ rK = [] ∧ rt = 0) := by
 refine Z.con_ofF tabOk 41 Try.f87 _ Try.func87 (by kernel_rfl) rfl rfl rfl rfl ?_
 have cc := check_con l (by omega)
 rw [ht] at cc
 simp only [cond_true] at cc
 obtain ⟨L, cow⟩ := owned_ok a w hs
 repeat' ((conv => whnf); first
  | ((with_reducible apply spB_cong); (focus (simp only [splQ, Int.reduceBEq, Int.reduceBNe]; rfl)))
  | with_reducible first | refine spB_no (by decide) ?_
  | with_reducible first | refine Z.callZ_in tabOk 26 Try.f118 _ Try.func118 (by kernel_rfl) rfl rfl rfl ?_ | refine Z.callZ_in tabOk 8 Try.f109 _ Try.func109 (by kernel_rfl) rfl rfl rfl ?_
  | ((first | (with_reducible refine Z.callZ_mk ?_ (cc) ?_) | (with_reducible refine Z.callZ_mk ?_ (cow) ?_)); (focus ((repeat' (first | exact trivial | exact rfl | apply And.intro)); done)))
  | ((with_reducible apply ex_and); exact rfl)
  | ((with_reducible refine Z.RangeZ.red ?_); (refine Z.range_rule [(6, _), (11, _), (32, _)] rfl ⟨rfl, rfl, rfl, trivial⟩ rfl rfl ?_); intro lb hlb)
  | fail)
 all_goals (try (conv => whnf))
 all_goals try first | (show Nat.ble _ _ = true; rfl) | (exfalso; rename_i hz; cases hz; done) | (exfalso; (try simp only [LN] at *) <;> omega)
 refine Z.loopK tabOk (fun zq : Nat × List Kc => [(10, .val (.int .i64 (zq.1 : Int)))]) (fun zq : Nat × List Kc => ([(2, some (Z.Ob.b ⟨[[.gsl 7 (zq.2.map cK)]], 1, 28, true⟩)), (7, (gB 4 70 (zq.2.map cK)).map Z.Ob.b)] : Z.Kr)) (fun zq => zq.1 ≤ l.length ∧ zq.2 = partL (l.take zq.1) a w) (fun zq => l.length - zq.1) (0, []) 8 [(0, _), (2, _), (3, _), (8, _), (9, _)] ⟨rfl, rfl, rfl, rfl, rfl, trivial⟩ [(0, some _), (1, some _), (3, some _), (4, some _), (5, some _), (6, some _)] ⟨rfl, rfl, rfl, rfl, rfl, rfl, trivial⟩ ?_ ?_ rfl rfl ⟨Nat.zero_le _, by simp [partL]⟩ ?_
 ·repeat' (first | exact trivial | apply And.intro | exact ⟨_, rfl, Z.Imp.refl _⟩)
 ·repeat' (first | exact trivial | (intro b hb; cases hb; done) | (intro b hb; cases hb; refine ⟨_, rfl, ⟨rfl, rfl, rfl⟩, ?_⟩; (repeat' (first | exact trivial | apply And.intro | exact Z.Imp.nilg _)); done) | apply And.intro)
 rintro ⟨i, acc⟩ HINV
 (try dsimp only at HINV); (try dsimp only)
 obtain ⟨HI, HA⟩ := HINV
 have hpl := @part_len (l.take i) a w
 rw [List.length_take, ← HA] at hpl
 by_cases hi2 : i < l.length
 ·obtain ⟨x, hx⟩ := getElem?_some' (xs := l) (i := i) hi2
  have hpa := part_at (i := a) (w := w) hx
  rw [← HA] at hpa
  have cm := mine_con x.src x.key 0 a w
  cases hm : mineB x.src x.key a w
  all_goals rw [hm] at cm hpa
  all_goals simp only [cond_true, cond_false, List.append_nil] at hpa
  ·skip
   repeat' ((conv => whnf); first
    | with_reducible first | refine spB_no (by decide) ?_
    | (with_reducible refine spB_dec ?_ ?_ <;> intro _ <;> (try (exfalso; (first | (simp only [LN] at *; omega)))))
    | with_reducible first | refine Z.rowN_known hx ?_
    | ((with_reducible apply ixN_litp); (focus rfl); (focus ((try simp only [LN] at *) <;> omega)))
    | with_reducible refine wr_i64 (by first | omega | (simp only [LN] at *; omega)) ?_
    | with_reducible first | refine Z.callZ_in tabOk 8 Try.f69 _ Try.func69 (by kernel_rfl) rfl rfl rfl ?_
    | ((first | (with_reducible refine Z.conZ_mz ?_ (cm) ?_)); (focus ((repeat' (first | exact trivial | exact rfl | apply And.intro)); done)))
    | ((with_reducible apply ex_and); exact rfl)
    | with_reducible first | refine Z.drawZ_rule tabOk mixOk ?_ | refine Z.apZ_mk (by kernel_rfl) ?_
    | ((with_reducible refine Z.ConZ.red ?_); (try subst hlb); (apply Z.conZ_all); (focus (repeat (first | exact Z.FK.nil | (apply Z.FK.keep; exact rfl)))); (focus rfl); (focus rfl); (focus (repeat (first | exact trivial | (refine ⟨(fun o ho => (by first | (cases ho; rfl) | (cases ho; exact Z.inL_map fun _ => rfl) | (cases ho; exact Z.inL_mapr fun _ => rfl) | exact Z.inL_gB ho fun _ => rfl)), ?_⟩)))))
    | ((refine ⟨rfl, ?_, rfl⟩); (focus (repeat (first | exact Z.DK.nil | apply Z.DK.cons))))
    | fail)
   all_goals (try (conv => whnf))
   all_goals try first | (show Nat.ble _ _ = true; rfl) | (exfalso; rename_i hz; cases hz; done) | (exfalso; (try simp only [LN] at *) <;> omega)
   all_goals first
    | ((refine Z.rndK ((i + 1, acc)) (fun s => [0, 1, 2, 3, 4, 5, 6, s.idIn 2 0]) rfl rfl rfl rfl ?_ ?_ ?_ ?_); (focus (repeat' (first | exact trivial | exact rfl | apply And.intro))); (focus (repeat' (first | exact trivial | (intro b hb; cases hb; rfl) | exact Z.gB_sub rfl rfl (ren_map fun _ => rfl) | apply And.intro))); (focus (exact ⟨by (try dsimp only); omega, hpa.symm⟩)); ((try dsimp only); omega))
    | fail
  ·skip
   repeat' ((conv => whnf); first
    | with_reducible first | refine spB_t ?_
    | ((with_reducible apply spB_cong); (focus (simp only [splQ, Int.reduceBEq, Int.reduceBNe]; rfl)))
    | with_reducible first | refine spB_no (by decide) ?_
    | (with_reducible refine spB_dec ?_ ?_ <;> intro _ <;> (try (exfalso; (first | (simp only [LN] at *; omega)))))
    | with_reducible first | refine Z.rowN_known hx ?_
    | ((with_reducible refine posE_pos ?_ ?_); (focus ((try simp only [LN] at *) <;> omega)))
    | ((with_reducible apply ixN_litp); (focus rfl); (focus ((try simp only [LN] at *) <;> omega)))
    | ((with_reducible refine apdN.mk ?_ ?_ ?_ ?_ ?_ ?_); (focus (first | rfl)); (focus (first | exact one_all (by rfl))); (focus ((try simp only [LN] at *) <;> omega)); (focus ((try simp only [LN] at *) <;> omega)); (focus ((try simp only [LN] at *) <;> omega)))
    | with_reducible refine wr_i64 (by first | omega | (simp only [LN] at *; omega)) ?_
    | with_reducible first | refine Z.callZ_in tabOk 8 Try.f69 _ Try.func69 (by kernel_rfl) rfl rfl rfl ?_
    | ((first | (with_reducible refine Z.conZ_mz ?_ (cm) ?_)); (focus ((repeat' (first | exact trivial | exact rfl | apply And.intro)); done)))
    | ((with_reducible refine eqN_mk2 ?_ ?_); (focus (exact Z.kb_some rfl)))
    | ((with_reducible apply ex_and); exact rfl)
    | ((with_reducible refine Z.CallZ.yl ?_); refine Z.yield_rule tabOk _ _ rfl rfl rfl rfl ?_)
    | with_reducible first | refine Z.drawZ_rule tabOk mixOk ?_ | refine Z.apZ_mk (by kernel_rfl) ?_
    | ((with_reducible refine Z.ConZ.red ?_); (try subst hlb); (apply Z.conZ_all); (focus (repeat (first | exact Z.FK.nil | (apply Z.FK.keep; exact rfl)))); (focus rfl); (focus rfl); (focus (repeat (first | exact trivial | (refine ⟨(fun o ho => (by first | (cases ho; rfl) | (cases ho; exact Z.inL_map fun _ => rfl) | (cases ho; exact Z.inL_mapr fun _ => rfl) | exact Z.inL_gB ho fun _ => rfl)), ?_⟩)))))
    | ((refine ⟨rfl, ?_, rfl⟩); (focus (repeat (first | exact Z.DK.nil | apply Z.DK.cons))))
    | fail)
   all_goals (try (conv => whnf))
   all_goals try first | (show Nat.ble _ _ = true; rfl) | (exfalso; rename_i hz; cases hz; done) | (exfalso; (try simp only [LN] at *) <;> omega)
   all_goals first
    | ((refine Z.rndK ((i + 1, acc ++ [x])) (fun s => [0, 1, 2, 3, 4, 5, 6, s.idIn 2 0]) rfl rfl rfl rfl ?_ ?_ ?_ ?_); (focus (repeat' (first | exact trivial | exact rfl | apply And.intro))); (focus (repeat' (first | exact trivial | (intro b hb; cases hb; rfl) | (intro b hb; cases hb; rw [List.map_append (f := cK)]; rfl) | exact Z.gB_sub' rfl (by first | rfl | (rw [List.map_append]; rfl) | simp only [List.map_append, List.map_cons, List.map_nil]) (ren_map fun _ => rfl) | apply And.intro))); (focus (exact ⟨by (try dsimp only); omega, hpa.symm⟩)); ((try dsimp only); omega))
    | fail
 have hil : i = l.length := by omega
 subst hil
 rw [List.take_length] at HA
 subst HA
 repeat' ((conv => whnf); first
  | (with_reducible refine spB_dec ?_ ?_ <;> intro _ <;> (try (exfalso; (first | (rename_i hz; simp at hz; done)))))
  | ((with_reducible apply ex_and); exact rfl)
  | ((with_reducible refine Z.rngN.mk ?_); (try subst hlb))
  | fail)
 all_goals (try (conv => whnf))
 all_goals try first | (show Nat.ble _ _ = true; rfl) | (exfalso; rename_i hz; cases hz; done) | (exfalso; (try simp only [LN] at *) <;> omega)
 all_goals first
  | ((first | (with_reducible apply Z.retF2)); (focus rfl); (repeat' (first | exact trivial | (with_reducible apply Z.frz_one) | (with_reducible apply Z.frz_agg) | (with_reducible apply Z.fq_int) | ((with_reducible apply Z.fq_gsl); (focus (first | exact Z.isB_map _)); (focus (exact fun _ => rfl))) | exact rfl | apply And.intro)); (all_goals (try exact (fun _ => none))); all_goals (first | (simp; done)))
  | fail
end Tab
end Go.Proofs.Ytopieffkpdlpbaa
namespace Go.Proofs.Ytopieffkpdlpbaa
open Go Go.RowKit Wx
set_option maxHeartbeats 4000000
namespace Tab
end Tab
end Go.Proofs.Ytopieffkpdlpbaa
namespace Go.Proofs.Ytopieffkpdlpbaa
open Go Go.RowKit Wx
set_option maxHeartbeats 4000000
namespace Tab
theorem sort_rule {m i n top : Nat} {c : Option Nat} {R : List (List Ce)} {bx : Bool} {K : Z.Kr} {k : AV → Z.Kr → Nat → Prop} (zs : List Kc) (hb : Z.kz K i = some (Z.Ob.b ⟨R, 4, 70, bx⟩)) (hr : R = zs.map cK) (hn : n = zs.length) (hl : zs.length ≤ 4000)
  (hkk : ∀ zs' : List Kc, zs'.Perm zs → zs'.Pairwise (fun x y => ltOf cfK y x = false) → k (.tup []) ((i, some (Z.Ob.b ⟨zs'.map cK, 4, 70, bx⟩)) :: K) top) : Z.CallZ Try.prog m (.fn 104 []) [.c (.osl i 0 n c), .c (.fn 105 [])] K top k := by
 refine Z.callZ_sortK (enc := ev) (kk := 4) (b := ⟨R, 4, 70, bx⟩) (by kernel_rfl) cK (ltOf cfK) zs [] (fun _ => rfl) (fun _ => rfl) hb rfl (by rw [hr, List.append_nil]) hn ?_ ?_
 ·intro blk cap w hH hblk
  exact AnyQ.slices_SortFunc (ρ := Try.sortK_ren) Try.sortK 4 (fun _ => by kernel_rfl) (fun _ => by kernel_rfl) ev (fun _ => rfl) (fun x v hv => by
   simp only [List.mem_cons, List.not_mem_nil, or_false] at hv
   rcases hv with rfl | rfl | rfl | rfl <;> rfl) cfK cfK_swo 105 #[] blk 0 cap zs.toArray w (Go.Proofs.enters_of Try.func105 (by kernel_rfl) rfl) (Z.con_cmp fun x y => cmpk_con x y) hH hblk (by simp; omega)
 ·intro zs' h1 h2
  rw [List.append_nil]
  exact hkk zs' h1 h2
end Tab
end Go.Proofs.Ytopieffkpdlpbaa
namespace Go.Proofs.Ytopieffkpdlpbaa
open Go Go.RowKit Wx
set_option maxHeartbeats 4000000
namespace Tab
theorem concat_own (a b : List Kc) (ha : a.length ≤ 1000) (hb : b.length ≤ 1000) (h0 : 0 < a.length + b.length) : Con Try.prog 103 [.one (.ro false 1 [[RT.ro 4 (a.map eK)], [RT.ro 4 (b.map eK)]])] (fun rx rK rt => rx = .c (.osl 0 0 (a ++ b).length none) ∧ rK = [(0, some ⟨(a ++ b).map cK, 4, 70, false⟩)] ∧ rt = 1) := by
 refine Z.con_ofZ tabOk 36 Try.f103 _ Try.func103 (by kernel_rfl) rfl rfl rfl rfl ?_
 have hA : List.take (0 + (a.map eK).length) ((a.map eK).map (List.map (RT.ce false))) ++ (b.map eK).map (List.map (RT.ce false)) = (a ++ b).map cK := by rw [Nat.zero_add, List.take_of_length_le (by simp), List.map_append, List.map_map, List.map_map]; rfl
 repeat' ((conv => whnf); first
  | with_reducible first | refine spB_t ?_
  | ((with_reducible apply spB_cong); (focus (simp only [splQ, Int.reduceBEq, Int.reduceBNe]; rfl)))
  | with_reducible first | refine spB_yes (by decide) ?_ | refine spB_no (by decide) ?_ | refine spB_f ?_ | refine spB_not ?_ | refine spB_yes (by assumption) ?_ | refine spB_no (by assumption) ?_
  | (with_reducible refine spB_dec ?_ ?_ <;> intro _ <;> (try (exfalso; first | contradiction | omega | (simp only [LN] at *; omega))))
  | (with_reducible refine spB_beq ?_ ?_ <;> intro _ <;> (try (exfalso; first | contradiction | omega | (simp only [LN] at *; omega))))
  | (with_reducible refine spB_bne ?_ ?_ <;> intro _ <;> (try (exfalso; first | contradiction | omega | (simp only [LN] at *; omega))))
  | (with_reducible refine spB_mk ?_ ?_ <;> intro _ <;> (try (exfalso; first | contradiction | omega | (simp only [LN] at *; omega))))
  | with_reducible first | refine Z.loopZ_unroll tabOk 3 ?_
  | ((with_reducible refine slN_hi 0 ?_ ?_ ?_); (focus rfl); (focus (exact Nat.zero_le _)))
  | ((with_reducible refine apz0N_mk (a.length + b.length) ?_ ?_ ?_ ?_ ?_); (iterate 4 (focus ((try simp only [LN] at *) <;> omega))))
  | ((with_reducible refine apz0N_mk _ ?_ ?_ ?_ ?_ ?_); (focus (first | rfl | exact (Int.toNat_of_nonneg (by omega)).symm)); (focus ((try simp only [LN] at *) <;> omega)); (focus ((try simp only [LN] at *) <;> omega)); (focus ((try simp only [LN] at *) <;> omega)))
  | ((with_reducible refine posE_pos ?_ ?_); (focus ((try simp only [LN] at *) <;> omega)))
  | ((with_reducible refine posE_nil ?_ ?_); (focus rfl))
  | ((with_reducible apply rowN_mk); (focus rfl))
  | ((with_reducible apply ixN_lit); (focus rfl); (focus rfl))
  | ((with_reducible apply ixN_litp); (focus rfl); (focus ((try simp only [LN] at *) <;> omega)))
  | ((with_reducible refine eqN_mk2 ?_ ?_); (focus rfl))
  | ((with_reducible refine posN_mk2 ?_ ?_); (focus (first | decide | ((try simp only [LN] at *) <;> omega))))
  | ((with_reducible refine apdE_r ?_); (with_reducible refine aprN.mk ⟨_, rfl, ?_⟩ ?_ ?_ ?_ ?_); (focus ((try simp only [LN] at *) <;> omega)); (focus (first | rfl | (simp; done) | ((try simp only [LN] at *) <;> omega))); (focus (first | exact one_all (by rfl) | exact one_map (fun _ => rfl) | exact one_map2 (fun _ => rfl) | exact one_drop (fun _ => rfl))); (focus ((try simp only [LN] at *) <;> omega)))
  | ((with_reducible refine apdE_k ?_); (with_reducible refine apkN.mk ⟨_, rfl, ?_⟩ ?_); (focus ((try simp only [LN] at *) <;> omega)))
  | with_reducible first | refine apdE_n ?_
  | ((with_reducible refine slE_a ?_ ?_); (focus ((try simp only [LN] at *) <;> omega)))
  | ((with_reducible refine slE_b ?_ ?_); (focus ((try simp only [LN] at *) <;> omega)))
  | ((with_reducible refine slE_split ?_ ?_ ?_); (focus ((try simp only [LN] at *) <;> omega)); (all_goals intro _))
  | ((with_reducible refine apdN.mk ?_ ?_ ?_ ?_ ?_ ?_); (focus (first | rfl | (simp; done))); (focus (first | exact one_all (by rfl) | exact one_map (fun _ => rfl) | exact one_map2 (fun _ => rfl))); (focus ((try simp only [LN] at *) <;> omega)); (focus ((try simp only [LN] at *) <;> omega)); (focus ((try simp only [LN] at *) <;> omega)))
  | with_reducible refine wr_i64 (by first | omega | (simp only [LN] at *; omega)) ?_
  | with_reducible refine wr_u64 (by omega) ?_
  | with_reducible refine wr_u8 (by omega) ?_
  | with_reducible refine wr_u32 (by omega) ?_
  | with_reducible first | refine wr_mk _ rfl ?_
  | ((with_reducible refine ixN_nat ?_ ?_); (focus ((try simp only [LN] at *) <;> omega)))
  | ((with_reducible refine rowN_map ?_ ?_); (focus ((try simp only [LN] at *) <;> omega)); intro x hx)
  | ((with_reducible refine posE_nil (by rfl) ?_))
  | ((with_reducible refine posE_pos (by decide) ?_))
  | with_reducible refine eqN_dec (by omega) ?_
  | with_reducible first | refine apN_mk (by kernel_rfl) ?_ | refine Z.callZ_in tabOk 27 Try.f113 _ Try.func113 (by kernel_rfl) rfl rfl rfl ?_
  | ((with_reducible refine eqN_mk2 ?_ ?_); (focus (exact Z.kb_some rfl)))
  | ((with_reducible apply ex_and); exact rfl))
 all_goals (try (conv => whnf))
 all_goals try first | (show Nat.ble _ _ = true; rfl) | (exfalso; rename_i hz; cases hz; done) | (exfalso; (try simp only [LN] at *) <;> omega)
 all_goals (refine ret1b 2 (.c (.osl 0 0 (a ++ b).length none)) ((a ++ b).map cK) 4 70 false _ rfl ?_ (by rfl) ?_ (ren_map fun _ => rfl) rfl (own_map fun _ => rfl) ⟨rfl, rfl, rfl⟩)
 ·exact congrArg (fun n => AV.c (Ce.osl 2 0 n none)) (by simp)
 ·first | exact hA | (simp [List.take_of_length_le, Function.comp_def]; done)
end Tab
end Go.Proofs.Ytopieffkpdlpbaa
namespace Go.Proofs.Ytopieffkpdlpbaa
open Go Go.RowKit Wx
set_option maxHeartbeats 4000000
namespace Tab
theorem con_quiet {P : Program} {g : FuncId} {u v : Value} (hfn : fnB P g = true) (h : ∀ w, Calls P g #[u] w fun e w' => e = .returned v ∧ w' = w) : Con P g [.one (.v u)] (fun rx rK rt => rx = .val v ∧ rK = [] ∧ rt = 0) := by
 refine ⟨hfn, fun w vs hvs => ?_⟩
 cases vs with
 | nil => exact hvs.elim
 | cons x vs => cases vs with
  | cons _ _ => exact hvs.2.elim
  | nil =>
   have hx : x = u := hvs.1
   subst hx
   refine Calls.mono (h w) ?_
   rintro e w' ⟨rfl, rfl⟩
   exact ⟨v, .val v, [], 0, fun _ => none, fun _ _ => none, rfl, ⟨fun i b h => by simp [kg] at h, fun i j bi bj p q h => by simp [kg] at h, fun i b p h => by simp [kg] at h, (fun _ _ _ _ hu => nomatch hu), fun i b p f o h => by simp [kg] at h, (fun _ _ _ hu => nomatch hu), (fun _ _ _ hu => nomatch hu), .refl _, (fun _ _ _ _ hu => nomatch hu), fun _ h => h.elim⟩, fun _ _ => rfl, (fun p hp => nomatch hp), rfl, rfl, rfl, rfl⟩
theorem len0_con : Con Try.prog 115 [.one (.v (.int .u64 0))] (fun rx rK rt => rx = .val (.int .i64 0) ∧ rK = [] ∧ rt = 0) := con_quiet (by kernel_rfl) fun w => Any.bits_Len (SlLaysF0.n15.bits (P := Try.prog) (ρ := Try.sortK_ren) { Try.sortK with }) 0 w (by decide) (by decide)
theorem pdq0_con : Con Try.prog 114 [.one (.v (.slice none 0 0)), .one (.v (.int .i64 0)), .one (.v (.int .i64 0)), .one (.v (.int .i64 0)), .one (.fn 105 [])] (fun rx rK rt => rx = .tup [] ∧ rK = [] ∧ rt = 0) := Y.con_eval ftabOk tabOk mixOk 60 12 (by kernel_rfl) (by rfl) (by kernel_rfl)
theorem sortnil_con   : Con Try.prog 104 [.one (.v (.slice none 0 0)), .one (.fn 105 [])] (fun rx rK rt => rx = .tup [] ∧ rK = [] ∧ rt = 0) := by
 refine Z.con_ofF tabOk 14 Try.f104 _ Try.func104 (by kernel_rfl) rfl rfl rfl rfl ?_
 repeat' ((conv => whnf); first
  | with_reducible refine wr_u64 (by omega) ?_
  | ((first | (with_reducible refine Z.callZ_mk ?_ (pdq0_con) ?_) | (with_reducible refine Z.callZ_mk ?_ (len0_con) ?_)); (focus ((repeat' (first | exact trivial | exact rfl | exact .inl rfl | apply And.intro)); done)))
  | fail)
 all_goals (try (conv => whnf))
 all_goals try (show Nat.ble _ _ = true; rfl)
 all_goals first
  | ((first | (with_reducible apply Z.retF0)); (focus rfl); (repeat' (first | exact trivial)); (all_goals (try exact (fun _ => none))); all_goals (first | (simp; done)))
  | fail
theorem concat_nil   : Con Try.prog 103 [.one (.ro false 1 [[RT.ro 4 (([] : List Kc).map eK)], [RT.ro 4 (([] : List Kc).map eK)]])] (fun rx rK rt => rx = .val (.slice none 0 0) ∧ rK = [] ∧ rt = 0) := by
 refine Z.con_ofZ tabOk 36 Try.f103 _ Try.func103 (by kernel_rfl) rfl rfl rfl rfl ?_
 repeat' ((conv => whnf); first
  | with_reducible first | refine spB_yes (by decide) ?_ | refine spB_no (by decide) ?_
  | with_reducible first | refine Z.loopZ_unroll tabOk 3 ?_
  | ((with_reducible refine posE_nil ?_ ?_); (focus rfl))
  | ((with_reducible apply rowN_mk); (focus rfl))
  | ((with_reducible apply ixN_lit); (focus rfl); (focus rfl))
  | with_reducible refine wr_i64 (by first | omega | (simp only [LN] at *; omega)) ?_
  | with_reducible first | refine Z.callZ_in tabOk 27 Try.f113 _ Try.func113 (by kernel_rfl) rfl rfl rfl ?_
  | ((with_reducible apply ex_and); exact rfl)
  | fail)
 all_goals (try (conv => whnf))
 all_goals try first | (show Nat.ble _ _ = true; rfl) | (exfalso; rename_i hz; cases hz; done) | (exfalso; (try simp only [LN] at *) <;> omega)
 all_goals first
 | (refine ret1 [.one (.v (.slice none 0 0))] rfl [] (.val (.slice none 0 0)) [] rfl trivial List.nodup_nil rfl ?_ (fun p hp => nomatch hp) ⟨rfl, rfl, rfl⟩; intro p b hp; cases hp; done)
 | (fail)
end Tab
end Go.Proofs.Ytopieffkpdlpbaa
namespace Go.Proofs.Ytopieffkpdlpbaa
open Go Go.RowKit Wx
set_option maxHeartbeats 4000000
namespace Tab
theorem join_bad (a b : List Kc) (h : tabR a = false ∨ tabR b = false) (hla : a.length ≤ 1000) (hlb : b.length ≤ 1000) : Con Try.prog 79 [.agg [.ro false 4 (a.map eK)], .agg [.ro false 4 (b.map eK)]] (fun rx rK rt => rx = .tup [.agg [.ro true 4 (([] : List Kc).map eK)], .one (.v (.int .i64 220))] ∧ rK = [] ∧ rt = 0) := by
 refine Z.con_ofF tabOk 32 Try.f79 _ Try.func79 (by kernel_rfl) rfl rfl rfl rfl ?_
 have ca := check_con a (by omega)
 have cb := check_con b (by omega)
 cases ha : tabR a
 all_goals rw [ha] at ca
 all_goals simp only [cond_true, cond_false] at ca
 rotate_left
 ·have hb : tabR b = false := by rcases h with h | h; (rw [ha] at h; cases h); exact h
  rw [hb] at cb
  simp only [cond_false] at cb
  repeat' ((conv => whnf); first
   | with_reducible first | refine spB_t ?_
   | ((with_reducible apply spB_cong); (focus (simp only [splQ, Int.reduceBEq, Int.reduceBNe]; rfl)))
   | with_reducible first | refine spB_no (by decide) ?_
   | ((first | (with_reducible refine Z.callZ_mk ?_ (ca) ?_)); (focus ((repeat' (first | exact trivial | exact rfl | apply And.intro)); done)))
   | ((first | (with_reducible refine Z.callZ_mk ?_ (cb) ?_)); (focus ((repeat' (first | exact trivial | exact rfl | apply And.intro)); done)))
   | fail)
  all_goals (try (conv => whnf))
  all_goals try first | (show Nat.ble _ _ = true; rfl) | (exfalso; rename_i hz; cases hz; done) | (exfalso; (try simp only [LN] at *) <;> omega)
  all_goals first
   | ((first | (with_reducible apply Z.retF2)); (focus rfl); (repeat' (first | exact trivial | (with_reducible apply Z.frz_one) | (with_reducible apply Z.frz_agg) | (with_reducible apply Z.fq_int) | (exact Z.frz_nil) | exact rfl | apply And.intro)); (all_goals (try exact (fun _ => none))); all_goals (first | (simp; done)))
   | fail
 repeat' ((conv => whnf); first
  | with_reducible first | refine spB_t ?_
  | ((with_reducible apply spB_cong); (focus (simp only [splQ, Int.reduceBEq, Int.reduceBNe]; rfl)))
  | ((first | (with_reducible refine Z.callZ_mk ?_ (ca) ?_)); (focus ((repeat' (first | exact trivial | exact rfl | apply And.intro)); done)))
  | fail)
 all_goals (try (conv => whnf))
 all_goals try first | (show Nat.ble _ _ = true; rfl) | (exfalso; rename_i hz; cases hz; done) | (exfalso; (try simp only [LN] at *) <;> omega)
 all_goals first
  | ((first | (with_reducible apply Z.retF2)); (focus rfl); (repeat' (first | exact trivial | (with_reducible apply Z.frz_one) | (with_reducible apply Z.frz_agg) | (with_reducible apply Z.fq_int) | (exact Z.frz_nil) | exact rfl | apply And.intro)); (all_goals (try exact (fun _ => none))); all_goals (first | (simp; done)))
  | fail
theorem join_nil   : Con Try.prog 79 [.agg [.ro false 4 (([] : List Kc).map eK)], .agg [.ro false 4 (([] : List Kc).map eK)]] (fun rx rK rt => rx = .tup [.agg [.ro true 4 (([] : List Kc).map eK)], .one (.v (.int .i64 0))] ∧ rK = [] ∧ rt = 0) := by
 refine Z.con_ofF tabOk 32 Try.f79 _ Try.func79 (by kernel_rfl) rfl rfl rfl rfl ?_
 have ca := check_con [] (by simp)
 have cat := concat_nil
 rw [show tabR [] = true from rfl] at ca
 simp only [cond_true] at ca
 repeat' ((conv => whnf); first
  | ((with_reducible apply spB_cong); (focus (simp only [splQ, Int.reduceBEq, Int.reduceBNe]; rfl)))
  | with_reducible first | refine spB_no (by decide) ?_
  | ((first | (with_reducible refine Z.callZ_mk ?_ (ca) ?_) | (with_reducible refine Z.callZ_mk ?_ (cat) ?_) | (with_reducible refine Z.callZ_mk ?_ (sortnil_con) ?_)); (focus ((repeat' (first | exact trivial | exact ⟨_, rfl, rfl, rfl⟩ | exact rfl | exact Z.low_nil | exact .inl rfl | apply And.intro)); done)))
  | fail)
 all_goals (try (conv => whnf))
 all_goals try first | (show Nat.ble _ _ = true; rfl) | (exfalso; rename_i hz; cases hz; done) | (exfalso; (try simp only [LN] at *) <;> omega)
 all_goals first
  | ((first | (with_reducible apply Z.retF2)); (focus rfl); (repeat' (first | exact trivial | (with_reducible apply Z.frz_one) | (with_reducible apply Z.frz_agg) | (with_reducible apply Z.fq_int) | (exact Z.frz_nil) | exact rfl | apply And.intro)); (all_goals (try exact (fun _ => none))); all_goals (first | (simp; done)))
  | fail
end Tab
end Go.Proofs.Ytopieffkpdlpbaa
namespace Go.Proofs.Ytopieffkpdlpbaa
open Go Go.RowKit Wx
set_option maxHeartbeats 4000000
namespace Tab
theorem join_both (a b : List Kc) (ha : tabR a = true) (hb : tabR b = true) (h0 : 0 < a.length + b.length) (hc : comm a b = true) : Con Try.prog 79 [.agg [.ro false 4 (a.map eK)], .agg [.ro false 4 (b.map eK)]] (fun rx rK rt => rx = .tup [.agg [.ro true 4 (([] : List Kc).map eK)], .one (.v (.int .i64 5))] ∧ rK = [] ∧ rt = 0) := by
 refine Z.con_ofF tabOk 32 Try.f79 _ Try.func79 (by kernel_rfl) rfl rfl rfl rfl ?_
 have hla := tab_len ha
 have hlb := tab_len hb
 have ca := check_con a (by omega)
 have cb := check_con b (by omega)
 rw [ha] at ca
 rw [hb] at cb
 simp only [cond_true] at ca cb
 have cat := concat_own a b (by omega) (by omega) h0
 repeat' ((conv => whnf); first
  | with_reducible first | refine spB_t ?_
  | ((with_reducible apply spB_cong); (focus (simp only [splQ, Int.reduceBEq, Int.reduceBNe]; rfl)))
  | with_reducible first | refine spB_no (by decide) ?_
  | ((refine sort_rule (a ++ b) rfl ?_ ?_ ?_ ?_); (focus (first | exact ren_map fun _ => rfl)); (focus (first | rfl)); (focus ((try simp only [LN] at *) <;> omega)); (intro zs hzp hzs; have hzl : zs.length = (a ++ b).length := hzp.length_eq; obtain ⟨hj, hj2⟩ := sort_join ha hb hzp hzs; rw [hc] at hj; have cz := check_con zs (by rw [hzp.length_eq, List.length_append]; omega); rw [hj] at cz; simp only [Bool.not_true, Bool.not_false, cond_true, cond_false] at cz))
  | ((first | (with_reducible refine Z.callZ_mk ?_ (cat) ?_)); (focus ((repeat' (first | exact trivial | exact ⟨_, rfl, rfl, rfl⟩ | apply And.intro)); done)))
  | ((first | (with_reducible refine Z.callZ_mk ?_ (ca) ?_)); (focus ((repeat' (first | exact trivial | exact rfl | apply And.intro)); done)))
  | ((first | (with_reducible refine Z.callZ_mk ?_ (cb) ?_)); (focus ((repeat' (first | exact trivial | exact rfl | apply And.intro)); done)))
  | ((first | (with_reducible refine Z.callZ_mk ?_ (cz) ?_)); (focus ((repeat' (first | exact trivial | (refine Z.low_osln ?_ (fun _ => rfl); (first | exact hzl.symm)) | apply And.intro)); done)))
  | fail)
 all_goals (try (conv => whnf))
 all_goals try first | (show Nat.ble _ _ = true; rfl) | (exfalso; rename_i hz; cases hz; done) | (exfalso; (try simp only [LN] at *) <;> omega)
 all_goals first
  | ((first | (with_reducible apply Z.retF2)); (focus rfl); (repeat' (first | exact trivial | (with_reducible apply Z.frz_one) | (with_reducible apply Z.frz_agg) | (with_reducible apply Z.fq_int) | (exact Z.frz_nil) | exact rfl | apply And.intro)); (all_goals (try exact (fun _ => none))); all_goals (first | (simp; done)))
  | fail
end Tab
end Go.Proofs.Ytopieffkpdlpbaa
namespace Go.Proofs.Ytopieffkpdlpbaa
open Go Go.RowKit Wx
set_option maxHeartbeats 4000000
namespace Tab
theorem join_ok (a b : List Kc) (ha : tabR a = true) (hb : tabR b = true) (h0 : 0 < a.length + b.length) (hc : comm a b = false) : Con Try.prog 79 [.agg [.ro false 4 (a.map eK)], .agg [.ro false 4 (b.map eK)]] (fun rx rK rt => rx = .tup [.agg [.ro true 4 ((mrg a b : List Kc).map eK)], .one (.v (.int .i64 0))] ∧ rK = [] ∧ rt = 0) := by
 refine Z.con_ofF tabOk 32 Try.f79 _ Try.func79 (by kernel_rfl) rfl rfl rfl rfl ?_
 have hla := tab_len ha
 have hlb := tab_len hb
 have ca := check_con a (by omega)
 have cb := check_con b (by omega)
 rw [ha] at ca
 rw [hb] at cb
 simp only [cond_true] at ca cb
 have cat := concat_own a b (by omega) (by omega) h0
 repeat' ((conv => whnf); first
  | ((with_reducible apply spB_cong); (focus (simp only [splQ, Int.reduceBEq, Int.reduceBNe]; rfl)))
  | with_reducible first | refine spB_no (by decide) ?_
  | ((refine sort_rule (a ++ b) rfl ?_ ?_ ?_ ?_); (focus (first | exact ren_map fun _ => rfl)); (focus (first | rfl)); (focus ((try simp only [LN] at *) <;> omega)); (intro zs hzp hzs; have hzl : zs.length = (a ++ b).length := hzp.length_eq; obtain ⟨hj, hj2⟩ := sort_join ha hb hzp hzs; rw [hc] at hj; obtain rfl := hj2 hc; have cz := check_con (mrg a b) (by rw [hzp.length_eq, List.length_append]; omega); rw [hj] at cz; simp only [Bool.not_true, Bool.not_false, cond_true, cond_false] at cz))
  | ((first | (with_reducible refine Z.callZ_mk ?_ (cat) ?_)); (focus ((repeat' (first | exact trivial | exact ⟨_, rfl, rfl, rfl⟩ | apply And.intro)); done)))
  | ((first | (with_reducible refine Z.callZ_mk ?_ (ca) ?_)); (focus ((repeat' (first | exact trivial | exact rfl | apply And.intro)); done)))
  | ((first | (with_reducible refine Z.callZ_mk ?_ (cb) ?_)); (focus ((repeat' (first | exact trivial | exact rfl | apply And.intro)); done)))
  | ((first | (with_reducible refine Z.callZ_mk ?_ (cz) ?_)); (focus ((repeat' (first | exact trivial | (refine Z.low_osln ?_ (fun _ => rfl); (first | exact hzl.symm)) | apply And.intro)); done)))
  | fail)
 all_goals (try (conv => whnf))
 all_goals try first | (show Nat.ble _ _ = true; rfl) | (exfalso; rename_i hz; cases hz; done) | (exfalso; (try simp only [LN] at *) <;> omega)
 all_goals first
  | ((first | (with_reducible apply Z.retF2)); (focus rfl); (repeat' (first | exact trivial | (refine Z.frz_oslw (l := mrg a b) (f := cK) (ty := 70) (bx := false) rfl ?_ ?_ (fun _ => rfl); (focus (first | exact hzl.symm)); (focus (first | exact List.take_of_length_le (by rw [List.length_map]; exact Nat.le_of_eq hzl)))) | (with_reducible apply Z.frz_one) | (with_reducible apply Z.frz_agg) | (with_reducible apply Z.fq_int) | exact rfl | apply And.intro)); (all_goals (try exact (fun _ => none))); all_goals (first | (simp; done)))
  | fail
end Tab
end Go.Proofs.Ytopieffkpdlpbaa
namespace Go.Proofs.Ytopieffkpdlpbaa
open Go Go.RowKit Wx
set_option maxHeartbeats 4000000
namespace Tab
theorem join_own (a b : List Kc) (ha : tabR a = true) (hb : tabR b = true) (h0 : 0 < a.length + b.length) (hc : comm a b = false) : Con Try.prog 79 [.agg [.ro false 4 (a.map eK)], .agg [.ro false 4 (b.map eK)]] (ownP (mrg a b) 0) := by
 refine Z.con_ofZ tabOk 32 Try.f79 _ Try.func79 (by kernel_rfl) rfl rfl rfl rfl ?_
 have hla := tab_len ha
 have hlb := tab_len hb
 have ca := check_con a (by omega)
 have cb := check_con b (by omega)
 rw [ha] at ca
 rw [hb] at cb
 simp only [cond_true] at ca cb
 have cat := concat_own a b (by omega) (by omega) h0
 repeat' ((conv => whnf); first
  | ((with_reducible apply spB_cong); (focus (simp only [splQ, Int.reduceBEq, Int.reduceBNe]; rfl)))
  | with_reducible first | refine spB_no (by decide) ?_
  | ((refine sort_rule (a ++ b) rfl ?_ ?_ ?_ ?_); (focus (first | exact ren_map fun _ => rfl)); (focus (first | rfl)); (focus ((try simp only [LN] at *) <;> omega)); (intro zs hzp hzs; have hzl : zs.length = (a ++ b).length := hzp.length_eq; obtain ⟨hj, hj2⟩ := sort_join ha hb hzp hzs; rw [hc] at hj; obtain rfl := hj2 hc; have cz := check_con (mrg a b) (by rw [hzp.length_eq, List.length_append]; omega); rw [hj] at cz; simp only [Bool.not_true, Bool.not_false, cond_true, cond_false] at cz))
  | ((first | (with_reducible refine Z.callZ_mk ?_ (cat) ?_)); (focus ((repeat' (first | exact trivial | exact ⟨_, rfl, rfl, rfl⟩ | apply And.intro)); done)))
  | ((first | (with_reducible refine Z.callZ_mk ?_ (ca) ?_)); (focus ((repeat' (first | exact trivial | exact rfl | apply And.intro)); done)))
  | ((first | (with_reducible refine Z.callZ_mk ?_ (cb) ?_)); (focus ((repeat' (first | exact trivial | exact rfl | apply And.intro)); done)))
  | ((first | (with_reducible refine Z.callZ_mk ?_ (cz) ?_)); (focus ((repeat' (first | exact trivial | (refine Z.low_osln ?_ (fun _ => rfl); (first | exact hzl.symm)) | apply And.intro)); done)))
  | fail)
 all_goals (try (conv => whnf))
 all_goals try first | (show Nat.ble _ _ = true; rfl) | (exfalso; rename_i hz; cases hz; done) | (exfalso; (try simp only [LN] at *) <;> omega)
 all_goals first
  | (refine ret1b 4 (.tup [.agg [.osl 0 0 ((mrg a b)).length none], .one (.v (.int .i64 0))]) ((((mrg a b)) ++ []).map cK) 4 70 false _ rfl ?_ rfl ?_ (ren_map fun _ => rfl) rfl (own_map fun _ => rfl) ⟨none, [], rfl, rfl, rfl⟩; (focus (exact congrArg (fun n : Nat => (AV.tup [A0.agg [Ce.osl 4 0 n none], A0.one (Ce.v (.int .i64 0))])) (by first | rfl | (simp; done) | (simp; omega) | (rw [List.length_eraseIdx, if_pos hpl]; (try simp only [LN] at *) <;> omega) | omega))); (first | exact (by rw [List.append_nil])))
  | fail
end Tab
end Go.Proofs.Ytopieffkpdlpbaa
namespace Go.Proofs.Ytopieffkpdlpbaa
open Go Go.RowKit Wx
set_option maxHeartbeats 4000000
namespace Tab
theorem mrg_at {a b : List Kc} {i : Nat} {x : Kc} (h : b[i]? = some x) : mrg a (b.take (i + 1)) = putR (mrg a (b.take i)) x.src x.key (x.cnt, x.sum) := by
 unfold mrg
 rw [take_snoc h, List.foldl_append]
 rfl
theorem comm_yes {a b : List Kc} {x : Kc} (h : x ∈ b) (hg : getR a x.src x.key ≠ (0, 0)) : comm a b = true := List.any_eq_true.2 ⟨x, h, decide_eq_true hg⟩
theorem comm_nil {a b : List Kc} (h : ∀ x ∈ b, getR a x.src x.key = (0, 0)) : comm a b = false := List.any_eq_false.2 fun x hx hd => of_decide_eq_true hd (h x hx)
theorem mrg_len {a b : List Kc} (ha : tabR a = true) (hb : tabR b = true) (i : Nat) : (mrg a (b.take i)).length ≤ 256 ∧ tabR (mrg a (b.take i)) = true := by
 have h := mrg_tab (b := b.take i) ha fun x hx => (tab_iff.1 hb).1 x (List.mem_of_mem_take hx)
 exact ⟨tab_len h, h⟩
theorem join_len {a b : List Kc} : (joinT a b).1.length ≤ 256 := by
 unfold joinT
 split
 ·simp
 ·rename_i h
  split
  ·simp
  ·have h1 : tabR a = true := by cases hz : tabR a with
    | true => rfl
    | false => exact absurd (.inl hz) h
   have h2 : tabR b = true := by cases hz : tabR b with
    | true => rfl
    | false => exact absurd (.inr hz) h
   have := (mrg_len h1 h2 b.length).1
   rwa [List.take_length] at this
theorem join_err {a b : List Kc} (h : (joinT a b).2 ≠ 0) : (joinT a b).1 = [] := by
 unfold joinT at *
 split
 ·rfl
 ·split
  ·rfl
  ·rename_i h1 h2; rw [if_neg h1, if_neg h2] at h; exact absurd rfl h
theorem tpart_con (l : List Kc) (a w : Int) (hl : l.length ≤ 1000) : Con Try.prog 87 [.agg [.ro false 4 (l.map eK)], .one (.v (.int .i64 a)), .one (.v (.int .i64 w))] (fun rx rK rt => rx = .tup [.agg [.ro true 4 ((partT l a w).1.map eK)], .one (.v (.int .i64 (partT l a w).2))] ∧ rK = [] ∧ rt = 0) := by
 unfold partT
 cases ht : tabR l
 ·rw [if_pos rfl]; exact part_tab l a w hl ht
 ·rw [if_neg (by decide)]
  by_cases hs : okS a w
  ·rw [if_pos hs]; exact part_ok l a w hl ht hs
  ·rw [if_neg hs]; exact part_sh l a w hl ht hs
theorem tjoin_con (a b : List Kc) (hla : a.length ≤ 1000) (hlb : b.length ≤ 1000) : Con Try.prog 79 [.agg [.ro false 4 (a.map eK)], .agg [.ro false 4 (b.map eK)]] (fun rx rK rt => rx = .tup [.agg [.ro true 4 ((joinT a b).1.map eK)], .one (.v (.int .i64 (joinT a b).2))] ∧ rK = [] ∧ rt = 0) := by
 unfold joinT
 by_cases h : tabR a = false ∨ tabR b = false
 ·rw [if_pos h]; exact join_bad a b h hla hlb
 ·rw [if_neg h]
  have ha : tabR a = true := by cases hz : tabR a with
   | true => rfl
   | false => exact absurd (.inl hz) h
  have hb : tabR b = true := by cases hz : tabR b with
   | true => rfl
   | false => exact absurd (.inr hz) h
  by_cases h0 : 0 < a.length + b.length
  ·cases hc : comm a b
   ·rw [if_neg (by decide)]; exact join_ok a b ha hb h0 hc
   ·rw [if_pos rfl]; exact join_both a b ha hb h0 hc
  ·have e1 : a = [] := List.length_eq_zero_iff.1 (by omega)
   have e2 : b = [] := List.length_eq_zero_iff.1 (by omega)
   subst e1 e2
   exact join_nil
theorem tjoin_own (a b : List Kc) (hla : a.length ≤ 1000) (hlb : b.length ≤ 1000) (h2 : (joinT a b).2 = 0) (hne : (joinT a b).1 ≠ []) : Con Try.prog 79 [.agg [.ro false 4 (a.map eK)], .agg [.ro false 4 (b.map eK)]] (ownP (joinT a b).1 0) := by
 unfold joinT at *
 by_cases h : tabR a = false ∨ tabR b = false
 ·rw [if_pos h] at h2; exact absurd h2 (by decide)
 ·rw [if_neg h] at h2 hne ⊢
  have ha : tabR a = true := by cases hz : tabR a with
   | true => rfl
   | false => exact absurd (.inl hz) h
  have hb : tabR b = true := by cases hz : tabR b with
   | true => rfl
   | false => exact absurd (.inr hz) h
  by_cases h0 : 0 < a.length + b.length
  ·cases hc : comm a b
   ·rw [if_neg (by decide)]; exact join_own a b ha hb h0 hc
   ·rw [hc, if_pos rfl] at h2; exact absurd h2 (by decide)
  ·have e1 : a = [] := List.length_eq_zero_iff.1 (by omega)
   have e2 : b = [] := List.length_eq_zero_iff.1 (by omega)
   subst e1 e2
   exact absurd rfl hne
end Tab
end Go.Proofs.Ytopieffkpdlpbaa
namespace Go.Proofs.Ytopieffkpdlpbaa
open Go Go.RowKit Wx
set_option maxHeartbeats 4000000
theorem joinedn_con (L : List (List Nm)) (hL : L.length ≤ 1000) (h0 : L.flatten.length ≤ 1000000) : Con Try.prog 43 [.one (.ro false 1 (L.map fun r => [RT.ro 3 (r.map eN)]))] (fun rx rK rt => rx = .c (.ro true 3 (L.flatten.map eN)) ∧ rK = [] ∧ rt = 0) :=
 Z.con_fz [.one (.ro true 3 (L.flatten.map eN))] (xs := [.one (.osl 0 0 L.flatten.length (some L.flatten.length))]) (K0 := [(0, some ⟨L.flatten.map cN, 3, 90, false⟩)]) (t0 := 1) (joined_own L hL h0) ⟨show Z.frzC (kg [(0, some ⟨L.flatten.map cN, 3, 90, false⟩)]) (Ce.osl 0 0 L.flatten.length (some L.flatten.length)) (Ce.ro true 3 (L.flatten.map eN)) from Z.frz_osl (bx := false) (ty := 90) (l := L.flatten) (f := cN) (g := eN) rfl rfl (fun _ => rfl), trivial⟩
def gath (L : List (List Tab.Kc)) : List Tab.Kc := L.foldl (fun t r => (Tab.joinT t r).1) []
theorem gath_at {L : List (List Tab.Kc)} {k : Nat} {r : List Tab.Kc} (h : L[k]? = some r) : gath (L.take (k + 1)) = (Tab.joinT (gath (L.take k)) r).1 := by
 unfold gath; rw [take_snoc h, List.foldl_append]; rfl
theorem gath_len (L : List (List Tab.Kc)) : (gath L).length ≤ 256 := by
 unfold gath
 rcases List.eq_nil_or_concat L with rfl | ⟨M, r, rfl⟩
 ·exact Nat.zero_le _
 ·rw [List.concat_eq_append, List.foldl_append]; exact Tab.join_len
theorem gathered_con (L : List (List Tab.Kc)) (hL : L.length ≤ 1000) (hA : ∀ r ∈ L, r.length ≤ 1000) : Con Try.prog 42 [.one (.ro false 1 (L.map fun r => [RT.ro 4 (r.map Tab.eK)]))] (fun rx rK rt => rx = .pl (.agg [.ro true 4 ((gath L).map Tab.eK)]) ∧ rK = [] ∧ rt = 0) := by
 refine Z.con_ofF tabOk 19 Try.f42 _ Try.func42 (by kernel_rfl) rfl rfl rfl rfl ?_
 repeat' ((conv => whnf); first
  | with_reducible first | refine spB_t ?_
  | fail)
 all_goals (try (conv => whnf))
 all_goals try first | (show Nat.ble _ _ = true; rfl) | (exfalso; rename_i hz; cases hz; done) | (exfalso; (try simp only [LN] at *) <;> omega)
 refine Z.loopK tabOk (fun zq : Nat => [(7, .val (.int .i64 (zq : Int)))]) (fun zq : Nat => ([(0, some (Z.Ob.b ⟨[[.ro true 4 ((gath (L.take zq)).map Tab.eK)]], 1, 28, true⟩))] : Z.Kr)) (fun zq => zq ≤ L.length) (fun zq => L.length - zq) 0 1 [(2, _), (5, _), (6, _)] ⟨rfl, rfl, rfl, trivial⟩ [] trivial ?_ ?_ rfl rfl (Nat.zero_le _) ?_
 ·repeat' (first | exact trivial | apply And.intro | exact ⟨_, rfl, Z.Imp.refl _⟩)
 ·repeat' (first | exact trivial | (intro b hb; cases hb; refine ⟨_, rfl, ⟨rfl, rfl, rfl⟩, ?_⟩; (repeat' (first | exact trivial | apply And.intro | exact Z.Imp.nilr _ _)); done) | apply And.intro)
 rintro k HINV
 (try dsimp only at HINV); (try dsimp only)
 by_cases hi : k < L.length
 ·obtain ⟨r, hr⟩ := getElem?_some' (xs := L) (i := k) hi
  have hg := gath_at hr
  have hgl := gath_len (L.take k)
  have cj := Tab.tjoin_con (gath (L.take k)) r (by omega) (hA r (List.mem_of_getElem? hr))
  rw [← hg] at cj
  generalize (Tab.joinT (gath (L.take k)) r).2 = E at *
  repeat' ((conv => whnf); first
   | (with_reducible refine spB_dec ?_ ?_ <;> intro _ <;> (try (exfalso; (first | (simp only [LN] at *; omega)))))
   | with_reducible first | refine Z.rowN_known hr ?_
   | ((with_reducible apply ixN_litp); (focus rfl); (focus ((try simp only [LN] at *) <;> omega)))
   | with_reducible refine wr_i64 (by first | omega | (simp only [LN] at *; omega)) ?_
   | ((first | (with_reducible refine Z.callZ_mk ?_ (cj) ?_)); (focus ((repeat' (first | exact trivial | exact rfl | apply And.intro)); done)))
   | fail)
  all_goals (try (conv => whnf))
  all_goals try first | (show Nat.ble _ _ = true; rfl) | (exfalso; rename_i hz; cases hz; done) | (exfalso; (try simp only [LN] at *) <;> omega)
  all_goals first
   | ((refine Z.rndK ((k + 1)) (fun s => [0]) rfl rfl rfl rfl ?_ ?_ ?_ ?_); (focus (repeat' (first | exact trivial | exact rfl | apply And.intro))); (focus (repeat' (first | exact trivial | (intro b hb; cases hb; rfl) | apply And.intro))); (focus (((try dsimp only); omega))); ((try dsimp only); omega))
   | fail
 have hil : k = L.length := by omega
 subst hil
 rw [List.take_length]
 repeat' ((conv => whnf); first
  | (with_reducible refine spB_dec ?_ ?_ <;> intro _ <;> (try (exfalso; (first | (rename_i hz; simp at hz; done)))))
  | fail)
 all_goals (try (conv => whnf))
 all_goals try first | (show Nat.ble _ _ = true; rfl) | (exfalso; rename_i hz; cases hz; done) | (exfalso; (try simp only [LN] at *) <;> omega)
 all_goals first
  | ((first | (with_reducible apply Z.retF1)); (focus rfl); (repeat' (first | exact trivial | (with_reducible apply Z.frz_agg) | (with_reducible apply Z.fq_ro) | exact rfl | apply And.intro)); (all_goals (try exact (fun _ => none))); all_goals (first | (simp; done)))
  | fail
end Go.Proofs.Ytopieffkpdlpbaa
namespace Go.Proofs.Ytopieffkpdlpbaa
open Go Go.RowKit Wx
set_option maxHeartbeats 4000000
theorem own_two {rows rows2 : List (List Ce)} {sz sz2 : Nat} {ty ty2 : TypeId} {bx bx2 : Bool} (h : ∀ r ∈ rows, ∀ c ∈ r, c.own' = true) (h2 : ∀ r ∈ rows2, ∀ c ∈ r, c.own' = true) : Kr.own' [(0, some ⟨rows, sz, ty, bx⟩), (1, some ⟨rows2, sz2, ty2, bx2⟩)] := by
 intro j b hb
 rcases j with _ | _ | j
 ·cases hb; exact h
 ·cases hb; exact h2
 ·cases hb
theorem ret2b {T : Tab} {rs : List ResultVar} {s : S} {post : AV → Kr → Nat → Prop} (i i2 : Nat) (hne : i ≠ i2) (x : AV) (rows rows2 : List (List Ce)) (sz sz2 : Nat) (ty ty2 : TypeId) (bx bx2 : Bool) (xs : List A0) (h : resL T s rs = some xs) {rows' rows2' : List (List Ce)} (hx : retV xs = x.ren (rn [i, i2] s.top)) (hK : kg s.K i = some ⟨rows', sz, ty, bx⟩) (e : rows' = rows) (hf : rows.map (List.map (Ce.ren (rn [i, i2] s.top))) = rows) (hK2 : kg s.K i2 = some ⟨rows2', sz2, ty2, bx2⟩) (e2 : rows2' = rows2) (hf2 : rows2.map (List.map (Ce.ren (rn [i, i2] s.top))) = rows2) (ho : x.own' = true) (ho2 : ∀ r ∈ rows, ∀ c ∈ r, c.own' = true) (ho3 : ∀ r ∈ rows2, ∀ c ∈ r, c.own' = true) (hp : post x [(0, some ⟨rows, sz, ty, bx⟩), (1, some ⟨rows2, sz2, ty2, bx2⟩)] 2) : retN T rs s post :=
 ret1 xs h [i, i2] x [(0, some ⟨rows, sz, ty, bx⟩), (1, some ⟨rows2, sz2, ty2, bx2⟩)] hx ⟨blk_sub (r := rn [i, i2] s.top) (j := 0) hK e hf, blk_sub (r := rn [i, i2] s.top) (j := 1) hK2 e2 hf2, trivial⟩ (by simpa using hne) ho (own_two ho2 ho3) (by simp) hp
theorem low_nm {K : Nat → Option Blk} {i n : Nat} {c : Option Nat} {bx : Bool} {R : List (List Ce)} {l : List Nm} (h : K i = some ⟨R, 3, 90, bx⟩) (hR : R = l.map cN) (hn : n = l.length) : lowC K (.osl i 0 n c) (.ro false 3 (l.map eN)) := by
 subst hR hn
 simp only [lowC, h]
 exact ⟨_, rfl, by simp, by rw [List.drop_zero, List.take_of_length_le (by simp), List.map_map, List.map_map]; rfl⟩
theorem ren_cN {L : List Nm} {r : Nat → Nat} : List.map (List.map (Ce.ren r)) (L.map cN) = L.map cN := ren_map fun _ => rfl
theorem all_con (l : List Sn) (hA : ∀ x ∈ l, x.rows.length ≤ 1000 ∧ x.txs.length ≤ 1000) (hl : l.length ≤ 1000) : Con Try.prog 16 [.one (.ro false 14 ((l : List Sn).map eSn)), .one (.ro false 14 ((l : List Sn).map eSn))] (fun rx rK rt => rx = .val (.bool true) ∧ rK = [] ∧ rt = 0) := by
 refine Z.con_ofF tabOk 27 Try.f16 _ Try.func16 (by kernel_rfl) rfl rfl rfl rfl ?_
 repeat' ((conv => whnf); first
  | ((with_reducible apply spB_cong); (focus (simp only [splQ, Int.reduceBEq, Int.reduceBNe]; rfl)))
  | with_reducible first | refine spB_no (by decide) ?_
  | fail)
 all_goals (try (conv => whnf))
 all_goals try first | (show Nat.ble _ _ = true; rfl) | (exfalso; rename_i hz; cases hz; done) | (exfalso; (try simp only [LN] at *) <;> omega)
 refine Z.loopK tabOk (fun zq : Nat => [(13, .val (.int .i64 (zq : Int)))]) (fun zq : Nat => ([] : Z.Kr)) (fun zq => zq ≤ l.length) (fun zq => l.length - zq) 0 0 [(0, _), (1, _), (12, _)] ⟨rfl, rfl, rfl, trivial⟩ [] trivial ?_ ?_ rfl rfl (Nat.zero_le _) ?_
 ·repeat' (first | exact trivial | apply And.intro | exact ⟨_, rfl, Z.Imp.refl _⟩)
 ·repeat' (first | exact trivial)
 rintro i HINV
 (try dsimp only at HINV); (try dsimp only)
 by_cases hi : i < l.length
 ·obtain ⟨y, hy⟩ := getElem?_some' (xs := l) (i := i) hi
  have hya := hA y (List.mem_of_getElem? hy)
  have m1 := rsame_con y y (by omega) (by omega)
  rw [decide_eq_true (rfl : y = y)] at m1
  repeat' ((conv => whnf); first
   | ((with_reducible apply spB_cong); (focus (simp only [splQ, Int.reduceBEq, Int.reduceBNe]; rfl)))
   | with_reducible first | refine spB_no (by decide) ?_
   | (with_reducible refine spB_dec ?_ ?_ <;> intro _ <;> (try (exfalso; (first | (simp only [LN] at *; omega)))))
   | with_reducible first | refine Z.rowN_known hy ?_
   | ((with_reducible apply ixN_litp); (focus rfl); (focus ((try simp only [LN] at *) <;> omega)))
   | with_reducible refine wr_i64 (by first | omega | (simp only [LN] at *; omega)) ?_
   | ((first | (with_reducible refine Z.conZ_mz ?_ (m1) ?_)); (focus ((repeat' (first | exact trivial | exact rfl | apply And.intro)); done)))
   | with_reducible first | refine Z.drawZ_rule tabOk mixOk ?_ | refine Z.apZ_mk (by kernel_rfl) ?_
   | fail)
  all_goals (try (conv => whnf))
  all_goals try first | (show Nat.ble _ _ = true; rfl) | (exfalso; rename_i hz; cases hz; done) | (exfalso; (try simp only [LN] at *) <;> omega)
  all_goals first
   | ((refine Z.rndK ((i + 1)) (fun s => []) rfl rfl rfl rfl ?_ ?_ ?_ ?_); (focus (repeat' (first | exact trivial | exact rfl | apply And.intro))); (focus (repeat' (first | exact trivial))); (focus (((try dsimp only); omega))); ((try dsimp only); omega))
   | fail
 have hil : i = l.length := by omega
 subst hil
 repeat' ((conv => whnf); first
  | (with_reducible refine spB_dec ?_ ?_ <;> intro _ <;> (try (exfalso; (first | (rename_i hz; simp at hz; done)))))
  | fail)
 all_goals (try (conv => whnf))
 all_goals try first | (show Nat.ble _ _ = true; rfl) | (exfalso; rename_i hz; cases hz; done) | (exfalso; (try simp only [LN] at *) <;> omega)
 all_goals first
  | ((first | (with_reducible apply Z.retF1)); (focus rfl); (repeat' (first | exact trivial | (with_reducible apply Z.frz_one) | (with_reducible apply Z.fq_bool) | exact rfl | apply And.intro)); (all_goals (try exact (fun _ => none))); all_goals (first | (simp; done)))
  | fail
abbrev ownG1 (R : List Tab.Kc) : AV → Kr → Nat → Prop := fun rx rK rt => ∃ (cap : Option Nat) (tl : List Tab.Kc), rx = .pl (.agg [.osl 0 0 R.length cap]) ∧ rK = [(0, some ⟨(R ++ tl).map Tab.cK, 4, 70, false⟩)] ∧ rt = 1
theorem gown_1 (a : List Tab.Kc) (ha : a.length ≤ 1000) (hne : gath [a] ≠ []) : Con Try.prog 42 [.one (.ro false 1 (([a] : List (List Tab.Kc)).map fun r => [RT.ro 4 (r.map Tab.eK)]))] (ownG1 (gath [a])) := by
 refine Z.con_ofZ tabOk 19 Try.f42 _ Try.func42 (by kernel_rfl) rfl rfl rfl rfl ?_
 have hj0 : (Tab.joinT (gath []) a).2 = 0 := Decidable.byContradiction fun h => hne (Tab.join_err h)
 have cjo := Tab.tjoin_own (gath []) a (by have := gath_len []; omega) ha hj0 hne
 rw [show (Tab.joinT (gath []) a).1 = gath [a] from rfl] at cjo
 generalize hG : gath [a] = GG at *
 repeat' ((conv => whnf); first
  | (with_reducible refine spB_dec ?_ ?_ <;> intro _ <;> (try (exfalso; (first | (rename_i hz; simp at hz; done)))))
  | with_reducible first | refine Z.loopZ_unroll tabOk 2 ?_
  | ((with_reducible refine Z.callZ_con ?_ (cjo) ?_); (focus ((repeat' (first | exact trivial | exact rfl | exact Z.low_nil | apply And.intro)); done)); (rintro _ _ _ ⟨cap, tl, rfl, rfl, rfl⟩))
  | ((with_reducible apply rowN_mk); (focus rfl))
  | ((with_reducible apply ixN_lit); (focus rfl); (focus rfl))
  | with_reducible refine wr_i64 (by first | omega | (simp only [LN] at *; omega)) ?_
  | fail)
 all_goals (try (conv => whnf))
 all_goals try first | (show Nat.ble _ _ = true; rfl) | (exfalso; rename_i hz; cases hz; done) | (exfalso; (try simp only [LN] at *) <;> omega)
 all_goals first
  | (refine ret1b 2 (.pl (.agg [.osl 0 0 GG.length cap])) ((GG ++ tl).map Tab.cK) 4 70 false _ rfl (by rfl) rfl ?_ (ren_map fun _ => rfl) rfl (own_map fun _ => rfl) ⟨cap, tl, rfl, rfl, rfl⟩; (first | exact Tab.ren_cK))
  | fail
theorem gown_2 (a b : List Tab.Kc) (ha : a.length ≤ 1000) (hb : b.length ≤ 1000) (hne : gath [a, b] ≠ []) : Con Try.prog 42 [.one (.ro false 1 (([a, b] : List (List Tab.Kc)).map fun r => [RT.ro 4 (r.map Tab.eK)]))] (ownG1 (gath [a, b])) := by
 refine Z.con_ofZ tabOk 19 Try.f42 _ Try.func42 (by kernel_rfl) rfl rfl rfl rfl ?_
 have cj0 := Tab.tjoin_con (gath []) a (by have := gath_len []; omega) ha
 rw [show (Tab.joinT (gath []) a).1 = gath [a] from rfl] at cj0
 generalize (Tab.joinT (gath []) a).2 = E0 at cj0
 have hj0 : (Tab.joinT (gath [a]) b).2 = 0 := Decidable.byContradiction fun h => hne (Tab.join_err h)
 have cjo := Tab.tjoin_own (gath [a]) b (by have := gath_len [a]; omega) hb hj0 hne
 rw [show (Tab.joinT (gath [a]) b).1 = gath [a, b] from rfl] at cjo
 generalize hG : gath [a, b] = GG at *
 generalize gath [a] = G1 at *
 repeat' ((conv => whnf); first
  | (with_reducible refine spB_dec ?_ ?_ <;> intro _ <;> (try (exfalso; (first | (rename_i hz; simp at hz; done)))))
  | with_reducible first | refine Z.loopZ_unroll tabOk 3 ?_
  | ((with_reducible refine Z.callZ_con ?_ (cjo) ?_); (focus ((repeat' (first | exact trivial | exact rfl | apply And.intro)); done)); (rintro _ _ _ ⟨cap, tl, rfl, rfl, rfl⟩))
  | ((with_reducible apply rowN_mk); (focus rfl))
  | ((with_reducible apply ixN_lit); (focus rfl); (focus rfl))
  | with_reducible refine wr_i64 (by first | omega | (simp only [LN] at *; omega)) ?_
  | ((first | (with_reducible refine Z.callZ_mk ?_ (cj0) ?_)); (focus ((repeat' (first | exact trivial | exact rfl | exact Z.low_nil | apply And.intro)); done)))
  | fail)
 all_goals (try (conv => whnf))
 all_goals try first | (show Nat.ble _ _ = true; rfl) | (exfalso; rename_i hz; cases hz; done) | (exfalso; (try simp only [LN] at *) <;> omega)
 all_goals first
  | (refine ret1b 3 (.pl (.agg [.osl 0 0 GG.length cap])) ((GG ++ tl).map Tab.cK) 4 70 false _ rfl (by rfl) rfl ?_ (ren_map fun _ => rfl) rfl (own_map fun _ => rfl) ⟨cap, tl, rfl, rfl, rfl⟩; (first | exact Tab.ren_cK))
  | fail
theorem gown_3 (a b c : List Tab.Kc) (ha : a.length ≤ 1000) (hb : b.length ≤ 1000) (hc : c.length ≤ 1000) (hne : gath [a, b, c] ≠ []) : Con Try.prog 42 [.one (.ro false 1 (([a, b, c] : List (List Tab.Kc)).map fun r => [RT.ro 4 (r.map Tab.eK)]))] (ownG1 (gath [a, b, c])) := by
 refine Z.con_ofZ tabOk 19 Try.f42 _ Try.func42 (by kernel_rfl) rfl rfl rfl rfl ?_
 have cj0 := Tab.tjoin_con (gath []) a (by have := gath_len []; omega) ha
 rw [show (Tab.joinT (gath []) a).1 = gath [a] from rfl] at cj0
 generalize (Tab.joinT (gath []) a).2 = E0 at cj0
 have cj1 := Tab.tjoin_con (gath [a]) b (by have := gath_len [a]; omega) hb
 rw [show (Tab.joinT (gath [a]) b).1 = gath [a, b] from rfl] at cj1
 generalize (Tab.joinT (gath [a]) b).2 = E1 at cj1
 have hj0 : (Tab.joinT (gath [a, b]) c).2 = 0 := Decidable.byContradiction fun h => hne (Tab.join_err h)
 have cjo := Tab.tjoin_own (gath [a, b]) c (by have := gath_len [a, b]; omega) hc hj0 hne
 rw [show (Tab.joinT (gath [a, b]) c).1 = gath [a, b, c] from rfl] at cjo
 generalize hG : gath [a, b, c] = GG at *
 generalize gath [a, b] = G2 at *
 generalize gath [a] = G1 at *
 repeat' ((conv => whnf); first
  | (with_reducible refine spB_dec ?_ ?_ <;> intro _ <;> (try (exfalso; (first | (rename_i hz; simp at hz; done)))))
  | with_reducible first | refine Z.loopZ_unroll tabOk 4 ?_
  | ((with_reducible refine Z.callZ_con ?_ (cjo) ?_); (focus ((repeat' (first | exact trivial | exact rfl | apply And.intro)); done)); (rintro _ _ _ ⟨cap, tl, rfl, rfl, rfl⟩))
  | ((with_reducible apply rowN_mk); (focus rfl))
  | ((with_reducible apply ixN_lit); (focus rfl); (focus rfl))
  | with_reducible refine wr_i64 (by first | omega | (simp only [LN] at *; omega)) ?_
  | ((first | (with_reducible refine Z.callZ_mk ?_ (cj0) ?_)); (focus ((repeat' (first | exact trivial | exact rfl | exact Z.low_nil | apply And.intro)); done)))
  | ((first | (with_reducible refine Z.callZ_mk ?_ (cj1) ?_)); (focus ((repeat' (first | exact trivial | exact rfl | apply And.intro)); done)))
  | fail)
 all_goals (try (conv => whnf))
 all_goals try first | (show Nat.ble _ _ = true; rfl) | (exfalso; rename_i hz; cases hz; done) | (exfalso; (try simp only [LN] at *) <;> omega)
 all_goals first
  | (refine ret1b 4 (.pl (.agg [.osl 0 0 GG.length cap])) ((GG ++ tl).map Tab.cK) 4 70 false _ rfl (by rfl) rfl ?_ (ren_map fun _ => rfl) rfl (own_map fun _ => rfl) ⟨cap, tl, rfl, rfl, rfl⟩; (first | exact Tab.ren_cK))
  | fail
end Go.Proofs.Ytopieffkpdlpbaa
namespace Go.Proofs.Ytopieffkpdlpbaa
open Go Go.RowKit Wx
set_option maxHeartbeats 4000000
def okZ (o i w : Int) : Prop := (0 ≤ o ∧ o < 8) ∧ (1 ≤ w ∧ w ≤ 3) ∧ 0 ≤ i ∧ i < w
instance (o i w : Int) : Decidable (okZ o i w) := by unfold okZ; infer_instance
end Go.Proofs.Ytopieffkpdlpbaa
namespace Go.Proofs.Ytopieffkpdlpbaa
open Go Go.RowKit Wx
set_option maxHeartbeats 4000000
abbrev RNG (o0 o1 o2 o3 o4 o5 o6 o7 : Int) : Prop := (0 ≤ o0 ∧ o0 ≤ 40) ∧ (0 ≤ o1 ∧ o1 ≤ 40) ∧ (0 ≤ o2 ∧ o2 ≤ 40) ∧ (0 ≤ o3 ∧ o3 ≤ 40) ∧ (0 ≤ o4 ∧ o4 ≤ 40) ∧ (0 ≤ o5 ∧ o5 ≤ 40) ∧ (0 ≤ o6 ∧ o6 ≤ 40) ∧ (0 ≤ o7 ∧ o7 ≤ 40)
def ownO (l : List Int) (i w : Int) : Bool := l.zipIdx.all fun p => decide (p.1 = 0 ∨ Tab.ownG p.2 w = i)
def offR (o0 o1 o2 o3 o4 o5 o6 o7 : Int) (i w : Int) : Bool := decide (RNG o0 o1 o2 o3 o4 o5 o6 o7) && ownO [o0, o1, o2, o3, o4, o5, o6, o7] i w
theorem joined_0_1 (o0 o1 o2 o3 o4 o5 o6 o7 : Int) : Con Try.prog 41 [.agg [.v (.int .i64 o0), .v (.int .i64 o1), .v (.int .i64 o2), .v (.int .i64 o3), .v (.int .i64 o4), .v (.int .i64 o5), .v (.int .i64 o6), .v (.int .i64 o7)], .agg [.v (.int .i64 0), .v (.int .i64 0), .v (.int .i64 0), .v (.int .i64 0), .v (.int .i64 0), .v (.int .i64 0), .v (.int .i64 0), .v (.int .i64 0)], .one (.v (.int .i64 0)), .one (.v (.int .i64 1))] (fun rx rK rt => rx = .tup [.agg [.v (.int .i64 o0), .v (.int .i64 o1), .v (.int .i64 o2), .v (.int .i64 o3), .v (.int .i64 o4), .v (.int .i64 o5), .v (.int .i64 o6), .v (.int .i64 o7)], .one (.v (.int .i64 0))] ∧ rK = [] ∧ rt = 0) := Y.con_eval ftabOk tabOk mixOk 40 12 (by kernel_rfl) (by rfl) (by kernel_rfl)
theorem joined_0_2 (o0 o1 o2 o3 o4 o5 o6 o7 : Int) : Con Try.prog 41 [.agg [.v (.int .i64 o0), .v (.int .i64 o1), .v (.int .i64 o2), .v (.int .i64 o3), .v (.int .i64 o4), .v (.int .i64 o5), .v (.int .i64 o6), .v (.int .i64 o7)], .agg [.v (.int .i64 0), .v (.int .i64 0), .v (.int .i64 0), .v (.int .i64 0), .v (.int .i64 0), .v (.int .i64 0), .v (.int .i64 0), .v (.int .i64 0)], .one (.v (.int .i64 0)), .one (.v (.int .i64 2))] (fun rx rK rt => rx = .tup [.agg [.v (.int .i64 o0), .v (.int .i64 o1), .v (.int .i64 o2), .v (.int .i64 o3), .v (.int .i64 0), .v (.int .i64 0), .v (.int .i64 0), .v (.int .i64 0)], .one (.v (.int .i64 0))] ∧ rK = [] ∧ rt = 0) := Y.con_eval ftabOk tabOk mixOk 40 12 (by kernel_rfl) (by rfl) (by kernel_rfl)
theorem joined_1_2 (o0 o1 o2 o3 o4 o5 o6 o7 : Int) : Con Try.prog 41 [.agg [.v (.int .i64 o0), .v (.int .i64 o1), .v (.int .i64 o2), .v (.int .i64 o3), .v (.int .i64 o4), .v (.int .i64 o5), .v (.int .i64 o6), .v (.int .i64 o7)], .agg [.v (.int .i64 0), .v (.int .i64 0), .v (.int .i64 0), .v (.int .i64 0), .v (.int .i64 0), .v (.int .i64 0), .v (.int .i64 0), .v (.int .i64 0)], .one (.v (.int .i64 1)), .one (.v (.int .i64 2))] (fun rx rK rt => rx = .tup [.agg [.v (.int .i64 0), .v (.int .i64 0), .v (.int .i64 0), .v (.int .i64 0), .v (.int .i64 o4), .v (.int .i64 o5), .v (.int .i64 o6), .v (.int .i64 o7)], .one (.v (.int .i64 0))] ∧ rK = [] ∧ rt = 0) := Y.con_eval ftabOk tabOk mixOk 40 12 (by kernel_rfl) (by rfl) (by kernel_rfl)
theorem joined_0_3 (o0 o1 o2 o3 o4 o5 o6 o7 : Int) : Con Try.prog 41 [.agg [.v (.int .i64 o0), .v (.int .i64 o1), .v (.int .i64 o2), .v (.int .i64 o3), .v (.int .i64 o4), .v (.int .i64 o5), .v (.int .i64 o6), .v (.int .i64 o7)], .agg [.v (.int .i64 0), .v (.int .i64 0), .v (.int .i64 0), .v (.int .i64 0), .v (.int .i64 0), .v (.int .i64 0), .v (.int .i64 0), .v (.int .i64 0)], .one (.v (.int .i64 0)), .one (.v (.int .i64 3))] (fun rx rK rt => rx = .tup [.agg [.v (.int .i64 o0), .v (.int .i64 o1), .v (.int .i64 o2), .v (.int .i64 0), .v (.int .i64 0), .v (.int .i64 0), .v (.int .i64 0), .v (.int .i64 0)], .one (.v (.int .i64 0))] ∧ rK = [] ∧ rt = 0) := Y.con_eval ftabOk tabOk mixOk 40 12 (by kernel_rfl) (by rfl) (by kernel_rfl)
theorem joined_1_3 (o0 o1 o2 o3 o4 o5 o6 o7 : Int) : Con Try.prog 41 [.agg [.v (.int .i64 o0), .v (.int .i64 o1), .v (.int .i64 o2), .v (.int .i64 o3), .v (.int .i64 o4), .v (.int .i64 o5), .v (.int .i64 o6), .v (.int .i64 o7)], .agg [.v (.int .i64 0), .v (.int .i64 0), .v (.int .i64 0), .v (.int .i64 0), .v (.int .i64 0), .v (.int .i64 0), .v (.int .i64 0), .v (.int .i64 0)], .one (.v (.int .i64 1)), .one (.v (.int .i64 3))] (fun rx rK rt => rx = .tup [.agg [.v (.int .i64 0), .v (.int .i64 0), .v (.int .i64 0), .v (.int .i64 o3), .v (.int .i64 o4), .v (.int .i64 o5), .v (.int .i64 0), .v (.int .i64 0)], .one (.v (.int .i64 0))] ∧ rK = [] ∧ rt = 0) := Y.con_eval ftabOk tabOk mixOk 40 12 (by kernel_rfl) (by rfl) (by kernel_rfl)
theorem joined_2_3 (o0 o1 o2 o3 o4 o5 o6 o7 : Int) : Con Try.prog 41 [.agg [.v (.int .i64 o0), .v (.int .i64 o1), .v (.int .i64 o2), .v (.int .i64 o3), .v (.int .i64 o4), .v (.int .i64 o5), .v (.int .i64 o6), .v (.int .i64 o7)], .agg [.v (.int .i64 0), .v (.int .i64 0), .v (.int .i64 0), .v (.int .i64 0), .v (.int .i64 0), .v (.int .i64 0), .v (.int .i64 0), .v (.int .i64 0)], .one (.v (.int .i64 2)), .one (.v (.int .i64 3))] (fun rx rK rt => rx = .tup [.agg [.v (.int .i64 0), .v (.int .i64 0), .v (.int .i64 0), .v (.int .i64 0), .v (.int .i64 0), .v (.int .i64 0), .v (.int .i64 o6), .v (.int .i64 o7)], .one (.v (.int .i64 0))] ∧ rK = [] ∧ rt = 0) := Y.con_eval ftabOk tabOk mixOk 40 12 (by kernel_rfl) (by rfl) (by kernel_rfl)
theorem areoff_in (o0 o1 o2 o3 o4 o5 o6 o7 j0 j1 j2 j3 j4 j5 j6 j7 i w : Int) (cj : Con Try.prog 41 [.agg [.v (.int .i64 o0), .v (.int .i64 o1), .v (.int .i64 o2), .v (.int .i64 o3), .v (.int .i64 o4), .v (.int .i64 o5), .v (.int .i64 o6), .v (.int .i64 o7)], .agg [.v (.int .i64 0), .v (.int .i64 0), .v (.int .i64 0), .v (.int .i64 0), .v (.int .i64 0), .v (.int .i64 0), .v (.int .i64 0), .v (.int .i64 0)], .one (.v (.int .i64 i)), .one (.v (.int .i64 w))] (fun rx rK rt => rx = .tup [.agg [.v (.int .i64 j0), .v (.int .i64 j1), .v (.int .i64 j2), .v (.int .i64 j3), .v (.int .i64 j4), .v (.int .i64 j5), .v (.int .i64 j6), .v (.int .i64 j7)], .one (.v (.int .i64 0))] ∧ rK = [] ∧ rt = 0)) : Con Try.prog 86 [.agg [.v (.int .i64 o0), .v (.int .i64 o1), .v (.int .i64 o2), .v (.int .i64 o3), .v (.int .i64 o4), .v (.int .i64 o5), .v (.int .i64 o6), .v (.int .i64 o7)], .one (.v (.int .i64 i)), .one (.v (.int .i64 w))] (fun rx rK rt => rx = .val (.bool (decide (RNG o0 o1 o2 o3 o4 o5 o6 o7) && (o0 == j0 && (o1 == j1 && (o2 == j2 && (o3 == j3 && (o4 == j4 && (o5 == j5 && (o6 == j6 && (o7 == j7 && true)))))))))) ∧ rK = [] ∧ rt = 0) := by
 refine Z.con_ofF tabOk 26 Try.f86 _ Try.func86 (by kernel_rfl) rfl rfl rfl rfl ?_
 repeat' ((conv => whnf); first
  | with_reducible first | refine spB_t ?_
  | ((with_reducible apply spB_cong); (focus (simp only [splQ, Int.reduceBEq, Int.reduceBNe]; rfl)))
  | with_reducible first | refine spB_yes (by decide) ?_ | refine spB_no (by decide) ?_
  | (with_reducible refine spB_dec ?_ ?_ <;> intro _ <;> (try (exfalso; first | contradiction | omega | (rename_i hz; refine hz ?_; simp; done) | (rename_i hz; simp at hz; done) | (simp only [LN] at *; omega))))
  | with_reducible first | refine Z.loopZ_unroll tabOk 9 ?_
  | ((with_reducible apply ixN_lit); (focus rfl); (focus rfl))
  | with_reducible refine wr_i64 (by first | omega | (simp only [LN] at *; omega)) ?_
  | with_reducible first | refine Z.callZ_in tabOk 18 Try.f88 _ Try.func88 (by kernel_rfl) rfl rfl rfl ?_
  | ((first | (with_reducible refine Z.callZ_mk ?_ (cj) ?_)); (focus ((repeat' (first | exact trivial | exact rfl | apply And.intro)); done)))
  | ((with_reducible apply ex_and); exact rfl)
  | with_reducible first | refine Z.drawZ_rule tabOk mixOk ?_ | refine Z.apZ_mk (by kernel_rfl) ?_
  | ((with_reducible refine Z.ConZ.red ?_); (try subst hlb); (apply Z.conZ_all); (focus (repeat (first | exact Z.FK.nil | (apply Z.FK.keep; exact rfl)))); (focus rfl); (focus rfl); (focus (repeat (first | exact trivial | (refine ⟨(fun o ho => (by first | (cases ho; rfl) | (cases ho; exact Z.inL_map fun _ => rfl) | (cases ho; exact Z.inL_mapr fun _ => rfl) | exact Z.inL_gB ho fun _ => rfl)), ?_⟩)))))
  | ((refine ⟨rfl, ?_, rfl⟩); (focus (repeat (first | exact Z.DK.nil | apply Z.DK.cons))))
  | fail)
 all_goals (try (conv => whnf))
 all_goals try first | (show Nat.ble _ _ = true; rfl) | (exfalso; rename_i hz; cases hz; done) | (exfalso; (try simp only [LN] at *) <;> omega)
 all_goals first
  | ((first | (with_reducible apply Z.retF1)); (focus rfl); (repeat' (first | exact trivial | (with_reducible apply Z.frz_one) | (with_reducible apply Z.fq_bool) | apply And.intro)); (all_goals (try exact (fun _ => none))); all_goals (first | (rw [decide_eq_false (show ¬ RNG o0 o1 o2 o3 o4 o5 o6 o7 by omega)]; rfl) | (rw [decide_eq_true (show RNG o0 o1 o2 o3 o4 o5 o6 o7 by omega)]; first | rfl | (rw [Bool.true_and]; rfl) | (simp; done))))
  | fail
theorem areoff_con (o0 o1 o2 o3 o4 o5 o6 o7 i w : Int) (h : Tab.okS i w) : Con Try.prog 86 [.agg [.v (.int .i64 o0), .v (.int .i64 o1), .v (.int .i64 o2), .v (.int .i64 o3), .v (.int .i64 o4), .v (.int .i64 o5), .v (.int .i64 o6), .v (.int .i64 o7)], .one (.v (.int .i64 i)), .one (.v (.int .i64 w))] (fun rx rK rt => rx = .val (.bool (offR o0 o1 o2 o3 o4 o5 o6 o7 i w)) ∧ rK = [] ∧ rt = 0) := by
 have h2 : (i = 0 ∧ w = 1) ∨ (i = 0 ∧ w = 2) ∨ (i = 1 ∧ w = 2) ∨ (i = 0 ∧ w = 3) ∨ (i = 1 ∧ w = 3) ∨ (i = 2 ∧ w = 3) := by unfold Tab.okS at h; omega
 rcases h2 with ⟨rfl, rfl⟩ | ⟨rfl, rfl⟩ | ⟨rfl, rfl⟩ | ⟨rfl, rfl⟩ | ⟨rfl, rfl⟩ | ⟨rfl, rfl⟩
 ·have h := areoff_in o0 o1 o2 o3 o4 o5 o6 o7 o0 o1 o2 o3 o4 o5 o6 o7 0 1 (joined_0_1 o0 o1 o2 o3 o4 o5 o6 o7)
  have e : ownO [o0, o1, o2, o3, o4, o5, o6, o7] 0 1 = ((o0 == o0 && (o1 == o1 && (o2 == o2 && (o3 == o3 && (o4 == o4 && (o5 == o5 && (o6 == o6 && (o7 == o7 && true))))))))) := by
   rw [Bool.eq_iff_iff]
   unfold ownO Tab.ownG
   simp [List.zipIdx]
  unfold offR
  rw [e]
  exact h
 ·have h := areoff_in o0 o1 o2 o3 o4 o5 o6 o7 o0 o1 o2 o3 0 0 0 0 0 2 (joined_0_2 o0 o1 o2 o3 o4 o5 o6 o7)
  have e : ownO [o0, o1, o2, o3, o4, o5, o6, o7] 0 2 = ((o0 == o0 && (o1 == o1 && (o2 == o2 && (o3 == o3 && (o4 == 0 && (o5 == 0 && (o6 == 0 && (o7 == 0 && true))))))))) := by
   rw [Bool.eq_iff_iff]
   unfold ownO Tab.ownG
   simp [List.zipIdx]
  unfold offR
  rw [e]
  exact h
 ·have h := areoff_in o0 o1 o2 o3 o4 o5 o6 o7 0 0 0 0 o4 o5 o6 o7 1 2 (joined_1_2 o0 o1 o2 o3 o4 o5 o6 o7)
  have e : ownO [o0, o1, o2, o3, o4, o5, o6, o7] 1 2 = ((o0 == 0 && (o1 == 0 && (o2 == 0 && (o3 == 0 && (o4 == o4 && (o5 == o5 && (o6 == o6 && (o7 == o7 && true))))))))) := by
   rw [Bool.eq_iff_iff]
   unfold ownO Tab.ownG
   simp [List.zipIdx]
  unfold offR
  rw [e]
  exact h
 ·have h := areoff_in o0 o1 o2 o3 o4 o5 o6 o7 o0 o1 o2 0 0 0 0 0 0 3 (joined_0_3 o0 o1 o2 o3 o4 o5 o6 o7)
  have e : ownO [o0, o1, o2, o3, o4, o5, o6, o7] 0 3 = ((o0 == o0 && (o1 == o1 && (o2 == o2 && (o3 == 0 && (o4 == 0 && (o5 == 0 && (o6 == 0 && (o7 == 0 && true))))))))) := by
   rw [Bool.eq_iff_iff]
   unfold ownO Tab.ownG
   simp [List.zipIdx]
  unfold offR
  rw [e]
  exact h
 ·have h := areoff_in o0 o1 o2 o3 o4 o5 o6 o7 0 0 0 o3 o4 o5 0 0 1 3 (joined_1_3 o0 o1 o2 o3 o4 o5 o6 o7)
  have e : ownO [o0, o1, o2, o3, o4, o5, o6, o7] 1 3 = ((o0 == 0 && (o1 == 0 && (o2 == 0 && (o3 == o3 && (o4 == o4 && (o5 == o5 && (o6 == 0 && (o7 == 0 && true))))))))) := by
   rw [Bool.eq_iff_iff]
   unfold ownO Tab.ownG
   simp [List.zipIdx]
  unfold offR
  rw [e]
  exact h
 ·have h := areoff_in o0 o1 o2 o3 o4 o5 o6 o7 0 0 0 0 0 0 o6 o7 2 3 (joined_2_3 o0 o1 o2 o3 o4 o5 o6 o7)
  have e : ownO [o0, o1, o2, o3, o4, o5, o6, o7] 2 3 = ((o0 == 0 && (o1 == 0 && (o2 == 0 && (o3 == 0 && (o4 == 0 && (o5 == 0 && (o6 == o6 && (o7 == o7 && true))))))))) := by
   rw [Bool.eq_iff_iff]
   unfold ownO Tab.ownG
   simp [List.zipIdx]
  unfold offR
  rw [e]
  exact h
end Go.Proofs.Ytopieffkpdlpbaa
namespace Go.Proofs.Ytopieffkpdlpbaa
open Go Go.RowKit Wx
set_option maxHeartbeats 4000000
theorem jnd_0_1 (o0 o1 o2 o3 o4 o5 o6 o7 p0 p1 p2 p3 p4 p5 p6 p7 : Int) : Con Try.prog 41 [.agg [.v (.int .i64 o0), .v (.int .i64 o1), .v (.int .i64 o2), .v (.int .i64 o3), .v (.int .i64 o4), .v (.int .i64 o5), .v (.int .i64 o6), .v (.int .i64 o7)], .agg [.v (.int .i64 p0), .v (.int .i64 p1), .v (.int .i64 p2), .v (.int .i64 p3), .v (.int .i64 p4), .v (.int .i64 p5), .v (.int .i64 p6), .v (.int .i64 p7)], .one (.v (.int .i64 0)), .one (.v (.int .i64 1))] (fun rx rK rt => rx = .tup [.agg [.v (.int .i64 o0), .v (.int .i64 o1), .v (.int .i64 o2), .v (.int .i64 o3), .v (.int .i64 o4), .v (.int .i64 o5), .v (.int .i64 o6), .v (.int .i64 o7)], .one (.v (.int .i64 0))] ∧ rK = [] ∧ rt = 0) := Y.con_eval ftabOk tabOk mixOk 40 12 (by kernel_rfl) (by rfl) (by kernel_rfl)
theorem jnd_0_2 (o0 o1 o2 o3 o4 o5 o6 o7 p0 p1 p2 p3 p4 p5 p6 p7 : Int) : Con Try.prog 41 [.agg [.v (.int .i64 o0), .v (.int .i64 o1), .v (.int .i64 o2), .v (.int .i64 o3), .v (.int .i64 o4), .v (.int .i64 o5), .v (.int .i64 o6), .v (.int .i64 o7)], .agg [.v (.int .i64 p0), .v (.int .i64 p1), .v (.int .i64 p2), .v (.int .i64 p3), .v (.int .i64 p4), .v (.int .i64 p5), .v (.int .i64 p6), .v (.int .i64 p7)], .one (.v (.int .i64 0)), .one (.v (.int .i64 2))] (fun rx rK rt => rx = .tup [.agg [.v (.int .i64 o0), .v (.int .i64 o1), .v (.int .i64 o2), .v (.int .i64 o3), .v (.int .i64 p4), .v (.int .i64 p5), .v (.int .i64 p6), .v (.int .i64 p7)], .one (.v (.int .i64 0))] ∧ rK = [] ∧ rt = 0) := Y.con_eval ftabOk tabOk mixOk 40 12 (by kernel_rfl) (by rfl) (by kernel_rfl)
theorem jnd_1_2 (o0 o1 o2 o3 o4 o5 o6 o7 p0 p1 p2 p3 p4 p5 p6 p7 : Int) : Con Try.prog 41 [.agg [.v (.int .i64 o0), .v (.int .i64 o1), .v (.int .i64 o2), .v (.int .i64 o3), .v (.int .i64 o4), .v (.int .i64 o5), .v (.int .i64 o6), .v (.int .i64 o7)], .agg [.v (.int .i64 p0), .v (.int .i64 p1), .v (.int .i64 p2), .v (.int .i64 p3), .v (.int .i64 p4), .v (.int .i64 p5), .v (.int .i64 p6), .v (.int .i64 p7)], .one (.v (.int .i64 1)), .one (.v (.int .i64 2))] (fun rx rK rt => rx = .tup [.agg [.v (.int .i64 p0), .v (.int .i64 p1), .v (.int .i64 p2), .v (.int .i64 p3), .v (.int .i64 o4), .v (.int .i64 o5), .v (.int .i64 o6), .v (.int .i64 o7)], .one (.v (.int .i64 0))] ∧ rK = [] ∧ rt = 0) := Y.con_eval ftabOk tabOk mixOk 40 12 (by kernel_rfl) (by rfl) (by kernel_rfl)
theorem jnd_0_3 (o0 o1 o2 o3 o4 o5 o6 o7 p0 p1 p2 p3 p4 p5 p6 p7 : Int) : Con Try.prog 41 [.agg [.v (.int .i64 o0), .v (.int .i64 o1), .v (.int .i64 o2), .v (.int .i64 o3), .v (.int .i64 o4), .v (.int .i64 o5), .v (.int .i64 o6), .v (.int .i64 o7)], .agg [.v (.int .i64 p0), .v (.int .i64 p1), .v (.int .i64 p2), .v (.int .i64 p3), .v (.int .i64 p4), .v (.int .i64 p5), .v (.int .i64 p6), .v (.int .i64 p7)], .one (.v (.int .i64 0)), .one (.v (.int .i64 3))] (fun rx rK rt => rx = .tup [.agg [.v (.int .i64 o0), .v (.int .i64 o1), .v (.int .i64 o2), .v (.int .i64 p3), .v (.int .i64 p4), .v (.int .i64 p5), .v (.int .i64 p6), .v (.int .i64 p7)], .one (.v (.int .i64 0))] ∧ rK = [] ∧ rt = 0) := Y.con_eval ftabOk tabOk mixOk 40 12 (by kernel_rfl) (by rfl) (by kernel_rfl)
theorem jnd_1_3 (o0 o1 o2 o3 o4 o5 o6 o7 p0 p1 p2 p3 p4 p5 p6 p7 : Int) : Con Try.prog 41 [.agg [.v (.int .i64 o0), .v (.int .i64 o1), .v (.int .i64 o2), .v (.int .i64 o3), .v (.int .i64 o4), .v (.int .i64 o5), .v (.int .i64 o6), .v (.int .i64 o7)], .agg [.v (.int .i64 p0), .v (.int .i64 p1), .v (.int .i64 p2), .v (.int .i64 p3), .v (.int .i64 p4), .v (.int .i64 p5), .v (.int .i64 p6), .v (.int .i64 p7)], .one (.v (.int .i64 1)), .one (.v (.int .i64 3))] (fun rx rK rt => rx = .tup [.agg [.v (.int .i64 p0), .v (.int .i64 p1), .v (.int .i64 p2), .v (.int .i64 o3), .v (.int .i64 o4), .v (.int .i64 o5), .v (.int .i64 p6), .v (.int .i64 p7)], .one (.v (.int .i64 0))] ∧ rK = [] ∧ rt = 0) := Y.con_eval ftabOk tabOk mixOk 40 12 (by kernel_rfl) (by rfl) (by kernel_rfl)
theorem jnd_2_3 (o0 o1 o2 o3 o4 o5 o6 o7 p0 p1 p2 p3 p4 p5 p6 p7 : Int) : Con Try.prog 41 [.agg [.v (.int .i64 o0), .v (.int .i64 o1), .v (.int .i64 o2), .v (.int .i64 o3), .v (.int .i64 o4), .v (.int .i64 o5), .v (.int .i64 o6), .v (.int .i64 o7)], .agg [.v (.int .i64 p0), .v (.int .i64 p1), .v (.int .i64 p2), .v (.int .i64 p3), .v (.int .i64 p4), .v (.int .i64 p5), .v (.int .i64 p6), .v (.int .i64 p7)], .one (.v (.int .i64 2)), .one (.v (.int .i64 3))] (fun rx rK rt => rx = .tup [.agg [.v (.int .i64 p0), .v (.int .i64 p1), .v (.int .i64 p2), .v (.int .i64 p3), .v (.int .i64 p4), .v (.int .i64 p5), .v (.int .i64 o6), .v (.int .i64 o7)], .one (.v (.int .i64 0))] ∧ rK = [] ∧ rt = 0) := Y.con_eval ftabOk tabOk mixOk 40 12 (by kernel_rfl) (by rfl) (by kernel_rfl)
end Go.Proofs.Ytopieffkpdlpbaa
namespace Go.Proofs.Ytopieffkpdlpbaa
open Go Go.RowKit Wx
set_option maxHeartbeats 4000000
def nmOk (x : Nm) : Bool := decide ((0 ≤ x.s ∧ x.s < 16) ∧ (1 ≤ x.a ∧ x.a ≤ 1048576) ∧ 1 ≤ x.n ∧ x.n ≤ 1048576)
def nLt (x y : Nm) : Prop := x.s < y.s ∨ (x.s = y.s ∧ (x.a < y.a ∨ (x.a = y.a ∧ x.n < y.n)))
instance (x y : Nm) : Decidable (nLt x y) := by unfold nLt; infer_instance
def nC (x y : Nm) : Int := if Tab.cmpI x.s y.s ≠ 0 then Tab.cmpI x.s y.s else if Tab.cmpI x.a y.a ≠ 0 then Tab.cmpI x.a y.a else Tab.cmpI x.n y.n
theorem nC_lt (x y : Nm) : decide (0 ≤ nC x y) = !decide (nLt x y) := by
 have h : 0 ≤ nC x y ↔ ¬ nLt x y := by
  unfold nC Tab.cmpI nLt
  by_cases h1 : x.s < y.s
  ·simp [h1]
  ·by_cases h2 : y.s < x.s
   ·have : ¬ x.s = y.s := by omega
    simp [h1, h2, this]
   ·have h3 : x.s = y.s := by omega
    by_cases h4 : x.a < y.a
    ·simp [h3, h4]
    ·by_cases h5 : y.a < x.a
     ·have : ¬ x.a = y.a := by omega
      simp [h3, h4, h5, this]
     ·have h6 : x.a = y.a := by omega
      by_cases h7 : x.n < y.n
      ·simp [h3, h6, h7]
      ·by_cases h8 : y.n < x.n
       ·simp [h3, h6, h7, h8]
       ·simp [h3, h6, h7, h8]
 by_cases hl : nLt x y
 ·rw [decide_eq_false (fun h9 => h.1 h9 hl), decide_eq_true hl]; rfl
 ·rw [decide_eq_true (h.2 hl), decide_eq_false hl]; rfl
def nOk : Option Nm → List Nm → Bool
 | _, [] => true
 | none, x :: r => nmOk x && nOk (some x) r
 | some p, x :: r => nmOk x && decide (nLt p x) && nOk (some x) r
def nPrev (l : List Nm) : Nat → Option Nm
 | 0 => none
 | i + 1 => l[i]?
theorem nOk_at {l : List Nm} {i : Nat} {x : Nm} (h : l[i]? = some x) : nOk (nPrev l i) (l.drop i) = (nmOk x && (match nPrev l i with | none => true | some q => decide (nLt q x)) && nOk (nPrev l (i + 1)) (l.drop (i + 1))) := by
 rw [drop_cons h]
 have e : nPrev l (i + 1) = some x := h
 rw [e]
 cases hp : nPrev l i with
 | none => simp [nOk]
 | some q => simp [nOk]
def namesR (l : List Nm) : Bool := decide (l.length ≤ 24) && nOk none l
theorem cname_con (x : Nm)  : Con Try.prog 80 [.agg [.v (.int .i64 x.s), .v (.int .i64 x.a), .v (.int .i64 x.n)]] (fun rx rK rt => rx = .val (.int .i64 (bif nmOk x then 0 else 2)) ∧ rK = [] ∧ rt = 0) := by
 refine Z.con_ofF tabOk 6 Try.f80 _ Try.func80 (by kernel_rfl) rfl rfl rfl rfl ?_
 cases hk : nmOk x
 ·have hk := of_decide_eq_false hk
  try simp only [cond_false]
  repeat' ((conv => whnf); first
   | with_reducible first | refine spB_t ?_
   | ((with_reducible apply spB_cong); (focus (simp only [splQ, Int.reduceBEq, Int.reduceBNe]; rfl)))
   | with_reducible first | refine spB_yes (by decide) ?_ | refine spB_no (by decide) ?_ | refine spB_not ?_
   | (with_reducible refine spB_dec ?_ ?_ <;> intro _ <;> (try (exfalso; (first | omega))))
   | with_reducible first | refine Z.loopZ_unroll tabOk 2 ?_
   | ((with_reducible apply rowN_mk); (focus rfl))
   | ((with_reducible apply ixN_lit); (focus rfl); (focus rfl))
   | with_reducible first | refine Z.callZ_in tabOk 15 Try.f106 _ Try.func106 (by kernel_rfl) rfl rfl rfl ?_ | refine Z.callZ_in tabOk 24 Try.f116 _ Try.func116 (by kernel_rfl) rfl rfl rfl ?_ | refine Z.callZ_in tabOk 9 Try.f129 _ Try.func129 (by kernel_rfl) rfl rfl rfl ?_
   | ((with_reducible apply ex_and); exact rfl)
   | fail)
  all_goals (try (conv => whnf))
  all_goals try first | (show Nat.ble _ _ = true; rfl) | (exfalso; rename_i hz; cases hz; done) | (exfalso; (try simp only [LN] at *) <;> omega)
  all_goals first
   | ((first | (with_reducible apply Z.retF1)); (focus rfl); (repeat' (first | exact trivial | (with_reducible apply Z.frz_one) | (with_reducible apply Z.fq_int) | exact rfl | apply And.intro)); (all_goals (try exact (fun _ => none))); all_goals (first | (simp; done)))
   | fail
 ·have hk := of_decide_eq_true hk
  try simp only [cond_true]
  repeat' ((conv => whnf); first
   | with_reducible first | refine spB_t ?_
   | with_reducible first | refine spB_yes (by decide) ?_ | refine spB_no (by decide) ?_ | refine spB_not ?_
   | (with_reducible refine spB_dec ?_ ?_ <;> intro _ <;> (try (exfalso; (first | omega))))
   | with_reducible first | refine Z.loopZ_unroll tabOk 2 ?_
   | ((with_reducible apply rowN_mk); (focus rfl))
   | ((with_reducible apply ixN_lit); (focus rfl); (focus rfl))
   | with_reducible refine wr_i64 (by first | omega | (simp only [LN] at *; omega)) ?_
   | with_reducible first | refine Z.callZ_in tabOk 15 Try.f106 _ Try.func106 (by kernel_rfl) rfl rfl rfl ?_ | refine Z.callZ_in tabOk 24 Try.f116 _ Try.func116 (by kernel_rfl) rfl rfl rfl ?_ | refine Z.callZ_in tabOk 9 Try.f129 _ Try.func129 (by kernel_rfl) rfl rfl rfl ?_
   | ((with_reducible apply ex_and); exact rfl)
   | fail)
  all_goals (try (conv => whnf))
  all_goals try first | (show Nat.ble _ _ = true; rfl) | (exfalso; rename_i hz; cases hz; done) | (exfalso; (try simp only [LN] at *) <;> omega)
  all_goals first
   | ((first | (with_reducible apply Z.retF1)); (focus rfl); (repeat' (first | exact trivial | (with_reducible apply Z.frz_one) | (with_reducible apply Z.fq_int) | exact rfl | apply And.intro)); (all_goals (try exact (fun _ => none))); all_goals (first | (simp; done)))
   | fail
theorem rname_con (x : Nm)  : Con Try.prog 76 [.agg [.v (.int .i64 x.s), .v (.int .i64 x.a), .v (.int .i64 x.n)]] (fun rx rK rt => rx = .val (.bool (nmOk x)) ∧ rK = [] ∧ rt = 0) := by
 refine Z.con_ofF tabOk 31 Try.f76 _ Try.func76 (by kernel_rfl) rfl rfl rfl rfl ?_
 unfold nmOk
 repeat' ((conv => whnf); first
  | with_reducible first | refine spB_t ?_
  | with_reducible first | refine spB_no (by decide) ?_
  | (with_reducible refine spB_dec ?_ ?_ <;> intro _ <;> (try (exfalso; (first | (simp only [LN] at *; omega)))))
  | fail)
 all_goals (try (conv => whnf))
 all_goals try first | (show Nat.ble _ _ = true; rfl) | (exfalso; rename_i hz; cases hz; done) | (exfalso; (try simp only [LN] at *) <;> omega)
 all_goals first
  | ((first | (with_reducible apply Z.retF1)); (focus rfl); (repeat' (first | exact trivial | (with_reducible apply Z.frz_one) | (with_reducible apply Z.fq_bool) | apply And.intro)); (all_goals (try exact (fun _ => none))); all_goals (first | exact bool_p (by omega) | exact bool_f (by omega)))
  | fail
theorem ncmp_con (x y : Nm)  : Con Try.prog 81 [.agg [.v (.int .i64 x.s), .v (.int .i64 x.a), .v (.int .i64 x.n)], .agg [.v (.int .i64 y.s), .v (.int .i64 y.a), .v (.int .i64 y.n)]] (fun rx rK rt => rx = .val (.int .i64 (nC x y)) ∧ rK = [] ∧ rt = 0) := by
 refine Z.con_ofF tabOk 22 Try.f81 _ Try.func81 (by kernel_rfl) rfl rfl rfl rfl ?_
 have c1 := Tab.cmp_con x.s y.s
 have c2 := Tab.cmp_con x.a y.a
 have c3 := Tab.cmp_con x.n y.n
 unfold nC
 generalize Tab.cmpI x.s y.s = A at *
 generalize Tab.cmpI x.a y.a = B at *
 generalize Tab.cmpI x.n y.n = C at *
 by_cases hA : A ≠ 0
 ·rw [if_pos hA]
  repeat' ((conv => whnf); first
   | with_reducible first | refine spB_yes (by decide) ?_
   | (with_reducible refine spB_bne ?_ ?_ <;> intro _ <;> (try (exfalso; (first | contradiction))))
   | with_reducible first | refine Z.loopZ_unroll tabOk 4 ?_
   | ((with_reducible apply rowN_mk); (focus rfl))
   | ((with_reducible apply ixN_lit); (focus rfl); (focus rfl))
   | with_reducible first | refine Z.callZ_in tabOk 18 Try.f107 _ Try.func107 (by kernel_rfl) rfl rfl rfl ?_
   | ((first | (with_reducible refine Z.conZ_mz ?_ (c1) ?_)); (focus ((repeat' (first | exact trivial | exact rfl | apply And.intro)); done)))
   | ((first | (with_reducible refine Z.conZ_mz ?_ (c2) ?_)); (focus ((repeat' (first | exact trivial | exact rfl | apply And.intro)); done)))
   | ((first | (with_reducible refine Z.conZ_mz ?_ (c3) ?_)); (focus ((repeat' (first | exact trivial | exact rfl | apply And.intro)); done)))
   | ((with_reducible apply ex_and); exact rfl)
   | with_reducible first | refine Z.drawZ_rule tabOk mixOk ?_ | refine Z.apZ_mk (by kernel_rfl) ?_
   | ((with_reducible refine Z.ConZ.red ?_); (try subst hlb); (apply Z.conZ_all); (focus (repeat (first | exact Z.FK.nil | (apply Z.FK.keep; exact rfl)))); (focus rfl); (focus rfl); (focus (repeat (first | exact trivial | (refine ⟨(fun o ho => (by first | (cases ho; rfl) | (cases ho; exact Z.inL_map fun _ => rfl) | (cases ho; exact Z.inL_mapr fun _ => rfl) | exact Z.inL_gB ho fun _ => rfl)), ?_⟩)))))
   | ((refine ⟨rfl, ?_, rfl⟩); (focus (repeat (first | exact Z.DK.nil))))
   | fail)
  all_goals (try (conv => whnf))
  all_goals try first | (show Nat.ble _ _ = true; rfl) | (exfalso; rename_i hz; cases hz; done) | (exfalso; (try simp only [LN] at *) <;> omega)
  all_goals first
   | ((first | (with_reducible apply Z.retF1)); (focus rfl); (repeat' (first | exact trivial | (with_reducible apply Z.frz_one) | exact rfl | apply And.intro)); (all_goals (try exact (fun _ => none))); all_goals (first | (simp_all; done)))
   | fail
 by_cases hB : B ≠ 0
 ·rw [if_neg hA, if_pos hB]
  repeat' ((conv => whnf); first
   | with_reducible first | refine spB_yes (by decide) ?_
   | (with_reducible refine spB_bne ?_ ?_ <;> intro _ <;> (try (exfalso; (first | contradiction))))
   | with_reducible first | refine Z.loopZ_unroll tabOk 4 ?_
   | ((with_reducible apply rowN_mk); (focus rfl))
   | ((with_reducible apply ixN_lit); (focus rfl); (focus rfl))
   | with_reducible refine wr_i64 (by first | omega | (simp only [LN] at *; omega)) ?_
   | with_reducible first | refine Z.callZ_in tabOk 18 Try.f107 _ Try.func107 (by kernel_rfl) rfl rfl rfl ?_
   | ((first | (with_reducible refine Z.conZ_mz ?_ (c1) ?_)); (focus ((repeat' (first | exact trivial | exact rfl | apply And.intro)); done)))
   | ((first | (with_reducible refine Z.conZ_mz ?_ (c2) ?_)); (focus ((repeat' (first | exact trivial | exact rfl | apply And.intro)); done)))
   | ((first | (with_reducible refine Z.conZ_mz ?_ (c3) ?_)); (focus ((repeat' (first | exact trivial | exact rfl | apply And.intro)); done)))
   | ((with_reducible apply ex_and); exact rfl)
   | with_reducible first | refine Z.drawZ_rule tabOk mixOk ?_ | refine Z.apZ_mk (by kernel_rfl) ?_
   | ((with_reducible refine Z.ConZ.red ?_); (try subst hlb); (apply Z.conZ_all); (focus (repeat (first | exact Z.FK.nil | (apply Z.FK.keep; exact rfl)))); (focus rfl); (focus rfl); (focus (repeat (first | exact trivial | (refine ⟨(fun o ho => (by first | (cases ho; rfl) | (cases ho; exact Z.inL_map fun _ => rfl) | (cases ho; exact Z.inL_mapr fun _ => rfl) | exact Z.inL_gB ho fun _ => rfl)), ?_⟩)))))
   | ((refine ⟨rfl, ?_, rfl⟩); (focus (repeat (first | exact Z.DK.nil))))
   | fail)
  all_goals (try (conv => whnf))
  all_goals try first | (show Nat.ble _ _ = true; rfl) | (exfalso; rename_i hz; cases hz; done) | (exfalso; (try simp only [LN] at *) <;> omega)
  all_goals first
   | ((first | (with_reducible apply Z.retF1)); (focus rfl); (repeat' (first | exact trivial | (with_reducible apply Z.frz_one) | exact rfl | apply And.intro)); (all_goals (try exact (fun _ => none))); all_goals (first | (simp_all; done)))
   | fail
 rw [if_neg hA, if_neg hB]
 by_cases hC : C = 0
 ·subst hC
  repeat' ((conv => whnf); first
   | ((with_reducible apply spB_cong); (focus (simp only [splQ, Int.reduceBEq, Int.reduceBNe]; rfl)))
   | with_reducible first | refine spB_yes (by decide) ?_ | refine spB_no (by decide) ?_
   | (with_reducible refine spB_bne ?_ ?_ <;> intro _ <;> (try (exfalso; (first | contradiction))))
   | with_reducible first | refine Z.loopZ_unroll tabOk 4 ?_
   | ((with_reducible apply rowN_mk); (focus rfl))
   | ((with_reducible apply ixN_lit); (focus rfl); (focus rfl))
   | with_reducible refine wr_i64 (by first | omega | (simp only [LN] at *; omega)) ?_
   | with_reducible first | refine Z.callZ_in tabOk 18 Try.f107 _ Try.func107 (by kernel_rfl) rfl rfl rfl ?_
   | ((first | (with_reducible refine Z.conZ_mz ?_ (c1) ?_)); (focus ((repeat' (first | exact trivial | exact rfl | apply And.intro)); done)))
   | ((first | (with_reducible refine Z.conZ_mz ?_ (c2) ?_)); (focus ((repeat' (first | exact trivial | exact rfl | apply And.intro)); done)))
   | ((first | (with_reducible refine Z.conZ_mz ?_ (c3) ?_)); (focus ((repeat' (first | exact trivial | exact rfl | apply And.intro)); done)))
   | ((with_reducible apply ex_and); exact rfl)
   | with_reducible first | refine Z.drawZ_rule tabOk mixOk ?_ | refine Z.apZ_mk (by kernel_rfl) ?_
   | ((with_reducible refine Z.ConZ.red ?_); (try subst hlb); (apply Z.conZ_all); (focus (repeat (first | exact Z.FK.nil | (apply Z.FK.keep; exact rfl)))); (focus rfl); (focus rfl); (focus (repeat (first | exact trivial | (refine ⟨(fun o ho => (by first | (cases ho; rfl) | (cases ho; exact Z.inL_map fun _ => rfl) | (cases ho; exact Z.inL_mapr fun _ => rfl) | exact Z.inL_gB ho fun _ => rfl)), ?_⟩)))))
   | ((refine ⟨rfl, ?_, rfl⟩); (focus (repeat (first | exact Z.DK.nil))))
   | fail)
  all_goals (try (conv => whnf))
  all_goals try first | (show Nat.ble _ _ = true; rfl) | (exfalso; rename_i hz; cases hz; done) | (exfalso; (try simp only [LN] at *) <;> omega)
  all_goals first
   | ((first | (with_reducible apply Z.retF1)); (focus rfl); (repeat' (first | exact trivial | (with_reducible apply Z.frz_one) | (with_reducible apply Z.fq_int) | exact rfl | apply And.intro)); (all_goals (try exact (fun _ => none))); all_goals (first | (simp_all; done)))
   | fail
 repeat' ((conv => whnf); first
  | with_reducible first | refine spB_yes (by decide) ?_
  | (with_reducible refine spB_bne ?_ ?_ <;> intro _ <;> (try (exfalso; (first | contradiction))))
  | with_reducible first | refine Z.loopZ_unroll tabOk 4 ?_
  | ((with_reducible apply rowN_mk); (focus rfl))
  | ((with_reducible apply ixN_lit); (focus rfl); (focus rfl))
  | with_reducible refine wr_i64 (by first | omega | (simp only [LN] at *; omega)) ?_
  | with_reducible first | refine Z.callZ_in tabOk 18 Try.f107 _ Try.func107 (by kernel_rfl) rfl rfl rfl ?_
  | ((first | (with_reducible refine Z.conZ_mz ?_ (c1) ?_)); (focus ((repeat' (first | exact trivial | exact rfl | apply And.intro)); done)))
  | ((first | (with_reducible refine Z.conZ_mz ?_ (c2) ?_)); (focus ((repeat' (first | exact trivial | exact rfl | apply And.intro)); done)))
  | ((first | (with_reducible refine Z.conZ_mz ?_ (c3) ?_)); (focus ((repeat' (first | exact trivial | exact rfl | apply And.intro)); done)))
  | ((with_reducible apply ex_and); exact rfl)
  | with_reducible first | refine Z.drawZ_rule tabOk mixOk ?_ | refine Z.apZ_mk (by kernel_rfl) ?_
  | ((with_reducible refine Z.ConZ.red ?_); (try subst hlb); (apply Z.conZ_all); (focus (repeat (first | exact Z.FK.nil | (apply Z.FK.keep; exact rfl)))); (focus rfl); (focus rfl); (focus (repeat (first | exact trivial | (refine ⟨(fun o ho => (by first | (cases ho; rfl) | (cases ho; exact Z.inL_map fun _ => rfl) | (cases ho; exact Z.inL_mapr fun _ => rfl) | exact Z.inL_gB ho fun _ => rfl)), ?_⟩)))))
  | ((refine ⟨rfl, ?_, rfl⟩); (focus (repeat (first | exact Z.DK.nil))))
  | fail)
 all_goals (try (conv => whnf))
 all_goals try first | (show Nat.ble _ _ = true; rfl) | (exfalso; rename_i hz; cases hz; done) | (exfalso; (try simp only [LN] at *) <;> omega)
 all_goals first
  | ((first | (with_reducible apply Z.retF1)); (focus rfl); (repeat' (first | exact trivial | (with_reducible apply Z.frz_one) | exact rfl | apply And.intro)); (all_goals (try exact (fun _ => none))); all_goals (first | (simp_all; done)))
  | fail
theorem nless_con (x y : Nm)  : Con Try.prog 77 [.agg [.v (.int .i64 x.s), .v (.int .i64 x.a), .v (.int .i64 x.n)], .agg [.v (.int .i64 y.s), .v (.int .i64 y.a), .v (.int .i64 y.n)]] (fun rx rK rt => rx = .val (.bool (decide (nLt x y))) ∧ rK = [] ∧ rt = 0) := by
 refine Z.con_ofF tabOk 32 Try.f77 _ Try.func77 (by kernel_rfl) rfl rfl rfl rfl ?_
 repeat' ((conv => whnf); first
  | (with_reducible refine spB_bne ?_ ?_ <;> intro _ <;> (try (exfalso; (first | (simp only [LN] at *; omega)))))
  | fail)
 all_goals (try (conv => whnf))
 all_goals try first | (show Nat.ble _ _ = true; rfl) | (exfalso; rename_i hz; cases hz; done) | (exfalso; (try simp only [LN] at *) <;> omega)
 all_goals first
  | ((first | (with_reducible apply Z.retF1)); (focus rfl); (repeat' (first | exact trivial | (with_reducible apply Z.frz_one) | (with_reducible apply Z.fq_bool) | apply And.intro)); (all_goals (try exact (fun _ => none))); all_goals (first | exact bool_p (by unfold nLt; omega)))
  | fail
end Go.Proofs.Ytopieffkpdlpbaa
