import Derived.Test.YtehhmkdghgabaaaLib3
import Derived.Test.YtehhmkdghgabaaaLib5
import Derived.Test.YtehhmkdghgabaaaLib4
import Derived.Shelf.SlGeneric
import Derived.Shelf.SlSortCmp.WholeK
import Derived.Ground.SlsfProg
import Derived.Test.YtehhmkdghgabaaaProg
namespace Go.Proofs.Ytehhmkdghgabaaa
open Go Go.RowKit Wx
set_option linter.unusedVariables false
set_option linter.unusedSimpArgs false
set_option maxHeartbeats 4000000
def be : Nat → Int → List Int
  | 0, _ => []
  | n + 1, x => be n (x / 256) ++ [x % 256]
def isB (l : List Int) : Prop := ∀ b ∈ l, 0 ≤ b ∧ b ≤ 255
def cmpI (a b : Int) : Int := if a < b then -1 else if b < a then 1 else 0
def cmpR (s k s2 k2 : Int) : Int := if cmpI s s2 ≠ 0 then cmpI s s2 else cmpI k k2
structure Kc where
  src : Int
  key : Int
  cnt : Int
  sum : Int
deriving DecidableEq
def keyOk (s k : Int) : Bool := decide ((0 ≤ s ∧ s < 8) ∧ 0 ≤ k ∧ k < 32)
def kLt (s k s2 k2 : Int) : Prop := s < s2 ∨ (s = s2 ∧ k < k2)
instance (s k s2 k2 : Int) : Decidable (kLt s k s2 k2) := by unfold kLt; infer_instance
def okT : Option Kc → List Kc → Bool
  | _, [] => true
  | none, x :: r => keyOk x.src x.key && decide (0 < x.cnt) && okT (some x) r
  | some p, x :: r => keyOk x.src x.key && decide (0 < x.cnt) && decide (kLt p.src p.key x.src x.key) && okT (some x) r
def tabR (l : List Kc) : Bool := okT none l
theorem okT_all : ∀ {l : List Kc} {p : Option Kc}, okT p l = true → ∀ x ∈ l, keyOk x.src x.key = true ∧ 0 < x.cnt
  | [], _, _, x, hx => nomatch hx
  | y :: l, p, h, x, hx => by
    have h' : (keyOk y.src y.key = true ∧ 0 < y.cnt) ∧ okT (some y) l = true := by
      cases p with
      | none => simp only [okT, Bool.and_eq_true, decide_eq_true_eq] at h; exact ⟨h.1, h.2⟩
      | some p => simp only [okT, Bool.and_eq_true, decide_eq_true_eq] at h; exact ⟨h.1.1, h.2⟩
    rcases List.mem_cons.1 hx with rfl | hx
    · exact h'.1
    · exact okT_all h'.2 x hx
theorem keyOk_iff {s k : Int} : keyOk s k = true ↔ (0 ≤ s ∧ s < 8) ∧ 0 ≤ k ∧ k < 32 := by unfold keyOk; exact decide_eq_true_iff
theorem okT_len : ∀ {l : List Kc} {p : Kc}, keyOk p.src p.key = true → okT (some p) l = true → (l.length : Int) ≤ 255 - (p.src * 32 + p.key)
  | [], p, hp, _ => by rw [keyOk_iff] at hp; simp; omega
  | x :: l, p, hp, h => by
    simp only [okT, Bool.and_eq_true, decide_eq_true_eq] at h
    have ih := okT_len h.1.1.1 h.2
    have hx := keyOk_iff.1 h.1.1.1
    have hp' := keyOk_iff.1 hp
    have hk := h.1.2
    unfold kLt at hk
    simp only [List.length_cons]
    omega
theorem tab_len {l : List Kc} (h : tabR l = true) : l.length ≤ 256 := by
  cases l with
  | nil => simp
  | cons x l =>
    unfold tabR at h
    simp only [okT, Bool.and_eq_true, decide_eq_true_eq] at h
    have ih := okT_len h.1.1 h.2
    have hx := keyOk_iff.1 h.1.1
    simp only [List.length_cons]
    omega
theorem kLt_trans {a b c d e f : Int} (h1 : kLt a b c d) (h2 : kLt c d e f) : kLt a b e f := by unfold kLt at *; omega
theorem kLt_irr {a b : Int} : ¬ kLt a b a b := by unfold kLt; omega
theorem kLt_asym {a b c d : Int} (h : kLt a b c d) : ¬ kLt c d a b := by unfold kLt at *; omega
theorem kLt_tri {a b c d : Int} : kLt a b c d ∨ (a = c ∧ b = d) ∨ kLt c d a b := by unfold kLt; omega
abbrev kLtK (x y : Kc) : Prop := kLt x.src x.key y.src y.key
theorem okT_pw : ∀ {l : List Kc} {p : Kc}, okT (some p) l = true → (∀ x ∈ l, kLtK p x) ∧ l.Pairwise kLtK
  | [], _, _ => ⟨(fun x hx => nomatch hx), List.Pairwise.nil⟩
  | y :: l, p, h => by
    simp only [okT, Bool.and_eq_true, decide_eq_true_eq] at h
    obtain ⟨h1, h2⟩ := okT_pw h.2
    refine ⟨fun x hx => ?_, List.Pairwise.cons h1 h2⟩
    rcases List.mem_cons.1 hx with rfl | hx
    · exact h.1.2
    · exact kLt_trans h.1.2 (h1 x hx)
theorem okT_of : ∀ {l : List Kc} {p : Kc}, (∀ x ∈ l, keyOk x.src x.key = true ∧ 0 < x.cnt) → (∀ x ∈ l, kLtK p x) → l.Pairwise kLtK → okT (some p) l = true
  | [], _, _, _, _ => rfl
  | y :: l, p, h, hp, hw => by
    rw [List.pairwise_cons] at hw
    simp only [okT, Bool.and_eq_true, decide_eq_true_eq]
    exact ⟨⟨h y (by simp), hp y (by simp)⟩, okT_of (fun x hx => h x (by simp [hx])) hw.1 hw.2⟩
theorem tab_iff {l : List Kc} : tabR l = true ↔ (∀ x ∈ l, keyOk x.src x.key = true ∧ 0 < x.cnt) ∧ l.Pairwise kLtK := by
  constructor
  · intro h
    refine ⟨okT_all h, ?_⟩
    cases l with
    | nil => exact List.Pairwise.nil
    | cons y l =>
      unfold tabR at h
      simp only [okT, Bool.and_eq_true] at h
      exact List.Pairwise.cons (okT_pw h.2).1 (okT_pw h.2).2
  · rintro ⟨h1, h2⟩
    cases l with
    | nil => rfl
    | cons y l =>
      rw [List.pairwise_cons] at h2
      unfold tabR
      simp only [okT, Bool.and_eq_true, decide_eq_true_eq]
      exact ⟨h1 y (by simp), okT_of (fun x hx => h1 x (by simp [hx])) h2.1 h2.2⟩
def ltK (s k : Int) (x : Kc) : Bool := decide (kLt x.src x.key s k)
def gtK (s k : Int) (x : Kc) : Bool := decide (kLt s k x.src x.key)
def eqK (s k : Int) (x : Kc) : Bool := decide (x.src = s ∧ x.key = k)
def ownK (s k : Int) (c : Int × Int) : List Kc := if c = (0, 0) then [] else [⟨s, k, c.1, c.2⟩]
def putR (l : List Kc) (s k : Int) (c : Int × Int) : List Kc := l.filter (ltK s k) ++ ownK s k c ++ l.filter (gtK s k)
def getR (l : List Kc) (s k : Int) : Int × Int := match l.find? (eqK s k) with
  | none => (0, 0)
  | some x => (x.cnt, x.sum)
theorem put_tab {l : List Kc} {s k : Int} {c : Int × Int} (h : tabR l = true) (hk : keyOk s k = true) (hc : c = (0, 0) ∨ 0 < c.1) : tabR (putR l s k c) = true := by
  rw [tab_iff] at h ⊢
  obtain ⟨h1, h2⟩ := h
  have hown : ∀ x ∈ ownK s k c, x.src = s ∧ x.key = k ∧ 0 < x.cnt := fun x hx => by
    unfold ownK at hx
    split at hx
    · cases hx
    · rename_i h0
      rw [List.mem_singleton.1 hx]
      exact ⟨rfl, rfl, hc.resolve_left h0⟩
  refine ⟨fun x hx => ?_, ?_⟩
  · unfold putR at hx
    simp only [List.mem_append, List.mem_filter] at hx
    rcases hx with (hx | hx) | hx
    · exact h1 x hx.1
    · obtain ⟨e1, e2, e3⟩ := hown x hx
      rw [e1, e2]; exact ⟨hk, e3⟩
    · exact h1 x hx.1
  · unfold putR
    rw [List.pairwise_append, List.pairwise_append]
    refine ⟨⟨h2.filter _, ?_, fun x hx y hy => ?_⟩, h2.filter _, fun x hx y hy => ?_⟩
    · unfold ownK; split
      · exact List.Pairwise.nil
      · exact List.pairwise_singleton _ _
    · obtain ⟨e1, e2, _⟩ := hown y hy
      have := of_decide_eq_true (List.mem_filter.1 hx).2
      unfold kLtK; rw [e1, e2]; exact this
    · have hy' := of_decide_eq_true (List.mem_filter.1 hy).2
      rcases List.mem_append.1 hx with hx | hx
      · exact kLt_trans (of_decide_eq_true (List.mem_filter.1 hx).2) hy'
      · obtain ⟨e1, e2, _⟩ := hown x hx
        unfold kLtK; rw [e1, e2]; exact hy'
def posR (l : List Kc) (s k : Int) : Nat := (l.filter (ltK s k)).length
theorem pos_le (l : List Kc) (s k : Int) : posR l s k ≤ l.length := List.length_filter_le _ _
theorem filter_none {α : Type} {p : α → Bool} {l : List α} (h : ∀ x ∈ l, p x = false) : l.filter p = [] := List.filter_eq_nil_iff.2 fun x hx => by simp [h x hx]
theorem filter_all {α : Type} {p : α → Bool} {l : List α} (h : ∀ x ∈ l, p x = true) : l.filter p = l := List.filter_eq_self.2 h
theorem cut_lt : ∀ {l : List Kc} {s k : Int}, l.Pairwise kLtK → l.filter (ltK s k) = l.take (posR l s k) ∧ l.filter (gtK s k) = l.drop (posR l s k + (l.filter (eqK s k)).length)
  | [], _, _, _ => ⟨rfl, rfl⟩
  | x :: l, s, k, h => by
    rw [List.pairwise_cons] at h
    obtain ⟨i1, i2⟩ := cut_lt (s := s) (k := k) h.2
    rcases @kLt_tri x.src x.key s k with h1 | ⟨h1, h2⟩ | h1
    · have e1 : ltK s k x = true := decide_eq_true h1
      have e2 : gtK s k x = false := decide_eq_false (kLt_asym h1)
      have e3 : eqK s k x = false := decide_eq_false fun e => by rw [e.1, e.2] at h1; exact kLt_irr h1
      have hp : posR (x :: l) s k = posR l s k + 1 := by unfold posR; rw [List.filter_cons_of_pos e1]; rfl
      rw [hp, List.filter_cons_of_pos e1, List.filter_cons_of_neg (by simp [e2]), List.filter_cons_of_neg (by simp [e3]), List.take_succ_cons, i1, show posR l s k + 1 + (l.filter (eqK s k)).length = (posR l s k + (l.filter (eqK s k)).length) + 1 by omega, List.drop_succ_cons, i2]
      exact ⟨rfl, rfl⟩
    · have hg : ∀ y ∈ l, kLt s k y.src y.key := fun y hy => by have := h.1 y hy; unfold kLtK at this; rw [h1, h2] at this; exact this
      have e1 : ltK s k x = false := decide_eq_false (by rw [h1, h2]; exact kLt_irr)
      have e2 : gtK s k x = false := decide_eq_false (by rw [h1, h2]; exact kLt_irr)
      have e3 : eqK s k x = true := decide_eq_true ⟨h1, h2⟩
      have f1 : l.filter (ltK s k) = [] := filter_none fun y hy => decide_eq_false (kLt_asym (hg y hy))
      have f2 : l.filter (gtK s k) = l := filter_all fun y hy => decide_eq_true (hg y hy)
      have f3 : l.filter (eqK s k) = [] := filter_none fun y hy => decide_eq_false fun e => by have := hg y hy; rw [e.1, e.2] at this; exact kLt_irr this
      have hp : posR (x :: l) s k = 0 := by unfold posR; rw [List.filter_cons_of_neg (by simp [e1]), f1]; rfl
      rw [hp, List.filter_cons_of_neg (by simp [e1]), List.filter_cons_of_neg (by simp [e2]), List.filter_cons_of_pos e3, f1, f2, f3]
      exact ⟨rfl, rfl⟩
    · have hg : ∀ y ∈ l, kLt s k y.src y.key := fun y hy => kLt_trans h1 (h.1 y hy)
      have e1 : ltK s k x = false := decide_eq_false (kLt_asym h1)
      have e2 : gtK s k x = true := decide_eq_true h1
      have e3 : eqK s k x = false := decide_eq_false fun e => by rw [e.1, e.2] at h1; exact kLt_irr h1
      have f1 : l.filter (ltK s k) = [] := filter_none fun y hy => decide_eq_false (kLt_asym (hg y hy))
      have f2 : l.filter (gtK s k) = l := filter_all fun y hy => decide_eq_true (hg y hy)
      have f3 : l.filter (eqK s k) = [] := filter_none fun y hy => decide_eq_false fun e => by have := hg y hy; rw [e.1, e.2] at this; exact kLt_irr this
      have hp : posR (x :: l) s k = 0 := by unfold posR; rw [List.filter_cons_of_neg (by simp [e1]), f1]; rfl
      rw [hp, List.filter_cons_of_neg (by simp [e1]), List.filter_cons_of_pos e2, List.filter_cons_of_neg (by simp [e3]), f1, f2, f3]
      exact ⟨rfl, rfl⟩
theorem eq_at : ∀ {l : List Kc} {s k : Int}, l.Pairwise kLtK → (l.filter (eqK s k)).length ≤ 1 ∧ ((l.filter (eqK s k)).length = 1 ↔ ∃ x, l[posR l s k]? = some x ∧ x.src = s ∧ x.key = k)
  | [], _, _, _ => by simp
  | x :: l, s, k, h => by
    rw [List.pairwise_cons] at h
    obtain ⟨i1, i2⟩ := eq_at (s := s) (k := k) h.2
    rcases @kLt_tri x.src x.key s k with h1 | ⟨h1, h2⟩ | h1
    · have e1 : ltK s k x = true := decide_eq_true h1
      have e3 : eqK s k x = false := decide_eq_false fun e => by rw [e.1, e.2] at h1; exact kLt_irr h1
      have hp : posR (x :: l) s k = posR l s k + 1 := by unfold posR; rw [List.filter_cons_of_pos e1]; rfl
      rw [hp, List.filter_cons_of_neg (by simp [e3]), List.getElem?_cons_succ]
      exact ⟨i1, i2⟩
    · have hg : ∀ y ∈ l, kLt s k y.src y.key := fun y hy => by have := h.1 y hy; unfold kLtK at this; rw [h1, h2] at this; exact this
      have e1 : ltK s k x = false := decide_eq_false (by rw [h1, h2]; exact kLt_irr)
      have e3 : eqK s k x = true := decide_eq_true ⟨h1, h2⟩
      have f1 : l.filter (ltK s k) = [] := filter_none fun y hy => decide_eq_false (kLt_asym (hg y hy))
      have f3 : l.filter (eqK s k) = [] := filter_none fun y hy => decide_eq_false fun e => by have := hg y hy; rw [e.1, e.2] at this; exact kLt_irr this
      have hp : posR (x :: l) s k = 0 := by unfold posR; rw [List.filter_cons_of_neg (by simp [e1]), f1]; rfl
      rw [hp, List.filter_cons_of_pos e3, f3]
      exact ⟨Nat.le_refl _, fun _ => ⟨x, rfl, h1, h2⟩, fun _ => rfl⟩
    · have hg : ∀ y ∈ l, kLt s k y.src y.key := fun y hy => kLt_trans h1 (h.1 y hy)
      have e1 : ltK s k x = false := decide_eq_false (kLt_asym h1)
      have e3 : eqK s k x = false := decide_eq_false fun e => by rw [e.1, e.2] at h1; exact kLt_irr h1
      have f1 : l.filter (ltK s k) = [] := filter_none fun y hy => decide_eq_false (kLt_asym (hg y hy))
      have f3 : l.filter (eqK s k) = [] := filter_none fun y hy => decide_eq_false fun e => by have := hg y hy; rw [e.1, e.2] at this; exact kLt_irr this
      have hp : posR (x :: l) s k = 0 := by unfold posR; rw [List.filter_cons_of_neg (by simp [e1]), f1]; rfl
      rw [hp, List.filter_cons_of_neg (by simp [e3]), f3]
      refine ⟨Nat.zero_le _, fun h => by simp at h, ?_⟩
      rintro ⟨y, hy, h2, h3⟩
      cases hy
      rw [h2, h3] at h1
      exact absurd h1 kLt_irr
theorem put_at {l : List Kc} {s k : Int} {c : Int × Int} {x : Kc} (h : tabR l = true) (hx : l[posR l s k]? = some x) (he : x.src = s ∧ x.key = k) : putR l s k c = l.take (posR l s k) ++ ownK s k c ++ l.drop (posR l s k + 1) := by
  have hw := (tab_iff.1 h).2
  have h1 := ((eq_at hw).2).2 ⟨x, hx, he⟩
  unfold putR
  rw [(cut_lt hw).1, (cut_lt hw).2, h1]
theorem put_no {l : List Kc} {s k : Int} {c : Int × Int} (h : tabR l = true) (hn : ∀ x, l[posR l s k]? = some x → ¬ (x.src = s ∧ x.key = k)) : putR l s k c = l.take (posR l s k) ++ ownK s k c ++ l.drop (posR l s k) := by
  have hw := (tab_iff.1 h).2
  have h1 : (l.filter (eqK s k)).length = 0 := by
    have := (eq_at (s := s) (k := k) hw).1
    have h2 : ¬ (l.filter (eqK s k)).length = 1 := fun e => by
      obtain ⟨x, hx, he⟩ := ((eq_at hw).2).1 e
      exact hn x hx he
    omega
  unfold putR
  rw [(cut_lt hw).1, (cut_lt hw).2, h1, Nat.add_zero]
theorem cmp_lt {s k s2 k2 : Int} : decide (0 ≤ cmpR s k s2 k2) = !decide (kLt s k s2 k2) := by
  unfold cmpR cmpI kLt
  by_cases h1 : s < s2
  · simp [h1]
  · by_cases h2 : s2 < s
    · have h3 : ¬ s = s2 := by omega
      simp [h1, h2, h3]
    · have h3 : s = s2 := by omega
      by_cases h4 : k < k2
      · simp [h3, h4]
      · by_cases h5 : k2 < k
        · simp [h3, h4, h5]
        · simp [h3, h4, h5]
theorem cmp_eq (s k s2 k2 : Int) : (cmpR s k s2 k2 == 0) = (s == s2 && k == k2) := by
  unfold cmpR cmpI
  by_cases h1 : s < s2
  · have : ¬ s = s2 := by omega
    simp [h1, this]
  · by_cases h2 : s2 < s
    · have : ¬ s = s2 := by omega
      simp [h1, h2, this]
    · have h3 : s = s2 := by omega
      by_cases h4 : k < k2
      · have : ¬ k = k2 := by omega
        simp [h3, h4, this]
      · by_cases h5 : k2 < k
        · have : ¬ k = k2 := by omega
          simp [h3, h4, h5, this]
        · have : k = k2 := by omega
          simp [h3, this]
abbrev eK (x : Kc) : List RT := [RT.v (.int .i64 x.src), RT.v (.int .i64 x.key), RT.v (.int .i64 x.cnt), RT.v (.int .i64 x.sum)]
abbrev cK (x : Kc) : List Ce := [Ce.v (.int .i64 x.src), Ce.v (.int .i64 x.key), Ce.v (.int .i64 x.cnt), Ce.v (.int .i64 x.sum)]
def prevR (l : List Kc) : Nat → Option Kc
  | 0 => none
  | i + 1 => l[i]?
theorem okT_at {l : List Kc} {i : Nat} {x : Kc} (h : l[i]? = some x) : okT (prevR l i) (l.drop i) = (keyOk x.src x.key && decide (0 < x.cnt) && (match prevR l i with | none => true | some q => decide (kLt q.src q.key x.src x.key)) && okT (prevR l (i + 1)) (l.drop (i + 1))) := by
  rw [drop_cons h]
  have e : prevR l (i + 1) = some x := h
  rw [e]
  cases hp : prevR l i with
  | none => simp [okT]
  | some q => simp [okT]
end Go.Proofs.Ytehhmkdghgabaaa
namespace Go.Proofs.Ytehhmkdghgabaaa
open Go Go.RowKit Wx
set_option linter.unusedVariables false
set_option linter.unusedSimpArgs false
set_option maxHeartbeats 4000000
theorem nan_con (a : Int)  : Con Try.prog 115 [.one (.v (.int .i64 a))] (fun rx rK rt => rx = .val (.bool false) ∧ rK = [] ∧ rt = 0) := by
  refine Z.con_ofF tabOk 6 Try.f115 _ Try.func115 (by kernel_rfl) rfl rfl rfl rfl ?_
  repeat' ((conv => whnf); first
    | with_reducible first | refine spB_t ?_)
  all_goals (try (conv => whnf))
  all_goals first
    | ((first | (with_reducible apply Z.retF1)); (focus (exact rfl)); (repeat' (first | exact trivial | (with_reducible apply Z.frz_one) | (with_reducible apply Z.fq_bool) | apply And.intro)); (all_goals (try exact (fun _ => none))); all_goals (simp))
theorem cmp_con (a b : Int)  : Con Try.prog 91 [.one (.v (.int .i64 a)), .one (.v (.int .i64 b))] (fun rx rK rt => rx = .val (.int .i64 (cmpI a b)) ∧ rK = [] ∧ rt = 0) := by
  refine Z.con_ofF tabOk 20 Try.f91 _ Try.func91 (by kernel_rfl) rfl rfl rfl rfl ?_
  repeat' ((conv => whnf); first
    | with_reducible first | refine spB_no (by decide) ?_
    | (with_reducible refine spB_dec ?_ ?_ <;> intro _ <;> (try (exfalso; first | contradiction | omega | (rename_i hz; with_reducible exact absurd rfl hz))))
    | ((first | (with_reducible apply Z.callZ_mk ?_ (nan_con _) ?_)); (rotate_left 1); (focus ((repeat' (first | exact trivial | exact rfl | apply And.intro)); done))))
  all_goals (try (conv => whnf))
  all_goals first
    | ((first | (with_reducible apply Z.retF1)); (focus (exact rfl)); (repeat' (first | exact trivial | (with_reducible apply Z.frz_one) | (with_reducible apply Z.fq_int) | apply And.intro)); (all_goals (try exact (fun _ => none))); all_goals (first | (unfold cmpI; first | rw [if_pos (by omega)] | rw [if_neg (by omega), if_pos (by omega)] | rw [if_neg (by omega), if_neg (by omega)])))
theorem or_con (a b : Int)  : Con Try.prog 90 [.one (.ro false 1 [[.v (.int .i64 a)], [.v (.int .i64 b)]])] (fun rx rK rt => rx = .val (.int .i64 (if a ≠ 0 then a else b)) ∧ rK = [] ∧ rt = 0) := by
  refine Z.con_ofF tabOk 18 Try.f90 _ Try.func90 (by kernel_rfl) rfl rfl rfl rfl ?_
  repeat' ((conv => whnf); first
    | (with_reducible refine spB_dec ?_ ?_ <;> intro _ <;> (try (exfalso; first | contradiction | omega | (rename_i hz; refine hz ?_; simp; done) | (rename_i hz; simp at hz; done) | (simp only [LN] at *; omega))))
    | (with_reducible refine spB_bne ?_ ?_ <;> intro _ <;> (try (exfalso; first | contradiction | omega | (rename_i hz; refine hz ?_; simp; done) | (rename_i hz; simp at hz; done) | (simp only [LN] at *; omega))))
    | with_reducible first | refine Z.loopZ_unroll tabOk 3 ?_
    | ((with_reducible apply rowN_mk); (focus rfl))
    | ((with_reducible apply ixN_lit); (focus (exact rfl)); (focus (exact rfl)))
    | with_reducible refine wr_i64 (by first | omega | (simp only [LN] at *; omega)) ?_)
  all_goals (try (conv => whnf))
  all_goals try (show Nat.ble _ _ = true; rfl)
  all_goals try (exfalso; rename_i hz; cases hz; done)
  all_goals try (exfalso; (try simp only [LN] at *) <;> omega)
  all_goals first
    | ((first | (with_reducible apply Z.retF1)); (focus (exact rfl)); (repeat' (first | exact trivial | (with_reducible apply Z.frz_one) | (with_reducible apply Z.fq_int) | (apply Z.fq_int) | apply And.intro)); (all_goals (try exact (fun _ => none))); all_goals (first | (simp_all; done)))
theorem compare_con (s k v s2 k2 v2 : Int)  : Con Try.prog 51 [.agg [.v (.int .i64 s), .v (.int .i64 k), .v (.int .i64 v)], .agg [.v (.int .i64 s2), .v (.int .i64 k2), .v (.int .i64 v2)]] (fun rx rK rt => rx = .val (.int .i64 (cmpR s k s2 k2)) ∧ rK = [] ∧ rt = 0) := by
  refine Z.con_ofF tabOk 17 Try.f51 _ Try.func51 (by kernel_rfl) rfl rfl rfl rfl ?_
  repeat' ((conv => whnf); first
    | ((first | (with_reducible apply Z.conZ_mz ?_ (or_con _ _) ?_) | (with_reducible apply Z.conZ_mz ?_ (cmp_con _ _) ?_)); (rotate_left 2); (focus ((repeat' (first | exact trivial | exact ⟨_, rfl, rfl, rfl⟩ | exact rfl | apply And.intro)); done)))
    | with_reducible first | refine Z.drawZ_rule tabOk mixOk ?_ | refine Z.apZ_mk (by kernel_rfl) ?_)
  all_goals (try (conv => whnf))
  all_goals first
    | ((first | (with_reducible apply Z.retF1)); (focus (exact rfl)); (repeat' (first | exact trivial | exact rfl | apply And.intro)); (all_goals (try exact (fun _ => none))); all_goals (rfl))
theorem rec_con (s k v : Int)  : Con Try.prog 50 [.agg [.v (.int .i64 s), .v (.int .i64 k), .v (.int .i64 v)]] (fun rx rK rt => rx = .val (.int .i64 (bif keyOk s k then 0 else 150)) ∧ rK = [] ∧ rt = 0) := by
  refine Z.con_ofF tabOk 21 Try.f50 _ Try.func50 (by kernel_rfl) rfl rfl rfl rfl ?_
  repeat' ((conv => whnf); first
    | with_reducible first | refine spB_t ?_
    | with_reducible first | refine spB_no (by decide) ?_
    | (with_reducible refine spB_dec ?_ ?_ <;> intro _ <;> (try (exfalso; first | contradiction | omega | (rename_i hz; refine hz ?_; simp; done) | (rename_i hz; simp at hz; done) | (simp only [LN] at *; omega)))))
  all_goals (try (conv => whnf))
  all_goals try (show Nat.ble _ _ = true; rfl)
  all_goals try (exfalso; rename_i hz; cases hz; done)
  all_goals try (exfalso; (try simp only [LN] at *) <;> omega)
  all_goals first
    | ((first | (with_reducible apply Z.retF1)); (focus (exact rfl)); (repeat' (first | exact trivial | (with_reducible apply Z.frz_one) | (with_reducible apply Z.fq_int) | apply And.intro)); (all_goals (try exact (fun _ => none))); all_goals (first | (rw [show keyOk s k = true from keyOk_iff.2 (by omega)]; rfl) | (rw [show keyOk s k = false by (cases hz : keyOk s k with | false => rfl | true => exact absurd (keyOk_iff.1 hz) (by omega))]; rfl)))
end Go.Proofs.Ytehhmkdghgabaaa
namespace Go.Proofs.Ytehhmkdghgabaaa
open Go Go.RowKit Wx
set_option linter.unusedVariables false
set_option linter.unusedSimpArgs false
set_option maxHeartbeats 4000000
theorem pw_at {l : List Kc} (h : l.Pairwise kLtK) {a b : Nat} {x y : Kc} (hab : a < b) (hx : l[a]? = some x) (hy : l[b]? = some y) : kLtK x y := by
  obtain ⟨ha, rfl⟩ := List.getElem?_eq_some_iff.1 hx
  obtain ⟨hb, rfl⟩ := List.getElem?_eq_some_iff.1 hy
  exact List.pairwise_iff_getElem.1 h a b ha hb hab
theorem pos_eq {l : List Kc} {s k : Int} {i : Nat} (hi : i ≤ l.length) (h1 : ∀ (n : Nat) (x : Kc), n < i → l[n]? = some x → kLt x.src x.key s k) (h2 : ∀ (n : Nat) (x : Kc), i ≤ n → l[n]? = some x → ¬ kLt x.src x.key s k) : posR l s k = i := by
  unfold posR
  conv => lhs; rw [← List.take_append_drop i l]
  rw [List.filter_append, filter_all (l := l.take i) fun x hx => ?_, filter_none (l := l.drop i) fun x hx => ?_]
  · simp; omega
  · obtain ⟨n, hn⟩ := List.mem_iff_getElem?.1 hx
    rw [List.getElem?_drop] at hn
    exact decide_eq_false (h2 (i + n) x (by omega) hn)
  · obtain ⟨n, hn⟩ := List.mem_iff_getElem?.1 hx
    rw [List.getElem?_take] at hn
    split at hn
    · rename_i hni; exact decide_eq_true (h1 n x hni hn)
    · cases hn
theorem srch_lo {l : List Kc} {s k : Int} {m : Nat} {x : Kc} (hw : l.Pairwise kLtK) (hx : l[m]? = some x) (h : kLt x.src x.key s k) : ∀ (n : Nat) (y : Kc), n < m + 1 → l[n]? = some y → kLt y.src y.key s k := fun n y hn hy => by
  by_cases e : n = m
  · subst e; rw [hx] at hy; cases hy; exact h
  · exact kLt_trans (pw_at hw (by omega) hy hx) h
theorem srch_hi {l : List Kc} {s k : Int} {m : Nat} {x : Kc} (hw : l.Pairwise kLtK) (hx : l[m]? = some x) (h : ¬ kLt x.src x.key s k) : ∀ (n : Nat) (y : Kc), m ≤ n → l[n]? = some y → ¬ kLt y.src y.key s k := fun n y hn hy h2 => by
  by_cases e : n = m
  · subst e; rw [hx] at hy; cases hy; exact h h2
  · exact h (kLt_trans (pw_at hw (by omega) hx hy) h2)
def thereR (l : List Kc) (s k : Int) : Bool := match l[posR l s k]? with
  | none => false
  | some x => x.src == s && x.key == k
theorem vN_to {z : Int} {A : Int → Prop} (v : Int) (h : z = v) (k : A v) : vN z A := ⟨v, h, k⟩
theorem search_con (l : List Kc) (s k v : Int) (hl : l.length ≤ 1000) (ht : tabR l = true) : Con Try.prog 97 [.one (.ro false 4 (l.map eK)), .agg [.v (.int .i64 s), .v (.int .i64 k), .v (.int .i64 v)], .one (.fn 98 [])] (fun rx rK rt => rx = .tup [.one (.v (.int .i64 (posR l s k : Nat))), .one (.v (.bool (thereR l s k)))] ∧ rK = [] ∧ rt = 0) := by
  refine Z.con_ofF tabOk 49 Try.f97 _ Try.func97 (by kernel_rfl) rfl rfl rfl rfl ?_
  have hw := (tab_iff.1 ht).2
  repeat' ((conv => whnf); first
    | with_reducible first | refine spB_t ?_
    | fail)
  all_goals (try (conv => whnf))
  all_goals try (show Nat.ble _ _ = true; rfl)
  all_goals try (exfalso; rename_i hz; cases hz; done)
  all_goals try (exfalso; (try simp only [LN] at *) <;> omega)
  refine Z.loopK tabOk (fun zq : Nat × Nat => [(9, .val (.int .i64 (zq.1 : Int))), (10, .val (.int .i64 (zq.2 : Int)))]) (fun zq : Nat × Nat => ([(0, some (Z.Ob.b ⟨[[.v (.int .i64 s), .v (.int .i64 k), .v (.int .i64 v)]], 3, 39, true⟩))] : Z.Kr)) (fun zq => zq.1 ≤ zq.2 ∧ zq.2 ≤ l.length ∧ (∀ (n : Nat) (x : Kc), n < zq.1 → l[n]? = some x → kLt x.src x.key s k) ∧ (∀ (n : Nat) (x : Kc), zq.2 ≤ n → l[n]? = some x → ¬ kLt x.src x.key s k)) (fun zq => zq.2 - zq.1) (0, (l.map eK).length) 1 [(0, _), (2, _), (4, _), (8, _)] ⟨rfl, rfl, rfl, rfl, trivial⟩ [] trivial ?_ ?_ rfl rfl ⟨Nat.zero_le _, by (try dsimp only); rw [List.length_map]; exact Nat.le_refl _, fun n x h => absurd h (Nat.not_lt_zero _), fun n x h hx => absurd (List.getElem?_eq_some_iff.1 hx).1 (by (try dsimp only at h); rw [List.length_map] at h; omega)⟩ ?_
  · repeat' (first | exact trivial | apply And.intro | exact ⟨_, rfl, Z.Imp.refl _⟩)
  · repeat' (first | exact trivial | exact (fun b hb => ⟨b, hb, Z.ImpO.refl b⟩) | apply And.intro)
  rintro ⟨i, j⟩ HINV
  (try dsimp only at HINV); (try dsimp only)
  obtain ⟨HI1, HI2, HI3, HI4⟩ := HINV
  by_cases hij : i < j
  · obtain ⟨x, hx⟩ := getElem?_some' (xs := l) (i := (i + j) / 2) (by omega)
    have cc := compare_con x.src x.key 0 s k v
    have hcl := @cmp_lt x.src x.key s k
    generalize cmpR x.src x.key s k = C at *
    by_cases hlt : kLt x.src x.key s k
    · rw [decide_eq_true hlt] at hcl
      have hC : ¬ 0 ≤ C := of_decide_eq_false (by simpa using hcl)
      repeat' ((conv => whnf); first
        | (with_reducible refine spB_dec ?_ ?_ <;> intro _ <;> (try (exfalso; first | contradiction | omega | (rename_i hz; refine hz ?_; simp; done) | (rename_i hz; simp at hz; done) | (simp only [LN] at *; omega))))
        | ((with_reducible refine vN_to (((i + j) / 2 : Nat) : Int) ?_ ?_); (focus (rw [show (2 : Int) ^ min (Int.toNat 1) IntKind.u64.bits = 2 by decide, Int.fdiv_eq_ediv_of_nonneg _ (by decide)]; omega)))
        | with_reducible first | refine Z.rowN_known hx ?_
        | ((with_reducible refine ixN_mk ((i + j) / 2) ?_ ?_ ?_); (focus (first | rfl)); (focus ((try simp only [LN] at *) <;> omega)))
        | ((with_reducible refine eqN_mk2 ?_ ?_); (focus rfl))
        | with_reducible refine wr_i64 (by first | omega | (simp only [LN] at *; omega)) ?_
        | with_reducible refine wr_u64 (by omega) ?_
        | with_reducible first | refine Z.callZ_in tabOk 9 Try.f98 _ Try.func98 (by kernel_rfl) rfl rfl rfl ?_ | refine Z.callZ_in tabOk 8 Try.f49 _ Try.func49 (by kernel_rfl) rfl rfl rfl ?_
        | ((first | (with_reducible refine Z.conZ_mz ?_ (cc) ?_)); (focus ((repeat' (first | exact trivial | exact rfl | apply And.intro)); done)))
        | ((with_reducible apply ex_and); exact rfl)
        | with_reducible first | refine Z.drawZ_rule tabOk mixOk ?_ | refine Z.apZ_mk (by kernel_rfl) ?_
        | ((with_reducible refine Z.ConZ.red ?_); (try subst hlb); (apply Z.conZ_all); (focus (repeat (first | exact Z.FK.nil | (apply Z.FK.keep; exact rfl)))); (focus rfl); (focus rfl); (focus (repeat (first | exact trivial | (refine ⟨(fun o ho => (by first | (cases ho; rfl) | (cases ho; exact Z.inL_map fun _ => rfl) | (cases ho; exact Z.inL_mapr fun _ => rfl) | exact Z.inL_gB ho fun _ => rfl)), ?_⟩)))))
        | ((refine ⟨rfl, ?_, rfl⟩); (focus (repeat (first | exact Z.DK.nil | apply Z.DK.cons))))
        | fail)
      all_goals (try (conv => whnf))
      all_goals try (show Nat.ble _ _ = true; rfl)
      all_goals try (exfalso; rename_i hz; cases hz; done)
      all_goals try (exfalso; (try simp only [LN] at *) <;> omega)
      all_goals first
        | ((refine Z.rndK (((i + j) / 2 + 1, j)) (fun s => [0]) rfl rfl rfl rfl ?_ ?_ ?_ ?_); (focus (repeat' (first | exact trivial | exact rfl | apply And.intro))); (focus (repeat' (first | exact trivial | (intro b hb; cases hb; rfl) | apply And.intro))); (focus (exact ⟨by (try dsimp only); omega, HI2, srch_lo hw hx hlt, HI4⟩)); ((try dsimp only); omega))
        | fail
    · rw [decide_eq_false hlt] at hcl
      have hC : 0 ≤ C := of_decide_eq_true (by simpa using hcl)
      repeat' ((conv => whnf); first
        | (with_reducible refine spB_dec ?_ ?_ <;> intro _ <;> (try (exfalso; first | contradiction | omega | (rename_i hz; refine hz ?_; simp; done) | (rename_i hz; simp at hz; done) | (simp only [LN] at *; omega))))
        | ((with_reducible refine vN_to (((i + j) / 2 : Nat) : Int) ?_ ?_); (focus (rw [show (2 : Int) ^ min (Int.toNat 1) IntKind.u64.bits = 2 by decide, Int.fdiv_eq_ediv_of_nonneg _ (by decide)]; omega)))
        | with_reducible first | refine Z.rowN_known hx ?_
        | ((with_reducible refine ixN_mk ((i + j) / 2) ?_ ?_ ?_); (focus (first | rfl)); (focus ((try simp only [LN] at *) <;> omega)))
        | ((with_reducible refine eqN_mk2 ?_ ?_); (focus rfl))
        | with_reducible refine wr_i64 (by first | omega | (simp only [LN] at *; omega)) ?_
        | with_reducible refine wr_u64 (by omega) ?_
        | with_reducible first | refine Z.callZ_in tabOk 9 Try.f98 _ Try.func98 (by kernel_rfl) rfl rfl rfl ?_ | refine Z.callZ_in tabOk 8 Try.f49 _ Try.func49 (by kernel_rfl) rfl rfl rfl ?_
        | ((first | (with_reducible refine Z.conZ_mz ?_ (cc) ?_)); (focus ((repeat' (first | exact trivial | exact rfl | apply And.intro)); done)))
        | ((with_reducible apply ex_and); exact rfl)
        | with_reducible first | refine Z.drawZ_rule tabOk mixOk ?_ | refine Z.apZ_mk (by kernel_rfl) ?_
        | ((with_reducible refine Z.ConZ.red ?_); (try subst hlb); (apply Z.conZ_all); (focus (repeat (first | exact Z.FK.nil | (apply Z.FK.keep; exact rfl)))); (focus rfl); (focus rfl); (focus (repeat (first | exact trivial | (refine ⟨(fun o ho => (by first | (cases ho; rfl) | (cases ho; exact Z.inL_map fun _ => rfl) | (cases ho; exact Z.inL_mapr fun _ => rfl) | exact Z.inL_gB ho fun _ => rfl)), ?_⟩)))))
        | ((refine ⟨rfl, ?_, rfl⟩); (focus (repeat (first | exact Z.DK.nil | apply Z.DK.cons))))
        | fail)
      all_goals (try (conv => whnf))
      all_goals try (show Nat.ble _ _ = true; rfl)
      all_goals try (exfalso; rename_i hz; cases hz; done)
      all_goals try (exfalso; (try simp only [LN] at *) <;> omega)
      all_goals first
        | ((refine Z.rndK ((i, (i + j) / 2)) (fun s => [0]) rfl rfl rfl rfl ?_ ?_ ?_ ?_); (focus (repeat' (first | exact trivial | exact rfl | apply And.intro))); (focus (repeat' (first | exact trivial | (intro b hb; cases hb; rfl) | apply And.intro))); (focus (exact ⟨by (try dsimp only); omega, by (try dsimp only); omega, HI3, srch_hi hw hx hlt⟩)); ((try dsimp only); omega))
        | fail
  have hji : j = i := by omega
  subst hji
  have hp : posR l s k = j := pos_eq HI2 HI3 HI4
  unfold thereR
  rw [hp]
  cases hx : l[j]? with
  | none =>
    have hjl : l.length ≤ j := List.getElem?_eq_none_iff.1 hx
    repeat' ((conv => whnf); first
      | with_reducible first | refine spB_no (by decide) ?_
      | (with_reducible refine spB_dec ?_ ?_ <;> intro _ <;> (try (exfalso; first | contradiction | omega | (rename_i hz; refine hz ?_; simp; done) | (rename_i hz; simp at hz; done) | (simp only [LN] at *; omega))))
      | with_reducible first | refine Z.drawZ_rule tabOk mixOk ?_ | refine Z.apZ_mk (by kernel_rfl) ?_
      | fail)
    all_goals (try (conv => whnf))
    all_goals try (show Nat.ble _ _ = true; rfl)
    all_goals try (exfalso; rename_i hz; cases hz; done)
    all_goals try (exfalso; (try simp only [LN] at *) <;> omega)
    all_goals first
      | ((first | (with_reducible apply Z.retF2)); (focus (exact rfl)); (repeat' (first | exact trivial | (with_reducible apply Z.frz_one) | (with_reducible apply Z.fq_int) | (with_reducible apply Z.fq_bool) | exact rfl | apply And.intro)); (all_goals (try exact (fun _ => none))); all_goals (first | (simp; done)))
      | fail
  | some x =>
    have hjl := (List.getElem?_eq_some_iff.1 hx).1
    have cc := compare_con x.src x.key 0 s k v
    have hce := cmp_eq x.src x.key s k
    generalize cmpR x.src x.key s k = C at *
    dsimp only
    rw [← hce]
    repeat' ((conv => whnf); first
      | with_reducible first | refine spB_t ?_
      | (with_reducible refine spB_dec ?_ ?_ <;> intro _ <;> (try (exfalso; first | contradiction | omega | (rename_i hz; refine hz ?_; simp; done) | (rename_i hz; simp at hz; done) | (simp only [LN] at *; omega))))
      | with_reducible first | refine Z.rowN_known hx ?_
      | ((with_reducible refine ixN_mk (j) ?_ ?_ ?_); (focus (first | rfl)); (focus ((try simp only [LN] at *) <;> omega)))
      | with_reducible first | refine Z.callZ_in tabOk 9 Try.f98 _ Try.func98 (by kernel_rfl) rfl rfl rfl ?_ | refine Z.callZ_in tabOk 8 Try.f49 _ Try.func49 (by kernel_rfl) rfl rfl rfl ?_
      | ((first | (with_reducible refine Z.conZ_mz ?_ (cc) ?_)); (focus ((repeat' (first | exact trivial | exact rfl | apply And.intro)); done)))
      | ((with_reducible apply ex_and); exact rfl)
      | with_reducible first | refine Z.drawZ_rule tabOk mixOk ?_ | refine Z.apZ_mk (by kernel_rfl) ?_
      | ((with_reducible refine Z.ConZ.red ?_); (try subst hlb); (apply Z.conZ_all); (focus (repeat (first | exact Z.FK.nil | (apply Z.FK.keep; exact rfl)))); (focus rfl); (focus rfl); (focus (repeat (first | exact trivial | (refine ⟨(fun o ho => (by first | (cases ho; rfl) | (cases ho; exact Z.inL_map fun _ => rfl) | (cases ho; exact Z.inL_mapr fun _ => rfl) | exact Z.inL_gB ho fun _ => rfl)), ?_⟩)))))
      | ((refine ⟨rfl, ?_, rfl⟩); (focus (repeat (first | exact Z.DK.nil | apply Z.DK.cons))))
      | fail)
    all_goals (try (conv => whnf))
    all_goals try (show Nat.ble _ _ = true; rfl)
    all_goals try (exfalso; rename_i hz; cases hz; done)
    all_goals try (exfalso; (try simp only [LN] at *) <;> omega)
    all_goals first
      | ((first | (with_reducible apply Z.retF2)); (focus (exact rfl)); (repeat' (first | exact trivial | (with_reducible apply Z.frz_one) | (with_reducible apply Z.fq_int) | (with_reducible apply Z.fq_bool) | exact rfl | apply And.intro)); (all_goals (try exact (fun _ => none))); all_goals (first | (simp_all; done)))
      | fail
end Go.Proofs.Ytehhmkdghgabaaa
namespace Go.Proofs.Ytehhmkdghgabaaa
open Go Go.RowKit Wx
set_option linter.unusedVariables false
set_option linter.unusedSimpArgs false
set_option maxHeartbeats 4000000
theorem find_con (l : List Kc) (s k v : Int) (hl : l.length ≤ 1000) (ht : tabR l = true) : Con Try.prog 59 [.agg [.ro false 4 (l.map eK)], .agg [.v (.int .i64 s), .v (.int .i64 k), .v (.int .i64 v)]] (fun rx rK rt => rx = .tup [.one (.v (.int .i64 (posR l s k : Nat))), .one (.v (.bool (thereR l s k)))] ∧ rK = [] ∧ rt = 0) := by
  refine Z.con_ofF tabOk 12 Try.f59 _ Try.func59 (by kernel_rfl) rfl rfl rfl rfl ?_
  have cb := search_con l s k v hl ht
  repeat' ((conv => whnf); first
    | ((first | (with_reducible refine Z.callZ_mk ?_ (cb) ?_)); (focus ((repeat' (first | exact trivial | exact rfl | apply And.intro)); done))))
  all_goals (try (conv => whnf))
  all_goals try (show Nat.ble _ _ = true; rfl)
  all_goals first
    | ((first | (with_reducible apply Z.retF2)); (focus (exact rfl)); (repeat' (first | exact trivial | exact rfl | apply And.intro)); (all_goals (try exact (fun _ => none))); all_goals (rfl))
end Go.Proofs.Ytehhmkdghgabaaa
namespace Go.Proofs.Ytehhmkdghgabaaa
open Go Go.RowKit Wx
set_option linter.unusedVariables false
set_option linter.unusedSimpArgs false
set_option maxHeartbeats 4000000
theorem check_con (l : List Kc) (hl : l.length ≤ 9223372036854775807) : Con Try.prog 15 [.agg [.ro false 4 (l.map eK)]] (fun rx rK rt => rx = .val (.int .i64 (bif tabR l then 0 else 220)) ∧ rK = [] ∧ rt = 0) := by
  refine Z.con_ofF tabOk 42 Try.f15 _ Try.func15 (by kernel_rfl) rfl rfl rfl rfl ?_
  repeat' ((conv => whnf); first
    | with_reducible first | refine spB_t ?_
    | fail)
  all_goals (try (conv => whnf))
  all_goals try (show Nat.ble _ _ = true; rfl)
  all_goals try (exfalso; rename_i hz; cases hz; done)
  all_goals try (exfalso; (try simp only [LN] at *) <;> omega)
  refine Z.loopK tabOk (fun zq : Nat => [(9, .val (.int .i64 (zq : Int)))]) (fun zq : Nat => ([(0, some (Z.Ob.b ⟨[[.ro false 4 (l.map eK)]], 1, 30, true⟩))] : Z.Kr)) (fun zq => zq ≤ l.length ∧ tabR l = okT (prevR l zq) (l.drop zq)) (fun zq => l.length - zq) 0 1 [(1, _), (7, _), (8, _)] ⟨rfl, rfl, rfl, trivial⟩ [] trivial ?_ ?_ rfl rfl ⟨Nat.zero_le _, rfl⟩ ?_
  · repeat' (first | exact trivial | apply And.intro | exact ⟨_, rfl, Z.Imp.refl _⟩)
  · repeat' (first | exact trivial | exact (fun b hb => ⟨b, hb, Z.ImpO.refl b⟩) | apply And.intro)
  rintro i HINV
  (try dsimp only at HINV); (try dsimp only)
  obtain ⟨HI, HT⟩ := HINV
  by_cases hi : i < l.length
  · obtain ⟨x, hx⟩ := getElem?_some' (xs := l) (i := i) hi
    rw [okT_at hx] at HT
    have ck := rec_con x.src x.key 0
    cases hk : keyOk x.src x.key
    · rw [hk] at ck HT
      simp only [Bool.false_and, cond_false] at ck HT
      rw [HT]
      try simp only [cond_false]
      repeat' ((conv => whnf); first
        | with_reducible first | refine spB_t ?_
        | ((with_reducible apply spB_cong); (focus (simp only [beq_self_eq_true, bne_self_eq_false, Bool.true_bne, Bool.false_bne, Bool.bne_true, Bool.bne_false, Bool.true_beq, Bool.false_beq, Bool.not_true, Bool.not_false, Bool.not_not, Int.reduceBEq, Int.reduceBNe, Int.reduceLE, Int.reduceLT, Int.reduceEq, decide_true, decide_false]; rfl)))
        | (with_reducible refine spB_dec ?_ ?_ <;> intro _ <;> (try (exfalso; first | contradiction | omega | (rename_i hz; refine hz ?_; simp; done) | (rename_i hz; simp at hz; done) | (simp only [LN] at *; omega))))
        | with_reducible first | refine Z.rowN_known hx ?_
        | ((with_reducible apply ixN_litp); (focus (exact rfl)); (focus ((try simp only [LN] at *) <;> omega)))
        | with_reducible first | refine Z.callZ_in tabOk 8 Try.f49 _ Try.func49 (by kernel_rfl) rfl rfl rfl ?_
        | ((first | (with_reducible refine Z.conZ_mz ?_ (ck) ?_)); (focus ((repeat' (first | exact trivial | exact rfl | apply And.intro)); done)))
        | ((with_reducible apply ex_and); exact rfl)
        | with_reducible first | refine Z.drawZ_rule tabOk mixOk ?_ | refine Z.apZ_mk (by kernel_rfl) ?_
        | fail)
      all_goals (try (conv => whnf))
      all_goals try (show Nat.ble _ _ = true; rfl)
      all_goals try (exfalso; rename_i hz; cases hz; done)
      all_goals try (exfalso; (try simp only [LN] at *) <;> omega)
      all_goals first
        | ((first | (with_reducible apply Z.retF1)); (focus (exact rfl)); (repeat' (first | exact trivial | (with_reducible apply Z.frz_one) | (with_reducible apply Z.fq_int) | exact rfl | apply And.intro)); (all_goals (try exact (fun _ => none))); all_goals (first | (simp; done)))
        | fail
    rw [hk] at ck HT
    simp only [Bool.true_and, cond_true] at ck HT
    by_cases hc : 0 < x.cnt
    rotate_left
    · rw [decide_eq_false hc, Bool.false_and, Bool.false_and] at HT
      rw [HT]
      try simp only [cond_false]
      repeat' ((conv => whnf); first
        | with_reducible first | refine spB_t ?_
        | ((with_reducible apply spB_cong); (focus (simp only [beq_self_eq_true, bne_self_eq_false, Bool.true_bne, Bool.false_bne, Bool.bne_true, Bool.bne_false, Bool.true_beq, Bool.false_beq, Bool.not_true, Bool.not_false, Bool.not_not, Int.reduceBEq, Int.reduceBNe, Int.reduceLE, Int.reduceLT, Int.reduceEq, decide_true, decide_false]; rfl)))
        | with_reducible first | refine spB_no (by decide) ?_
        | (with_reducible refine spB_dec ?_ ?_ <;> intro _ <;> (try (exfalso; first | contradiction | omega | (rename_i hz; refine hz ?_; simp; done) | (rename_i hz; simp at hz; done) | (simp only [LN] at *; omega))))
        | with_reducible first | refine Z.rowN_known hx ?_
        | ((with_reducible apply ixN_litp); (focus (exact rfl)); (focus ((try simp only [LN] at *) <;> omega)))
        | with_reducible first | refine Z.callZ_in tabOk 8 Try.f49 _ Try.func49 (by kernel_rfl) rfl rfl rfl ?_
        | ((first | (with_reducible refine Z.conZ_mz ?_ (ck) ?_)); (focus ((repeat' (first | exact trivial | exact rfl | apply And.intro)); done)))
        | ((with_reducible apply ex_and); exact rfl)
        | with_reducible first | refine Z.drawZ_rule tabOk mixOk ?_ | refine Z.apZ_mk (by kernel_rfl) ?_
        | fail)
      all_goals (try (conv => whnf))
      all_goals try (show Nat.ble _ _ = true; rfl)
      all_goals try (exfalso; rename_i hz; cases hz; done)
      all_goals try (exfalso; (try simp only [LN] at *) <;> omega)
      all_goals first
        | ((first | (with_reducible apply Z.retF1)); (focus (exact rfl)); (repeat' (first | exact trivial | (with_reducible apply Z.frz_one) | (with_reducible apply Z.fq_int) | exact rfl | apply And.intro)); (all_goals (try exact (fun _ => none))); all_goals (first | (simp; done)))
        | fail
    rw [decide_eq_true hc, Bool.true_and] at HT
    rcases i with _ | j
    · have HT2 : tabR l = okT (prevR l 1) (l.drop 1) := by rw [HT]; rfl
      repeat' ((conv => whnf); first
        | ((with_reducible apply spB_cong); (focus (simp only [beq_self_eq_true, bne_self_eq_false, Bool.true_bne, Bool.false_bne, Bool.bne_true, Bool.bne_false, Bool.true_beq, Bool.false_beq, Bool.not_true, Bool.not_false, Bool.not_not, Int.reduceBEq, Int.reduceBNe, Int.reduceLE, Int.reduceLT, Int.reduceEq, decide_true, decide_false]; rfl)))
        | with_reducible first | refine spB_no (by decide) ?_
        | (with_reducible refine spB_dec ?_ ?_ <;> intro _ <;> (try (exfalso; first | contradiction | omega | (rename_i hz; refine hz ?_; simp; done) | (rename_i hz; simp at hz; done) | (simp only [LN] at *; omega))))
        | with_reducible first | refine Z.rowN_known hx ?_
        | ((with_reducible apply ixN_litp); (focus (exact rfl)); (focus ((try simp only [LN] at *) <;> omega)))
        | with_reducible refine wr_i64 (by first | omega | (simp only [LN] at *; omega)) ?_
        | with_reducible first | refine Z.callZ_in tabOk 8 Try.f49 _ Try.func49 (by kernel_rfl) rfl rfl rfl ?_
        | ((first | (with_reducible refine Z.conZ_mz ?_ (ck) ?_)); (focus ((repeat' (first | exact trivial | exact rfl | apply And.intro)); done)))
        | ((with_reducible apply ex_and); exact rfl)
        | with_reducible first | refine Z.drawZ_rule tabOk mixOk ?_ | refine Z.apZ_mk (by kernel_rfl) ?_
        | fail)
      all_goals (try (conv => whnf))
      all_goals try (show Nat.ble _ _ = true; rfl)
      all_goals try (exfalso; rename_i hz; cases hz; done)
      all_goals try (exfalso; (try simp only [LN] at *) <;> omega)
      all_goals first
        | ((refine Z.rndK (1) (fun s => [0]) rfl rfl rfl rfl ?_ ?_ ?_ ?_); (focus (repeat' (first | exact trivial | exact rfl | apply And.intro))); (focus (repeat' (first | exact trivial | (intro b hb; cases hb; rfl) | apply And.intro))); (focus (exact ⟨by (try dsimp only); omega, HT2⟩)); ((try dsimp only); omega))
        | fail
    obtain ⟨q, hq⟩ := getElem?_some' (xs := l) (i := j) (by omega)
    have hpr : prevR l (j + 1) = some q := hq
    rw [hpr] at HT
    simp only at HT
    have cc := compare_con q.src q.key 0 x.src x.key 0
    have hcl := @cmp_lt q.src q.key x.src x.key
    generalize cmpR q.src q.key x.src x.key = C at *
    by_cases hlt : kLt q.src q.key x.src x.key
    · rw [decide_eq_true hlt] at HT hcl
      have hC : ¬ 0 ≤ C := of_decide_eq_false (by simpa using hcl)
      rw [Bool.true_and] at HT
      repeat' ((conv => whnf); first
        | with_reducible first | refine spB_t ?_
        | ((with_reducible apply spB_cong); (focus (simp only [beq_self_eq_true, bne_self_eq_false, Bool.true_bne, Bool.false_bne, Bool.bne_true, Bool.bne_false, Bool.true_beq, Bool.false_beq, Bool.not_true, Bool.not_false, Bool.not_not, Int.reduceBEq, Int.reduceBNe, Int.reduceLE, Int.reduceLT, Int.reduceEq, decide_true, decide_false]; rfl)))
        | with_reducible first | refine spB_no (by decide) ?_
        | (with_reducible refine spB_dec ?_ ?_ <;> intro _ <;> (try (exfalso; first | contradiction | omega | (rename_i hz; refine hz ?_; simp; done) | (rename_i hz; simp at hz; done) | (simp only [LN] at *; omega))))
        | with_reducible first | refine Z.rowN_known hx ?_ | refine Z.rowN_known hq ?_
        | ((with_reducible refine ixN_mk (j) ?_ ?_ ?_); (focus (first | ((try simp only [LN] at *) <;> omega))); (focus ((try simp only [LN] at *) <;> omega)))
        | ((with_reducible apply ixN_litp); (focus (exact rfl)); (focus ((try simp only [LN] at *) <;> omega)))
        | with_reducible refine wr_i64 (by first | omega | (simp only [LN] at *; omega)) ?_
        | with_reducible first | refine Z.callZ_in tabOk 8 Try.f49 _ Try.func49 (by kernel_rfl) rfl rfl rfl ?_
        | ((first | (with_reducible refine Z.conZ_mz ?_ (ck) ?_) | (with_reducible refine Z.conZ_mz ?_ (cc) ?_)); (focus ((repeat' (first | exact trivial | exact rfl | apply And.intro)); done)))
        | ((with_reducible apply ex_and); exact rfl)
        | with_reducible first | refine Z.drawZ_rule tabOk mixOk ?_ | refine Z.apZ_mk (by kernel_rfl) ?_
        | ((with_reducible refine Z.ConZ.red ?_); (try subst hlb); (apply Z.conZ_all); (focus (repeat (first | exact Z.FK.nil | (apply Z.FK.keep; exact rfl)))); (focus rfl); (focus rfl); (focus (repeat (first | exact trivial | (refine ⟨(fun o ho => (by first | (cases ho; rfl) | (cases ho; exact Z.inL_map fun _ => rfl) | (cases ho; exact Z.inL_mapr fun _ => rfl) | exact Z.inL_gB ho fun _ => rfl)), ?_⟩)))))
        | ((refine ⟨rfl, ?_, rfl⟩); (focus (repeat (first | exact Z.DK.nil | apply Z.DK.cons))))
        | fail)
      all_goals (try (conv => whnf))
      all_goals try (show Nat.ble _ _ = true; rfl)
      all_goals try (exfalso; rename_i hz; cases hz; done)
      all_goals try (exfalso; (try simp only [LN] at *) <;> omega)
      all_goals first
        | ((refine Z.rndK ((j + 1 + 1)) (fun s => [0]) rfl rfl rfl rfl ?_ ?_ ?_ ?_); (focus (repeat' (first | exact trivial | exact rfl | apply And.intro))); (focus (repeat' (first | exact trivial | (intro b hb; cases hb; rfl) | apply And.intro))); (focus (exact ⟨by (try dsimp only); omega, HT⟩)); ((try dsimp only); omega))
        | fail
    · rw [decide_eq_false hlt] at HT hcl
      have hC : 0 ≤ C := of_decide_eq_true (by simpa using hcl)
      rw [Bool.false_and] at HT
      rw [HT]
      try simp only [cond_false]
      repeat' ((conv => whnf); first
        | with_reducible first | refine spB_t ?_
        | ((with_reducible apply spB_cong); (focus (simp only [beq_self_eq_true, bne_self_eq_false, Bool.true_bne, Bool.false_bne, Bool.bne_true, Bool.bne_false, Bool.true_beq, Bool.false_beq, Bool.not_true, Bool.not_false, Bool.not_not, Int.reduceBEq, Int.reduceBNe, Int.reduceLE, Int.reduceLT, Int.reduceEq, decide_true, decide_false]; rfl)))
        | with_reducible first | refine spB_no (by decide) ?_
        | (with_reducible refine spB_dec ?_ ?_ <;> intro _ <;> (try (exfalso; first | contradiction | omega | (rename_i hz; refine hz ?_; simp; done) | (rename_i hz; simp at hz; done) | (simp only [LN] at *; omega))))
        | with_reducible first | refine Z.rowN_known hx ?_ | refine Z.rowN_known hq ?_
        | ((with_reducible refine ixN_mk (j) ?_ ?_ ?_); (focus (first | ((try simp only [LN] at *) <;> omega))); (focus ((try simp only [LN] at *) <;> omega)))
        | ((with_reducible apply ixN_litp); (focus (exact rfl)); (focus ((try simp only [LN] at *) <;> omega)))
        | with_reducible refine wr_i64 (by first | omega | (simp only [LN] at *; omega)) ?_
        | with_reducible first | refine Z.callZ_in tabOk 8 Try.f49 _ Try.func49 (by kernel_rfl) rfl rfl rfl ?_
        | ((first | (with_reducible refine Z.conZ_mz ?_ (ck) ?_) | (with_reducible refine Z.conZ_mz ?_ (cc) ?_)); (focus ((repeat' (first | exact trivial | exact rfl | apply And.intro)); done)))
        | ((with_reducible apply ex_and); exact rfl)
        | with_reducible first | refine Z.drawZ_rule tabOk mixOk ?_ | refine Z.apZ_mk (by kernel_rfl) ?_
        | ((with_reducible refine Z.ConZ.red ?_); (try subst hlb); (apply Z.conZ_all); (focus (repeat (first | exact Z.FK.nil | (apply Z.FK.keep; exact rfl)))); (focus rfl); (focus rfl); (focus (repeat (first | exact trivial | (refine ⟨(fun o ho => (by first | (cases ho; rfl) | (cases ho; exact Z.inL_map fun _ => rfl) | (cases ho; exact Z.inL_mapr fun _ => rfl) | exact Z.inL_gB ho fun _ => rfl)), ?_⟩)))))
        | ((refine ⟨rfl, ?_, rfl⟩); (focus (repeat (first | exact Z.DK.nil | apply Z.DK.cons))))
        | fail)
      all_goals (try (conv => whnf))
      all_goals try (show Nat.ble _ _ = true; rfl)
      all_goals try (exfalso; rename_i hz; cases hz; done)
      all_goals try (exfalso; (try simp only [LN] at *) <;> omega)
      all_goals first
        | ((first | (with_reducible apply Z.retF1)); (focus (exact rfl)); (repeat' (first | exact trivial | (with_reducible apply Z.frz_one) | (with_reducible apply Z.fq_int) | exact rfl | apply And.intro)); (all_goals (try exact (fun _ => none))); all_goals (first | (simp; done)))
        | fail
  have hil : i = l.length := by omega
  subst hil
  rw [List.drop_length] at HT
  have HT3 : tabR l = true := by rw [HT]; cases prevR l l.length <;> rfl
  rw [HT3]
  try simp only [cond_true]
  repeat' ((conv => whnf); first
    | (with_reducible refine spB_dec ?_ ?_ <;> intro _ <;> (try (exfalso; first | contradiction | omega | (rename_i hz; refine hz ?_; simp; done) | (rename_i hz; simp at hz; done) | (simp only [LN] at *; omega))))
    | fail)
  all_goals (try (conv => whnf))
  all_goals try (show Nat.ble _ _ = true; rfl)
  all_goals try (exfalso; rename_i hz; cases hz; done)
  all_goals try (exfalso; (try simp only [LN] at *) <;> omega)
  all_goals first
    | ((first | (with_reducible apply Z.retF1)); (focus (exact rfl)); (repeat' (first | exact trivial | (with_reducible apply Z.frz_one) | (with_reducible apply Z.fq_int) | exact rfl | apply And.intro)); (all_goals (try exact (fun _ => none))); all_goals (first | (simp; done)))
    | fail
end Go.Proofs.Ytehhmkdghgabaaa
namespace Go.Proofs.Ytehhmkdghgabaaa
open Go Go.RowKit Wx
set_option linter.unusedVariables false
set_option linter.unusedSimpArgs false
set_option maxHeartbeats 4000000
end Go.Proofs.Ytehhmkdghgabaaa
namespace Go.Proofs.Ytehhmkdghgabaaa
open Go Go.RowKit Wx
set_option linter.unusedVariables false
set_option linter.unusedSimpArgs false
set_option maxHeartbeats 4000000
end Go.Proofs.Ytehhmkdghgabaaa
namespace Go.Proofs.Ytehhmkdghgabaaa
open Go Go.RowKit Wx
set_option linter.unusedVariables false
set_option linter.unusedSimpArgs false
set_option maxHeartbeats 4000000
theorem cK_one (x : Kc) : ∀ c ∈ cK x, c.single = true := fun c hc => by
  simp only [List.mem_cons, List.not_mem_nil, or_false] at hc
  rcases hc with rfl | rfl | rfl | rfl <;> rfl
theorem there_no {l : List Kc} {s k : Int} (h : thereR l s k = false) : ∀ x, l[posR l s k]? = some x → ¬ (x.src = s ∧ x.key = k) := fun x hx he => by
  unfold thereR at h
  rw [hx] at h
  simp [he.1, he.2] at h
theorem there_at {l : List Kc} {s k : Int} (h : thereR l s k = true) : ∃ x, l[posR l s k]? = some x ∧ x.src = s ∧ x.key = k := by
  unfold thereR at h
  cases hx : l[posR l s k]? with
  | none => rw [hx] at h; cases h
  | some x => rw [hx] at h; exact ⟨x, rfl, by simpa using h⟩
theorem put_same {l : List Kc} {s k : Int} (ht : tabR l = true) (hth : thereR l s k = false) : putR l s k (0, 0) = l := by
  rw [put_no ht (there_no hth)]; simp [ownK]
theorem put_del {l : List Kc} {s k : Int} (ht : tabR l = true) (hth : thereR l s k = true) : putR l s k (0, 0) = l.eraseIdx (posR l s k) := by
  obtain ⟨x, hx, he⟩ := there_at hth
  rw [put_at ht hx he, List.eraseIdx_eq_take_drop_succ]; simp [ownK]
theorem put_new {l : List Kc} {s k : Int} {c : Int × Int} (ht : tabR l = true) (hth : thereR l s k = false) (hc : 0 < c.1) : putR l s k c = l.take (posR l s k) ++ ⟨s, k, c.1, c.2⟩ :: l.drop (posR l s k) := by
  rw [put_no ht (there_no hth)]
  unfold ownK
  rw [if_neg (fun e => by rw [e] at hc; exact absurd hc (by decide))]; simp
theorem put_upd {l : List Kc} {s k : Int} {c : Int × Int} (ht : tabR l = true) (hth : thereR l s k = true) (hc : 0 < c.1) : putR l s k c = (l.eraseIdx (posR l s k)).take (posR l s k) ++ ⟨s, k, c.1, c.2⟩ :: (l.eraseIdx (posR l s k)).drop (posR l s k) := by
  obtain ⟨x, hx, he⟩ := there_at hth
  rw [put_at ht hx he]
  unfold ownK
  rw [if_neg (fun e => by rw [e] at hc; exact absurd hc (by decide))]
  have hl := (List.getElem?_eq_some_iff.1 hx).1
  generalize posR l s k = p at *
  rw [List.eraseIdx_eq_take_drop_succ, List.take_left' (by simp; omega), List.drop_left' (by simp; omega)]; simp
theorem clonek_x (x : Kc) (l : List Kc) (hl : l.length ≤ 1000) : Con Try.prog 67 [.one (.ro false 4 ((x :: l).map eK))] (fun rx rK rt => rx = .c (.osl 0 0 (x :: l).length none) ∧ rK = [(0, some ⟨(x :: l).map cK, 4, 74, false⟩)] ∧ rt = 1) := by
  refine con_of tabOk 8 Try.f67 _ Try.func67 (by kernel_rfl) rfl rfl rfl rfl (fun W => ?_)
  repeat' ((conv => whnf); first
    | with_reducible first | refine spB_no (by decide) ?_
    | ((with_reducible refine apdE_n ?_); (with_reducible refine apdN.mk ?_ ?_ ?_ ?_ ?_ ?_); (focus (simp; done)); (focus (exact one_map2 fun _ => rfl)); (focus ((try simp only [LN] at *) <;> omega)); (focus ((try simp only [LN] at *) <;> omega)); (focus ((try simp only [LN] at *) <;> omega))))
  all_goals (try (conv => whnf))
  refine ret1b 1 (.c (.osl 0 0 (x :: l).length none)) ((x :: l).map cK) 4 74 false _ rfl ?_ rfl ?_ (ren_map fun _ => rfl) rfl (own_map fun _ => rfl) ⟨rfl, rfl, rfl⟩
  · rw [show (x :: l).length = 0 + (List.map eK (x :: l)).length by simp]; rfl
  · rw [show List.map cK (x :: l) = List.map (List.map (RT.ce false)) (List.map eK (x :: l)) by rw [List.map_map]; rfl]; rfl
theorem clonek_con (l : List Kc) (hl : l.length ≤ 1000) (hne : l ≠ []) : Con Try.prog 67 [.one (.ro false 4 (l.map eK))] (fun rx rK rt => rx = .c (.osl 0 0 l.length none) ∧ rK = [(0, some ⟨l.map cK, 4, 74, false⟩)] ∧ rt = 1) := by
  cases l with
  | nil => exact absurd rfl hne
  | cons x l => exact clonek_x x l (by simp only [List.length_cons] at hl; omega)
theorem clonek_0   : Con Try.prog 67 [.one (.v (.slice none 0 0))] (fun rx rK rt => rx = .val (.slice none 0 0) ∧ rK = [] ∧ rt = 0) := by
  refine con_of tabOk 8 Try.f67 _ Try.func67 (by kernel_rfl) rfl rfl rfl rfl (fun W => ?_)
  repeat' ((conv => whnf); first
    | with_reducible first | refine spB_t ?_)
  all_goals (try (conv => whnf))
  refine ret1 [.one (.v (.slice none 0 0))] rfl [] (.val (.slice none 0 0)) [] rfl trivial List.nodup_nil rfl ?_ (fun p hp => nomatch hp) ⟨rfl, rfl, rfl⟩
  intro p b hp; cases hp
theorem clonek_1 (ad : Addr) (cap : Nat)  : Con Try.prog 67 [.one (.v (.slice (some ad) 0 cap))] (fun rx rK rt => rx = .c (.osl 0 0 0 (some 0)) ∧ rK = [(0, some ⟨[], 4, 74, false⟩)] ∧ rt = 1) := by
  refine con_of tabOk 8 Try.f67 _ Try.func67 (by kernel_rfl) rfl rfl rfl rfl (fun W => ?_)
  repeat' ((conv => whnf); first
    | with_reducible first | refine spB_no (by decide) ?_
    | ((with_reducible refine apdE_r ?_); (with_reducible refine aprN.mk ⟨_, rfl, ?_⟩ ?_ ?_ ?_ ?_); (focus ((try simp only [LN] at *) <;> omega)); (focus (first | rfl)); (focus (first | exact one_all (by rfl))); (focus ((try simp only [LN] at *) <;> omega))))
  all_goals (try (conv => whnf))
  refine ret1b 0 (.c (.osl 0 0 0 (some 0))) [] 4 74 false _ rfl ?_ rfl ?_ rfl rfl (fun r hr => nomatch hr) ⟨rfl, rfl, rfl⟩
  all_goals rfl
end Go.Proofs.Ytehhmkdghgabaaa
namespace Go.Proofs.Ytehhmkdghgabaaa
open Go Go.RowKit Wx
set_option linter.unusedVariables false
set_option linter.unusedSimpArgs false
set_option maxHeartbeats 4000000
end Go.Proofs.Ytehhmkdghgabaaa
namespace Go.Proofs.Ytehhmkdghgabaaa
open Go Go.RowKit Wx
set_option linter.unusedVariables false
set_option linter.unusedSimpArgs false
set_option maxHeartbeats 4000000
end Go.Proofs.Ytehhmkdghgabaaa
namespace Go.Proofs.Ytehhmkdghgabaaa
open Go Go.RowKit Wx
set_option linter.unusedVariables false
set_option linter.unusedSimpArgs false
set_option maxHeartbeats 4000000
end Go.Proofs.Ytehhmkdghgabaaa
namespace Go.Proofs.Ytehhmkdghgabaaa
open Go Go.RowKit Wx
set_option linter.unusedVariables false
set_option linter.unusedSimpArgs false
set_option maxHeartbeats 4000000
end Go.Proofs.Ytehhmkdghgabaaa
namespace Go.Proofs.Ytehhmkdghgabaaa
open Go Go.RowKit Wx
set_option linter.unusedVariables false
set_option linter.unusedSimpArgs false
set_option maxHeartbeats 4000000
end Go.Proofs.Ytehhmkdghgabaaa
namespace Go.Proofs.Ytehhmkdghgabaaa
open Go Go.RowKit Wx
set_option linter.unusedVariables false
set_option linter.unusedSimpArgs false
set_option maxHeartbeats 4000000
end Go.Proofs.Ytehhmkdghgabaaa
namespace Go.Proofs.Ytehhmkdghgabaaa
open Go Go.RowKit Wx
set_option linter.unusedVariables false
set_option linter.unusedSimpArgs false
set_option maxHeartbeats 4000000
theorem con_empagg {P : Program} {g : FuncId} {sz : Nat} {cs : List Ce} {av : List A0} {post : AV → Wx.Kr → Nat → Prop} (ad : Addr) (cap : Nat) (h : Con P g (.agg (.ro false sz [] :: cs) :: av) post) : Con P g (.agg (.v (.slice (some ad) 0 cap) :: cs) :: av) post := by
  refine ⟨h.fn, fun w vs hvs => ?_⟩
  cases vs with
  | nil => exact hvs.elim
  | cons v vs =>
    obtain ⟨⟨us, rfl, hus⟩, hvs⟩ := hvs
    cases us with
    | nil => exact hus.elim
    | cons u us =>
      obtain ⟨hu, hus⟩ := hus
      have hu : u = .slice (some ad) 0 cap := hu
      subst hu
      exact h.run w _ ⟨⟨_, rfl, (show Rd _ (.ro sz []) _ from .emp _ ad cap), hus⟩, hvs⟩
end Go.Proofs.Ytehhmkdghgabaaa
namespace Go.Proofs.Ytehhmkdghgabaaa
open Go Go.RowKit Wx
set_option linter.unusedVariables false
set_option linter.unusedSimpArgs false
set_option maxHeartbeats 4000000
end Go.Proofs.Ytehhmkdghgabaaa
namespace Go.Proofs.Ytehhmkdghgabaaa
open Go Go.RowKit Wx
set_option linter.unusedVariables false
set_option linter.unusedSimpArgs false
set_option maxHeartbeats 4000000
end Go.Proofs.Ytehhmkdghgabaaa
namespace Go.Proofs.Ytehhmkdghgabaaa
open Go Go.RowKit Wx
set_option linter.unusedVariables false
set_option linter.unusedSimpArgs false
set_option maxHeartbeats 4000000
end Go.Proofs.Ytehhmkdghgabaaa
namespace Go.Proofs.Ytehhmkdghgabaaa
open Go Go.RowKit Wx
set_option linter.unusedVariables false
set_option linter.unusedSimpArgs false
set_option maxHeartbeats 4000000
end Go.Proofs.Ytehhmkdghgabaaa
/-
  The library's contract for slices.SortFunc at rows of structs, laid at this program.
-/
namespace Go.Proofs
open Go.Shelf
def Try.sortK_ren : Go.Shelf.Ren := ⟨fun | 6 => 73 | 15 => 109 | 14 => 108 | 28 => 127 | 29 => 128 | 20 => 119 | 21 => 120 | 22 => 121 | 23 => 122 | 24 => 123 | 25 => 124 | 26 => 125 | 27 => 126 | 46 => 134 | 47 => 135 | 48 => 136 | 49 => 137 | 50 => 138 | 57 => 146 | n => n, fun | 22 => 28 | 24 => 74 | 25 => 109 | 3 => 3 | 39 => 72 | 0 => 0 | 53 => 162 | 55 => 113 | 4 => 4 | 46 => 156 | 45 => 155 | 50 => 93 | 5 => 5 | 9 => 9 | 66 => 171 | 70 => 174 | 76 => 178 | 77 => 179 | n => n, fun | n => n⟩
theorem Try.sortK : Go.Proofs.SlLaysF0.n6 Try.prog Try.sortK_ren := {
  mixed := by kernel_rfl
  f6 := ⟨Try.f73.name, by decide, Try.func73.trans (congrArg some (by kernel_rfl))⟩
  f14 := ⟨Try.f108.name, by decide, Try.func108.trans (congrArg some (by kernel_rfl))⟩
  f15 := Try.func109.trans (congrArg some (by kernel_rfl))
  f20 := ⟨Try.f119.name, by decide, Try.func119.trans (congrArg some (by kernel_rfl))⟩
  f21 := ⟨Try.f120.name, by decide, Try.func120.trans (congrArg some (by kernel_rfl))⟩
  f22 := ⟨Try.f121.name, by decide, Try.func121.trans (congrArg some (by kernel_rfl))⟩
  f23 := ⟨Try.f122.name, by decide, Try.func122.trans (congrArg some (by kernel_rfl))⟩
  f24 := ⟨Try.f123.name, by decide, Try.func123.trans (congrArg some (by kernel_rfl))⟩
  f25 := ⟨Try.f124.name, by decide, Try.func124.trans (congrArg some (by kernel_rfl))⟩
  f26 := ⟨Try.f125.name, by decide, Try.func125.trans (congrArg some (by kernel_rfl))⟩
  f27 := ⟨Try.f126.name, by decide, Try.func126.trans (congrArg some (by kernel_rfl))⟩
  f28 := Try.func127.trans (congrArg some (by kernel_rfl))
  f29 := Try.func128.trans (congrArg some (by kernel_rfl))
  f46 := ⟨Try.f134.name, by decide, Try.func134.trans (congrArg some (by kernel_rfl))⟩
  f47 := Try.func135.trans (congrArg some (by kernel_rfl))
  f48 := Try.func136.trans (congrArg some (by kernel_rfl))
  f49 := ⟨Try.f137.name, by decide, Try.func137.trans (congrArg some (by kernel_rfl))⟩
  f50 := ⟨Try.f138.name, by decide, Try.func138.trans (congrArg some (by kernel_rfl))⟩
  f57 := ⟨Try.f146.name, by decide, Try.func146.trans (congrArg some (by kernel_rfl))⟩
  t0 := Try.underlying0
  a0 := Try.isAgg0
  z0 := Try.sizeOf0
  v0 := Try.zeroValue0
  t3 := Try.underlying3
  a3 := Try.isAgg3
  z3 := Try.sizeOf3
  v3 := Try.zeroValue3
  t4 := Try.underlying4
  a4 := Try.isAgg4
  z4 := Try.sizeOf4
  v4 := Try.zeroValue4
  t5 := Try.underlying5
  a5 := Try.isAgg5
  z5 := Try.sizeOf5
  v5 := Try.zeroValue5
  t9 := Try.underlying9
  a9 := Try.isAgg9
  z9 := Try.sizeOf9
  v9 := Try.zeroValue9
  t22 := Try.underlying28
  a22 := Try.isAgg28
  z22 := Try.sizeOf28
  v22 := Try.zeroValue28
  t25 := Try.underlying109
  a25 := Try.isAgg109
  z25 := Try.sizeOf109
  v25 := Try.zeroValue109
  t39 := Try.underlying72
  a39 := Try.isAgg72
  z39 := Try.sizeOf72
  v39 := Try.zeroValue72
  t45 := Try.underlying155
  a45 := Try.isAgg155
  z45 := Try.sizeOf155
  v45 := Try.zeroValue155
  t46 := Try.underlying156
  a46 := Try.isAgg156
  z46 := Try.sizeOf156
  v46 := Try.zeroValue156
  t50 := Try.underlying93
  a50 := Try.isAgg93
  z50 := Try.sizeOf93
  v50 := Try.zeroValue93
  t53 := Try.underlying162
  a53 := Try.isAgg162
  z53 := Try.sizeOf162
  v53 := Try.zeroValue162
  t55 := Try.underlying113
  a55 := Try.isAgg113
  z55 := Try.sizeOf113
  v55 := Try.zeroValue113
  t66 := Try.underlying171
  a66 := Try.isAgg171
  z66 := Try.sizeOf171
  v66 := Try.zeroValue171
  t70 := Try.underlying174
  a70 := Try.isAgg174
  z70 := Try.sizeOf174
  v70 := Try.zeroValue174
  t76 := Try.underlying178
  a76 := Try.isAgg178
  z76 := Try.sizeOf178
  v76 := Try.zeroValue178
  t77 := Try.underlying179
  a77 := Try.isAgg179
  z77 := Try.sizeOf179
  v77 := Try.zeroValue179 }
end Go.Proofs
namespace Go.Proofs.Ytehhmkdghgabaaa
open Go Go.RowKit Wx
set_option linter.unusedVariables false
set_option linter.unusedSimpArgs false
set_option maxHeartbeats 4000000
abbrev ev (x : Kc) : List Value := [.int .i64 x.src, .int .i64 x.key, .int .i64 x.cnt, .int .i64 x.sum]
instance : Inhabited Kc := ⟨⟨0, 0, 0, 0⟩⟩
def cfK (x y : Kc) : Int := cmpR x.src x.key y.src y.key
theorem cfK_lt (x y : Kc) : ltOf cfK x y = decide (kLtK x y) := by
  have h := @cmp_lt x.src x.key y.src y.key
  unfold ltOf cfK
  by_cases h1 : cmpR x.src x.key y.src y.key < 0
  · rw [show decide (0 ≤ cmpR x.src x.key y.src y.key) = false by simpa using h1] at h
    have h2 : decide (kLtK x y) = true := by simpa using h.symm
    rw [h2]; simpa using h1
  · rw [show decide (0 ≤ cmpR x.src x.key y.src y.key) = true by simp; omega] at h
    have h2 : decide (kLtK x y) = false := by simpa using h.symm
    rw [h2]; simpa using h1
theorem cfK_swo : Go.Sort.SWO (ltOf cfK) := {
  irrefl := fun x => by rw [cfK_lt]; simpa using kLt_irr
  trans := fun x y z h1 h2 => by
    rw [cfK_lt] at *
    exact decide_eq_true (kLt_trans (of_decide_eq_true h1) (of_decide_eq_true h2))
  ntrans := fun x y z h1 h2 => by
    rw [cfK_lt] at *
    have h1 := of_decide_eq_false h1
    have h2 := of_decide_eq_false h2
    refine decide_eq_false ?_
    unfold kLtK kLt at *
    omega }
abbrev neK (x y : Kc) : Prop := ¬ (x.src = y.src ∧ x.key = y.key)
def mrg (a b : List Kc) : List Kc := b.foldl (fun o x => putR o x.src x.key (x.cnt, x.sum)) a
def comm (a b : List Kc) : Bool := b.any fun x => decide (getR a x.src x.key ≠ (0, 0))
def joinT (a b : List Kc) : List Kc × Int := if tabR a = false ∨ tabR b = false then ([], 220) else if comm a b = true then ([], 5) else (mrg a b, 0)
theorem get_in {l : List Kc} (h : ∀ x ∈ l, 0 < x.cnt) {s k : Int} : getR l s k ≠ (0, 0) ↔ ∃ y ∈ l, y.src = s ∧ y.key = k := by
  unfold getR
  cases hx : l.find? (eqK s k) with
  | some x =>
    have h2 := List.find?_some hx
    unfold eqK at h2
    have h3 := h x (List.mem_of_find?_eq_some hx)
    refine ⟨fun _ => ⟨x, List.mem_of_find?_eq_some hx, of_decide_eq_true h2⟩, fun _ h9 => ?_⟩
    simp only [Prod.mk.injEq] at h9
    omega
  | none =>
    refine ⟨fun h1 => absurd rfl h1, ?_⟩
    rintro ⟨y, hy, he⟩
    have := List.find?_eq_none.1 hx y hy
    unfold eqK at this
    exact absurd (decide_eq_true he) this
theorem comm_no {a b : List Kc} (ha : tabR a = true) : comm a b = false ↔ ∀ x ∈ a, ∀ y ∈ b, neK x y := by
  have hp : ∀ x ∈ a, 0 < x.cnt := fun x hx => ((tab_iff.1 ha).1 x hx).2
  unfold comm
  rw [List.any_eq_false]
  constructor
  · intro h x hx y hy he
    exact h y hy (decide_eq_true ((get_in hp).2 ⟨x, hx, he⟩))
  · intro h y hy h1
    obtain ⟨x, hx, he⟩ := (get_in hp).1 (of_decide_eq_true h1)
    exact h x hx y hy he
theorem same_pw : ∀ {l m : List Kc}, l.Pairwise kLtK → m.Pairwise kLtK → (∀ x, x ∈ l ↔ x ∈ m) → l = m
  | [], [], _, _, _ => rfl
  | [], y :: m, _, _, h => absurd ((h y).2 (by simp)) (by simp)
  | x :: l, [], _, _, h => absurd ((h x).1 (by simp)) (by simp)
  | x :: l, y :: m, h1, h2, h => by
    rw [List.pairwise_cons] at h1 h2
    have hxy : x = y := by
      rcases List.mem_cons.1 ((h x).1 (by simp)) with e | e
      · exact e
      · rcases List.mem_cons.1 ((h y).2 (by simp)) with e2 | e2
        · exact e2.symm
        · exact absurd (h2.1 x e) (kLt_asym (h1.1 y e2))
    subst hxy
    have hs : ∀ z, z ∈ l ↔ z ∈ m := fun z => by
      constructor
      · intro hz
        rcases List.mem_cons.1 ((h z).1 (by simp [hz])) with e | e
        · subst e; exact absurd (h1.1 z hz) kLt_irr
        · exact e
      · intro hz
        rcases List.mem_cons.1 ((h z).2 (by simp [hz])) with e | e
        · subst e; exact absurd (h2.1 z hz) kLt_irr
        · exact e
    rw [same_pw h1.2 h2.2 hs]
theorem put_perm {o : List Kc} {x : Kc} (ht : tabR o = true) (hx : 0 < x.cnt) (hn : ∀ y ∈ o, neK y x) : (putR o x.src x.key (x.cnt, x.sum)).Perm (x :: o) := by
  have hth : thereR o x.src x.key = false := by
    cases h : thereR o x.src x.key with
    | false => rfl
    | true => obtain ⟨y, h1, h2⟩ := there_at h; exact absurd h2 (hn y (List.mem_of_getElem? h1))
  rw [put_new ht hth hx]
  refine List.perm_middle.trans ?_
  rw [List.take_append_drop]
theorem mrg_tab : ∀ {b a : List Kc}, tabR a = true → (∀ x ∈ b, keyOk x.src x.key = true ∧ 0 < x.cnt) → tabR (mrg a b) = true
  | [], a, h, _ => h
  | x :: b, a, h, hb => mrg_tab (b := b) (put_tab (c := (x.cnt, x.sum)) h (hb x (by simp)).1 (.inr (hb x (by simp)).2)) fun y hy => hb y (by simp [hy])
theorem mrg_perm : ∀ {b a : List Kc}, tabR a = true → (∀ x ∈ b, keyOk x.src x.key = true ∧ 0 < x.cnt) → (∀ x ∈ a, ∀ y ∈ b, neK x y) → b.Pairwise neK → (mrg a b).Perm (a ++ b)
  | [], a, h, _, _, _ => by rw [List.append_nil]; exact .refl _
  | x :: b, a, h, hb, hn, hp => by
    rw [List.pairwise_cons] at hp
    have p1 := put_perm (x := x) h (hb x (by simp)).2 fun y hy => hn y hy x (by simp)
    have p2 := mrg_perm (b := b) (put_tab (c := (x.cnt, x.sum)) h (hb x (by simp)).1 (.inr (hb x (by simp)).2)) (fun y hy => hb y (by simp [hy])) (fun y hy z hz => by
      rcases List.mem_cons.1 ((p1.mem_iff (a := y)).1 hy) with e | e
      · subst e; exact hp.1 z hz
      · exact hn y e z (by simp [hz])) hp.2
    show (mrg (putR a x.src x.key (x.cnt, x.sum)) b).Perm _
    exact p2.trans (((p1.append_right b).trans (.refl _)).trans (List.perm_middle.symm))
theorem pw_ne {l : List Kc} (h : l.Pairwise kLtK) : l.Pairwise neK := h.imp fun hxy he => by unfold kLtK kLt at hxy; omega
theorem sort_join {a b z : List Kc} (ha : tabR a = true) (hb : tabR b = true) (hp : z.Perm (a ++ b)) (hs : z.Pairwise fun x y => ltOf cfK y x = false) : tabR z = !comm a b ∧ (comm a b = false → z = mrg a b) := by
  have a1 := tab_iff.1 ha
  have b1 := tab_iff.1 hb
  have hk : ∀ x ∈ z, keyOk x.src x.key = true ∧ 0 < x.cnt := fun x hx => by
    rcases List.mem_append.1 ((hp.mem_iff (a := x)).1 hx) with e | e
    · exact a1.1 x e
    · exact b1.1 x e
  have sy : ∀ {x y : Kc}, neK x y → neK y x := fun h he => h ⟨he.1.symm, he.2.symm⟩
  cases hc : comm a b with
  | false =>
    have hn := (comm_no ha).1 hc
    have h2 : (a ++ b).Pairwise neK := List.pairwise_append.2 ⟨pw_ne a1.2, pw_ne b1.2, hn⟩
    have h3 : z.Pairwise neK := (hp.pairwise_iff sy).2 h2
    have h4 : z.Pairwise kLtK := (List.Pairwise.and hs h3).imp fun {x y} h => by
      have h5 := h.1
      rw [cfK_lt] at h5
      rcases @kLt_tri x.src x.key y.src y.key with e | e | e
      · exact e
      · exact absurd e h.2
      · exact absurd e (of_decide_eq_false h5)
    refine ⟨tab_iff.2 ⟨hk, h4⟩, fun _ => ?_⟩
    refine same_pw h4 (tab_iff.1 (mrg_tab ha b1.1)).2 fun x => ?_
    exact (hp.mem_iff).trans (mrg_perm ha b1.1 hn (pw_ne b1.2)).mem_iff.symm
  | true =>
    refine ⟨?_, fun h => nomatch h⟩
    cases ht : tabR z with
    | false => rfl
    | true =>
      have h3 := pw_ne (tab_iff.1 ht).2
      have h2 := (hp.pairwise_iff sy).1 h3
      have := (comm_no (b := b) ha).2 (List.pairwise_append.1 h2).2.2
      rw [hc] at this
      cases this
theorem cmpk_con (x y : Kc)  : Con Try.prog 74 [.agg [.v (.int .i64 x.src), .v (.int .i64 x.key), .v (.int .i64 x.cnt), .v (.int .i64 x.sum)], .agg [.v (.int .i64 y.src), .v (.int .i64 y.key), .v (.int .i64 y.cnt), .v (.int .i64 y.sum)]] (fun rx rK rt => rx = .val (.int .i64 (cfK x y)) ∧ rK = [] ∧ rt = 0) := by
  refine Z.con_ofF tabOk 10 Try.f74 _ Try.func74 (by kernel_rfl) rfl rfl rfl rfl ?_
  have cc := compare_con x.src x.key 0 y.src y.key 0
  repeat' ((conv => whnf); first
    | with_reducible first | refine spB_t ?_
    | ((with_reducible apply spB_cong); (focus (simp only [beq_self_eq_true, bne_self_eq_false, Bool.true_bne, Bool.false_bne, Bool.bne_true, Bool.bne_false, Bool.true_beq, Bool.false_beq, Bool.not_true, Bool.not_false, Bool.not_not, Int.reduceBEq, Int.reduceBNe, Int.reduceLE, Int.reduceLT, Int.reduceEq, decide_true, decide_false]; rfl)))
    | with_reducible first | refine spB_yes (by decide) ?_ | refine spB_no (by decide) ?_ | refine spB_f ?_ | refine spB_not ?_ | refine spB_yes (by assumption) ?_ | refine spB_no (by assumption) ?_
    | (with_reducible refine spB_dec ?_ ?_ <;> intro _ <;> (try (exfalso; first | contradiction | omega | (rename_i hz; refine hz ?_; simp; done) | (rename_i hz; simp at hz; done) | (simp only [LN] at *; omega))))
    | (with_reducible refine spB_beq ?_ ?_ <;> intro _ <;> (try (exfalso; first | contradiction | omega | (rename_i hz; refine hz ?_; simp; done) | (rename_i hz; simp at hz; done) | (simp only [LN] at *; omega))))
    | (with_reducible refine spB_bne ?_ ?_ <;> intro _ <;> (try (exfalso; first | contradiction | omega | (rename_i hz; refine hz ?_; simp; done) | (rename_i hz; simp at hz; done) | (simp only [LN] at *; omega))))
    | (with_reducible refine spB_mk ?_ ?_ <;> intro _ <;> (try (exfalso; first | contradiction | omega | (rename_i hz; refine hz ?_; simp; done) | (rename_i hz; simp at hz; done) | (simp only [LN] at *; omega))))
    | ((with_reducible apply rowN_mk); (focus rfl))
    | ((with_reducible apply ixN_lit); (focus (exact rfl)); (focus (exact rfl)))
    | ((with_reducible apply ixN_litp); (focus (exact rfl)); (focus ((try simp only [LN] at *) <;> omega)))
    | ((with_reducible refine eqN_mk2 ?_ ?_); (focus rfl))
    | with_reducible refine wr_i64 (by first | omega | (simp only [LN] at *; omega)) ?_
    | with_reducible refine wr_u64 (by omega) ?_
    | with_reducible first | refine wr_mk _ rfl ?_
    | ((with_reducible refine ixN_nat ?_ ?_); (focus ((try simp only [LN] at *) <;> omega)))
    | ((with_reducible refine rowN_map ?_ ?_); (focus ((try simp only [LN] at *) <;> omega)); intro x hx)
    | with_reducible refine eqN_dec (by omega) ?_
    | with_reducible first | refine apN_mk (by kernel_rfl) ?_ | refine Z.callZ_in tabOk 8 Try.f49 _ Try.func49 (by kernel_rfl) rfl rfl rfl ?_
    | ((first | (with_reducible refine Z.conZ_mz ?_ (cc) ?_) | (with_reducible refine Z.callZ_mk ?_ (cc) ?_)); (focus ((repeat' (first | exact trivial | exact rfl | exact Z.low_nil | exact Z.low_nil2 | exact low_osl (fun _ => rfl) | (refine Z.low_osln ?_ (fun _ => rfl); (simp only [List.length_map]; done)) | exact low_oslr (fun _ => rfl) | exact Z.low_gslm (by first | rfl | exact Z.kb_some rfl) (fun _ => rfl) | exact .inl rfl | exact .inr ⟨_, rfl⟩ | apply And.intro)); done)))
    | ((with_reducible refine eqN_mk2 ?_ ?_); (focus (exact Z.kb_some rfl)))
    | ((with_reducible apply ex_and); exact rfl)
    | with_reducible first | refine Z.drawZ_rule tabOk mixOk ?_ | refine Z.apZ_mk (by kernel_rfl) ?_
    | ((with_reducible refine Z.ConZ.red ?_); (try subst hlb); (apply Z.conZ_all); (focus (repeat (first | exact Z.FK.nil | (apply Z.FK.keep; exact rfl)))); (focus rfl); (focus rfl); (focus (repeat (first | exact trivial | (refine ⟨(fun o ho => (by first | (cases ho; rfl) | (cases ho; exact Z.inL_map fun _ => rfl) | (cases ho; exact Z.inL_mapr fun _ => rfl) | exact Z.inL_gB ho fun _ => rfl)), ?_⟩)))))
    | ((refine ⟨rfl, ?_, rfl⟩); (focus (repeat (first | exact Z.DK.nil | apply Z.DK.cons))))
    | (focus (exact (rfl : Nat.ble _ _ = true))))
  all_goals (try (conv => whnf))
  all_goals try (show Nat.ble _ _ = true; rfl)
  all_goals first
    | ((first | (with_reducible apply Z.retF1) | (with_reducible apply Z.retF2) | (with_reducible apply Z.retF0)); (focus (exact rfl)); (repeat' (first | exact trivial | (with_reducible apply Z.frz_one) | (with_reducible apply Z.frz_agg) | (with_reducible apply Z.fq_int) | (with_reducible apply Z.fq_bool) | (exact Z.frz_nil) | (exact Z.frz_osl0 rfl rfl rfl) | (with_reducible apply Z.fq_nil) | (with_reducible apply Z.fq_ro) | ((with_reducible apply Z.fq_gsl); (focus (first | rfl | exact Z.isB_map _ | exact Z.gB_snoc.symm)); (focus (exact fun _ => rfl))) | ((with_reducible apply Z.fq_osl); (focus (exact rfl)); (focus (first | exact rfl | (simp only [List.length_map, Nat.zero_add]; done) | ((try simp only [LN] at *) <;> omega))); (focus (exact fun _ => rfl))) | ((with_reducible apply Z.fq_src); (focus (exact rfl)); (focus (first | exact rfl | (simp only [List.length_map, Nat.zero_add]; done) | ((try simp only [LN] at *) <;> omega))); (focus (exact fun _ => rfl))) | exact rfl | ((apply Z.fq_osl); (focus (exact rfl)); (focus (first | exact rfl | (simp only [List.length_map, Nat.zero_add]; done) | ((try simp only [LN] at *) <;> omega))); (focus (exact fun _ => rfl))) | ((apply Z.fq_src); (focus (exact rfl)); (focus (first | exact rfl | (simp only [List.length_map, Nat.zero_add]; done) | ((try simp only [LN] at *) <;> omega))); (focus (exact fun _ => rfl))) | (apply Z.fq_ro) | (apply Z.fq_int) | (apply Z.fq_bool) | apply And.intro)); (all_goals (try exact (fun _ => none))); all_goals (first | rfl | (simp; done)))
    | (exfalso; rename_i hz; cases hz; done)
    | (exfalso; (try simp only [LN] at *) <;> omega)
    | (fail)
end Go.Proofs.Ytehhmkdghgabaaa
namespace Go.Proofs.Ytehhmkdghgabaaa
open Go Go.RowKit Wx
set_option linter.unusedVariables false
set_option linter.unusedSimpArgs false
set_option maxHeartbeats 4000000
theorem get_pos {l : List Kc} {s k : Int} (h : tabR l = true) : getR l s k = if thereR l s k = true then (match l[posR l s k]? with | some x => (x.cnt, x.sum) | none => (0, 0)) else (0, 0) := by
  have hw := (tab_iff.1 h).2
  obtain ⟨h1, h2⟩ := eq_at (s := s) (k := k) hw
  unfold getR
  rw [← List.head?_filter]
  by_cases hl : (l.filter (eqK s k)).length = 1
  · obtain ⟨x, hx, he⟩ := h2.1 hl
    have ht : thereR l s k = true := by unfold thereR; rw [hx]; simp [he.1, he.2]
    rw [if_pos ht, hx]
    have hm : x ∈ l.filter (eqK s k) := List.mem_filter.2 ⟨List.mem_of_getElem? hx, decide_eq_true he⟩
    cases hf : l.filter (eqK s k) with
    | nil => rw [hf] at hm; cases hm
    | cons y r =>
      rw [hf] at hl hm
      have hr : r = [] := by simpa using hl
      subst hr
      rw [List.mem_singleton.1 hm]
      rfl
  · have h0 : l.filter (eqK s k) = [] := List.length_eq_zero_iff.1 (by omega)
    have ht : thereR l s k = false := by
      cases ht : thereR l s k with
      | false => rfl
      | true =>
        exfalso
        unfold thereR at ht
        cases hx : l[posR l s k]? with
        | none => rw [hx] at ht; cases ht
        | some x => rw [hx] at ht; exact hl (h2.2 ⟨x, hx, by simpa using ht⟩)
    rw [h0, ht]
    rfl
end Go.Proofs.Ytehhmkdghgabaaa
namespace Go.Proofs.Ytehhmkdghgabaaa
open Go Go.RowKit Wx
set_option linter.unusedVariables false
set_option linter.unusedSimpArgs false
set_option maxHeartbeats 4000000
def ownG (g w : Int) : Int := (g * w) / 8
def okS (i w : Int) : Prop := (1 ≤ w ∧ w ≤ 3) ∧ 0 ≤ i ∧ i < w
instance (i w : Int) : Decidable (okS i w) := by unfold okS; infer_instance
def mineB (s k i w : Int) : Bool := keyOk s k && (decide (okS i w) && decide (ownG (k % 8) w = i))
def partL (l : List Kc) (i w : Int) : List Kc := l.filter fun x => mineB x.src x.key i w
def partT (l : List Kc) (i w : Int) : List Kc × Int := if tabR l = false then ([], 220) else if okS i w then (partL l i w, 0) else ([], 2)
theorem part_at {l : List Kc} {j : Nat} {x : Kc} {i w : Int} (h : l[j]? = some x) : partL (l.take (j + 1)) i w = partL (l.take j) i w ++ (bif mineB x.src x.key i w then [x] else []) := by
  unfold partL
  rw [take_snoc h, List.filter_append]
  cases hm : mineB x.src x.key i w <;> simp [hm]
theorem part_len {l : List Kc} {i w : Int} : (partL l i w).length ≤ l.length := List.length_filter_le _ _
theorem share_con (i w : Int)  : Con Try.prog 85 [.one (.v (.int .i64 i)), .one (.v (.int .i64 w))] (fun rx rK rt => rx = .val (.bool (decide (okS i w))) ∧ rK = [] ∧ rt = 0) := by
  refine Z.con_ofF tabOk 16 Try.f85 _ Try.func85 (by kernel_rfl) rfl rfl rfl rfl ?_
  by_cases h : okS i w
  · rw [decide_eq_true h]
    unfold okS at h
    repeat' ((conv => whnf); first
      | with_reducible first | refine spB_t ?_
      | (with_reducible refine spB_dec ?_ ?_ <;> intro _ <;> (try (exfalso; first | contradiction | omega | (rename_i hz; refine hz ?_; simp; done) | (rename_i hz; simp at hz; done) | (simp only [LN] at *; omega))))
      | with_reducible first | refine Z.callZ_in tabOk 9 Try.f113 _ Try.func113 (by kernel_rfl) rfl rfl rfl ?_
      | ((with_reducible apply ex_and); exact rfl)
      | fail)
    all_goals (try (conv => whnf))
    all_goals try (show Nat.ble _ _ = true; rfl)
    all_goals try (exfalso; rename_i hz; cases hz; done)
    all_goals try (exfalso; (try simp only [LN] at *) <;> omega)
    all_goals first
      | ((first | (with_reducible apply Z.retF1)); (focus (exact rfl)); (repeat' (first | exact trivial | (with_reducible apply Z.frz_one) | (with_reducible apply Z.fq_bool) | apply And.intro)); (all_goals (try exact (fun _ => none))); all_goals (first | (simp_all; done)))
      | fail
  · rw [decide_eq_false h]
    unfold okS at h
    repeat' ((conv => whnf); first
      | with_reducible first | refine spB_t ?_
      | with_reducible first | refine spB_no (by decide) ?_
      | (with_reducible refine spB_dec ?_ ?_ <;> intro _ <;> (try (exfalso; first | contradiction | omega | (rename_i hz; refine hz ?_; simp; done) | (rename_i hz; simp at hz; done) | (simp only [LN] at *; omega))))
      | with_reducible first | refine Z.callZ_in tabOk 9 Try.f113 _ Try.func113 (by kernel_rfl) rfl rfl rfl ?_
      | ((with_reducible apply ex_and); exact rfl)
      | fail)
    all_goals (try (conv => whnf))
    all_goals try (show Nat.ble _ _ = true; rfl)
    all_goals try (exfalso; rename_i hz; cases hz; done)
    all_goals try (exfalso; (try simp only [LN] at *) <;> omega)
    all_goals first
      | ((first | (with_reducible apply Z.retF1)); (focus (exact rfl)); (repeat' (first | exact trivial | (with_reducible apply Z.frz_one) | (with_reducible apply Z.fq_bool) | exact rfl | apply And.intro)); (all_goals (try exact (fun _ => none))); all_goals (first | (simp_all; done)))
      | fail
theorem owners_1 : Con Try.prog 86 [.one (.v (.int .i64 1))] (fun rx rK rt => rx = .pl (.agg [.v (.int .i64 0), .v (.int .i64 0), .v (.int .i64 0), .v (.int .i64 0), .v (.int .i64 0), .v (.int .i64 0), .v (.int .i64 0), .v (.int .i64 0)]) ∧ rK = [] ∧ rt = 0) := Y.con_eval ftabOk tabOk mixOk 40 12 (by kernel_rfl) (by rfl) (by kernel_rfl)
theorem owners_2 : Con Try.prog 86 [.one (.v (.int .i64 2))] (fun rx rK rt => rx = .pl (.agg [.v (.int .i64 0), .v (.int .i64 0), .v (.int .i64 0), .v (.int .i64 0), .v (.int .i64 1), .v (.int .i64 1), .v (.int .i64 1), .v (.int .i64 1)]) ∧ rK = [] ∧ rt = 0) := Y.con_eval ftabOk tabOk mixOk 40 12 (by kernel_rfl) (by rfl) (by kernel_rfl)
theorem owners_3 : Con Try.prog 86 [.one (.v (.int .i64 3))] (fun rx rK rt => rx = .pl (.agg [.v (.int .i64 0), .v (.int .i64 0), .v (.int .i64 0), .v (.int .i64 1), .v (.int .i64 1), .v (.int .i64 1), .v (.int .i64 2), .v (.int .i64 2)]) ∧ rK = [] ∧ rt = 0) := Y.con_eval ftabOk tabOk mixOk 40 12 (by kernel_rfl) (by rfl) (by kernel_rfl)
theorem group_con (s k v : Int)  : Con Try.prog 87 [.agg [.v (.int .i64 s), .v (.int .i64 k), .v (.int .i64 v)]] (fun rx rK rt => rx = .val (.int .i64 (k.tmod 8)) ∧ rK = [] ∧ rt = 0) := by
  refine Z.con_ofF tabOk 6 Try.f87 _ Try.func87 (by kernel_rfl) rfl rfl rfl rfl ?_
  repeat' ((conv => whnf); first
    | with_reducible first | refine vN_mk ?_
    | with_reducible refine nzN_mk (by omega) ?_
    | fail)
  all_goals (try (conv => whnf))
  all_goals try (show Nat.ble _ _ = true; rfl)
  all_goals first
    | ((first | (with_reducible apply Z.retF1)); (focus (exact rfl)); (repeat' (first | exact trivial | (with_reducible apply Z.frz_one) | (with_reducible apply Z.fq_int) | exact rfl | apply And.intro)); (all_goals (try exact (fun _ => none))); all_goals (rfl))
    | fail
theorem owned_0_1 : ∃ L, Con Try.prog 68 [.one (.v (.int .i64 0)), .one (.v (.int .i64 1))] (fun rx rK rt => rx = .tup [.one (.ro true 1 L), .one (.v (.int .i64 0))] ∧ rK = [] ∧ rt = 0) := ⟨_, Z.con_fz [.one (.ro true 1 [[.v (.int .i64 0)], [.v (.int .i64 1)], [.v (.int .i64 2)], [.v (.int .i64 3)], [.v (.int .i64 4)], [.v (.int .i64 5)], [.v (.int .i64 6)], [.v (.int .i64 7)]]), .one (.v (.int .i64 0))] (xs := [.one (.osl 17 0 8 none), .one (.v (.int .i64 0))]) (K0 := [(17, some ⟨[[.v (.int .i64 0)], [.v (.int .i64 1)], [.v (.int .i64 2)], [.v (.int .i64 3)], [.v (.int .i64 4)], [.v (.int .i64 5)], [.v (.int .i64 6)], [.v (.int .i64 7)]], 1, 3, false⟩)]) (t0 := 18) (Y.con_evalK ftabOk tabOk mixOk 40 12 (by kernel_rfl) (by rfl) (by kernel_rfl)) ⟨⟨_, rfl, rfl, rfl⟩, rfl, trivial⟩⟩
theorem owned_0_2 : ∃ L, Con Try.prog 68 [.one (.v (.int .i64 0)), .one (.v (.int .i64 2))] (fun rx rK rt => rx = .tup [.one (.ro true 1 L), .one (.v (.int .i64 0))] ∧ rK = [] ∧ rt = 0) := ⟨_, Z.con_fz [.one (.ro true 1 [[.v (.int .i64 0)], [.v (.int .i64 1)], [.v (.int .i64 2)], [.v (.int .i64 3)]]), .one (.v (.int .i64 0))] (xs := [.one (.osl 9 0 4 none), .one (.v (.int .i64 0))]) (K0 := [(9, some ⟨[[.v (.int .i64 0)], [.v (.int .i64 1)], [.v (.int .i64 2)], [.v (.int .i64 3)]], 1, 3, false⟩)]) (t0 := 10) (Y.con_evalK ftabOk tabOk mixOk 40 12 (by kernel_rfl) (by rfl) (by kernel_rfl)) ⟨⟨_, rfl, rfl, rfl⟩, rfl, trivial⟩⟩
theorem owned_1_2 : ∃ L, Con Try.prog 68 [.one (.v (.int .i64 1)), .one (.v (.int .i64 2))] (fun rx rK rt => rx = .tup [.one (.ro true 1 L), .one (.v (.int .i64 0))] ∧ rK = [] ∧ rt = 0) := ⟨_, Z.con_fz [.one (.ro true 1 [[.v (.int .i64 4)], [.v (.int .i64 5)], [.v (.int .i64 6)], [.v (.int .i64 7)]]), .one (.v (.int .i64 0))] (xs := [.one (.osl 9 0 4 none), .one (.v (.int .i64 0))]) (K0 := [(9, some ⟨[[.v (.int .i64 4)], [.v (.int .i64 5)], [.v (.int .i64 6)], [.v (.int .i64 7)]], 1, 3, false⟩)]) (t0 := 10) (Y.con_evalK ftabOk tabOk mixOk 40 12 (by kernel_rfl) (by rfl) (by kernel_rfl)) ⟨⟨_, rfl, rfl, rfl⟩, rfl, trivial⟩⟩
theorem owned_0_3 : ∃ L, Con Try.prog 68 [.one (.v (.int .i64 0)), .one (.v (.int .i64 3))] (fun rx rK rt => rx = .tup [.one (.ro true 1 L), .one (.v (.int .i64 0))] ∧ rK = [] ∧ rt = 0) := ⟨_, Z.con_fz [.one (.ro true 1 [[.v (.int .i64 0)], [.v (.int .i64 1)], [.v (.int .i64 2)]]), .one (.v (.int .i64 0))] (xs := [.one (.osl 7 0 3 none), .one (.v (.int .i64 0))]) (K0 := [(7, some ⟨[[.v (.int .i64 0)], [.v (.int .i64 1)], [.v (.int .i64 2)]], 1, 3, false⟩)]) (t0 := 8) (Y.con_evalK ftabOk tabOk mixOk 40 12 (by kernel_rfl) (by rfl) (by kernel_rfl)) ⟨⟨_, rfl, rfl, rfl⟩, rfl, trivial⟩⟩
theorem owned_1_3 : ∃ L, Con Try.prog 68 [.one (.v (.int .i64 1)), .one (.v (.int .i64 3))] (fun rx rK rt => rx = .tup [.one (.ro true 1 L), .one (.v (.int .i64 0))] ∧ rK = [] ∧ rt = 0) := ⟨_, Z.con_fz [.one (.ro true 1 [[.v (.int .i64 3)], [.v (.int .i64 4)], [.v (.int .i64 5)]]), .one (.v (.int .i64 0))] (xs := [.one (.osl 7 0 3 none), .one (.v (.int .i64 0))]) (K0 := [(7, some ⟨[[.v (.int .i64 3)], [.v (.int .i64 4)], [.v (.int .i64 5)]], 1, 3, false⟩)]) (t0 := 8) (Y.con_evalK ftabOk tabOk mixOk 40 12 (by kernel_rfl) (by rfl) (by kernel_rfl)) ⟨⟨_, rfl, rfl, rfl⟩, rfl, trivial⟩⟩
theorem owned_2_3 : ∃ L, Con Try.prog 68 [.one (.v (.int .i64 2)), .one (.v (.int .i64 3))] (fun rx rK rt => rx = .tup [.one (.ro true 1 L), .one (.v (.int .i64 0))] ∧ rK = [] ∧ rt = 0) := ⟨_, Z.con_fz [.one (.ro true 1 [[.v (.int .i64 6)], [.v (.int .i64 7)]]), .one (.v (.int .i64 0))] (xs := [.one (.osl 5 0 2 none), .one (.v (.int .i64 0))]) (K0 := [(5, some ⟨[[.v (.int .i64 6)], [.v (.int .i64 7)]], 1, 3, false⟩)]) (t0 := 6) (Y.con_evalK ftabOk tabOk mixOk 40 12 (by kernel_rfl) (by rfl) (by kernel_rfl)) ⟨⟨_, rfl, rfl, rfl⟩, rfl, trivial⟩⟩
theorem owned_ok (i w : Int) (h : okS i w) : ∃ L, Con Try.prog 68 [.one (.v (.int .i64 i)), .one (.v (.int .i64 w))] (fun rx rK rt => rx = .tup [.one (.ro true 1 L), .one (.v (.int .i64 0))] ∧ rK = [] ∧ rt = 0) := by
  have hc : (i = 0 ∧ w = 1) ∨ (i = 0 ∧ w = 2) ∨ (i = 1 ∧ w = 2) ∨ (i = 0 ∧ w = 3) ∨ (i = 1 ∧ w = 3) ∨ (i = 2 ∧ w = 3) := by unfold okS at h; omega
  rcases hc with ⟨rfl, rfl⟩ | ⟨rfl, rfl⟩ | ⟨rfl, rfl⟩ | ⟨rfl, rfl⟩ | ⟨rfl, rfl⟩ | ⟨rfl, rfl⟩
  · exact owned_0_1
  · exact owned_0_2
  · exact owned_1_2
  · exact owned_0_3
  · exact owned_1_3
  · exact owned_2_3
theorem owned_bad (i w : Int) (h : ¬ okS i w) : Con Try.prog 68 [.one (.v (.int .i64 i)), .one (.v (.int .i64 w))] (fun rx rK rt => rx = .tup [.one (.ro true 1 []), .one (.v (.int .i64 2))] ∧ rK = [] ∧ rt = 0) := by
  refine Z.con_ofF tabOk 29 Try.f68 _ Try.func68 (by kernel_rfl) rfl rfl rfl rfl ?_
  have csh := share_con i w
  rw [decide_eq_false h] at csh
  repeat' ((conv => whnf); first
    | with_reducible first | refine spB_t ?_
    | ((with_reducible apply spB_cong); (focus (simp only [beq_self_eq_true, bne_self_eq_false, Bool.true_bne, Bool.false_bne, Bool.bne_true, Bool.bne_false, Bool.true_beq, Bool.false_beq, Bool.not_true, Bool.not_false, Bool.not_not, Int.reduceBEq, Int.reduceBNe, Int.reduceLE, Int.reduceLT, Int.reduceEq, decide_true, decide_false]; rfl)))
    | ((first | (with_reducible refine Z.callZ_mk ?_ (csh) ?_)); (focus ((repeat' (first | exact trivial | exact rfl | apply And.intro)); done)))
    | fail)
  all_goals (try (conv => whnf))
  all_goals try (show Nat.ble _ _ = true; rfl)
  all_goals try (exfalso; rename_i hz; cases hz; done)
  all_goals try (exfalso; (try simp only [LN] at *) <;> omega)
  all_goals first
    | ((first | (with_reducible apply Z.retF2)); (focus (exact rfl)); (repeat' (first | exact trivial | (with_reducible apply Z.frz_one) | (with_reducible apply Z.fq_int) | (exact Z.frz_nil) | exact rfl | apply And.intro)); (all_goals (try exact (fun _ => none))); all_goals (first | (simp_all; done)))
    | fail
end Go.Proofs.Ytehhmkdghgabaaa
namespace Go.Proofs.Ytehhmkdghgabaaa
open Go Go.RowKit Wx
set_option linter.unusedVariables false
set_option linter.unusedSimpArgs false
set_option maxHeartbeats 4000000
theorem mine_in (s k v i w : Int) (c0 c1 c2 c3 c4 c5 c6 c7 : Int) (hk : keyOk s k = true) (hs : okS i w) (cow : Con Try.prog 86 [.one (.v (.int .i64 w))] (fun rx rK rt => rx = .pl (.agg [.v (.int .i64 c0), .v (.int .i64 c1), .v (.int .i64 c2), .v (.int .i64 c3), .v (.int .i64 c4), .v (.int .i64 c5), .v (.int .i64 c6), .v (.int .i64 c7)]) ∧ rK = [] ∧ rt = 0)) : Con Try.prog 42 [.agg [.v (.int .i64 s), .v (.int .i64 k), .v (.int .i64 v)], .one (.v (.int .i64 i)), .one (.v (.int .i64 w))] (fun rx rK rt => rx = .val (.bool (decide ((([c0, c1, c2, c3, c4, c5, c6, c7] : List Int).getD (k % 8).toNat 0) = i))) ∧ rK = [] ∧ rt = 0) := by
  refine Z.con_ofF tabOk 24 Try.f42 _ Try.func42 (by kernel_rfl) rfl rfl rfl rfl ?_
  have ck := rec_con s k v
  have csh := share_con i w
  rw [hk] at ck
  rw [decide_eq_true hs] at csh
  try simp only [cond_true] at ck
  have hk2 := keyOk_iff.1 hk
  have cg := group_con s k v
  rw [show k.tmod 8 = k % 8 from Int.tmod_eq_emod_of_nonneg (by omega)] at cg
  have hj : k % 8 = 0 ∨ k % 8 = 1 ∨ k % 8 = 2 ∨ k % 8 = 3 ∨ k % 8 = 4 ∨ k % 8 = 5 ∨ k % 8 = 6 ∨ k % 8 = 7 := by omega
  rcases hj with hj | hj | hj | hj | hj | hj | hj | hj
  all_goals rw [hj] at cg ⊢
  all_goals (
    repeat' ((conv => whnf); first
      | with_reducible first | refine spB_t ?_
      | ((with_reducible apply spB_cong); (focus (simp only [beq_self_eq_true, bne_self_eq_false, Bool.true_bne, Bool.false_bne, Bool.bne_true, Bool.bne_false, Bool.true_beq, Bool.false_beq, Bool.not_true, Bool.not_false, Bool.not_not, Int.reduceBEq, Int.reduceBNe, Int.reduceLE, Int.reduceLT, Int.reduceEq, decide_true, decide_false]; rfl)))
      | ((with_reducible apply ixN_lit); (focus (exact rfl)); (focus (exact rfl)))
      | ((first | (with_reducible refine Z.conZ_mz ?_ (ck) ?_) | (with_reducible refine Z.conZ_mz ?_ (csh) ?_) | (with_reducible refine Z.conZ_mz ?_ (cow) ?_) | (with_reducible refine Z.conZ_mz ?_ (cg) ?_)); (focus ((repeat' (first | exact trivial | exact rfl | apply And.intro)); done)))
      | with_reducible first | refine Z.drawZ_rule tabOk mixOk ?_ | refine Z.apZ_mk (by kernel_rfl) ?_
      | fail)
    all_goals (try (conv => whnf))
    all_goals try (show Nat.ble _ _ = true; rfl)
    all_goals try (exfalso; rename_i hz; cases hz; done)
    all_goals try (exfalso; (try simp only [LN] at *) <;> omega)
    all_goals first
      | ((first | (with_reducible apply Z.retF1)); (focus (exact rfl)); (repeat' (first | exact trivial | (with_reducible apply Z.frz_one) | (with_reducible apply Z.fq_bool) | exact rfl | apply And.intro)); (all_goals (try exact (fun _ => none))); all_goals (first | (simp_all; done)))
      | fail
    )
theorem mine_rec (s k v i w : Int) (hk : keyOk s k = false) : Con Try.prog 42 [.agg [.v (.int .i64 s), .v (.int .i64 k), .v (.int .i64 v)], .one (.v (.int .i64 i)), .one (.v (.int .i64 w))] (fun rx rK rt => rx = .val (.bool false) ∧ rK = [] ∧ rt = 0) := by
  refine Z.con_ofF tabOk 24 Try.f42 _ Try.func42 (by kernel_rfl) rfl rfl rfl rfl ?_
  have ck := rec_con s k v
  have csh := share_con i w
  rw [hk] at ck
  try simp only [cond_false] at ck
  repeat' ((conv => whnf); first
    | ((with_reducible apply spB_cong); (focus (simp only [beq_self_eq_true, bne_self_eq_false, Bool.true_bne, Bool.false_bne, Bool.bne_true, Bool.bne_false, Bool.true_beq, Bool.false_beq, Bool.not_true, Bool.not_false, Bool.not_not, Int.reduceBEq, Int.reduceBNe, Int.reduceLE, Int.reduceLT, Int.reduceEq, decide_true, decide_false]; rfl)))
    | with_reducible first | refine spB_no (by decide) ?_
    | ((first | (with_reducible refine Z.conZ_mz ?_ (ck) ?_)); (focus ((repeat' (first | exact trivial | exact rfl | apply And.intro)); done)))
    | with_reducible first | refine Z.drawZ_rule tabOk mixOk ?_ | refine Z.apZ_mk (by kernel_rfl) ?_
    | fail)
  all_goals (try (conv => whnf))
  all_goals try (show Nat.ble _ _ = true; rfl)
  all_goals try (exfalso; rename_i hz; cases hz; done)
  all_goals try (exfalso; (try simp only [LN] at *) <;> omega)
  all_goals first
    | ((first | (with_reducible apply Z.retF1)); (focus (exact rfl)); (repeat' (first | exact trivial | (with_reducible apply Z.frz_one) | (with_reducible apply Z.fq_bool) | exact rfl | apply And.intro)); (all_goals (try exact (fun _ => none))); all_goals (first | (simp_all; done)))
    | fail
theorem mine_sh (s k v i w : Int) (hk : keyOk s k = true) (hs : ¬ okS i w) : Con Try.prog 42 [.agg [.v (.int .i64 s), .v (.int .i64 k), .v (.int .i64 v)], .one (.v (.int .i64 i)), .one (.v (.int .i64 w))] (fun rx rK rt => rx = .val (.bool false) ∧ rK = [] ∧ rt = 0) := by
  refine Z.con_ofF tabOk 24 Try.f42 _ Try.func42 (by kernel_rfl) rfl rfl rfl rfl ?_
  have ck := rec_con s k v
  have csh := share_con i w
  rw [hk] at ck
  rw [decide_eq_false hs] at csh
  try simp only [cond_true] at ck
  repeat' ((conv => whnf); first
    | with_reducible first | refine spB_t ?_
    | ((with_reducible apply spB_cong); (focus (simp only [beq_self_eq_true, bne_self_eq_false, Bool.true_bne, Bool.false_bne, Bool.bne_true, Bool.bne_false, Bool.true_beq, Bool.false_beq, Bool.not_true, Bool.not_false, Bool.not_not, Int.reduceBEq, Int.reduceBNe, Int.reduceLE, Int.reduceLT, Int.reduceEq, decide_true, decide_false]; rfl)))
    | with_reducible first | refine spB_no (by decide) ?_
    | ((first | (with_reducible refine Z.conZ_mz ?_ (ck) ?_) | (with_reducible refine Z.conZ_mz ?_ (csh) ?_)); (focus ((repeat' (first | exact trivial | exact rfl | apply And.intro)); done)))
    | with_reducible first | refine Z.drawZ_rule tabOk mixOk ?_ | refine Z.apZ_mk (by kernel_rfl) ?_
    | fail)
  all_goals (try (conv => whnf))
  all_goals try (show Nat.ble _ _ = true; rfl)
  all_goals try (exfalso; rename_i hz; cases hz; done)
  all_goals try (exfalso; (try simp only [LN] at *) <;> omega)
  all_goals first
    | ((first | (with_reducible apply Z.retF1)); (focus (exact rfl)); (repeat' (first | exact trivial | (with_reducible apply Z.frz_one) | (with_reducible apply Z.fq_bool) | exact rfl | apply And.intro)); (all_goals (try exact (fun _ => none))); all_goals (first | (simp_all; done)))
    | fail
theorem mine_con (s k v i w : Int) : Con Try.prog 42 [.agg [.v (.int .i64 s), .v (.int .i64 k), .v (.int .i64 v)], .one (.v (.int .i64 i)), .one (.v (.int .i64 w))] (fun rx rK rt => rx = .val (.bool (mineB s k i w)) ∧ rK = [] ∧ rt = 0) := by
  unfold mineB
  cases hk : keyOk s k
  · simp only [Bool.false_and]
    exact mine_rec s k v i w hk
  by_cases hs : okS i w
  rotate_left
  · rw [decide_eq_false hs]
    simp only [Bool.true_and, Bool.false_and]
    exact mine_sh s k v i w hk hs
  rw [decide_eq_true hs]
  simp only [Bool.true_and]
  have hk2 := keyOk_iff.1 hk
  have hw : w = 1 ∨ w = 2 ∨ w = 3 := by unfold okS at hs; omega
  have hj : k % 8 = 0 ∨ k % 8 = 1 ∨ k % 8 = 2 ∨ k % 8 = 3 ∨ k % 8 = 4 ∨ k % 8 = 5 ∨ k % 8 = 6 ∨ k % 8 = 7 := by omega
  rcases hw with rfl | rfl | rfl
  · have h := mine_in s k v i 1 _ _ _ _ _ _ _ _ hk hs owners_1
    have e : ([0, 0, 0, 0, 0, 0, 0, 0] : List Int).getD (k % 8).toNat 0 = ownG (k % 8) 1 := by rcases hj with hj | hj | hj | hj | hj | hj | hj | hj <;> rw [hj] <;> decide
    rw [e] at h
    exact h
  · have h := mine_in s k v i 2 _ _ _ _ _ _ _ _ hk hs owners_2
    have e : ([0, 0, 0, 0, 1, 1, 1, 1] : List Int).getD (k % 8).toNat 0 = ownG (k % 8) 2 := by rcases hj with hj | hj | hj | hj | hj | hj | hj | hj <;> rw [hj] <;> decide
    rw [e] at h
    exact h
  · have h := mine_in s k v i 3 _ _ _ _ _ _ _ _ hk hs owners_3
    have e : ([0, 0, 0, 1, 1, 1, 2, 2] : List Int).getD (k % 8).toNat 0 = ownG (k % 8) 3 := by rcases hj with hj | hj | hj | hj | hj | hj | hj | hj <;> rw [hj] <;> decide
    rw [e] at h
    exact h
end Go.Proofs.Ytehhmkdghgabaaa
namespace Go.Proofs.Ytehhmkdghgabaaa
open Go Go.RowKit Wx
set_option linter.unusedVariables false
set_option linter.unusedSimpArgs false
set_option maxHeartbeats 4000000
theorem part_tab (l : List Kc) (a w : Int) (hl : l.length ≤ 1000) (ht : tabR l = false) : Con Try.prog 33 [.agg [.ro false 4 (l.map eK)], .one (.v (.int .i64 a)), .one (.v (.int .i64 w))] (fun rx rK rt => rx = .tup [.agg [.ro true 4 (([] : List Kc).map eK)], .one (.v (.int .i64 220))] ∧ rK = [] ∧ rt = 0) := by
  refine Z.con_ofF tabOk 41 Try.f33 _ Try.func33 (by kernel_rfl) rfl rfl rfl rfl ?_
  have cc := check_con l (by omega)
  rw [ht] at cc
  simp only [cond_false] at cc
  repeat' ((conv => whnf); first
    | with_reducible first | refine spB_t ?_
    | ((with_reducible apply spB_cong); (focus (simp only [beq_self_eq_true, bne_self_eq_false, Bool.true_bne, Bool.false_bne, Bool.bne_true, Bool.bne_false, Bool.true_beq, Bool.false_beq, Bool.not_true, Bool.not_false, Bool.not_not, Int.reduceBEq, Int.reduceBNe, Int.reduceLE, Int.reduceLT, Int.reduceEq, decide_true, decide_false]; rfl)))
    | ((first | (with_reducible refine Z.callZ_mk ?_ (cc) ?_)); (focus ((repeat' (first | exact trivial | exact rfl | apply And.intro)); done)))
    | fail)
  all_goals (try (conv => whnf))
  all_goals try (show Nat.ble _ _ = true; rfl)
  all_goals try (exfalso; rename_i hz; cases hz; done)
  all_goals try (exfalso; (try simp only [LN] at *) <;> omega)
  all_goals first
    | ((first | (with_reducible apply Z.retF2)); (focus (exact rfl)); (repeat' (first | exact trivial | (with_reducible apply Z.frz_agg) | (exact Z.frz_nil) | exact rfl | apply And.intro)); (all_goals (try exact (fun _ => none))); all_goals (first | (simp; done)))
    | fail
theorem part_sh (l : List Kc) (a w : Int) (hl : l.length ≤ 1000) (ht : tabR l = true) (hs : ¬ okS a w) : Con Try.prog 33 [.agg [.ro false 4 (l.map eK)], .one (.v (.int .i64 a)), .one (.v (.int .i64 w))] (fun rx rK rt => rx = .tup [.agg [.ro true 4 (([] : List Kc).map eK)], .one (.v (.int .i64 2))] ∧ rK = [] ∧ rt = 0) := by
  refine Z.con_ofF tabOk 41 Try.f33 _ Try.func33 (by kernel_rfl) rfl rfl rfl rfl ?_
  have cc := check_con l (by omega)
  rw [ht] at cc
  simp only [cond_true] at cc
  have cow := owned_bad a w hs
  repeat' ((conv => whnf); first
    | with_reducible first | refine spB_t ?_
    | ((with_reducible apply spB_cong); (focus (simp only [beq_self_eq_true, bne_self_eq_false, Bool.true_bne, Bool.false_bne, Bool.bne_true, Bool.bne_false, Bool.true_beq, Bool.false_beq, Bool.not_true, Bool.not_false, Bool.not_not, Int.reduceBEq, Int.reduceBNe, Int.reduceLE, Int.reduceLT, Int.reduceEq, decide_true, decide_false]; rfl)))
    | with_reducible first | refine spB_no (by decide) ?_
    | ((first | (with_reducible refine Z.callZ_mk ?_ (cc) ?_) | (with_reducible refine Z.callZ_mk ?_ (cow) ?_)); (focus ((repeat' (first | exact trivial | exact rfl | apply And.intro)); done)))
    | fail)
  all_goals (try (conv => whnf))
  all_goals try (show Nat.ble _ _ = true; rfl)
  all_goals try (exfalso; rename_i hz; cases hz; done)
  all_goals try (exfalso; (try simp only [LN] at *) <;> omega)
  all_goals first
    | ((first | (with_reducible apply Z.retF2)); (focus (exact rfl)); (repeat' (first | exact trivial | (with_reducible apply Z.frz_agg) | (exact Z.frz_nil) | exact rfl | apply And.intro)); (all_goals (try exact (fun _ => none))); all_goals (first | (simp; done)))
    | fail
end Go.Proofs.Ytehhmkdghgabaaa
namespace Go.Proofs.Ytehhmkdghgabaaa
open Go Go.RowKit Wx
set_option linter.unusedVariables false
set_option linter.unusedSimpArgs false
set_option maxHeartbeats 4000000
theorem part_ok (l : List Kc) (a w : Int) (hl : l.length ≤ 1000) (ht : tabR l = true) (hs : okS a w) : Con Try.prog 33 [.agg [.ro false 4 (l.map eK)], .one (.v (.int .i64 a)), .one (.v (.int .i64 w))] (fun rx rK rt => rx = .tup [.agg [.ro true 4 ((partL l a w : List Kc).map eK)], .one (.v (.int .i64 0))] ∧ rK = [] ∧ rt = 0) := by
  refine Z.con_ofF tabOk 41 Try.f33 _ Try.func33 (by kernel_rfl) rfl rfl rfl rfl ?_
  have cc := check_con l (by omega)
  rw [ht] at cc
  simp only [cond_true] at cc
  obtain ⟨L, cow⟩ := owned_ok a w hs
  repeat' ((conv => whnf); first
    | ((with_reducible apply spB_cong); (focus (simp only [beq_self_eq_true, bne_self_eq_false, Bool.true_bne, Bool.false_bne, Bool.bne_true, Bool.bne_false, Bool.true_beq, Bool.false_beq, Bool.not_true, Bool.not_false, Bool.not_not, Int.reduceBEq, Int.reduceBNe, Int.reduceLE, Int.reduceLT, Int.reduceEq, decide_true, decide_false]; rfl)))
    | with_reducible first | refine spB_no (by decide) ?_
    | with_reducible first | refine Z.callZ_in tabOk 26 Try.f104 _ Try.func104 (by kernel_rfl) rfl rfl rfl ?_ | refine Z.callZ_in tabOk 8 Try.f69 _ Try.func69 (by kernel_rfl) rfl rfl rfl ?_
    | ((first | (with_reducible refine Z.callZ_mk ?_ (cc) ?_) | (with_reducible refine Z.callZ_mk ?_ (cow) ?_)); (focus ((repeat' (first | exact trivial | exact rfl | apply And.intro)); done)))
    | ((with_reducible apply ex_and); exact rfl)
    | ((with_reducible refine Z.RangeZ.red ?_); (refine Z.range_rule [(6, _), (11, _), (32, _)] rfl ⟨rfl, rfl, rfl, trivial⟩ rfl rfl ?_); intro lb hlb)
    | fail)
  all_goals (try (conv => whnf))
  all_goals try (show Nat.ble _ _ = true; rfl)
  all_goals try (exfalso; rename_i hz; cases hz; done)
  all_goals try (exfalso; (try simp only [LN] at *) <;> omega)
  refine Z.loopK tabOk (fun zq : Nat × List Kc => [(10, .val (.int .i64 (zq.1 : Int)))]) (fun zq : Nat × List Kc => ([(2, some (Z.Ob.b ⟨[[.gsl 7 (zq.2.map cK)]], 1, 30, true⟩)), (7, (gB 4 74 (zq.2.map cK)).map Z.Ob.b)] : Z.Kr)) (fun zq => zq.1 ≤ l.length ∧ zq.2 = partL (l.take zq.1) a w) (fun zq => l.length - zq.1) (0, []) 8 [(0, _), (2, _), (3, _), (8, _), (9, _)] ⟨rfl, rfl, rfl, rfl, rfl, trivial⟩ [(0, some _), (1, some _), (3, some _), (4, some _), (5, some _), (6, some _)] ⟨rfl, rfl, rfl, rfl, rfl, rfl, trivial⟩ ?_ ?_ rfl rfl ⟨Nat.zero_le _, by simp [partL]⟩ ?_
  · repeat' (first | exact trivial | apply And.intro | exact ⟨_, rfl, Z.Imp.refl _⟩)
  · repeat' (first | exact trivial | (intro b hb; cases hb; done) | (intro b hb; cases hb; refine ⟨_, rfl, ⟨rfl, rfl, rfl⟩, ?_⟩; (repeat' (first | exact trivial | apply And.intro | exact Z.Imp.nilg _)); done) | apply And.intro)
  rintro ⟨i, acc⟩ HINV
  (try dsimp only at HINV); (try dsimp only)
  obtain ⟨HI, HA⟩ := HINV
  have hpl := @part_len (l.take i) a w
  rw [List.length_take, ← HA] at hpl
  by_cases hi2 : i < l.length
  · obtain ⟨x, hx⟩ := getElem?_some' (xs := l) (i := i) hi2
    have hpa := part_at (i := a) (w := w) hx
    rw [← HA] at hpa
    have cm := mine_con x.src x.key 0 a w
    cases hm : mineB x.src x.key a w
    all_goals rw [hm] at cm hpa
    all_goals simp only [cond_true, cond_false, List.append_nil] at hpa
    · skip
      repeat' ((conv => whnf); first
        | with_reducible first | refine spB_no (by decide) ?_
        | (with_reducible refine spB_dec ?_ ?_ <;> intro _ <;> (try (exfalso; first | contradiction | omega | (rename_i hz; refine hz ?_; simp; done) | (rename_i hz; simp at hz; done) | (simp only [LN] at *; omega))))
        | with_reducible first | refine Z.rowN_known hx ?_
        | ((with_reducible apply ixN_litp); (focus (exact rfl)); (focus ((try simp only [LN] at *) <;> omega)))
        | with_reducible refine wr_i64 (by first | omega | (simp only [LN] at *; omega)) ?_
        | with_reducible first | refine Z.callZ_in tabOk 8 Try.f49 _ Try.func49 (by kernel_rfl) rfl rfl rfl ?_
        | ((first | (with_reducible refine Z.conZ_mz ?_ (cm) ?_)); (focus ((repeat' (first | exact trivial | exact rfl | apply And.intro)); done)))
        | ((with_reducible apply ex_and); exact rfl)
        | with_reducible first | refine Z.drawZ_rule tabOk mixOk ?_ | refine Z.apZ_mk (by kernel_rfl) ?_
        | ((with_reducible refine Z.ConZ.red ?_); (try subst hlb); (apply Z.conZ_all); (focus (repeat (first | exact Z.FK.nil | (apply Z.FK.keep; exact rfl)))); (focus rfl); (focus rfl); (focus (repeat (first | exact trivial | (refine ⟨(fun o ho => (by first | (cases ho; rfl) | (cases ho; exact Z.inL_map fun _ => rfl) | (cases ho; exact Z.inL_mapr fun _ => rfl) | exact Z.inL_gB ho fun _ => rfl)), ?_⟩)))))
        | ((refine ⟨rfl, ?_, rfl⟩); (focus (repeat (first | exact Z.DK.nil | apply Z.DK.cons))))
        | fail)
      all_goals (try (conv => whnf))
      all_goals try (show Nat.ble _ _ = true; rfl)
      all_goals try (exfalso; rename_i hz; cases hz; done)
      all_goals try (exfalso; (try simp only [LN] at *) <;> omega)
      all_goals first
        | ((refine Z.rndK ((i + 1, acc)) (fun s => [0, 1, 2, 3, 4, 5, 6, s.idIn 2 0]) rfl rfl rfl rfl ?_ ?_ ?_ ?_); (focus (repeat' (first | exact trivial | exact rfl | apply And.intro))); (focus (repeat' (first | exact trivial | (intro b hb; cases hb; rfl) | exact Z.gB_sub rfl rfl (ren_map fun _ => rfl) | apply And.intro))); (focus (exact ⟨by (try dsimp only); omega, hpa.symm⟩)); ((try dsimp only); omega))
        | fail
    · skip
      repeat' ((conv => whnf); first
        | with_reducible first | refine spB_t ?_
        | ((with_reducible apply spB_cong); (focus (simp only [beq_self_eq_true, bne_self_eq_false, Bool.true_bne, Bool.false_bne, Bool.bne_true, Bool.bne_false, Bool.true_beq, Bool.false_beq, Bool.not_true, Bool.not_false, Bool.not_not, Int.reduceBEq, Int.reduceBNe, Int.reduceLE, Int.reduceLT, Int.reduceEq, decide_true, decide_false]; rfl)))
        | with_reducible first | refine spB_no (by decide) ?_
        | (with_reducible refine spB_dec ?_ ?_ <;> intro _ <;> (try (exfalso; first | contradiction | omega | (rename_i hz; refine hz ?_; simp; done) | (rename_i hz; simp at hz; done) | (simp only [LN] at *; omega))))
        | with_reducible first | refine Z.rowN_known hx ?_
        | ((with_reducible refine posE_pos ?_ ?_); (focus ((try simp only [LN] at *) <;> omega)))
        | ((with_reducible apply ixN_litp); (focus (exact rfl)); (focus ((try simp only [LN] at *) <;> omega)))
        | ((with_reducible refine apdN.mk ?_ ?_ ?_ ?_ ?_ ?_); (focus (first | rfl)); (focus (first | exact one_all (by rfl))); (focus ((try simp only [LN] at *) <;> omega)); (focus ((try simp only [LN] at *) <;> omega)); (focus ((try simp only [LN] at *) <;> omega)))
        | with_reducible refine wr_i64 (by first | omega | (simp only [LN] at *; omega)) ?_
        | with_reducible first | refine Z.callZ_in tabOk 8 Try.f49 _ Try.func49 (by kernel_rfl) rfl rfl rfl ?_
        | ((first | (with_reducible refine Z.conZ_mz ?_ (cm) ?_)); (focus ((repeat' (first | exact trivial | exact rfl | apply And.intro)); done)))
        | ((with_reducible refine eqN_mk2 ?_ ?_); (focus (exact Z.kb_some rfl)))
        | ((with_reducible apply ex_and); exact rfl)
        | ((with_reducible refine Z.CallZ.yl ?_); refine Z.yield_rule tabOk _ _ rfl rfl rfl rfl ?_)
        | with_reducible first | refine Z.drawZ_rule tabOk mixOk ?_ | refine Z.apZ_mk (by kernel_rfl) ?_
        | ((with_reducible refine Z.ConZ.red ?_); (try subst hlb); (apply Z.conZ_all); (focus (repeat (first | exact Z.FK.nil | (apply Z.FK.keep; exact rfl)))); (focus rfl); (focus rfl); (focus (repeat (first | exact trivial | (refine ⟨(fun o ho => (by first | (cases ho; rfl) | (cases ho; exact Z.inL_map fun _ => rfl) | (cases ho; exact Z.inL_mapr fun _ => rfl) | exact Z.inL_gB ho fun _ => rfl)), ?_⟩)))))
        | ((refine ⟨rfl, ?_, rfl⟩); (focus (repeat (first | exact Z.DK.nil | apply Z.DK.cons))))
        | fail)
      all_goals (try (conv => whnf))
      all_goals try (show Nat.ble _ _ = true; rfl)
      all_goals try (exfalso; rename_i hz; cases hz; done)
      all_goals try (exfalso; (try simp only [LN] at *) <;> omega)
      all_goals first
        | ((refine Z.rndK ((i + 1, acc ++ [x])) (fun s => [0, 1, 2, 3, 4, 5, 6, s.idIn 2 0]) rfl rfl rfl rfl ?_ ?_ ?_ ?_); (focus (repeat' (first | exact trivial | exact rfl | apply And.intro))); (focus (repeat' (first | exact trivial | (intro b hb; cases hb; rfl) | (intro b hb; cases hb; rw [List.map_append (f := cK)]; rfl) | exact Z.gB_sub' rfl (by first | rfl | (rw [List.map_append]; rfl) | simp only [List.map_append, List.map_cons, List.map_nil]) (ren_map fun _ => rfl) | apply And.intro))); (focus (exact ⟨by (try dsimp only); omega, hpa.symm⟩)); ((try dsimp only); omega))
        | fail
  have hil : i = l.length := by omega
  subst hil
  rw [List.take_length] at HA
  subst HA
  repeat' ((conv => whnf); first
    | (with_reducible refine spB_dec ?_ ?_ <;> intro _ <;> (try (exfalso; first | contradiction | omega | (rename_i hz; refine hz ?_; simp; done) | (rename_i hz; simp at hz; done) | (simp only [LN] at *; omega))))
    | ((with_reducible apply ex_and); exact rfl)
    | ((with_reducible refine Z.rngN.mk ?_); (try subst hlb))
    | fail)
  all_goals (try (conv => whnf))
  all_goals try (show Nat.ble _ _ = true; rfl)
  all_goals try (exfalso; rename_i hz; cases hz; done)
  all_goals try (exfalso; (try simp only [LN] at *) <;> omega)
  all_goals first
    | ((first | (with_reducible apply Z.retF2)); (focus (exact rfl)); (repeat' (first | exact trivial | (with_reducible apply Z.frz_one) | (with_reducible apply Z.frz_agg) | (with_reducible apply Z.fq_int) | ((with_reducible apply Z.fq_gsl); (focus (first | exact Z.isB_map _)); (focus (exact fun _ => rfl))) | exact rfl | apply And.intro)); (all_goals (try exact (fun _ => none))); all_goals (first | (simp; done)))
    | fail
end Go.Proofs.Ytehhmkdghgabaaa
namespace Go.Proofs.Ytehhmkdghgabaaa
open Go Go.RowKit Wx
set_option linter.unusedVariables false
set_option linter.unusedSimpArgs false
set_option maxHeartbeats 4000000
namespace Ops
def modE (x n : Int) : Int := if n < 1 then 0 else if x.tmod n < 0 then IntKind.i64.wrap (x.tmod n + n) else x.tmod n
abbrev eI (z : Int) : List RT := [RT.v (.int .i64 z)]
abbrev cI (z : Int) : List Ce := [Ce.v (.int .i64 z)]
def stp (t a b : Int) (c : Int × Int) (v : Int) : (Int × Int) × List Int :=
  if t = 2 then (c, [IntKind.i64.wrap (IntKind.i64.wrap (v * a) + b)])
  else if t = 3 then (c, if modE v a = b then [v] else [])
  else if t = 4 then ((c.1 + 1, IntKind.i64.wrap (c.2 + v)), [IntKind.i64.wrap (c.2 + v)])
  else if t = 5 then (if c.1 + 1 < a then ((c.1 + 1, IntKind.i64.wrap (c.2 + v)), []) else ((0, 0), [IntKind.i64.wrap (c.2 + v)]))
  else (c, [v])
def fs (t a b : Int) (c : Int × Int) (l : List Int) : (Int × Int) × List Int := l.foldl (fun s v => ((stp t a b s.1 v).1, s.2 ++ (stp t a b s.1 v).2)) (c, [])
theorem fs_snoc {t a b : Int} {c : Int × Int} {l : List Int} {v : Int} : fs t a b c (l ++ [v]) = ((stp t a b (fs t a b c l).1 v).1, (fs t a b c l).2 ++ (stp t a b (fs t a b c l).1 v).2) := by
  simp only [fs, List.foldl_append, List.foldl_cons, List.foldl_nil]
theorem fs_step {t a b : Int} {c : Int × Int} {l : List Int} {i : Nat} {v : Int} (h : l[i]? = some v) : fs t a b c (l.take (i + 1)) = ((stp t a b (fs t a b c (l.take i)).1 v).1, (fs t a b c (l.take i)).2 ++ (stp t a b (fs t a b c (l.take i)).1 v).2) := by
  have hlt := (List.getElem?_eq_some_iff.1 h).1
  have hv := (List.getElem?_eq_some_iff.1 h).2
  rw [show l.take (i + 1) = l.take i ++ [v] by rw [List.take_succ_eq_append_getElem hlt, hv], fs_snoc]
theorem fs_acc {t a b : Int} : ∀ (l : List Int) (c : Int × Int) (o : List Int), l.foldl (fun s v => ((stp t a b s.1 v).1, s.2 ++ (stp t a b s.1 v).2)) (c, o) = ((fs t a b c l).1, o ++ (fs t a b c l).2)
  | [], c, o => by simp [fs]
  | v :: l, c, o => by
    simp only [fs, List.foldl_cons, List.nil_append]
    rw [fs_acc l, fs_acc l _ (stp t a b c v).2]
    simp [List.append_assoc]
theorem fs_cons {t a b : Int} {c : Int × Int} {v : Int} {l : List Int} : fs t a b c (v :: l) = ((fs t a b (stp t a b c v).1 l).1, (stp t a b c v).2 ++ (fs t a b (stp t a b c v).1 l).2) := by
  have := fs_acc (t := t) (a := a) (b := b) l (stp t a b c v).1 (stp t a b c v).2
  simp only [fs, List.foldl_cons, List.nil_append]
  exact this
def fitP (t a : Int) (c : Int × Int) : Prop := if t = 4 ∨ t = 5 then (c.1 = 0 ∧ c.2 = 0) ∨ (0 < c.1 ∧ (t = 4 ∨ c.1 < a)) else c.1 = 0 ∧ c.2 = 0
instance (t a : Int) (c : Int × Int) : Decidable (fitP t a c) := by unfold fitP; infer_instance
def ris (lim : Int) : Int → List Int → Bool
  | _, [] => true
  | last, x :: r => decide (last < x ∧ x < lim) && ris lim x r
def tagP (t n a b : Int) : Prop := (t = 1 ∧ n = 0 ∧ (0 ≤ a ∧ a < 4) ∧ b = 0) ∨ (t = 2 ∧ n = 1) ∨ (t = 3 ∧ n = 1 ∧ 0 < a ∧ 0 ≤ b ∧ b < a) ∨ ((t = 4 ∨ t = 7) ∧ n = 1 ∧ a = 0 ∧ b = 0) ∨ (t = 5 ∧ n = 1 ∧ (1 ≤ a ∧ a ≤ 8) ∧ b = 0) ∨ (t = 6 ∧ 2 ≤ n ∧ a = 0 ∧ b = 0)
instance (t n a b : Int) : Decidable (tagP t n a b) := by unfold tagP; infer_instance
def okO (t w : Int) (ins : List Int) (a b : Int) : Bool := decide (1 ≤ w ∧ w ≤ 3) && ris 8 (-1) ins && decide (tagP t ins.length a b)
theorem fit_stp {t a b : Int} {c : Int × Int} {v : Int} {n : Int} (ht : tagP t n a b) (h : fitP t a c) : fitP t a (stp t a b c v).1 := by
  unfold tagP at ht
  unfold fitP at h ⊢
  unfold stp
  by_cases h2 : t = 2
  · subst h2; simpa using h
  by_cases h3 : t = 3
  · subst h3; simpa using h
  by_cases h4 : t = 4
  · subst h4; simp at h ⊢; omega
  by_cases h5 : t = 5
  · subst h5
    simp only [h2, h3, h4, if_false, if_true, or_true] at h ⊢
    split
    · simp only; right; omega
    · simp
  · simp only [h2, h3, h4, h5, if_false, or_self] at h ⊢; exact h
theorem fit_low {t a b n : Int} (ht : tagP t n a b) {c : Int × Int} (h : fitP t a c) : 0 ≤ c.1 ∧ (t ≠ 4 → c.1 < 9) := by
  unfold tagP at ht; unfold fitP at h
  split at h
  · omega
  · omega
theorem out_len {t a b : Int} {c : Int × Int} {v : Int} : (stp t a b c v).2.length ≤ 1 := by
  unfold stp; repeat' split
  all_goals simp
theorem fs_len {t a b : Int} : ∀ (l : List Int) {c : Int × Int}, (fs t a b c l).2.length ≤ l.length
  | [], _ => by simp [fs]
  | v :: l, c => by
    rw [fs_cons]; simp only [List.length_append, List.length_cons]
    have h1 := out_len (t := t) (a := a) (b := b) (c := c) (v := v)
    have h2 := fs_len (t := t) (a := a) (b := b) l (c := (stp t a b c v).1)
    omega
end Ops
end Go.Proofs.Ytehhmkdghgabaaa
namespace Go.Proofs.Ytehhmkdghgabaaa
open Go Go.RowKit Wx
set_option linter.unusedVariables false
set_option linter.unusedSimpArgs false
set_option maxHeartbeats 4000000
namespace Ops
theorem mod_con (x n : Int)  : Con Try.prog 143 [.one (.v (.int .i64 x)), .one (.v (.int .i64 n))] (fun rx rK rt => rx = .val (.int .i64 (modE x n)) ∧ rK = [] ∧ rt = 0) := by
  refine con_of tabOk 17 Try.f143 _ Try.func143 (by kernel_rfl) rfl rfl rfl rfl (fun W => ?_)
  repeat' ((conv => whnf); first
    | (with_reducible refine spB_dec ?_ ?_ <;> intro _ <;> (try (exfalso; first | contradiction | omega | (rename_i hz; with_reducible exact absurd rfl hz))))
    | with_reducible first | refine wr_mk _ rfl ?_
    | with_reducible first | refine vN_mk ?_
    | with_reducible refine nzN_mk (by omega) ?_)
  all_goals (try (conv => whnf))
  all_goals refine ret0 _ rfl _ rfl (fun _ => rfl) rfl ⟨?_, rfl, rfl⟩
  all_goals (refine rv_int ?_; unfold modE; first | rw [if_pos (by omega)] | rw [if_neg (by omega), if_pos (by assumption)] | rw [if_neg (by omega), if_neg (by assumption)])
end Ops
end Go.Proofs.Ytehhmkdghgabaaa
namespace Go.Proofs.Ytehhmkdghgabaaa
open Go Go.RowKit Wx
set_option linter.unusedVariables false
set_option linter.unusedSimpArgs false
set_option maxHeartbeats 4000000
namespace Ops
theorem stp5y {a b c s x : Int} (h : c + 1 < a) : stp 5 a b (c, s) x = ((c + 1, IntKind.i64.wrap (s + x)), []) := by simp [stp, h]
theorem stp5n {a b c s x : Int} (h : ¬ c + 1 < a) : stp 5 a b (c, s) x = ((0, 0), [IntKind.i64.wrap (s + x)]) := by simp [stp, h]
theorem stp3y {a b c s x : Int} (h : modE x a = b) : stp 3 a b (c, s) x = ((c, s), [x]) := by simp [stp, h]
theorem stp3n {a b c s x : Int} (h : ¬ modE x a = b) : stp 3 a b (c, s) x = ((c, s), []) := by simp [stp, h]
theorem no_step {t a b c1 s1 : Int} {c : Int × Int} {l acc : List Int} {i : Nat} (hno : ∀ j, j < i → (fs t a b c (l.take j)).1.1 ≠ 9223372036854775807) (hq : ((c1, s1), acc) = fs t a b c (l.take i)) (hc : c1 ≠ 9223372036854775807) : ∀ j, j < i + 1 → (fs t a b c (l.take j)).1.1 ≠ 9223372036854775807 := fun j hj => by
  rcases Nat.lt_or_ge j i with h | h
  · exact hno j h
  · have : j = i := by omega
    subst this; rw [← hq]; exact hc
theorem run1_con (w : Int) (ins : List Int) (a b c s : Int) (l : List Int) (hc : 0 ≤ c ∧ c ≤ 9223372036854775807) (hl : l.length ≤ 40) : Con Try.prog 89 [.agg [.v (.int .i64 1), .v (.int .i64 w), .ro false 1 (ins.map eI), .v (.int .i64 a), .v (.int .i64 b)], .agg [.v (.int .i64 c), .v (.int .i64 s)], .one (.ro false 1 (l.map eI))] (fun rx rK rt => ((∃ j, j < l.length ∧ (fs 1 a b (c, s) (l.take j)).1.1 = 9223372036854775807) ∧ rx = .tup [.agg [.v (.int .i64 0), .v (.int .i64 0)], .one (.v (.slice none 0 0)), .one (.v (.int .i64 6))] ∧ rK = [] ∧ rt = 0) ∨ ((∀ j, j < l.length → (fs 1 a b (c, s) (l.take j)).1.1 ≠ 9223372036854775807) ∧ rx = .tup [.agg [.v (.int .i64 (fs 1 a b (c, s) (l)).1.1), .v (.int .i64 (fs 1 a b (c, s) (l)).1.2)], .one (.ro true 1 ((fs 1 a b (c, s) (l)).2.map eI)), .one (.v (.int .i64 0))] ∧ rK = [] ∧ rt = 0)) := by
  refine Z.con_ofZ tabOk 32 Try.f89 _ Try.func89 (by kernel_rfl) rfl rfl rfl rfl ?_
  repeat' ((conv => whnf); first
    | ((with_reducible apply ixN_lit); (focus (exact rfl)); (focus (exact rfl)))
    | (with_reducible refine Z.callZ_in tabOk 11 Try.f114 _ Try.func114 (by kernel_rfl) rfl rfl rfl ?_)
    | (with_reducible refine Z.callZ_in tabOk 18 Try.f131 _ Try.func131 (by kernel_rfl) rfl rfl rfl ?_)
    | (with_reducible refine Z.callZ_in tabOk 32 Try.f132 _ Try.func132 (by kernel_rfl) rfl rfl rfl ?_)
    | ((with_reducible apply ex_and); exact rfl)
    | ((with_reducible refine Z.RangeZ.red ?_); (refine Z.range_rule [(2, _), (4, _), (6, _), (9, _), (10, _)] rfl ⟨rfl, rfl, rfl, rfl, rfl, trivial⟩ rfl rfl ?_); intro lb hlb))
  all_goals (try (conv => whnf))
  refine Z.loopZ_rule tabOk (fun q : Nat × Int × Int × List Int => (⟨[(12, .val (.int .i64 (q.1 : Int))), (11, .val (.int .i64 ((l.map eI).length : Nat))), (10, .c (.ro false 1 (l.map eI))), (5, .c (.own 13 0 0)), (3, .c (.own 11 0 0)), (0, .c (.yl 12))], [(0, some (.b ⟨[[.v (.int .i64 1), .v (.int .i64 w), .ro false 1 (ins.map eI), .v (.int .i64 a), .v (.int .i64 b)]], 5, 25, true⟩)), (1, some (.b ⟨[[.v (.int .i64 q.2.1), .v (.int .i64 q.2.2.1)]], 2, 41, true⟩)), (2, some (.b ⟨[[.v (.int .i64 0), .v (.int .i64 0)]], 2, 41, true⟩)), (3, some (.b ⟨[[.gsl 14 (q.2.2.2.map cI)]], 1, 77, true⟩)), (4, some (.b ⟨[[.v (.int .i64 (q.1 : Int))]], 1, 3, true⟩)), (5, some (.b ⟨[[.v (.int .i64 1), .v (.int .i64 w), .ro false 1 (ins.map eI), .v (.int .i64 a), .v (.int .i64 b)]], 5, 25, true⟩)), (6, some (.b ⟨[[.v (.int .i64 c), .v (.int .i64 s)]], 2, 41, true⟩)), (7, some (.b ⟨[[.ro false 1 (l.map eI)]], 1, 77, true⟩)), (8, some (.b ⟨[[.v (.int .i64 1), .v (.int .i64 w), .ro false 1 (ins.map eI), .v (.int .i64 a), .v (.int .i64 b)]], 5, 25, true⟩)), (9, some (.b ⟨[[.fn 140 []]], 1, 166, true⟩)), (10, none), (11, some (.b ⟨[[.fn 139 []]], 1, 167, true⟩)), (12, some (.l lb)), (13, some (.b ⟨[[.v (.int .i64 q.2.1), .v (.int .i64 q.2.2.1)]], 2, 41, true⟩)), (14, (gB 1 2 (q.2.2.2.map cI)).map Z.Ob.b)], 15⟩ : Z.S)) (fun q => q.1 ≤ l.length ∧ ((q.2.1, q.2.2.1), q.2.2.2) = fs 1 a b (c, s) (l.take q.1) ∧ (0 ≤ q.2.1 ∧ q.2.1 ≤ 9223372036854775807) ∧ ∀ j, j < q.1 → (fs 1 a b (c, s) (l.take j)).1.1 ≠ 9223372036854775807) (fun q => l.length - q.1) (0, c, s, []) ⟨Nat.zero_le _, rfl, hc, fun j hj => absurd hj (Nat.not_lt_zero _)⟩ (Z.Stp.trans (Z.Stp.cells 3 _ [[.gsl 77 []]] rfl (Nat.le_of_ble_eq_true rfl) ⟨⟨Z.Imp.nilg 77, trivial⟩, trivial⟩) (Z.Wk.stp (l := [0, 1, 2, 3, 4, 5, 6, 7, 8, 9, 10, 11, 12, 13, 77]) ⟨rfl, by decide, rfl, (Nat.le_of_ble_eq_true rfl), ⟨rfl, rfl, rfl, rfl, rfl, rfl, trivial⟩, ⟨fun b hb => (by cases hb; rfl), fun b hb => (by cases hb; rfl), fun b hb => (by cases hb; rfl), fun b hb => (by cases hb; rfl), fun b hb => (by cases hb; rfl), fun b hb => (by cases hb; rfl), fun b hb => (by cases hb; rfl), fun b hb => (by cases hb; rfl), fun b hb => (by cases hb; rfl), fun b hb => (by cases hb; rfl), fun b hb => (by cases hb), fun b hb => (by cases hb; rfl), fun b hb => (by cases hb; (try subst hlb); rfl), fun b hb => (by cases hb; rfl), fun b hb => (by cases hb), trivial⟩⟩)) ?_
  rintro ⟨i, c1, s1, acc⟩ ⟨hi, hq, hb1, hno⟩
  dsimp only at hi hq hb1 hno ⊢
  have hal : acc.length ≤ 40 := by
    have := fs_len (t := 1) (a := a) (b := b) (l.take i) (c := (c, s))
    rw [← hq, List.length_take] at this; dsimp only at this; omega
  repeat' ((conv => whnf); first
    | ((with_reducible apply spB_cong); (focus (simp only [beq_self_eq_true, bne_self_eq_false, Bool.true_bne, Bool.false_bne, Bool.bne_true, Bool.bne_false, Bool.true_beq, Bool.false_beq, Bool.not_true, Bool.not_false, Bool.not_not, Int.reduceBEq, Int.reduceBNe, Int.reduceLE, Int.reduceLT, Int.reduceEq, decide_true, decide_false]; rfl)))
    | with_reducible first | refine spB_no (by decide) ?_
    | (with_reducible refine spB_dec ?_ ?_ <;> intro _ <;> (try (exfalso; first | contradiction | omega | (rename_i hz; with_reducible exact absurd rfl hz))))
    | (with_reducible refine spB_beq ?_ ?_ <;> intro _ <;> (try (exfalso; first | contradiction | omega | (rename_i hz; with_reducible exact absurd rfl hz))))
    | ((with_reducible refine posE_pos ?_ ?_); (focus ((try simp only [LN] at *) <;> omega)))
    | ((with_reducible apply ixN_litp); (focus (exact rfl)); (focus ((try simp only [LN] at *) <;> omega)))
    | ((with_reducible refine apdN.mk ?_ ?_ ?_ ?_ ?_ ?_); (focus (first | rfl)); (focus (first | exact one_all (by rfl))); (focus ((try simp only [LN] at *) <;> omega)); (focus ((try simp only [LN] at *) <;> omega)); (focus ((try simp only [LN] at *) <;> omega)))
    | with_reducible refine wr_i64 (by first | omega | (simp only [LN] at *; omega)) ?_
    | ((with_reducible refine rowN_map ?_ ?_); (focus ((try simp only [LN] at *) <;> omega)); intro x hx)
    | (with_reducible refine Z.callZ_in tabOk 9 Try.f139 _ Try.func139 (by kernel_rfl) rfl rfl rfl ?_)
    | ((with_reducible refine eqN_mk2 ?_ ?_); (focus (exact Z.kb_some rfl)))
    | ((with_reducible apply ex_and); exact rfl)
    | ((with_reducible refine Z.rngN.mk ?_); (try subst hlb))
    | ((with_reducible refine Z.CallZ.yl ?_); subst hlb; refine Z.yield_rule tabOk _ _ rfl rfl rfl rfl ?_)
    | with_reducible first | refine Z.drawZ_rule tabOk mixOk ?_ | refine Z.apZ_mk (by kernel_rfl) ?_)
  all_goals (try (conv => whnf))
  all_goals first
    | ((refine Z.rndK ((i + 1, c1, s1, acc ++ [x])) (fun s => [0, 1, 2, 3, 4, 5, 6, 7, 8, 9, 10, 11, 12, 13, s.idIn 3 0]) rfl rfl rfl rfl ?_ ?_ ?_ ?_); (focus (repeat' (first | exact trivial | exact rfl | apply And.intro))); (focus (repeat' (first | exact trivial | (intro b hb; cases hb; rfl) | (intro b hb; cases hb; rw [List.map_append]; rfl) | (intro b hb; cases hb; done) | exact Z.gB_sub' rfl (by first | rfl | (rw [List.map_append]; rfl) | simp only [List.map_append, List.map_cons, List.map_nil]) (ren_map fun _ => rfl) | apply And.intro))); (focus (refine ⟨by (try simp only [LN] at *); (try dsimp only); omega, ?_, ?_, ?_⟩; (focus (dsimp only; rw [fs_step hx, ← hq]; simp [stp])); (focus (dsimp only; omega)); exact no_step hno hq (by omega))); (try simp only [LN] at *); (try dsimp only); omega)
    | (refine ret0 _ rfl _ rfl (fun _ => rfl) rfl (.inl ⟨⟨i, by (try simp only [LN] at *) <;> omega, by rw [← hq]; (first | assumption)⟩, rfl, rfl, rfl⟩))
    | skip
  have hend : i = l.length := by (try simp only [LN] at *) <;> omega
  subst hend
  rw [List.take_length] at hq
  refine ret_stp (Stp.fzg 7 14 (acc.map cI) rfl 1 2 (by show Z.isB ((gB _ _ _).map Z.Ob.b) = _; exact Z.isB_map _) (acc.map eI) (by simp only [List.map_map]; rfl) (Nat.zero_le _)) ?_
  refine ret0 _ rfl _ rfl (fun _ => rfl) rfl (.inr ⟨hno, ?_, rfl, rfl⟩)
  rw [← hq]; rfl
theorem run2_con (w : Int) (ins : List Int) (a b c s : Int) (l : List Int) (hc : 0 ≤ c ∧ c ≤ 9223372036854775807) (hl : l.length ≤ 40) : Con Try.prog 89 [.agg [.v (.int .i64 2), .v (.int .i64 w), .ro false 1 (ins.map eI), .v (.int .i64 a), .v (.int .i64 b)], .agg [.v (.int .i64 c), .v (.int .i64 s)], .one (.ro false 1 (l.map eI))] (fun rx rK rt => ((∃ j, j < l.length ∧ (fs 2 a b (c, s) (l.take j)).1.1 = 9223372036854775807) ∧ rx = .tup [.agg [.v (.int .i64 0), .v (.int .i64 0)], .one (.v (.slice none 0 0)), .one (.v (.int .i64 6))] ∧ rK = [] ∧ rt = 0) ∨ ((∀ j, j < l.length → (fs 2 a b (c, s) (l.take j)).1.1 ≠ 9223372036854775807) ∧ rx = .tup [.agg [.v (.int .i64 (fs 2 a b (c, s) (l)).1.1), .v (.int .i64 (fs 2 a b (c, s) (l)).1.2)], .one (.ro true 1 ((fs 2 a b (c, s) (l)).2.map eI)), .one (.v (.int .i64 0))] ∧ rK = [] ∧ rt = 0)) := by
  refine Z.con_ofZ tabOk 32 Try.f89 _ Try.func89 (by kernel_rfl) rfl rfl rfl rfl ?_
  repeat' ((conv => whnf); first
    | ((with_reducible apply ixN_lit); (focus (exact rfl)); (focus (exact rfl)))
    | (with_reducible refine Z.callZ_in tabOk 11 Try.f114 _ Try.func114 (by kernel_rfl) rfl rfl rfl ?_)
    | (with_reducible refine Z.callZ_in tabOk 18 Try.f131 _ Try.func131 (by kernel_rfl) rfl rfl rfl ?_)
    | (with_reducible refine Z.callZ_in tabOk 32 Try.f132 _ Try.func132 (by kernel_rfl) rfl rfl rfl ?_)
    | ((with_reducible apply ex_and); exact rfl)
    | ((with_reducible refine Z.RangeZ.red ?_); (refine Z.range_rule [(2, _), (4, _), (6, _), (9, _), (10, _)] rfl ⟨rfl, rfl, rfl, rfl, rfl, trivial⟩ rfl rfl ?_); intro lb hlb))
  all_goals (try (conv => whnf))
  refine Z.loopZ_rule tabOk (fun q : Nat × Int × Int × List Int => (⟨[(12, .val (.int .i64 (q.1 : Int))), (11, .val (.int .i64 ((l.map eI).length : Nat))), (10, .c (.ro false 1 (l.map eI))), (5, .c (.own 13 0 0)), (3, .c (.own 11 0 0)), (0, .c (.yl 12))], [(0, some (.b ⟨[[.v (.int .i64 2), .v (.int .i64 w), .ro false 1 (ins.map eI), .v (.int .i64 a), .v (.int .i64 b)]], 5, 25, true⟩)), (1, some (.b ⟨[[.v (.int .i64 q.2.1), .v (.int .i64 q.2.2.1)]], 2, 41, true⟩)), (2, some (.b ⟨[[.v (.int .i64 0), .v (.int .i64 0)]], 2, 41, true⟩)), (3, some (.b ⟨[[.gsl 14 (q.2.2.2.map cI)]], 1, 77, true⟩)), (4, some (.b ⟨[[.v (.int .i64 (q.1 : Int))]], 1, 3, true⟩)), (5, some (.b ⟨[[.v (.int .i64 2), .v (.int .i64 w), .ro false 1 (ins.map eI), .v (.int .i64 a), .v (.int .i64 b)]], 5, 25, true⟩)), (6, some (.b ⟨[[.v (.int .i64 c), .v (.int .i64 s)]], 2, 41, true⟩)), (7, some (.b ⟨[[.ro false 1 (l.map eI)]], 1, 77, true⟩)), (8, some (.b ⟨[[.v (.int .i64 2), .v (.int .i64 w), .ro false 1 (ins.map eI), .v (.int .i64 a), .v (.int .i64 b)]], 5, 25, true⟩)), (9, some (.b ⟨[[.fn 140 []]], 1, 166, true⟩)), (10, none), (11, some (.b ⟨[[.fn 141 [.own 8 0 0]]], 1, 167, true⟩)), (12, some (.l lb)), (13, some (.b ⟨[[.v (.int .i64 q.2.1), .v (.int .i64 q.2.2.1)]], 2, 41, true⟩)), (14, (gB 1 2 (q.2.2.2.map cI)).map Z.Ob.b)], 15⟩ : Z.S)) (fun q => q.1 ≤ l.length ∧ ((q.2.1, q.2.2.1), q.2.2.2) = fs 2 a b (c, s) (l.take q.1) ∧ (0 ≤ q.2.1 ∧ q.2.1 ≤ 9223372036854775807) ∧ ∀ j, j < q.1 → (fs 2 a b (c, s) (l.take j)).1.1 ≠ 9223372036854775807) (fun q => l.length - q.1) (0, c, s, []) ⟨Nat.zero_le _, rfl, hc, fun j hj => absurd hj (Nat.not_lt_zero _)⟩ (Z.Stp.trans (Z.Stp.cells 3 _ [[.gsl 77 []]] rfl (Nat.le_of_ble_eq_true rfl) ⟨⟨Z.Imp.nilg 77, trivial⟩, trivial⟩) (Z.Wk.stp (l := [0, 1, 2, 3, 4, 5, 6, 7, 8, 9, 10, 11, 12, 13, 77]) ⟨rfl, by decide, rfl, (Nat.le_of_ble_eq_true rfl), ⟨rfl, rfl, rfl, rfl, rfl, rfl, trivial⟩, ⟨fun b hb => (by cases hb; rfl), fun b hb => (by cases hb; rfl), fun b hb => (by cases hb; rfl), fun b hb => (by cases hb; rfl), fun b hb => (by cases hb; rfl), fun b hb => (by cases hb; rfl), fun b hb => (by cases hb; rfl), fun b hb => (by cases hb; rfl), fun b hb => (by cases hb; rfl), fun b hb => (by cases hb; rfl), fun b hb => (by cases hb), fun b hb => (by cases hb; rfl), fun b hb => (by cases hb; (try subst hlb); rfl), fun b hb => (by cases hb; rfl), fun b hb => (by cases hb), trivial⟩⟩)) ?_
  rintro ⟨i, c1, s1, acc⟩ ⟨hi, hq, hb1, hno⟩
  dsimp only at hi hq hb1 hno ⊢
  have hal : acc.length ≤ 40 := by
    have := fs_len (t := 2) (a := a) (b := b) (l.take i) (c := (c, s))
    rw [← hq, List.length_take] at this; dsimp only at this; omega
  repeat' ((conv => whnf); first
    | ((with_reducible apply spB_cong); (focus (simp only [beq_self_eq_true, bne_self_eq_false, Bool.true_bne, Bool.false_bne, Bool.bne_true, Bool.bne_false, Bool.true_beq, Bool.false_beq, Bool.not_true, Bool.not_false, Bool.not_not, Int.reduceBEq, Int.reduceBNe, Int.reduceLE, Int.reduceLT, Int.reduceEq, decide_true, decide_false]; rfl)))
    | with_reducible first | refine spB_no (by decide) ?_
    | (with_reducible refine spB_dec ?_ ?_ <;> intro _ <;> (try (exfalso; first | contradiction | omega | (rename_i hz; with_reducible exact absurd rfl hz))))
    | (with_reducible refine spB_beq ?_ ?_ <;> intro _ <;> (try (exfalso; first | contradiction | omega | (rename_i hz; with_reducible exact absurd rfl hz))))
    | ((with_reducible refine posE_pos ?_ ?_); (focus ((try simp only [LN] at *) <;> omega)))
    | ((with_reducible apply ixN_litp); (focus (exact rfl)); (focus ((try simp only [LN] at *) <;> omega)))
    | ((with_reducible refine apdN.mk ?_ ?_ ?_ ?_ ?_ ?_); (focus (first | rfl)); (focus (first | exact one_all (by rfl))); (focus ((try simp only [LN] at *) <;> omega)); (focus ((try simp only [LN] at *) <;> omega)); (focus ((try simp only [LN] at *) <;> omega)))
    | with_reducible refine wr_i64 (by first | omega | (simp only [LN] at *; omega)) ?_
    | with_reducible first | refine wr_mk _ rfl ?_
    | ((with_reducible refine rowN_map ?_ ?_); (focus ((try simp only [LN] at *) <;> omega)); intro x hx)
    | (with_reducible refine Z.callZ_in tabOk 16 Try.f141 _ Try.func141 (by kernel_rfl) rfl rfl rfl ?_)
    | ((with_reducible refine eqN_mk2 ?_ ?_); (focus (exact Z.kb_some rfl)))
    | ((with_reducible apply ex_and); exact rfl)
    | ((with_reducible refine Z.rngN.mk ?_); (try subst hlb))
    | ((with_reducible refine Z.CallZ.yl ?_); subst hlb; refine Z.yield_rule tabOk _ _ rfl rfl rfl rfl ?_)
    | with_reducible first | refine Z.drawZ_rule tabOk mixOk ?_ | refine Z.apZ_mk (by kernel_rfl) ?_)
  all_goals (try (conv => whnf))
  all_goals first
    | ((refine Z.rndK ((i + 1, c1, s1, acc ++ [IntKind.i64.wrap (IntKind.i64.wrap (x * a) + b)])) (fun s => [0, 1, 2, 3, 4, 5, 6, 7, 8, 9, 10, 11, 12, 13, s.idIn 3 0]) rfl rfl rfl rfl ?_ ?_ ?_ ?_); (focus (repeat' (first | exact trivial | exact rfl | apply And.intro))); (focus (repeat' (first | exact trivial | (intro b hb; cases hb; rfl) | (intro b hb; cases hb; rw [List.map_append]; rfl) | (intro b hb; cases hb; done) | exact Z.gB_sub' rfl (by first | rfl | (rw [List.map_append]; rfl) | simp only [List.map_append, List.map_cons, List.map_nil]) (ren_map fun _ => rfl) | apply And.intro))); (focus (refine ⟨by (try simp only [LN] at *); (try dsimp only); omega, ?_, ?_, ?_⟩; (focus (dsimp only; rw [fs_step hx, ← hq]; simp [stp])); (focus (dsimp only; omega)); exact no_step hno hq (by omega))); (try simp only [LN] at *); (try dsimp only); omega)
    | (refine ret0 _ rfl _ rfl (fun _ => rfl) rfl (.inl ⟨⟨i, by (try simp only [LN] at *) <;> omega, by rw [← hq]; (first | assumption)⟩, rfl, rfl, rfl⟩))
    | skip
  have hend : i = l.length := by (try simp only [LN] at *) <;> omega
  subst hend
  rw [List.take_length] at hq
  refine ret_stp (Stp.fzg 7 14 (acc.map cI) rfl 1 2 (by show Z.isB ((gB _ _ _).map Z.Ob.b) = _; exact Z.isB_map _) (acc.map eI) (by simp only [List.map_map]; rfl) (Nat.zero_le _)) ?_
  refine ret0 _ rfl _ rfl (fun _ => rfl) rfl (.inr ⟨hno, ?_, rfl, rfl⟩)
  rw [← hq]; rfl
theorem run3_con (w : Int) (ins : List Int) (a b c s : Int) (l : List Int) (hc : 0 ≤ c ∧ c ≤ 9223372036854775807) (hl : l.length ≤ 40) : Con Try.prog 89 [.agg [.v (.int .i64 3), .v (.int .i64 w), .ro false 1 (ins.map eI), .v (.int .i64 a), .v (.int .i64 b)], .agg [.v (.int .i64 c), .v (.int .i64 s)], .one (.ro false 1 (l.map eI))] (fun rx rK rt => ((∃ j, j < l.length ∧ (fs 3 a b (c, s) (l.take j)).1.1 = 9223372036854775807) ∧ rx = .tup [.agg [.v (.int .i64 0), .v (.int .i64 0)], .one (.v (.slice none 0 0)), .one (.v (.int .i64 6))] ∧ rK = [] ∧ rt = 0) ∨ ((∀ j, j < l.length → (fs 3 a b (c, s) (l.take j)).1.1 ≠ 9223372036854775807) ∧ rx = .tup [.agg [.v (.int .i64 (fs 3 a b (c, s) (l)).1.1), .v (.int .i64 (fs 3 a b (c, s) (l)).1.2)], .one (.ro true 1 ((fs 3 a b (c, s) (l)).2.map eI)), .one (.v (.int .i64 0))] ∧ rK = [] ∧ rt = 0)) := by
  refine Z.con_ofZ tabOk 32 Try.f89 _ Try.func89 (by kernel_rfl) rfl rfl rfl rfl ?_
  repeat' ((conv => whnf); first
    | ((with_reducible apply ixN_lit); (focus (exact rfl)); (focus (exact rfl)))
    | (with_reducible refine Z.callZ_in tabOk 11 Try.f114 _ Try.func114 (by kernel_rfl) rfl rfl rfl ?_)
    | (with_reducible refine Z.callZ_in tabOk 18 Try.f131 _ Try.func131 (by kernel_rfl) rfl rfl rfl ?_)
    | (with_reducible refine Z.callZ_in tabOk 32 Try.f132 _ Try.func132 (by kernel_rfl) rfl rfl rfl ?_)
    | ((with_reducible apply ex_and); exact rfl)
    | ((with_reducible refine Z.RangeZ.red ?_); (refine Z.range_rule [(2, _), (4, _), (6, _), (9, _), (10, _)] rfl ⟨rfl, rfl, rfl, rfl, rfl, trivial⟩ rfl rfl ?_); intro lb hlb))
  all_goals (try (conv => whnf))
  refine Z.loopZ_rule tabOk (fun q : Nat × Int × Int × List Int => (⟨[(12, .val (.int .i64 (q.1 : Int))), (11, .val (.int .i64 ((l.map eI).length : Nat))), (10, .c (.ro false 1 (l.map eI))), (5, .c (.own 13 0 0)), (3, .c (.own 11 0 0)), (0, .c (.yl 12))], [(0, some (.b ⟨[[.v (.int .i64 3), .v (.int .i64 w), .ro false 1 (ins.map eI), .v (.int .i64 a), .v (.int .i64 b)]], 5, 25, true⟩)), (1, some (.b ⟨[[.v (.int .i64 q.2.1), .v (.int .i64 q.2.2.1)]], 2, 41, true⟩)), (2, some (.b ⟨[[.v (.int .i64 0), .v (.int .i64 0)]], 2, 41, true⟩)), (3, some (.b ⟨[[.gsl 14 (q.2.2.2.map cI)]], 1, 77, true⟩)), (4, some (.b ⟨[[.v (.int .i64 (q.1 : Int))]], 1, 3, true⟩)), (5, some (.b ⟨[[.v (.int .i64 3), .v (.int .i64 w), .ro false 1 (ins.map eI), .v (.int .i64 a), .v (.int .i64 b)]], 5, 25, true⟩)), (6, some (.b ⟨[[.v (.int .i64 c), .v (.int .i64 s)]], 2, 41, true⟩)), (7, some (.b ⟨[[.ro false 1 (l.map eI)]], 1, 77, true⟩)), (8, some (.b ⟨[[.v (.int .i64 3), .v (.int .i64 w), .ro false 1 (ins.map eI), .v (.int .i64 a), .v (.int .i64 b)]], 5, 25, true⟩)), (9, some (.b ⟨[[.fn 140 []]], 1, 166, true⟩)), (10, none), (11, some (.b ⟨[[.fn 142 [.own 8 0 0]]], 1, 167, true⟩)), (12, some (.l lb)), (13, some (.b ⟨[[.v (.int .i64 q.2.1), .v (.int .i64 q.2.2.1)]], 2, 41, true⟩)), (14, (gB 1 2 (q.2.2.2.map cI)).map Z.Ob.b)], 15⟩ : Z.S)) (fun q => q.1 ≤ l.length ∧ ((q.2.1, q.2.2.1), q.2.2.2) = fs 3 a b (c, s) (l.take q.1) ∧ (0 ≤ q.2.1 ∧ q.2.1 ≤ 9223372036854775807) ∧ ∀ j, j < q.1 → (fs 3 a b (c, s) (l.take j)).1.1 ≠ 9223372036854775807) (fun q => l.length - q.1) (0, c, s, []) ⟨Nat.zero_le _, rfl, hc, fun j hj => absurd hj (Nat.not_lt_zero _)⟩ (Z.Stp.trans (Z.Stp.cells 3 _ [[.gsl 77 []]] rfl (Nat.le_of_ble_eq_true rfl) ⟨⟨Z.Imp.nilg 77, trivial⟩, trivial⟩) (Z.Wk.stp (l := [0, 1, 2, 3, 4, 5, 6, 7, 8, 9, 10, 11, 12, 13, 77]) ⟨rfl, by decide, rfl, (Nat.le_of_ble_eq_true rfl), ⟨rfl, rfl, rfl, rfl, rfl, rfl, trivial⟩, ⟨fun b hb => (by cases hb; rfl), fun b hb => (by cases hb; rfl), fun b hb => (by cases hb; rfl), fun b hb => (by cases hb; rfl), fun b hb => (by cases hb; rfl), fun b hb => (by cases hb; rfl), fun b hb => (by cases hb; rfl), fun b hb => (by cases hb; rfl), fun b hb => (by cases hb; rfl), fun b hb => (by cases hb; rfl), fun b hb => (by cases hb), fun b hb => (by cases hb; rfl), fun b hb => (by cases hb; (try subst hlb); rfl), fun b hb => (by cases hb; rfl), fun b hb => (by cases hb), trivial⟩⟩)) ?_
  rintro ⟨i, c1, s1, acc⟩ ⟨hi, hq, hb1, hno⟩
  dsimp only at hi hq hb1 hno ⊢
  have hal : acc.length ≤ 40 := by
    have := fs_len (t := 3) (a := a) (b := b) (l.take i) (c := (c, s))
    rw [← hq, List.length_take] at this; dsimp only at this; omega
  repeat' ((conv => whnf); first
    | ((with_reducible apply spB_cong); (focus (simp only [beq_self_eq_true, bne_self_eq_false, Bool.true_bne, Bool.false_bne, Bool.bne_true, Bool.bne_false, Bool.true_beq, Bool.false_beq, Bool.not_true, Bool.not_false, Bool.not_not, Int.reduceBEq, Int.reduceBNe, Int.reduceLE, Int.reduceLT, Int.reduceEq, decide_true, decide_false]; rfl)))
    | with_reducible first | refine spB_no (by decide) ?_
    | (with_reducible refine spB_dec ?_ ?_ <;> intro _ <;> (try (exfalso; first | contradiction | omega | (rename_i hz; with_reducible exact absurd rfl hz))))
    | (with_reducible refine spB_beq ?_ ?_ <;> intro _ <;> (try (exfalso; first | contradiction | omega | (rename_i hz; with_reducible exact absurd rfl hz))))
    | (with_reducible refine spB_bne ?_ ?_ <;> intro _ <;> (try (exfalso; first | contradiction | omega | (rename_i hz; with_reducible exact absurd rfl hz))))
    | ((with_reducible refine posE_pos ?_ ?_); (focus ((try simp only [LN] at *) <;> omega)))
    | ((with_reducible refine posE_nil ?_ ?_); (focus rfl))
    | ((with_reducible apply ixN_litp); (focus (exact rfl)); (focus ((try simp only [LN] at *) <;> omega)))
    | ((with_reducible refine apdN.mk ?_ ?_ ?_ ?_ ?_ ?_); (focus (first | rfl)); (focus (first | exact one_all (by rfl))); (focus ((try simp only [LN] at *) <;> omega)); (focus ((try simp only [LN] at *) <;> omega)); (focus ((try simp only [LN] at *) <;> omega)))
    | with_reducible refine wr_i64 (by first | omega | (simp only [LN] at *; omega)) ?_
    | ((with_reducible refine rowN_map ?_ ?_); (focus ((try simp only [LN] at *) <;> omega)); intro x hx)
    | ((with_reducible apply Z.conZ_mk ?_ (mod_con _ _) ?_);(first | (rotate_left 2; (focus exact ⟨rfl, rfl, trivial⟩))); skip)
    | (with_reducible refine Z.callZ_in tabOk 18 Try.f142 _ Try.func142 (by kernel_rfl) rfl rfl rfl ?_)
    | ((with_reducible refine eqN_mk2 ?_ ?_); (focus (exact Z.kb_some rfl)))
    | ((with_reducible apply ex_and); exact rfl)
    | ((with_reducible refine Z.rngN.mk ?_); (try subst hlb))
    | ((with_reducible refine Z.CallZ.yl ?_); subst hlb; refine Z.yield_rule tabOk _ _ rfl rfl rfl rfl ?_)
    | with_reducible first | refine Z.drawZ_rule tabOk mixOk ?_ | refine Z.apZ_mk (by kernel_rfl) ?_)
  all_goals (try (conv => whnf))
  all_goals first
    | ((refine Z.rndK ((i + 1, c1, s1, acc ++ [x])) (fun s => [0, 1, 2, 3, 4, 5, 6, 7, 8, 9, 10, 11, 12, 13, s.idIn 3 0]) rfl rfl rfl rfl ?_ ?_ ?_ ?_); (focus (repeat' (first | exact trivial | exact rfl | apply And.intro))); (focus (repeat' (first | exact trivial | (intro b hb; cases hb; rfl) | (intro b hb; cases hb; rw [List.map_append]; rfl) | (intro b hb; cases hb; done) | exact Z.gB_sub' rfl (by first | rfl | (rw [List.map_append]; rfl) | simp only [List.map_append, List.map_cons, List.map_nil]) (ren_map fun _ => rfl) | apply And.intro))); (focus (refine ⟨by (try simp only [LN] at *); (try dsimp only); omega, ?_, ?_, ?_⟩; (focus (dsimp only; rw [fs_step hx, ← hq]; rw [stp3y (by assumption)])); (focus (dsimp only; omega)); exact no_step hno hq (by omega))); (try simp only [LN] at *); (try dsimp only); omega)
    | ((refine Z.rndK ((i + 1, c1, s1, acc)) (fun s => [0, 1, 2, 3, 4, 5, 6, 7, 8, 9, 10, 11, 12, 13, s.idIn 3 0]) rfl rfl rfl rfl ?_ ?_ ?_ ?_); (focus (repeat' (first | exact trivial | exact rfl | apply And.intro))); (focus (repeat' (first | exact trivial | (intro b hb; cases hb; rfl) | (intro b hb; cases hb; done) | exact Z.gB_sub rfl rfl (ren_map fun _ => rfl) | apply And.intro))); (focus (refine ⟨by (try simp only [LN] at *); (try dsimp only); omega, ?_, ?_, ?_⟩; (focus (dsimp only; rw [fs_step hx, ← hq]; rw [stp3n (by assumption), List.append_nil])); (focus (dsimp only; omega)); exact no_step hno hq (by omega))); (try simp only [LN] at *); (try dsimp only); omega)
    | (refine ret0 _ rfl _ rfl (fun _ => rfl) rfl (.inl ⟨⟨i, by (try simp only [LN] at *) <;> omega, by rw [← hq]; (first | assumption)⟩, rfl, rfl, rfl⟩))
    | skip
  have hend : i = l.length := by (try simp only [LN] at *) <;> omega
  subst hend
  rw [List.take_length] at hq
  refine ret_stp (Stp.fzg 7 14 (acc.map cI) rfl 1 2 (by show Z.isB ((gB _ _ _).map Z.Ob.b) = _; exact Z.isB_map _) (acc.map eI) (by simp only [List.map_map]; rfl) (Nat.zero_le _)) ?_
  refine ret0 _ rfl _ rfl (fun _ => rfl) rfl (.inr ⟨hno, ?_, rfl, rfl⟩)
  rw [← hq]; rfl
end Ops
end Go.Proofs.Ytehhmkdghgabaaa
namespace Go.Proofs.Ytehhmkdghgabaaa
open Go Go.RowKit Wx
set_option linter.unusedVariables false
set_option linter.unusedSimpArgs false
set_option maxHeartbeats 4000000
namespace Ops
theorem run4_con (w : Int) (ins : List Int) (a b c s : Int) (l : List Int) (hc : 0 ≤ c ∧ c ≤ 9223372036854775807) (hl : l.length ≤ 40) : Con Try.prog 89 [.agg [.v (.int .i64 4), .v (.int .i64 w), .ro false 1 (ins.map eI), .v (.int .i64 a), .v (.int .i64 b)], .agg [.v (.int .i64 c), .v (.int .i64 s)], .one (.ro false 1 (l.map eI))] (fun rx rK rt => ((∃ j, j < l.length ∧ (fs 4 a b (c, s) (l.take j)).1.1 = 9223372036854775807) ∧ rx = .tup [.agg [.v (.int .i64 0), .v (.int .i64 0)], .one (.v (.slice none 0 0)), .one (.v (.int .i64 6))] ∧ rK = [] ∧ rt = 0) ∨ ((∀ j, j < l.length → (fs 4 a b (c, s) (l.take j)).1.1 ≠ 9223372036854775807) ∧ rx = .tup [.agg [.v (.int .i64 (fs 4 a b (c, s) (l)).1.1), .v (.int .i64 (fs 4 a b (c, s) (l)).1.2)], .one (.ro true 1 ((fs 4 a b (c, s) (l)).2.map eI)), .one (.v (.int .i64 0))] ∧ rK = [] ∧ rt = 0)) := by
  refine Z.con_ofZ tabOk 32 Try.f89 _ Try.func89 (by kernel_rfl) rfl rfl rfl rfl ?_
  repeat' ((conv => whnf); first
    | ((with_reducible apply ixN_lit); (focus (exact rfl)); (focus (exact rfl)))
    | (with_reducible refine Z.callZ_in tabOk 11 Try.f114 _ Try.func114 (by kernel_rfl) rfl rfl rfl ?_)
    | (with_reducible refine Z.callZ_in tabOk 18 Try.f131 _ Try.func131 (by kernel_rfl) rfl rfl rfl ?_)
    | (with_reducible refine Z.callZ_in tabOk 32 Try.f132 _ Try.func132 (by kernel_rfl) rfl rfl rfl ?_)
    | ((with_reducible apply ex_and); exact rfl)
    | ((with_reducible refine Z.RangeZ.red ?_); (refine Z.range_rule [(2, _), (4, _), (6, _), (9, _), (10, _)] rfl ⟨rfl, rfl, rfl, rfl, rfl, trivial⟩ rfl rfl ?_); intro lb hlb))
  all_goals (try (conv => whnf))
  refine Z.loopZ_rule tabOk (fun q : Nat × Int × Int × List Int => (⟨[(12, .val (.int .i64 (q.1 : Int))), (11, .val (.int .i64 ((l.map eI).length : Nat))), (10, .c (.ro false 1 (l.map eI))), (5, .c (.own 13 0 0)), (3, .c (.own 11 0 0)), (0, .c (.yl 12))], [(0, some (.b ⟨[[.v (.int .i64 4), .v (.int .i64 w), .ro false 1 (ins.map eI), .v (.int .i64 a), .v (.int .i64 b)]], 5, 25, true⟩)), (1, some (.b ⟨[[.v (.int .i64 q.2.1), .v (.int .i64 q.2.2.1)]], 2, 41, true⟩)), (2, some (.b ⟨[[.v (.int .i64 0), .v (.int .i64 0)]], 2, 41, true⟩)), (3, some (.b ⟨[[.gsl 14 (q.2.2.2.map cI)]], 1, 77, true⟩)), (4, some (.b ⟨[[.v (.int .i64 (q.1 : Int))]], 1, 3, true⟩)), (5, some (.b ⟨[[.v (.int .i64 4), .v (.int .i64 w), .ro false 1 (ins.map eI), .v (.int .i64 a), .v (.int .i64 b)]], 5, 25, true⟩)), (6, some (.b ⟨[[.v (.int .i64 c), .v (.int .i64 s)]], 2, 41, true⟩)), (7, some (.b ⟨[[.ro false 1 (l.map eI)]], 1, 77, true⟩)), (8, some (.b ⟨[[.v (.int .i64 4), .v (.int .i64 w), .ro false 1 (ins.map eI), .v (.int .i64 a), .v (.int .i64 b)]], 5, 25, true⟩)), (9, some (.b ⟨[[.fn 140 []]], 1, 166, true⟩)), (10, none), (11, some (.b ⟨[[.fn 140 []]], 1, 167, true⟩)), (12, some (.l lb)), (13, some (.b ⟨[[.v (.int .i64 q.2.1), .v (.int .i64 q.2.2.1)]], 2, 41, true⟩)), (14, (gB 1 2 (q.2.2.2.map cI)).map Z.Ob.b)], 15⟩ : Z.S)) (fun q => q.1 ≤ l.length ∧ ((q.2.1, q.2.2.1), q.2.2.2) = fs 4 a b (c, s) (l.take q.1) ∧ (0 ≤ q.2.1 ∧ q.2.1 ≤ 9223372036854775807) ∧ ∀ j, j < q.1 → (fs 4 a b (c, s) (l.take j)).1.1 ≠ 9223372036854775807) (fun q => l.length - q.1) (0, c, s, []) ⟨Nat.zero_le _, rfl, hc, fun j hj => absurd hj (Nat.not_lt_zero _)⟩ (Z.Stp.trans (Z.Stp.cells 3 _ [[.gsl 77 []]] rfl (Nat.le_of_ble_eq_true rfl) ⟨⟨Z.Imp.nilg 77, trivial⟩, trivial⟩) (Z.Wk.stp (l := [0, 1, 2, 3, 4, 5, 6, 7, 8, 9, 10, 11, 12, 13, 77]) ⟨rfl, by decide, rfl, (Nat.le_of_ble_eq_true rfl), ⟨rfl, rfl, rfl, rfl, rfl, rfl, trivial⟩, ⟨fun b hb => (by cases hb; rfl), fun b hb => (by cases hb; rfl), fun b hb => (by cases hb; rfl), fun b hb => (by cases hb; rfl), fun b hb => (by cases hb; rfl), fun b hb => (by cases hb; rfl), fun b hb => (by cases hb; rfl), fun b hb => (by cases hb; rfl), fun b hb => (by cases hb; rfl), fun b hb => (by cases hb; rfl), fun b hb => (by cases hb), fun b hb => (by cases hb; rfl), fun b hb => (by cases hb; (try subst hlb); rfl), fun b hb => (by cases hb; rfl), fun b hb => (by cases hb), trivial⟩⟩)) ?_
  rintro ⟨i, c1, s1, acc⟩ ⟨hi, hq, hb1, hno⟩
  dsimp only at hi hq hb1 hno ⊢
  have hal : acc.length ≤ 40 := by
    have := fs_len (t := 4) (a := a) (b := b) (l.take i) (c := (c, s))
    rw [← hq, List.length_take] at this; dsimp only at this; omega
  repeat' ((conv => whnf); first
    | ((with_reducible apply spB_cong); (focus (simp only [beq_self_eq_true, bne_self_eq_false, Bool.true_bne, Bool.false_bne, Bool.bne_true, Bool.bne_false, Bool.true_beq, Bool.false_beq, Bool.not_true, Bool.not_false, Bool.not_not, Int.reduceBEq, Int.reduceBNe, Int.reduceLE, Int.reduceLT, Int.reduceEq, decide_true, decide_false]; rfl)))
    | with_reducible first | refine spB_no (by decide) ?_
    | (with_reducible refine spB_dec ?_ ?_ <;> intro _ <;> (try (exfalso; first | contradiction | omega | (rename_i hz; with_reducible exact absurd rfl hz))))
    | (with_reducible refine spB_beq ?_ ?_ <;> intro _ <;> (try (exfalso; first | contradiction | omega | (rename_i hz; with_reducible exact absurd rfl hz))))
    | ((with_reducible refine posE_pos ?_ ?_); (focus ((try simp only [LN] at *) <;> omega)))
    | ((with_reducible apply ixN_litp); (focus (exact rfl)); (focus ((try simp only [LN] at *) <;> omega)))
    | ((with_reducible refine apdN.mk ?_ ?_ ?_ ?_ ?_ ?_); (focus (first | rfl)); (focus (first | exact one_all (by rfl))); (focus ((try simp only [LN] at *) <;> omega)); (focus ((try simp only [LN] at *) <;> omega)); (focus ((try simp only [LN] at *) <;> omega)))
    | with_reducible refine wr_i64 (by first | omega | (simp only [LN] at *; omega)) ?_
    | with_reducible first | refine wr_mk _ rfl ?_
    | ((with_reducible refine rowN_map ?_ ?_); (focus ((try simp only [LN] at *) <;> omega)); intro x hx)
    | (with_reducible refine Z.callZ_in tabOk 18 Try.f140 _ Try.func140 (by kernel_rfl) rfl rfl rfl ?_)
    | ((with_reducible refine eqN_mk2 ?_ ?_); (focus (exact Z.kb_some rfl)))
    | ((with_reducible apply ex_and); exact rfl)
    | ((with_reducible refine Z.rngN.mk ?_); (try subst hlb))
    | ((with_reducible refine Z.CallZ.yl ?_); subst hlb; refine Z.yield_rule tabOk _ _ rfl rfl rfl rfl ?_)
    | with_reducible first | refine Z.drawZ_rule tabOk mixOk ?_ | refine Z.apZ_mk (by kernel_rfl) ?_)
  all_goals (try (conv => whnf))
  all_goals first
    | ((refine Z.rndK ((i + 1, (c1 + 1), (IntKind.i64.wrap (s1 + x)), acc ++ [IntKind.i64.wrap (s1 + x)])) (fun s => [0, 1, 2, 3, 4, 5, 6, 7, 8, 9, 10, 11, 12, 13, s.idIn 3 0]) rfl rfl rfl rfl ?_ ?_ ?_ ?_); (focus (repeat' (first | exact trivial | exact rfl | apply And.intro))); (focus (repeat' (first | exact trivial | (intro b hb; cases hb; rfl) | (intro b hb; cases hb; rw [List.map_append]; rfl) | (intro b hb; cases hb; done) | exact Z.gB_sub' rfl (by first | rfl | (rw [List.map_append]; rfl) | simp only [List.map_append, List.map_cons, List.map_nil]) (ren_map fun _ => rfl) | apply And.intro))); (focus (refine ⟨by (try simp only [LN] at *); (try dsimp only); omega, ?_, ?_, ?_⟩; (focus (dsimp only; rw [fs_step hx, ← hq]; simp [stp])); (focus (dsimp only; omega)); exact no_step hno hq (by omega))); (try simp only [LN] at *); (try dsimp only); omega)
    | (refine ret0 _ rfl _ rfl (fun _ => rfl) rfl (.inl ⟨⟨i, by (try simp only [LN] at *) <;> omega, by rw [← hq]; (first | assumption)⟩, rfl, rfl, rfl⟩))
    | skip
  have hend : i = l.length := by (try simp only [LN] at *) <;> omega
  subst hend
  rw [List.take_length] at hq
  refine ret_stp (Stp.fzg 7 14 (acc.map cI) rfl 1 2 (by show Z.isB ((gB _ _ _).map Z.Ob.b) = _; exact Z.isB_map _) (acc.map eI) (by simp only [List.map_map]; rfl) (Nat.zero_le _)) ?_
  refine ret0 _ rfl _ rfl (fun _ => rfl) rfl (.inr ⟨hno, ?_, rfl, rfl⟩)
  rw [← hq]; rfl
theorem run5_con (w : Int) (ins : List Int) (a b c s : Int) (l : List Int) (hc : 0 ≤ c ∧ c ≤ 9223372036854775807) (hl : l.length ≤ 40) : Con Try.prog 89 [.agg [.v (.int .i64 5), .v (.int .i64 w), .ro false 1 (ins.map eI), .v (.int .i64 a), .v (.int .i64 b)], .agg [.v (.int .i64 c), .v (.int .i64 s)], .one (.ro false 1 (l.map eI))] (fun rx rK rt => ((∃ j, j < l.length ∧ (fs 5 a b (c, s) (l.take j)).1.1 = 9223372036854775807) ∧ rx = .tup [.agg [.v (.int .i64 0), .v (.int .i64 0)], .one (.v (.slice none 0 0)), .one (.v (.int .i64 6))] ∧ rK = [] ∧ rt = 0) ∨ ((∀ j, j < l.length → (fs 5 a b (c, s) (l.take j)).1.1 ≠ 9223372036854775807) ∧ rx = .tup [.agg [.v (.int .i64 (fs 5 a b (c, s) (l)).1.1), .v (.int .i64 (fs 5 a b (c, s) (l)).1.2)], .one (.ro true 1 ((fs 5 a b (c, s) (l)).2.map eI)), .one (.v (.int .i64 0))] ∧ rK = [] ∧ rt = 0)) := by
  refine Z.con_ofZ tabOk 32 Try.f89 _ Try.func89 (by kernel_rfl) rfl rfl rfl rfl ?_
  repeat' ((conv => whnf); first
    | ((with_reducible apply ixN_lit); (focus (exact rfl)); (focus (exact rfl)))
    | (with_reducible refine Z.callZ_in tabOk 11 Try.f114 _ Try.func114 (by kernel_rfl) rfl rfl rfl ?_)
    | (with_reducible refine Z.callZ_in tabOk 18 Try.f131 _ Try.func131 (by kernel_rfl) rfl rfl rfl ?_)
    | (with_reducible refine Z.callZ_in tabOk 32 Try.f132 _ Try.func132 (by kernel_rfl) rfl rfl rfl ?_)
    | ((with_reducible apply ex_and); exact rfl)
    | ((with_reducible refine Z.RangeZ.red ?_); (refine Z.range_rule [(2, _), (4, _), (6, _), (9, _), (10, _)] rfl ⟨rfl, rfl, rfl, rfl, rfl, trivial⟩ rfl rfl ?_); intro lb hlb))
  all_goals (try (conv => whnf))
  refine Z.loopZ_rule tabOk (fun q : Nat × Int × Int × List Int => (⟨[(12, .val (.int .i64 (q.1 : Int))), (11, .val (.int .i64 ((l.map eI).length : Nat))), (10, .c (.ro false 1 (l.map eI))), (5, .c (.own 13 0 0)), (3, .c (.own 11 0 0)), (0, .c (.yl 12))], [(0, some (.b ⟨[[.v (.int .i64 5), .v (.int .i64 w), .ro false 1 (ins.map eI), .v (.int .i64 a), .v (.int .i64 b)]], 5, 25, true⟩)), (1, some (.b ⟨[[.v (.int .i64 q.2.1), .v (.int .i64 q.2.2.1)]], 2, 41, true⟩)), (2, some (.b ⟨[[.v (.int .i64 0), .v (.int .i64 0)]], 2, 41, true⟩)), (3, some (.b ⟨[[.gsl 14 (q.2.2.2.map cI)]], 1, 77, true⟩)), (4, some (.b ⟨[[.v (.int .i64 (q.1 : Int))]], 1, 3, true⟩)), (5, some (.b ⟨[[.v (.int .i64 5), .v (.int .i64 w), .ro false 1 (ins.map eI), .v (.int .i64 a), .v (.int .i64 b)]], 5, 25, true⟩)), (6, some (.b ⟨[[.v (.int .i64 c), .v (.int .i64 s)]], 2, 41, true⟩)), (7, some (.b ⟨[[.ro false 1 (l.map eI)]], 1, 77, true⟩)), (8, some (.b ⟨[[.v (.int .i64 5), .v (.int .i64 w), .ro false 1 (ins.map eI), .v (.int .i64 a), .v (.int .i64 b)]], 5, 25, true⟩)), (9, some (.b ⟨[[.fn 140 []]], 1, 166, true⟩)), (10, none), (11, some (.b ⟨[[.fn 144 [.own 9 0 0, .own 8 0 0]]], 1, 167, true⟩)), (12, some (.l lb)), (13, some (.b ⟨[[.v (.int .i64 q.2.1), .v (.int .i64 q.2.2.1)]], 2, 41, true⟩)), (14, (gB 1 2 (q.2.2.2.map cI)).map Z.Ob.b)], 15⟩ : Z.S)) (fun q => q.1 ≤ l.length ∧ ((q.2.1, q.2.2.1), q.2.2.2) = fs 5 a b (c, s) (l.take q.1) ∧ (0 ≤ q.2.1 ∧ q.2.1 ≤ 9223372036854775807) ∧ ∀ j, j < q.1 → (fs 5 a b (c, s) (l.take j)).1.1 ≠ 9223372036854775807) (fun q => l.length - q.1) (0, c, s, []) ⟨Nat.zero_le _, rfl, hc, fun j hj => absurd hj (Nat.not_lt_zero _)⟩ (Z.Stp.trans (Z.Stp.cells 3 _ [[.gsl 77 []]] rfl (Nat.le_of_ble_eq_true rfl) ⟨⟨Z.Imp.nilg 77, trivial⟩, trivial⟩) (Z.Wk.stp (l := [0, 1, 2, 3, 4, 5, 6, 7, 8, 9, 10, 11, 12, 13, 77]) ⟨rfl, by decide, rfl, (Nat.le_of_ble_eq_true rfl), ⟨rfl, rfl, rfl, rfl, rfl, rfl, trivial⟩, ⟨fun b hb => (by cases hb; rfl), fun b hb => (by cases hb; rfl), fun b hb => (by cases hb; rfl), fun b hb => (by cases hb; rfl), fun b hb => (by cases hb; rfl), fun b hb => (by cases hb; rfl), fun b hb => (by cases hb; rfl), fun b hb => (by cases hb; rfl), fun b hb => (by cases hb; rfl), fun b hb => (by cases hb; rfl), fun b hb => (by cases hb), fun b hb => (by cases hb; rfl), fun b hb => (by cases hb; (try subst hlb); rfl), fun b hb => (by cases hb; rfl), fun b hb => (by cases hb), trivial⟩⟩)) ?_
  rintro ⟨i, c1, s1, acc⟩ ⟨hi, hq, hb1, hno⟩
  dsimp only at hi hq hb1 hno ⊢
  have hal : acc.length ≤ 40 := by
    have := fs_len (t := 5) (a := a) (b := b) (l.take i) (c := (c, s))
    rw [← hq, List.length_take] at this; dsimp only at this; omega
  repeat' ((conv => whnf); first
    | ((with_reducible apply spB_cong); (focus (simp only [beq_self_eq_true, bne_self_eq_false, Bool.true_bne, Bool.false_bne, Bool.bne_true, Bool.bne_false, Bool.true_beq, Bool.false_beq, Bool.not_true, Bool.not_false, Bool.not_not, Int.reduceBEq, Int.reduceBNe, Int.reduceLE, Int.reduceLT, Int.reduceEq, decide_true, decide_false]; rfl)))
    | with_reducible first | refine spB_no (by decide) ?_
    | (with_reducible refine spB_dec ?_ ?_ <;> intro _ <;> (try (exfalso; first | contradiction | omega | (rename_i hz; with_reducible exact absurd rfl hz))))
    | (with_reducible refine spB_beq ?_ ?_ <;> intro _ <;> (try (exfalso; first | contradiction | omega | (rename_i hz; with_reducible exact absurd rfl hz))))
    | ((with_reducible refine posE_pos ?_ ?_); (focus ((try simp only [LN] at *) <;> omega)))
    | ((with_reducible refine posE_nil ?_ ?_); (focus rfl))
    | ((with_reducible apply ixN_litp); (focus (exact rfl)); (focus ((try simp only [LN] at *) <;> omega)))
    | ((with_reducible refine apdN.mk ?_ ?_ ?_ ?_ ?_ ?_); (focus (first | rfl)); (focus (first | exact one_all (by rfl))); (focus ((try simp only [LN] at *) <;> omega)); (focus ((try simp only [LN] at *) <;> omega)); (focus ((try simp only [LN] at *) <;> omega)))
    | with_reducible refine wr_i64 (by first | omega | (simp only [LN] at *; omega)) ?_
    | with_reducible first | refine wr_mk _ rfl ?_
    | ((with_reducible refine rowN_map ?_ ?_); (focus ((try simp only [LN] at *) <;> omega)); intro x hx)
    | (with_reducible refine Z.callZ_in tabOk 18 Try.f140 _ Try.func140 (by kernel_rfl) rfl rfl rfl ?_)
    | (with_reducible refine Z.callZ_in tabOk 24 Try.f144 _ Try.func144 (by kernel_rfl) rfl rfl rfl ?_)
    | ((with_reducible refine eqN_mk2 ?_ ?_); (focus (exact Z.kb_some rfl)))
    | ((with_reducible apply ex_and); exact rfl)
    | ((with_reducible refine Z.rngN.mk ?_); (try subst hlb))
    | ((with_reducible refine Z.CallZ.yl ?_); subst hlb; refine Z.yield_rule tabOk _ _ rfl rfl rfl rfl ?_)
    | with_reducible first | refine Z.drawZ_rule tabOk mixOk ?_ | refine Z.apZ_mk (by kernel_rfl) ?_)
  all_goals (try (conv => whnf))
  all_goals first
    | ((refine Z.rndK ((i + 1, (c1 + 1), (IntKind.i64.wrap (s1 + x)), acc)) (fun s => [0, 1, 2, 3, 4, 5, 6, 7, 8, 9, 10, 11, 12, 13, s.idIn 3 0]) rfl rfl rfl rfl ?_ ?_ ?_ ?_); (focus (repeat' (first | exact trivial | exact rfl | apply And.intro))); (focus (repeat' (first | exact trivial | (intro b hb; cases hb; rfl) | (intro b hb; cases hb; done) | exact Z.gB_sub rfl rfl (ren_map fun _ => rfl) | exact Z.gB_sub' rfl (by first | rfl | (rw [List.map_append]; rfl) | simp only [List.map_append, List.map_cons, List.map_nil]) (ren_map fun _ => rfl) | apply And.intro))); (focus (refine ⟨by (try simp only [LN] at *); (try dsimp only); omega, ?_, ?_, ?_⟩; (focus (dsimp only; rw [fs_step hx, ← hq]; rw [stp5y (by assumption), List.append_nil])); (focus (dsimp only; omega)); exact no_step hno hq (by omega))); (try simp only [LN] at *); (try dsimp only); omega)
    | ((refine Z.rndK ((i + 1, 0, 0, acc ++ [IntKind.i64.wrap (s1 + x)])) (fun s => [0, 1, 2, 3, 4, 5, 6, 7, 8, 9, 10, 11, 12, 13, s.idIn 3 0]) rfl rfl rfl rfl ?_ ?_ ?_ ?_); (focus (repeat' (first | exact trivial | exact rfl | apply And.intro))); (focus (repeat' (first | exact trivial | (intro b hb; cases hb; rfl) | (intro b hb; cases hb; rw [List.map_append]; rfl) | (intro b hb; cases hb; done) | exact Z.gB_sub' rfl (by first | rfl | (rw [List.map_append]; rfl) | simp only [List.map_append, List.map_cons, List.map_nil]) (ren_map fun _ => rfl) | apply And.intro))); (focus (refine ⟨by (try simp only [LN] at *); (try dsimp only); omega, ?_, ?_, ?_⟩; (focus (dsimp only; rw [fs_step hx, ← hq]; rw [stp5n (by assumption)])); (focus (dsimp only; omega)); exact no_step hno hq (by omega))); (try simp only [LN] at *); (try dsimp only); omega)
    | (refine ret0 _ rfl _ rfl (fun _ => rfl) rfl (.inl ⟨⟨i, by (try simp only [LN] at *) <;> omega, by rw [← hq]; (first | assumption)⟩, rfl, rfl, rfl⟩))
    | skip
  have hend : i = l.length := by (try simp only [LN] at *) <;> omega
  subst hend
  rw [List.take_length] at hq
  refine ret_stp (Stp.fzg 7 14 (acc.map cI) rfl 1 2 (by show Z.isB ((gB _ _ _).map Z.Ob.b) = _; exact Z.isB_map _) (acc.map eI) (by simp only [List.map_map]; rfl) (Nat.zero_le _)) ?_
  refine ret0 _ rfl _ rfl (fun _ => rfl) rfl (.inr ⟨hno, ?_, rfl, rfl⟩)
  rw [← hq]; rfl
theorem run6_con (w : Int) (ins : List Int) (a b c s : Int) (l : List Int) (hc : 0 ≤ c ∧ c ≤ 9223372036854775807) (hl : l.length ≤ 40) : Con Try.prog 89 [.agg [.v (.int .i64 6), .v (.int .i64 w), .ro false 1 (ins.map eI), .v (.int .i64 a), .v (.int .i64 b)], .agg [.v (.int .i64 c), .v (.int .i64 s)], .one (.ro false 1 (l.map eI))] (fun rx rK rt => ((∃ j, j < l.length ∧ (fs 6 a b (c, s) (l.take j)).1.1 = 9223372036854775807) ∧ rx = .tup [.agg [.v (.int .i64 0), .v (.int .i64 0)], .one (.v (.slice none 0 0)), .one (.v (.int .i64 6))] ∧ rK = [] ∧ rt = 0) ∨ ((∀ j, j < l.length → (fs 6 a b (c, s) (l.take j)).1.1 ≠ 9223372036854775807) ∧ rx = .tup [.agg [.v (.int .i64 (fs 6 a b (c, s) (l)).1.1), .v (.int .i64 (fs 6 a b (c, s) (l)).1.2)], .one (.ro true 1 ((fs 6 a b (c, s) (l)).2.map eI)), .one (.v (.int .i64 0))] ∧ rK = [] ∧ rt = 0)) := by
  refine Z.con_ofZ tabOk 32 Try.f89 _ Try.func89 (by kernel_rfl) rfl rfl rfl rfl ?_
  repeat' ((conv => whnf); first
    | ((with_reducible apply ixN_lit); (focus (exact rfl)); (focus (exact rfl)))
    | (with_reducible refine Z.callZ_in tabOk 11 Try.f114 _ Try.func114 (by kernel_rfl) rfl rfl rfl ?_)
    | (with_reducible refine Z.callZ_in tabOk 18 Try.f131 _ Try.func131 (by kernel_rfl) rfl rfl rfl ?_)
    | (with_reducible refine Z.callZ_in tabOk 32 Try.f132 _ Try.func132 (by kernel_rfl) rfl rfl rfl ?_)
    | ((with_reducible apply ex_and); exact rfl)
    | ((with_reducible refine Z.RangeZ.red ?_); (refine Z.range_rule [(2, _), (4, _), (6, _), (9, _), (10, _)] rfl ⟨rfl, rfl, rfl, rfl, rfl, trivial⟩ rfl rfl ?_); intro lb hlb))
  all_goals (try (conv => whnf))
  refine Z.loopZ_rule tabOk (fun q : Nat × Int × Int × List Int => (⟨[(12, .val (.int .i64 (q.1 : Int))), (11, .val (.int .i64 ((l.map eI).length : Nat))), (10, .c (.ro false 1 (l.map eI))), (5, .c (.own 13 0 0)), (3, .c (.own 11 0 0)), (0, .c (.yl 12))], [(0, some (.b ⟨[[.v (.int .i64 6), .v (.int .i64 w), .ro false 1 (ins.map eI), .v (.int .i64 a), .v (.int .i64 b)]], 5, 25, true⟩)), (1, some (.b ⟨[[.v (.int .i64 q.2.1), .v (.int .i64 q.2.2.1)]], 2, 41, true⟩)), (2, some (.b ⟨[[.v (.int .i64 0), .v (.int .i64 0)]], 2, 41, true⟩)), (3, some (.b ⟨[[.gsl 14 (q.2.2.2.map cI)]], 1, 77, true⟩)), (4, some (.b ⟨[[.v (.int .i64 (q.1 : Int))]], 1, 3, true⟩)), (5, some (.b ⟨[[.v (.int .i64 6), .v (.int .i64 w), .ro false 1 (ins.map eI), .v (.int .i64 a), .v (.int .i64 b)]], 5, 25, true⟩)), (6, some (.b ⟨[[.v (.int .i64 c), .v (.int .i64 s)]], 2, 41, true⟩)), (7, some (.b ⟨[[.ro false 1 (l.map eI)]], 1, 77, true⟩)), (8, some (.b ⟨[[.v (.int .i64 6), .v (.int .i64 w), .ro false 1 (ins.map eI), .v (.int .i64 a), .v (.int .i64 b)]], 5, 25, true⟩)), (9, some (.b ⟨[[.fn 140 []]], 1, 166, true⟩)), (10, none), (11, some (.b ⟨[[.fn 139 []]], 1, 167, true⟩)), (12, some (.l lb)), (13, some (.b ⟨[[.v (.int .i64 q.2.1), .v (.int .i64 q.2.2.1)]], 2, 41, true⟩)), (14, (gB 1 2 (q.2.2.2.map cI)).map Z.Ob.b)], 15⟩ : Z.S)) (fun q => q.1 ≤ l.length ∧ ((q.2.1, q.2.2.1), q.2.2.2) = fs 6 a b (c, s) (l.take q.1) ∧ (0 ≤ q.2.1 ∧ q.2.1 ≤ 9223372036854775807) ∧ ∀ j, j < q.1 → (fs 6 a b (c, s) (l.take j)).1.1 ≠ 9223372036854775807) (fun q => l.length - q.1) (0, c, s, []) ⟨Nat.zero_le _, rfl, hc, fun j hj => absurd hj (Nat.not_lt_zero _)⟩ (Z.Stp.trans (Z.Stp.cells 3 _ [[.gsl 77 []]] rfl (Nat.le_of_ble_eq_true rfl) ⟨⟨Z.Imp.nilg 77, trivial⟩, trivial⟩) (Z.Wk.stp (l := [0, 1, 2, 3, 4, 5, 6, 7, 8, 9, 10, 11, 12, 13, 77]) ⟨rfl, by decide, rfl, (Nat.le_of_ble_eq_true rfl), ⟨rfl, rfl, rfl, rfl, rfl, rfl, trivial⟩, ⟨fun b hb => (by cases hb; rfl), fun b hb => (by cases hb; rfl), fun b hb => (by cases hb; rfl), fun b hb => (by cases hb; rfl), fun b hb => (by cases hb; rfl), fun b hb => (by cases hb; rfl), fun b hb => (by cases hb; rfl), fun b hb => (by cases hb; rfl), fun b hb => (by cases hb; rfl), fun b hb => (by cases hb; rfl), fun b hb => (by cases hb), fun b hb => (by cases hb; rfl), fun b hb => (by cases hb; (try subst hlb); rfl), fun b hb => (by cases hb; rfl), fun b hb => (by cases hb), trivial⟩⟩)) ?_
  rintro ⟨i, c1, s1, acc⟩ ⟨hi, hq, hb1, hno⟩
  dsimp only at hi hq hb1 hno ⊢
  have hal : acc.length ≤ 40 := by
    have := fs_len (t := 6) (a := a) (b := b) (l.take i) (c := (c, s))
    rw [← hq, List.length_take] at this; dsimp only at this; omega
  repeat' ((conv => whnf); first
    | ((with_reducible apply spB_cong); (focus (simp only [beq_self_eq_true, bne_self_eq_false, Bool.true_bne, Bool.false_bne, Bool.bne_true, Bool.bne_false, Bool.true_beq, Bool.false_beq, Bool.not_true, Bool.not_false, Bool.not_not, Int.reduceBEq, Int.reduceBNe, Int.reduceLE, Int.reduceLT, Int.reduceEq, decide_true, decide_false]; rfl)))
    | with_reducible first | refine spB_no (by decide) ?_
    | (with_reducible refine spB_dec ?_ ?_ <;> intro _ <;> (try (exfalso; first | contradiction | omega | (rename_i hz; with_reducible exact absurd rfl hz))))
    | (with_reducible refine spB_beq ?_ ?_ <;> intro _ <;> (try (exfalso; first | contradiction | omega | (rename_i hz; with_reducible exact absurd rfl hz))))
    | ((with_reducible refine posE_pos ?_ ?_); (focus ((try simp only [LN] at *) <;> omega)))
    | ((with_reducible apply ixN_litp); (focus (exact rfl)); (focus ((try simp only [LN] at *) <;> omega)))
    | ((with_reducible refine apdN.mk ?_ ?_ ?_ ?_ ?_ ?_); (focus (first | rfl)); (focus (first | exact one_all (by rfl))); (focus ((try simp only [LN] at *) <;> omega)); (focus ((try simp only [LN] at *) <;> omega)); (focus ((try simp only [LN] at *) <;> omega)))
    | with_reducible refine wr_i64 (by first | omega | (simp only [LN] at *; omega)) ?_
    | ((with_reducible refine rowN_map ?_ ?_); (focus ((try simp only [LN] at *) <;> omega)); intro x hx)
    | (with_reducible refine Z.callZ_in tabOk 9 Try.f139 _ Try.func139 (by kernel_rfl) rfl rfl rfl ?_)
    | ((with_reducible refine eqN_mk2 ?_ ?_); (focus (exact Z.kb_some rfl)))
    | ((with_reducible apply ex_and); exact rfl)
    | ((with_reducible refine Z.rngN.mk ?_); (try subst hlb))
    | ((with_reducible refine Z.CallZ.yl ?_); subst hlb; refine Z.yield_rule tabOk _ _ rfl rfl rfl rfl ?_)
    | with_reducible first | refine Z.drawZ_rule tabOk mixOk ?_ | refine Z.apZ_mk (by kernel_rfl) ?_)
  all_goals (try (conv => whnf))
  all_goals first
    | ((refine Z.rndK ((i + 1, c1, s1, acc ++ [x])) (fun s => [0, 1, 2, 3, 4, 5, 6, 7, 8, 9, 10, 11, 12, 13, s.idIn 3 0]) rfl rfl rfl rfl ?_ ?_ ?_ ?_); (focus (repeat' (first | exact trivial | exact rfl | apply And.intro))); (focus (repeat' (first | exact trivial | (intro b hb; cases hb; rfl) | (intro b hb; cases hb; rw [List.map_append]; rfl) | (intro b hb; cases hb; done) | exact Z.gB_sub' rfl (by first | rfl | (rw [List.map_append]; rfl) | simp only [List.map_append, List.map_cons, List.map_nil]) (ren_map fun _ => rfl) | apply And.intro))); (focus (refine ⟨by (try simp only [LN] at *); (try dsimp only); omega, ?_, ?_, ?_⟩; (focus (dsimp only; rw [fs_step hx, ← hq]; simp [stp])); (focus (dsimp only; omega)); exact no_step hno hq (by omega))); (try simp only [LN] at *); (try dsimp only); omega)
    | (refine ret0 _ rfl _ rfl (fun _ => rfl) rfl (.inl ⟨⟨i, by (try simp only [LN] at *) <;> omega, by rw [← hq]; (first | assumption)⟩, rfl, rfl, rfl⟩))
    | skip
  have hend : i = l.length := by (try simp only [LN] at *) <;> omega
  subst hend
  rw [List.take_length] at hq
  refine ret_stp (Stp.fzg 7 14 (acc.map cI) rfl 1 2 (by show Z.isB ((gB _ _ _).map Z.Ob.b) = _; exact Z.isB_map _) (acc.map eI) (by simp only [List.map_map]; rfl) (Nat.zero_le _)) ?_
  refine ret0 _ rfl _ rfl (fun _ => rfl) rfl (.inr ⟨hno, ?_, rfl, rfl⟩)
  rw [← hq]; rfl
theorem run7_con (w : Int) (ins : List Int) (a b c s : Int) (l : List Int) (hc : 0 ≤ c ∧ c ≤ 9223372036854775807) (hl : l.length ≤ 40) : Con Try.prog 89 [.agg [.v (.int .i64 7), .v (.int .i64 w), .ro false 1 (ins.map eI), .v (.int .i64 a), .v (.int .i64 b)], .agg [.v (.int .i64 c), .v (.int .i64 s)], .one (.ro false 1 (l.map eI))] (fun rx rK rt => ((∃ j, j < l.length ∧ (fs 7 a b (c, s) (l.take j)).1.1 = 9223372036854775807) ∧ rx = .tup [.agg [.v (.int .i64 0), .v (.int .i64 0)], .one (.v (.slice none 0 0)), .one (.v (.int .i64 6))] ∧ rK = [] ∧ rt = 0) ∨ ((∀ j, j < l.length → (fs 7 a b (c, s) (l.take j)).1.1 ≠ 9223372036854775807) ∧ rx = .tup [.agg [.v (.int .i64 (fs 7 a b (c, s) (l)).1.1), .v (.int .i64 (fs 7 a b (c, s) (l)).1.2)], .one (.ro true 1 ((fs 7 a b (c, s) (l)).2.map eI)), .one (.v (.int .i64 0))] ∧ rK = [] ∧ rt = 0)) := by
  refine Z.con_ofZ tabOk 32 Try.f89 _ Try.func89 (by kernel_rfl) rfl rfl rfl rfl ?_
  repeat' ((conv => whnf); first
    | ((with_reducible apply ixN_lit); (focus (exact rfl)); (focus (exact rfl)))
    | (with_reducible refine Z.callZ_in tabOk 11 Try.f114 _ Try.func114 (by kernel_rfl) rfl rfl rfl ?_)
    | (with_reducible refine Z.callZ_in tabOk 18 Try.f131 _ Try.func131 (by kernel_rfl) rfl rfl rfl ?_)
    | (with_reducible refine Z.callZ_in tabOk 32 Try.f132 _ Try.func132 (by kernel_rfl) rfl rfl rfl ?_)
    | ((with_reducible apply ex_and); exact rfl)
    | ((with_reducible refine Z.RangeZ.red ?_); (refine Z.range_rule [(2, _), (4, _), (6, _), (9, _), (10, _)] rfl ⟨rfl, rfl, rfl, rfl, rfl, trivial⟩ rfl rfl ?_); intro lb hlb))
  all_goals (try (conv => whnf))
  refine Z.loopZ_rule tabOk (fun q : Nat × Int × Int × List Int => (⟨[(12, .val (.int .i64 (q.1 : Int))), (11, .val (.int .i64 ((l.map eI).length : Nat))), (10, .c (.ro false 1 (l.map eI))), (5, .c (.own 13 0 0)), (3, .c (.own 11 0 0)), (0, .c (.yl 12))], [(0, some (.b ⟨[[.v (.int .i64 7), .v (.int .i64 w), .ro false 1 (ins.map eI), .v (.int .i64 a), .v (.int .i64 b)]], 5, 25, true⟩)), (1, some (.b ⟨[[.v (.int .i64 q.2.1), .v (.int .i64 q.2.2.1)]], 2, 41, true⟩)), (2, some (.b ⟨[[.v (.int .i64 0), .v (.int .i64 0)]], 2, 41, true⟩)), (3, some (.b ⟨[[.gsl 14 (q.2.2.2.map cI)]], 1, 77, true⟩)), (4, some (.b ⟨[[.v (.int .i64 (q.1 : Int))]], 1, 3, true⟩)), (5, some (.b ⟨[[.v (.int .i64 7), .v (.int .i64 w), .ro false 1 (ins.map eI), .v (.int .i64 a), .v (.int .i64 b)]], 5, 25, true⟩)), (6, some (.b ⟨[[.v (.int .i64 c), .v (.int .i64 s)]], 2, 41, true⟩)), (7, some (.b ⟨[[.ro false 1 (l.map eI)]], 1, 77, true⟩)), (8, some (.b ⟨[[.v (.int .i64 7), .v (.int .i64 w), .ro false 1 (ins.map eI), .v (.int .i64 a), .v (.int .i64 b)]], 5, 25, true⟩)), (9, some (.b ⟨[[.fn 140 []]], 1, 166, true⟩)), (10, none), (11, some (.b ⟨[[.fn 139 []]], 1, 167, true⟩)), (12, some (.l lb)), (13, some (.b ⟨[[.v (.int .i64 q.2.1), .v (.int .i64 q.2.2.1)]], 2, 41, true⟩)), (14, (gB 1 2 (q.2.2.2.map cI)).map Z.Ob.b)], 15⟩ : Z.S)) (fun q => q.1 ≤ l.length ∧ ((q.2.1, q.2.2.1), q.2.2.2) = fs 7 a b (c, s) (l.take q.1) ∧ (0 ≤ q.2.1 ∧ q.2.1 ≤ 9223372036854775807) ∧ ∀ j, j < q.1 → (fs 7 a b (c, s) (l.take j)).1.1 ≠ 9223372036854775807) (fun q => l.length - q.1) (0, c, s, []) ⟨Nat.zero_le _, rfl, hc, fun j hj => absurd hj (Nat.not_lt_zero _)⟩ (Z.Stp.trans (Z.Stp.cells 3 _ [[.gsl 77 []]] rfl (Nat.le_of_ble_eq_true rfl) ⟨⟨Z.Imp.nilg 77, trivial⟩, trivial⟩) (Z.Wk.stp (l := [0, 1, 2, 3, 4, 5, 6, 7, 8, 9, 10, 11, 12, 13, 77]) ⟨rfl, by decide, rfl, (Nat.le_of_ble_eq_true rfl), ⟨rfl, rfl, rfl, rfl, rfl, rfl, trivial⟩, ⟨fun b hb => (by cases hb; rfl), fun b hb => (by cases hb; rfl), fun b hb => (by cases hb; rfl), fun b hb => (by cases hb; rfl), fun b hb => (by cases hb; rfl), fun b hb => (by cases hb; rfl), fun b hb => (by cases hb; rfl), fun b hb => (by cases hb; rfl), fun b hb => (by cases hb; rfl), fun b hb => (by cases hb; rfl), fun b hb => (by cases hb), fun b hb => (by cases hb; rfl), fun b hb => (by cases hb; (try subst hlb); rfl), fun b hb => (by cases hb; rfl), fun b hb => (by cases hb), trivial⟩⟩)) ?_
  rintro ⟨i, c1, s1, acc⟩ ⟨hi, hq, hb1, hno⟩
  dsimp only at hi hq hb1 hno ⊢
  have hal : acc.length ≤ 40 := by
    have := fs_len (t := 7) (a := a) (b := b) (l.take i) (c := (c, s))
    rw [← hq, List.length_take] at this; dsimp only at this; omega
  repeat' ((conv => whnf); first
    | ((with_reducible apply spB_cong); (focus (simp only [beq_self_eq_true, bne_self_eq_false, Bool.true_bne, Bool.false_bne, Bool.bne_true, Bool.bne_false, Bool.true_beq, Bool.false_beq, Bool.not_true, Bool.not_false, Bool.not_not, Int.reduceBEq, Int.reduceBNe, Int.reduceLE, Int.reduceLT, Int.reduceEq, decide_true, decide_false]; rfl)))
    | with_reducible first | refine spB_no (by decide) ?_
    | (with_reducible refine spB_dec ?_ ?_ <;> intro _ <;> (try (exfalso; first | contradiction | omega | (rename_i hz; with_reducible exact absurd rfl hz))))
    | (with_reducible refine spB_beq ?_ ?_ <;> intro _ <;> (try (exfalso; first | contradiction | omega | (rename_i hz; with_reducible exact absurd rfl hz))))
    | ((with_reducible refine posE_pos ?_ ?_); (focus ((try simp only [LN] at *) <;> omega)))
    | ((with_reducible apply ixN_litp); (focus (exact rfl)); (focus ((try simp only [LN] at *) <;> omega)))
    | ((with_reducible refine apdN.mk ?_ ?_ ?_ ?_ ?_ ?_); (focus (first | rfl)); (focus (first | exact one_all (by rfl))); (focus ((try simp only [LN] at *) <;> omega)); (focus ((try simp only [LN] at *) <;> omega)); (focus ((try simp only [LN] at *) <;> omega)))
    | with_reducible refine wr_i64 (by first | omega | (simp only [LN] at *; omega)) ?_
    | ((with_reducible refine rowN_map ?_ ?_); (focus ((try simp only [LN] at *) <;> omega)); intro x hx)
    | (with_reducible refine Z.callZ_in tabOk 9 Try.f139 _ Try.func139 (by kernel_rfl) rfl rfl rfl ?_)
    | ((with_reducible refine eqN_mk2 ?_ ?_); (focus (exact Z.kb_some rfl)))
    | ((with_reducible apply ex_and); exact rfl)
    | ((with_reducible refine Z.rngN.mk ?_); (try subst hlb))
    | ((with_reducible refine Z.CallZ.yl ?_); subst hlb; refine Z.yield_rule tabOk _ _ rfl rfl rfl rfl ?_)
    | with_reducible first | refine Z.drawZ_rule tabOk mixOk ?_ | refine Z.apZ_mk (by kernel_rfl) ?_)
  all_goals (try (conv => whnf))
  all_goals first
    | ((refine Z.rndK ((i + 1, c1, s1, acc ++ [x])) (fun s => [0, 1, 2, 3, 4, 5, 6, 7, 8, 9, 10, 11, 12, 13, s.idIn 3 0]) rfl rfl rfl rfl ?_ ?_ ?_ ?_); (focus (repeat' (first | exact trivial | exact rfl | apply And.intro))); (focus (repeat' (first | exact trivial | (intro b hb; cases hb; rfl) | (intro b hb; cases hb; rw [List.map_append]; rfl) | (intro b hb; cases hb; done) | exact Z.gB_sub' rfl (by first | rfl | (rw [List.map_append]; rfl) | simp only [List.map_append, List.map_cons, List.map_nil]) (ren_map fun _ => rfl) | apply And.intro))); (focus (refine ⟨by (try simp only [LN] at *); (try dsimp only); omega, ?_, ?_, ?_⟩; (focus (dsimp only; rw [fs_step hx, ← hq]; simp [stp])); (focus (dsimp only; omega)); exact no_step hno hq (by omega))); (try simp only [LN] at *); (try dsimp only); omega)
    | (refine ret0 _ rfl _ rfl (fun _ => rfl) rfl (.inl ⟨⟨i, by (try simp only [LN] at *) <;> omega, by rw [← hq]; (first | assumption)⟩, rfl, rfl, rfl⟩))
    | skip
  have hend : i = l.length := by (try simp only [LN] at *) <;> omega
  subst hend
  rw [List.take_length] at hq
  refine ret_stp (Stp.fzg 7 14 (acc.map cI) rfl 1 2 (by show Z.isB ((gB _ _ _).map Z.Ob.b) = _; exact Z.isB_map _) (acc.map eI) (by simp only [List.map_map]; rfl) (Nat.zero_le _)) ?_
  refine ret0 _ rfl _ rfl (fun _ => rfl) rfl (.inr ⟨hno, ?_, rfl, rfl⟩)
  rw [← hq]; rfl
end Ops
end Go.Proofs.Ytehhmkdghgabaaa
namespace Go.Proofs.Ytehhmkdghgabaaa
open Go Go.RowKit Wx
set_option linter.unusedVariables false
set_option linter.unusedSimpArgs false
set_option maxHeartbeats 4000000
namespace Ops
theorem keeps_con (t w a b : Int) (ins : List Int)  : Con Try.prog 116 [.agg [.v (.int .i64 t), .v (.int .i64 w), .ro false 1 (ins.map eI), .v (.int .i64 a), .v (.int .i64 b)]] (fun rx rK rt => rx = .val (.bool (decide (t = 4 ∨ t = 5))) ∧ rK = [] ∧ rt = 0) := by
  refine con_of tabOk 11 Try.f116 _ Try.func116 (by kernel_rfl) rfl rfl rfl rfl (fun W => ?_)
  repeat' ((conv => whnf); first
    | with_reducible first | refine spB_t ?_
    | with_reducible first | refine spB_no (by decide) ?_
    | (with_reducible refine spB_beq ?_ ?_ <;> intro _ <;> (try (exfalso; first | contradiction | omega | (rename_i hz; with_reducible exact absurd rfl hz)))))
  all_goals (try (conv => whnf))
  all_goals refine ret0 _ rfl _ rfl (fun _ => rfl) rfl ⟨?_, rfl, rfl⟩
  all_goals (refine rv_bool ?_; first | (exact bool_t (by omega)) | (exact bool_f (by omega)) | (exact bool_p (by omega)))
theorem drop_cons8 {α : Type} {l : List α} {i : Nat} {x : α} (h : l[i]? = some x) : l.drop i = x :: l.drop (i + 1) := by
  have hlt := (List.getElem?_eq_some_iff.1 h).1
  rw [List.drop_eq_getElem_cons hlt, (List.getElem?_eq_some_iff.1 h).2]
theorem rising_con (l : List Int) (lim : Int) (hl : l.length ≤ 9223372036854775807) : Con Try.prog 92 [.one (.ro false 1 (l.map eI)), .one (.v (.int .i64 lim))] (fun rx rK rt => rx = .val (.bool (ris lim (-1) l)) ∧ rK = [] ∧ rt = 0) := by
  refine con_of tabOk 24 Try.f92 _ Try.func92 (by kernel_rfl) rfl rfl rfl rfl (fun W => ?_)
  repeat' ((conv => whnf); first
    | with_reducible first | refine spB_t ?_)
  all_goals (try (conv => whnf))
  refine loop_rule tabOk (fun q : Nat × Int => ⟨[(10, .val (.int .i64 (q.1 : Int))), (9, .val (.int .i64 ((l.map eI).length : Nat))), (8, .c (.ro false 1 (l.map eI))), (5, .val (.int .i64 q.2)), (1, .val (.int .i64 lim))], [], 0⟩) (fun q => q.1 ≤ l.length ∧ ris lim (-1) l = ris lim q.2 (l.drop q.1)) (fun q => l.length - q.1) (0, -1) ⟨Nat.zero_le _, rfl⟩ (Wk.stp (l := []) ⟨rfl, by decide, rfl, Nat.zero_le _, ⟨rfl, rfl, rfl, rfl, rfl, trivial⟩, trivial⟩) ?_
  rintro ⟨i, last⟩ ⟨hi, hr⟩
  dsimp only at hi hr ⊢
  repeat' ((conv => whnf); first
    | with_reducible first | refine spB_t ?_
    | with_reducible first | refine spB_no (by decide) ?_
    | (with_reducible refine spB_dec ?_ ?_ <;> intro _ <;> (try (exfalso; first | contradiction | omega | (rename_i hz; with_reducible exact absurd rfl hz))))
    | ((with_reducible apply ixN_litp); (focus (exact rfl)); (focus ((try simp only [LN] at *) <;> omega)))
    | with_reducible refine wr_i64 (by first | omega | (simp only [LN] at *; omega)) ?_
    | ((with_reducible refine rowN_map ?_ ?_); (focus ((try simp only [LN] at *) <;> omega)); intro x hx))
  all_goals (try (conv => whnf))
  all_goals first
    | (refine ⟨⟨(i + 1, x), ⟨by (try simp only [LN] at *) <;> omega, ?_⟩, by (try simp only [List.length_map] at *); (try dsimp only); omega, (Wk.stp (l := []) ⟨rfl, by decide, rfl, Nat.zero_le _, ⟨rfl, rfl, rfl, rfl, rfl, trivial⟩, trivial⟩)⟩⟩
       dsimp only; rw [hr, drop_cons8 hx, ris, decide_eq_true (by omega), Bool.true_and])
    | (refine ret0 _ rfl _ rfl (fun _ => rfl) rfl ⟨?_, rfl, rfl⟩; refine rv_bool ?_; rw [hr, drop_cons8 hx, ris, decide_eq_false (by omega), Bool.false_and])
    | (refine ret0 _ rfl _ rfl (fun _ => rfl) rfl ⟨?_, rfl, rfl⟩; refine rv_bool ?_; rw [hr, List.drop_eq_nil_of_le (by (try simp only [LN] at *) <;> omega)]; rfl)
    | (fail)
theorem okO_e {x : Bool} {p q : Prop} [Decidable p] [Decidable q] (h : x = true ↔ p ∧ q) : x = (decide p && decide q) := by
  rw [Bool.eq_iff_iff, h, Bool.and_eq_true, decide_eq_true_eq, decide_eq_true_eq]
theorem okO_f {p q : Prop} [Decidable p] [Decidable q] (h : ¬ (p ∧ q)) : false = (decide p && decide q) := by
  cases hh : (decide p && decide q) with
  | false => rfl
  | true => simp only [Bool.and_eq_true, decide_eq_true_eq] at hh; exact absurd hh h
theorem alone_t (t w a b : Int) (ins : List Int) (hl : ins.length ≤ 9223372036854775807) (hr : ris 8 (-1) ins = true) : Con Try.prog 52 [.agg [.v (.int .i64 t), .v (.int .i64 w), .ro false 1 (ins.map eI), .v (.int .i64 a), .v (.int .i64 b)], .one (.v (.int .i64 8))] (fun rx rK rt => rx = .val (.bool (okO t w ins a b)) ∧ rK = [] ∧ rt = 0) := by
  refine con_of tabOk 118 Try.f52 _ Try.func52 (by kernel_rfl) rfl rfl rfl rfl (fun W => ?_)
  have c1 := rising_con ins 8 hl; rw [hr] at c1
  repeat' ((conv => whnf); first
    | with_reducible first | refine spB_t ?_
    | ((with_reducible apply spB_cong); (focus (simp only [beq_self_eq_true, bne_self_eq_false, Bool.true_bne, Bool.false_bne, Bool.bne_true, Bool.bne_false, Bool.true_beq, Bool.false_beq, Bool.not_true, Bool.not_false, Bool.not_not, Int.reduceBEq, Int.reduceBNe, Int.reduceLE, Int.reduceLT, Int.reduceEq, decide_true, decide_false]; rfl)))
    | with_reducible first | refine spB_no (by decide) ?_
    | (with_reducible refine spB_dec ?_ ?_ <;> intro _ <;> (try (exfalso; first | contradiction | omega | (rename_i hz; with_reducible exact absurd rfl hz))))
    | (with_reducible refine spB_beq ?_ ?_ <;> intro _ <;> (try (exfalso; first | contradiction | omega | (rename_i hz; with_reducible exact absurd rfl hz))))
    | ((with_reducible apply call_con2 ?_ (c1) ?_);(first | (focus exact ⟨rfl, rfl, trivial⟩)); rintro _ _ _ ⟨rfl, rfl, rfl⟩))
  all_goals (try (conv => whnf))
  all_goals refine ret0 _ rfl _ rfl (fun _ => rfl) rfl ⟨?_, rfl, rfl⟩
  all_goals (refine rv_bool ?_; unfold okO; rw [hr]; simp only [Bool.and_true, Bool.and_false, Bool.false_and] <;> first | exact okO_t (by omega) (by unfold tagP; (try simp only [LN] at *) <;> omega) | exact okO_f (by unfold tagP; (try simp only [LN] at *) <;> omega) | rfl | (refine okO_e ?_; simp only [beq_iff_eq, decide_eq_true_eq, List.length_map]; unfold tagP; (try simp only [LN] at *) <;> omega) | (fail))
theorem alone_f (t w a b : Int) (ins : List Int) (hl : ins.length ≤ 9223372036854775807) (hr : ris 8 (-1) ins = false) : Con Try.prog 52 [.agg [.v (.int .i64 t), .v (.int .i64 w), .ro false 1 (ins.map eI), .v (.int .i64 a), .v (.int .i64 b)], .one (.v (.int .i64 8))] (fun rx rK rt => rx = .val (.bool (okO t w ins a b)) ∧ rK = [] ∧ rt = 0) := by
  refine con_of tabOk 118 Try.f52 _ Try.func52 (by kernel_rfl) rfl rfl rfl rfl (fun W => ?_)
  have c1 := rising_con ins 8 hl; rw [hr] at c1
  repeat' ((conv => whnf); first
    | with_reducible first | refine spB_t ?_
    | ((with_reducible apply spB_cong); (focus (simp only [beq_self_eq_true, bne_self_eq_false, Bool.true_bne, Bool.false_bne, Bool.bne_true, Bool.bne_false, Bool.true_beq, Bool.false_beq, Bool.not_true, Bool.not_false, Bool.not_not, Int.reduceBEq, Int.reduceBNe, Int.reduceLE, Int.reduceLT, Int.reduceEq, decide_true, decide_false]; rfl)))
    | with_reducible first | refine spB_no (by decide) ?_
    | (with_reducible refine spB_dec ?_ ?_ <;> intro _ <;> (try (exfalso; first | contradiction | omega | (rename_i hz; with_reducible exact absurd rfl hz))))
    | ((with_reducible apply call_con2 ?_ (c1) ?_);(first | (focus exact ⟨rfl, rfl, trivial⟩)); rintro _ _ _ ⟨rfl, rfl, rfl⟩))
  all_goals (try (conv => whnf))
  all_goals refine ret0 _ rfl _ rfl (fun _ => rfl) rfl ⟨?_, rfl, rfl⟩
  all_goals (refine rv_bool ?_; unfold okO; rw [hr]; simp only [Bool.and_true, Bool.and_false, Bool.false_and] <;> first | exact okO_t (by omega) (by unfold tagP; (try simp only [LN] at *) <;> omega) | exact okO_f (by unfold tagP; (try simp only [LN] at *) <;> omega) | rfl | (refine okO_e ?_; simp only [beq_iff_eq, decide_eq_true_eq, List.length_map]; unfold tagP; (try simp only [LN] at *) <;> omega) | (fail))
theorem alone_con (t w a b : Int) (ins : List Int) (hl : ins.length ≤ 9223372036854775807) : Con Try.prog 52 [.agg [.v (.int .i64 t), .v (.int .i64 w), .ro false 1 (ins.map eI), .v (.int .i64 a), .v (.int .i64 b)], .one (.v (.int .i64 8))] (fun rx rK rt => rx = .val (.bool (okO t w ins a b)) ∧ rK = [] ∧ rt = 0) := by
  cases hr : ris 8 (-1) ins with
  | true => exact alone_t t w a b ins hl hr
  | false => exact alone_f t w a b ins hl hr
end Ops
end Go.Proofs.Ytehhmkdghgabaaa
namespace Go.Proofs.Ytehhmkdghgabaaa
open Go Go.RowKit Wx
set_option linter.unusedVariables false
set_option linter.unusedSimpArgs false
set_option maxHeartbeats 4000000
namespace Ops
end Ops
end Go.Proofs.Ytehhmkdghgabaaa
namespace Go.Proofs.Ytehhmkdghgabaaa
open Go Go.RowKit Wx
set_option linter.unusedVariables false
set_option linter.unusedSimpArgs false
set_option maxHeartbeats 4000000
namespace Ops
theorem may_con (t w a b : Int) (ins : List Int) (hl : ins.length ≤ 9223372036854775807) : Con Try.prog 94 [.agg [.v (.int .i64 t), .v (.int .i64 w), .ro false 1 (ins.map eI), .v (.int .i64 a), .v (.int .i64 b)]] (fun rx rK rt => rx = .val (.bool (okO t w ins a b)) ∧ rK = [] ∧ rt = 0) := by
  refine con_of tabOk 5 Try.f94 _ Try.func94 (by kernel_rfl) rfl rfl rfl rfl (fun W => ?_)
  repeat' ((conv => whnf); first
    | ((with_reducible apply call_con2 ?_ (alone_con _ _ _ _ _ hl) ?_);(first | (rotate_left 4; (focus exact ⟨⟨rfl, rfl, rfl, rfl, rfl, trivial⟩, rfl, trivial⟩))); rintro _ _ _ ⟨rfl, rfl, rfl⟩))
  all_goals (try (conv => whnf))
  all_goals refine ret0 _ rfl _ rfl (fun _ => rfl) rfl ⟨?_, rfl, rfl⟩
  all_goals rfl
theorem bool_e {x : Bool} {p : Prop} [Decidable p] (h : x = true ↔ p) : x = decide p := by rw [Bool.eq_iff_iff, h, decide_eq_true_eq]
theorem fits_con (t w a b c s : Int) (ins : List Int)  : Con Try.prog 95 [.agg [.v (.int .i64 t), .v (.int .i64 w), .ro false 1 (ins.map eI), .v (.int .i64 a), .v (.int .i64 b)], .agg [.v (.int .i64 c), .v (.int .i64 s)]] (fun rx rK rt => rx = .val (.bool (decide (fitP t a (c, s)))) ∧ rK = [] ∧ rt = 0) := by
  refine con_of tabOk 31 Try.f95 _ Try.func95 (by kernel_rfl) rfl rfl rfl rfl (fun W => ?_)
  repeat' ((conv => whnf); first
    | with_reducible first | refine spB_t ?_
    | with_reducible first | refine spB_no (by decide) ?_ | refine spB_not ?_
    | (with_reducible refine spB_dec ?_ ?_ <;> intro _ <;> (try (exfalso; first | contradiction | omega | (rename_i hz; with_reducible exact absurd rfl hz))))
    | (with_reducible refine spB_beq ?_ ?_ <;> intro _ <;> (try (exfalso; first | contradiction | omega | (rename_i hz; with_reducible exact absurd rfl hz))))
    | ((with_reducible apply call_con2 ?_ (keeps_con _ _ _ _ _) ?_);(first | (rotate_left 5; (focus exact ⟨⟨rfl, rfl, rfl, rfl, rfl, trivial⟩, trivial⟩))); rintro _ _ _ ⟨rfl, rfl, rfl⟩))
  all_goals (try (conv => whnf))
  all_goals refine ret0 _ rfl _ rfl (fun _ => rfl) rfl ⟨?_, rfl, rfl⟩
  all_goals (refine rv_bool ?_; first | exact bool_t (by unfold fitP; split <;> omega) | exact bool_f (by unfold fitP; split <;> omega) | (refine bool_e ?_; simp only [Bool.and_true, beq_iff_eq, bne_iff_ne, Bool.and_eq_true, decide_eq_true_eq]; unfold fitP; split <;> omega) | (fail))
end Ops
end Go.Proofs.Ytehhmkdghgabaaa
namespace Go.Proofs.Ytehhmkdghgabaaa
open Go Go.RowKit Wx
set_option linter.unusedVariables false
set_option linter.unusedSimpArgs false
set_option maxHeartbeats 4000000
namespace Ops
theorem con_mono {P : Program} {g : FuncId} {args : List A0} {p q : AV → Kr → Nat → Prop} (h : Con P g args p) (hh : ∀ x K t, p x K t → q x K t) : Con P g args q := ⟨h.fn, fun w vs hv => (h.run w vs hv).mono fun e w2 ⟨v, x, Kc, tc, I, Rf, h1, h2, h3, h4, h5, h6⟩ => ⟨v, x, Kc, tc, I, Rf, h1, h2, h3, h4, h5, hh _ _ _ h6⟩⟩
theorem con_to {P : Program} {g : FuncId} {args : List A0} {X X' : AV} {K : Kr} {t : Nat} (h : Con P g args (fun rx rK rt => rx = X ∧ rK = K ∧ rt = t)) (hx : ∀ I R v, X.rel I R v → X'.rel I R v) : Con P g args (fun rx rK rt => rx = X' ∧ rK = K ∧ rt = t) :=
  ⟨h.fn, fun w vs hv => (h.run w vs hv).mono fun e w2 ⟨v, x, Kc, tc, I, Rf, h1, h2, h3, h4, h5, h6, h7, h8⟩ => ⟨v, X', Kc, tc, I, Rf, h1, h2, h3, h4, hx _ _ _ (h6 ▸ h5), rfl, h7, h8⟩⟩
theorem nil_ro {a e : A0} {I : IM} {R : RM} {v : Value} (h : (AV.tup [a, .one (.v (.slice none 0 0)), e]).rel I R v) : (AV.tup [a, .one (.ro true 1 []), e]).rel I R v := by
  obtain ⟨vs, h1, h2⟩ := h
  cases vs with
  | nil => exact h2.elim
  | cons x vs => cases vs with
    | nil => exact h2.2.elim
    | cons y vs =>
      refine ⟨_, h1, h2.1, ?_, h2.2.2⟩
      have : y = .slice none 0 0 := h2.2.1
      subst this
      exact Rd.nil 1
def fullB (t a b : Int) : Int × Int → List Int → Bool
  | _, [] => false
  | c, v :: r => decide (c.1 = 9223372036854775807) || fullB t a b (stp t a b c v).1 r
theorem full_t {t a b : Int} : ∀ {l : List Int} {c : Int × Int}, (∃ j, j < l.length ∧ (fs t a b c (l.take j)).1.1 = 9223372036854775807) → fullB t a b c l = true
  | [], _, ⟨j, h, _⟩ => absurd h (Nat.not_lt_zero _)
  | v :: r, c, ⟨0, _, h2⟩ => by unfold fullB; rw [decide_eq_true (by simpa [fs] using h2)]; rfl
  | v :: r, c, ⟨j + 1, h1, h2⟩ => by
    unfold fullB
    rw [full_t (l := r) ⟨j, by simpa using h1, by rw [List.take_succ_cons, fs_cons] at h2; exact h2⟩, Bool.or_true]
theorem full_f {t a b : Int} : ∀ {l : List Int} {c : Int × Int}, (∀ j, j < l.length → (fs t a b c (l.take j)).1.1 ≠ 9223372036854775807) → fullB t a b c l = false
  | [], _, _ => rfl
  | v :: r, c, h => by
    unfold fullB
    rw [decide_eq_false (by have := h 0 (by simp); simpa [fs] using this), full_f (l := r) (fun j hj => by have := h (j + 1) (by simpa using hj); rw [List.take_succ_cons, fs_cons] at this; exact this)]; rfl
def runG (t a b c s : Int) (l : List Int) : (Int × Int) × List Int × Int := if fullB t a b (c, s) l = true then ((0, 0), [], 6) else ((fs t a b (c, s) l).1, (fs t a b (c, s) l).2, 0)
def runF (t w : Int) (ins : List Int) (a b c s : Int) (l : List Int) : (Int × Int) × List Int × Int :=
  if 40 < l.length then ((0, 0), [], 3) else if okO t w ins a b = false then ((0, 0), [], 180) else if ¬ fitP t a (c, s) then ((0, 0), [], 181) else runG t a b c s l
theorem okO_tag {t w a b : Int} {ins : List Int} (h : okO t w ins a b = true) : tagP t ins.length a b := by
  unfold okO at h; simp only [Bool.and_eq_true, decide_eq_true_eq] at h; exact h.2
theorem rung_con (t w a b c s : Int) (ins : List Int) (l : List Int) (hok : okO t w ins a b = true) (hf : fitP t a (c, s)) (hc : c ≤ 9223372036854775807) (hl : l.length ≤ 40) : Con Try.prog 89 [.agg [.v (.int .i64 t), .v (.int .i64 w), .ro false 1 (ins.map eI), .v (.int .i64 a), .v (.int .i64 b)], .agg [.v (.int .i64 c), .v (.int .i64 s)], .one (.ro false 1 (l.map eI))] (fun rx rK rt => rx = .tup [.agg [.v (.int .i64 (runG t a b c s l).1.1), .v (.int .i64 (runG t a b c s l).1.2)], .one (.ro true 1 ((runG t a b c s l).2.1.map eI)), .one (.v (.int .i64 (runG t a b c s l).2.2))] ∧ rK = [] ∧ rt = 0) := by
  have ht := okO_tag hok
  have h0 := (fit_low ht hf).1
  cases hfu : fullB t a b (c, s) l with
  | true =>
    have hr : runG t a b c s l = ((0, 0), [], 6) := by unfold runG; rw [if_pos hfu]
    rw [hr]
    refine con_to (X := .tup [.agg [.v (.int .i64 0), .v (.int .i64 0)], .one (.v (.slice none 0 0)), .one (.v (.int .i64 6))]) ?_ (fun I R v h => nil_ro h)
    rcases ht with ⟨rfl, _⟩ | ⟨rfl, _⟩ | ⟨rfl, _⟩ | ⟨rfl | rfl, _⟩ | ⟨rfl, _⟩ | ⟨rfl, _⟩
    · exact con_mono (run1_con w ins a b c s l ⟨h0, hc⟩ hl) (fun rx rK rt h => h.elim (fun h => h.2) (fun h => by have := full_f h.1; rw [hfu] at this; cases this))
    · exact con_mono (run2_con w ins a b c s l ⟨h0, hc⟩ hl) (fun rx rK rt h => h.elim (fun h => h.2) (fun h => by have := full_f h.1; rw [hfu] at this; cases this))
    · exact con_mono (run3_con w ins a b c s l ⟨h0, hc⟩ hl) (fun rx rK rt h => h.elim (fun h => h.2) (fun h => by have := full_f h.1; rw [hfu] at this; cases this))
    · exact con_mono (run4_con w ins a b c s l ⟨h0, hc⟩ hl) (fun rx rK rt h => h.elim (fun h => h.2) (fun h => by have := full_f h.1; rw [hfu] at this; cases this))
    · exact con_mono (run7_con w ins a b c s l ⟨h0, hc⟩ hl) (fun rx rK rt h => h.elim (fun h => h.2) (fun h => by have := full_f h.1; rw [hfu] at this; cases this))
    · exact con_mono (run5_con w ins a b c s l ⟨h0, hc⟩ hl) (fun rx rK rt h => h.elim (fun h => h.2) (fun h => by have := full_f h.1; rw [hfu] at this; cases this))
    · exact con_mono (run6_con w ins a b c s l ⟨h0, hc⟩ hl) (fun rx rK rt h => h.elim (fun h => h.2) (fun h => by have := full_f h.1; rw [hfu] at this; cases this))
  | false =>
    have hr : runG t a b c s l = ((fs t a b (c, s) l).1, (fs t a b (c, s) l).2, 0) := by unfold runG; rw [if_neg (by rw [hfu]; simp)]
    rw [hr]
    rcases ht with ⟨rfl, _⟩ | ⟨rfl, _⟩ | ⟨rfl, _⟩ | ⟨rfl | rfl, _⟩ | ⟨rfl, _⟩ | ⟨rfl, _⟩
    · exact con_mono (run1_con w ins a b c s l ⟨h0, hc⟩ hl) (fun rx rK rt h => h.elim (fun h => by have := full_t h.1; rw [hfu] at this; cases this) (fun h => h.2))
    · exact con_mono (run2_con w ins a b c s l ⟨h0, hc⟩ hl) (fun rx rK rt h => h.elim (fun h => by have := full_t h.1; rw [hfu] at this; cases this) (fun h => h.2))
    · exact con_mono (run3_con w ins a b c s l ⟨h0, hc⟩ hl) (fun rx rK rt h => h.elim (fun h => by have := full_t h.1; rw [hfu] at this; cases this) (fun h => h.2))
    · exact con_mono (run4_con w ins a b c s l ⟨h0, hc⟩ hl) (fun rx rK rt h => h.elim (fun h => by have := full_t h.1; rw [hfu] at this; cases this) (fun h => h.2))
    · exact con_mono (run7_con w ins a b c s l ⟨h0, hc⟩ hl) (fun rx rK rt h => h.elim (fun h => by have := full_t h.1; rw [hfu] at this; cases this) (fun h => h.2))
    · exact con_mono (run5_con w ins a b c s l ⟨h0, hc⟩ hl) (fun rx rK rt h => h.elim (fun h => by have := full_t h.1; rw [hfu] at this; cases this) (fun h => h.2))
    · exact con_mono (run6_con w ins a b c s l ⟨h0, hc⟩ hl) (fun rx rK rt h => h.elim (fun h => by have := full_t h.1; rw [hfu] at this; cases this) (fun h => h.2))
theorem check_con (t w a b c s : Int) (ins : List Int) (hi : ins.length ≤ 9223372036854775807) : Con Try.prog 88 [.agg [.v (.int .i64 t), .v (.int .i64 w), .ro false 1 (ins.map eI), .v (.int .i64 a), .v (.int .i64 b)], .agg [.v (.int .i64 c), .v (.int .i64 s)]] (fun rx rK rt => rx = .val (.int .i64 (if okO t w ins a b = false then 180 else if ¬ fitP t a (c, s) then 181 else 0)) ∧ rK = [] ∧ rt = 0) := by
  have c1 := may_con t w a b ins hi
  have c2 := fits_con t w a b c s ins
  cases hok : okO t w ins a b <;> by_cases hf : fitP t a (c, s)
  · rw [hok] at c1; simp only [decide_eq_true hf] at c2
    refine con_of tabOk 14 Try.f88 _ Try.func88 (by kernel_rfl) rfl rfl rfl rfl (fun W => ?_)
    repeat' ((conv => whnf); first
      | with_reducible first | refine spB_t ?_
      | ((with_reducible apply spB_cong); (focus (simp only [beq_self_eq_true, bne_self_eq_false, Bool.true_bne, Bool.false_bne, Bool.bne_true, Bool.bne_false, Bool.true_beq, Bool.false_beq, Bool.not_true, Bool.not_false, Bool.not_not, Int.reduceBEq, Int.reduceBNe, Int.reduceLE, Int.reduceLT, Int.reduceEq, decide_true, decide_false]; rfl)))
      | ((with_reducible apply call_con2 ?_ (c1) ?_);(first | (focus exact ⟨⟨rfl, rfl, rfl, rfl, rfl, trivial⟩, trivial⟩)); rintro _ _ _ ⟨rfl, rfl, rfl⟩))
    all_goals (try (conv => whnf))
    all_goals refine ret0 _ rfl _ rfl (fun _ => rfl) rfl ⟨?_, rfl, rfl⟩
    all_goals (refine rv_int ?_; simp [hf])
  · rw [hok] at c1; simp only [decide_eq_false hf] at c2
    refine con_of tabOk 14 Try.f88 _ Try.func88 (by kernel_rfl) rfl rfl rfl rfl (fun W => ?_)
    repeat' ((conv => whnf); first
      | with_reducible first | refine spB_t ?_
      | ((with_reducible apply spB_cong); (focus (simp only [beq_self_eq_true, bne_self_eq_false, Bool.true_bne, Bool.false_bne, Bool.bne_true, Bool.bne_false, Bool.true_beq, Bool.false_beq, Bool.not_true, Bool.not_false, Bool.not_not, Int.reduceBEq, Int.reduceBNe, Int.reduceLE, Int.reduceLT, Int.reduceEq, decide_true, decide_false]; rfl)))
      | ((with_reducible apply call_con2 ?_ (c1) ?_);(first | (focus exact ⟨⟨rfl, rfl, rfl, rfl, rfl, trivial⟩, trivial⟩)); rintro _ _ _ ⟨rfl, rfl, rfl⟩))
    all_goals (try (conv => whnf))
    all_goals refine ret0 _ rfl _ rfl (fun _ => rfl) rfl ⟨?_, rfl, rfl⟩
    all_goals (refine rv_int ?_; simp [hf])
  · rw [hok] at c1; simp only [decide_eq_true hf] at c2
    refine con_of tabOk 14 Try.f88 _ Try.func88 (by kernel_rfl) rfl rfl rfl rfl (fun W => ?_)
    repeat' ((conv => whnf); first
      | ((with_reducible apply spB_cong); (focus (simp only [beq_self_eq_true, bne_self_eq_false, Bool.true_bne, Bool.false_bne, Bool.bne_true, Bool.bne_false, Bool.true_beq, Bool.false_beq, Bool.not_true, Bool.not_false, Bool.not_not, Int.reduceBEq, Int.reduceBNe, Int.reduceLE, Int.reduceLT, Int.reduceEq, decide_true, decide_false]; rfl)))
      | with_reducible first | refine spB_no (by decide) ?_
      | ((with_reducible apply call_con2 ?_ (c1) ?_);(first | (focus exact ⟨⟨rfl, rfl, rfl, rfl, rfl, trivial⟩, trivial⟩)); rintro _ _ _ ⟨rfl, rfl, rfl⟩)
      | ((with_reducible apply call_con2 ?_ (c2) ?_);(first | (focus exact ⟨⟨rfl, rfl, rfl, rfl, rfl, trivial⟩, ⟨rfl, rfl, trivial⟩, trivial⟩)); rintro _ _ _ ⟨rfl, rfl, rfl⟩))
    all_goals (try (conv => whnf))
    all_goals refine ret0 _ rfl _ rfl (fun _ => rfl) rfl ⟨?_, rfl, rfl⟩
    all_goals (refine rv_int ?_; simp [hf])
  · rw [hok] at c1; simp only [decide_eq_false hf] at c2
    refine con_of tabOk 14 Try.f88 _ Try.func88 (by kernel_rfl) rfl rfl rfl rfl (fun W => ?_)
    repeat' ((conv => whnf); first
      | with_reducible first | refine spB_t ?_
      | ((with_reducible apply spB_cong); (focus (simp only [beq_self_eq_true, bne_self_eq_false, Bool.true_bne, Bool.false_bne, Bool.bne_true, Bool.bne_false, Bool.true_beq, Bool.false_beq, Bool.not_true, Bool.not_false, Bool.not_not, Int.reduceBEq, Int.reduceBNe, Int.reduceLE, Int.reduceLT, Int.reduceEq, decide_true, decide_false]; rfl)))
      | with_reducible first | refine spB_no (by decide) ?_
      | ((with_reducible apply call_con2 ?_ (c1) ?_);(first | (focus exact ⟨⟨rfl, rfl, rfl, rfl, rfl, trivial⟩, trivial⟩)); rintro _ _ _ ⟨rfl, rfl, rfl⟩)
      | ((with_reducible apply call_con2 ?_ (c2) ?_);(first | (focus exact ⟨⟨rfl, rfl, rfl, rfl, rfl, trivial⟩, ⟨rfl, rfl, trivial⟩, trivial⟩)); rintro _ _ _ ⟨rfl, rfl, rfl⟩))
    all_goals (try (conv => whnf))
    all_goals refine ret0 _ rfl _ rfl (fun _ => rfl) rfl ⟨?_, rfl, rfl⟩
    all_goals (refine rv_int ?_; simp [hf])
end Ops
end Go.Proofs.Ytehhmkdghgabaaa
namespace Go.Proofs.Ytehhmkdghgabaaa
open Go Go.RowKit Wx
set_option linter.unusedVariables false
set_option linter.unusedSimpArgs false
set_option maxHeartbeats 4000000
end Go.Proofs.Ytehhmkdghgabaaa
namespace Go.Proofs.Ytehhmkdghgabaaa
open Go Go.RowKit Wx
set_option linter.unusedVariables false
set_option linter.unusedSimpArgs false
set_option maxHeartbeats 4000000
end Go.Proofs.Ytehhmkdghgabaaa
namespace Go.Proofs.Ytehhmkdghgabaaa
open Go Go.RowKit Wx
set_option linter.unusedVariables false
set_option linter.unusedSimpArgs false
set_option maxHeartbeats 4000000
end Go.Proofs.Ytehhmkdghgabaaa
namespace Go.Proofs.Ytehhmkdghgabaaa
open Go Go.RowKit Wx
set_option linter.unusedVariables false
set_option linter.unusedSimpArgs false
set_option maxHeartbeats 4000000
end Go.Proofs.Ytehhmkdghgabaaa
namespace Go.Proofs.Ytehhmkdghgabaaa
open Go Go.RowKit Wx
set_option linter.unusedVariables false
set_option linter.unusedSimpArgs false
set_option maxHeartbeats 4000000
end Go.Proofs.Ytehhmkdghgabaaa
namespace Go.Proofs.Ytehhmkdghgabaaa
open Go Go.RowKit Wx
set_option linter.unusedVariables false
set_option linter.unusedSimpArgs false
set_option maxHeartbeats 4000000
end Go.Proofs.Ytehhmkdghgabaaa
namespace Go.Proofs.Ytehhmkdghgabaaa
open Go Go.RowKit Wx
set_option linter.unusedVariables false
set_option linter.unusedSimpArgs false
set_option maxHeartbeats 4000000
end Go.Proofs.Ytehhmkdghgabaaa
namespace Go.Proofs.Ytehhmkdghgabaaa
open Go Go.RowKit Wx
set_option linter.unusedVariables false
set_option linter.unusedSimpArgs false
set_option maxHeartbeats 4000000
end Go.Proofs.Ytehhmkdghgabaaa
namespace Go.Proofs.Ytehhmkdghgabaaa
open Go Go.RowKit Wx
set_option linter.unusedVariables false
set_option linter.unusedSimpArgs false
set_option maxHeartbeats 4000000
end Go.Proofs.Ytehhmkdghgabaaa
namespace Go.Proofs.Ytehhmkdghgabaaa
open Go Go.RowKit Wx
set_option linter.unusedVariables false
set_option linter.unusedSimpArgs false
set_option maxHeartbeats 4000000
end Go.Proofs.Ytehhmkdghgabaaa
namespace Go.Proofs.Ytehhmkdghgabaaa
open Go Go.RowKit Wx
set_option linter.unusedVariables false
set_option linter.unusedSimpArgs false
set_option maxHeartbeats 4000000
end Go.Proofs.Ytehhmkdghgabaaa
namespace Go.Proofs.Ytehhmkdghgabaaa
open Go Go.RowKit Wx
set_option linter.unusedVariables false
set_option linter.unusedSimpArgs false
set_option maxHeartbeats 4000000
theorem kc_eq {x y : Kc} (h : (x.src == y.src && (x.key == y.key && (x.cnt == y.cnt && (x.sum == y.sum && true)))) = true) : x = y := by
  cases x; cases y; simp_all
theorem eqk_con (a b : List Kc) (hla : a.length ≤ 9223372036854775807)  : Con Try.prog 58 [.one (.ro false 4 (a.map eK)), .one (.ro false 4 (b.map eK))] (fun rx rK rt => rx = .val (.bool (decide (a = b))) ∧ rK = [] ∧ rt = 0) := by
  refine Z.con_ofF tabOk 26 Try.f58 _ Try.func58 (by kernel_rfl) rfl rfl rfl rfl ?_
  repeat' ((conv => whnf); first
    | (with_reducible refine spB_bne ?_ ?_ <;> intro _ <;> (try (exfalso; first | contradiction | omega | (rename_i hz; with_reducible exact absurd rfl hz)))))
  all_goals (try (conv => whnf))
  all_goals try ((first | (with_reducible apply Z.retF1)); (focus (exact rfl)); (repeat' (first | exact trivial | (with_reducible apply Z.frz_one) | (with_reducible apply Z.fq_bool) | apply And.intro)); (all_goals (try exact (fun _ => none))); all_goals (exact bool_f (ne_len (by simp only [LN] at *; omega))))
  refine Z.loopK tabOk (fun zq : Nat => [(13, .val (.int .i64 (zq : Int)))]) (fun zq : Nat => ([] : Z.Kr)) (fun zq => zq ≤ a.length ∧ a.length = b.length ∧ a.take zq = b.take zq) (fun zq => a.length - zq) 0 0 [(0, _), (1, _), (12, _)] ⟨rfl, rfl, rfl, trivial⟩ [] trivial ?_ ?_ rfl rfl ⟨Nat.zero_le _, by simp only [LN] at *; omega, rfl⟩ ?_
  · repeat' (first | exact trivial | apply And.intro | exact ⟨_, rfl, Z.Imp.refl _⟩)
  · repeat' (first | exact trivial)
  rintro i HINV
  dsimp only at HINV ⊢
  obtain ⟨HI, HL, HT⟩ := HINV
  repeat' ((conv => whnf); first
    | with_reducible first | refine spB_not ?_
    | (with_reducible refine spB_dec ?_ ?_ <;> intro _ <;> (try (exfalso; first | contradiction | omega | (rename_i hz; with_reducible exact absurd rfl hz))))
    | (with_reducible refine spB_mk ?_ ?_ <;> intro _ <;> (try (exfalso; first | contradiction | omega | (rename_i hz; with_reducible exact absurd rfl hz))))
    | ((with_reducible apply ixN_litp); (focus (exact rfl)); (focus ((try simp only [LN] at *) <;> omega)))
    | with_reducible refine wr_i64 (by first | omega | (simp only [LN] at *; omega)) ?_
    | ((with_reducible refine rowN_map ?_ ?_); (focus ((try simp only [LN] at *) <;> omega)); intro x hx)
    | with_reducible first | refine Z.drawZ_rule tabOk mixOk ?_ | refine Z.apZ_mk (by kernel_rfl) ?_)
  all_goals (try (conv => whnf))
  all_goals first
    | ((refine Z.rndK (i + 1) (fun s => []) rfl rfl rfl rfl ?_ ?_ ?_ ?_); (focus (repeat' (first | exact trivial | exact rfl | apply And.intro))); (focus (repeat' (first | exact trivial))); (focus (refine ⟨by simp only [LN] at *; omega, HL, eq_step HT (by assumption) (by assumption) ?_⟩; (first | exact kc_eq (by assumption)))); (try simp only [LN] at *); (try dsimp only); omega)
    | ((first | (with_reducible apply Z.retF1)); (focus (exact rfl)); (repeat' (first | exact trivial | (with_reducible apply Z.frz_one) | (with_reducible apply Z.fq_bool) | apply And.intro)); (all_goals (try exact (fun _ => none))); all_goals (first | exact bool_t (eq_end HL HT (by simp only [LN] at *; omega)) | (refine bool_f (ne_at (by assumption) (by assumption) ?_); intro e; subst e; first | contradiction | (simp_all; done))))
theorem same_con (a b : List Kc) (hla : a.length ≤ 9223372036854775807) : Con Try.prog 19 [.agg [.ro false 4 (a.map eK)], .agg [.ro false 4 (b.map eK)]] (fun rx rK rt => rx = .val (.bool (decide (a = b))) ∧ rK = [] ∧ rt = 0) := by
  refine Z.con_ofF tabOk 10 Try.f19 _ Try.func19 (by kernel_rfl) rfl rfl rfl rfl ?_
  repeat' ((conv => whnf); first
    | ((first | (with_reducible apply Z.callZ_mk ?_ (eqk_con _ _ ?_) ?_)); (rotate_left 2); (focus ((repeat' (first | exact trivial | exact rfl | apply And.intro)); done)); (iterate 1 (focus (first | assumption)))))
  all_goals (try (conv => whnf))
  all_goals try (show Nat.ble _ _ = true; rfl)
  all_goals first
    | ((first | (with_reducible apply Z.retF1)); (focus (exact rfl)); (repeat' (first | exact trivial | exact rfl | apply And.intro)); (all_goals (try exact (fun _ => none))); all_goals (rfl))
end Go.Proofs.Ytehhmkdghgabaaa
namespace Go.Proofs.Ytehhmkdghgabaaa
open Go Go.RowKit Wx
set_option linter.unusedVariables false
set_option linter.unusedSimpArgs false
set_option maxHeartbeats 4000000
end Go.Proofs.Ytehhmkdghgabaaa
namespace Go.Proofs.Ytehhmkdghgabaaa
open Go Go.RowKit Wx
set_option linter.unusedVariables false
set_option linter.unusedSimpArgs false
set_option maxHeartbeats 4000000
theorem cut_k (l : List Kc) (fl : Bool) : List.map (List.map (RT.ce fl)) (List.take ((l.take 257).length - 0) (List.drop 0 (l.map eK))) = (l.take 257).map cK := by
  have e : List.take ((l.take 257).length) l = l.take 257 := List.take_eq_take_iff.2 (by rw [List.length_take]; omega)
  rw [Nat.sub_zero, List.drop_zero, ← List.map_take, List.map_map, e]
  rfl
theorem one_cutK {l : List Kc} {n m : Nat} {fl : Bool} : ∀ r ∈ List.map (List.map (RT.ce fl)) (List.take n (List.drop m (l.map eK))), ∀ c ∈ r, c.single = true := fun r hr c hc => by
  obtain ⟨t, ht, rfl⟩ := List.mem_map.1 hr
  obtain ⟨z, _, rfl⟩ := List.mem_map.1 (List.mem_of_mem_drop (List.mem_of_mem_take ht))
  simp only [List.map_cons, List.map_nil, List.mem_cons, List.not_mem_nil, or_false] at hc
  rcases hc with rfl | rfl | rfl | rfl <;> rfl
theorem short_con (l : List Kc) (hl : l.length ≤ 9223372036854775807) : Con Try.prog 13 [.agg [.ro false 4 (l.map eK)]] (fun rx rK rt => rx = .pl (.agg [.ro true 4 ((l.take 257).map eK)]) ∧ rK = [] ∧ rt = 0) := by
  refine Z.con_ofF tabOk 13 Try.f13 _ Try.func13 (by kernel_rfl) rfl rfl rfl rfl ?_
  have htl : (l.take 257).length ≤ 257 := by rw [List.length_take]; exact Nat.min_le_left _ _
  have HC := cut_k l
  repeat' ((conv => whnf); first
    | ((with_reducible refine slN_hi ((l.take 257).length) ?_ ?_ ?_); (focus (rw [List.length_take, List.length_map]; omega)); (focus (rw [List.length_take, List.length_map]; omega)))
    | ((with_reducible refine apdE_n ?_); (with_reducible refine apdN.mk ?_ ?_ ?_ ?_ ?_ ?_); (focus (first | (simp; done))); (focus (first | exact one_cutK)); (focus (first | exact Nat.zero_le _)); (iterate 2 (focus ((try simp only [LN] at *) <;> omega)))))
  all_goals (try (conv => whnf))
  all_goals try (show Nat.ble _ _ = true; rfl)
  all_goals try (exfalso; rename_i hz; cases hz; done)
  all_goals try (exfalso; (try simp only [LN] at *) <;> omega)
  all_goals first
    | ((first | (with_reducible apply Z.retF1)); (focus (exact rfl)); (repeat' (first | exact trivial | (refine Z.frz_oslw (l := l.take 257) (f := cK) (ty := 74) (bx := false) rfl ?_ ?_ (fun _ => rfl); (focus (first | (simp; done))); (focus (first | exact (congrArg (List.take _) (HC _)).trans (List.take_of_length_le (by simp))))) | (with_reducible apply Z.frz_agg) | apply And.intro)); (all_goals (try exact (fun _ => none))); all_goals (first | (simp; done)))
end Go.Proofs.Ytehhmkdghgabaaa
namespace Go.Proofs.Ytehhmkdghgabaaa
open Go Go.RowKit Wx
set_option linter.unusedVariables false
set_option linter.unusedSimpArgs false
set_option maxHeartbeats 4000000
end Go.Proofs.Ytehhmkdghgabaaa
namespace Go.Proofs.Ytehhmkdghgabaaa
open Go Go.RowKit Wx
set_option linter.unusedVariables false
set_option linter.unusedSimpArgs false
set_option maxHeartbeats 4000000
end Go.Proofs.Ytehhmkdghgabaaa
namespace Go.Proofs.Ytehhmkdghgabaaa
open Go Go.RowKit Wx
set_option linter.unusedVariables false
set_option linter.unusedSimpArgs false
set_option maxHeartbeats 4000000
theorem sort_rule {m i n top : Nat} {c : Option Nat} {R : List (List Ce)} {bx : Bool} {K : Z.Kr} {k : AV → Z.Kr → Nat → Prop} (zs : List Kc) (hb : Z.kz K i = some (Z.Ob.b ⟨R, 4, 74, bx⟩)) (hr : R = zs.map cK) (hn : n = zs.length) (hl : zs.length ≤ 4000)
    (hkk : ∀ zs' : List Kc, zs'.Perm zs → zs'.Pairwise (fun x y => ltOf cfK y x = false) → k (.tup []) ((i, some (Z.Ob.b ⟨zs'.map cK, 4, 74, bx⟩)) :: K) top) : Z.CallZ Try.prog m (.fn 73 []) [.c (.osl i 0 n c), .c (.fn 74 [])] K top k := by
  refine Z.callZ_sortK (enc := ev) (kk := 4) (b := ⟨R, 4, 74, bx⟩) (by kernel_rfl) cK (ltOf cfK) zs [] (fun _ => rfl) (fun _ => rfl) hb rfl (by rw [hr, List.append_nil]) hn ?_ ?_
  · intro blk cap w hH hblk
    exact AnyQ.slices_SortFunc (ρ := Try.sortK_ren) Try.sortK 4 (fun _ => by kernel_rfl) (fun _ => by kernel_rfl) ev (fun _ => rfl) (fun x v hv => by
      simp only [List.mem_cons, List.not_mem_nil, or_false] at hv
      rcases hv with rfl | rfl | rfl | rfl <;> rfl) cfK cfK_swo 74 #[] blk 0 cap zs.toArray w (Go.Proofs.enters_of Try.func74 (by kernel_rfl) rfl) (Z.con_cmp fun x y => cmpk_con x y) hH hblk (by simp; omega)
  · intro zs' h1 h2
    rw [List.append_nil]
    exact hkk zs' h1 h2
end Go.Proofs.Ytehhmkdghgabaaa
namespace Go.Proofs.Ytehhmkdghgabaaa
open Go Go.RowKit Wx
set_option linter.unusedVariables false
set_option linter.unusedSimpArgs false
set_option maxHeartbeats 4000000
theorem concat_own (a b : List Kc) (ha : a.length ≤ 1000) (hb : b.length ≤ 1000) (h0 : 0 < a.length + b.length) : Con Try.prog 72 [.one (.ro false 1 [[RT.ro 4 (a.map eK)], [RT.ro 4 (b.map eK)]])] (fun rx rK rt => rx = .c (.osl 0 0 (a ++ b).length none) ∧ rK = [(0, some ⟨(a ++ b).map cK, 4, 74, false⟩)] ∧ rt = 1) := by
  refine Z.con_ofZ tabOk 36 Try.f72 _ Try.func72 (by kernel_rfl) rfl rfl rfl rfl ?_
  have hA : List.take (0 + (a.map eK).length) ((a.map eK).map (List.map (RT.ce false))) ++ (b.map eK).map (List.map (RT.ce false)) = (a ++ b).map cK := by rw [Nat.zero_add, List.take_of_length_le (by simp), List.map_append, List.map_map, List.map_map]; rfl
  repeat' ((conv => whnf); first
    | (with_reducible refine spB_dec ?_ ?_ <;> intro _ <;> (try (exfalso; first | contradiction | omega | (simp only [LN] at *; omega))))
    | with_reducible first | refine Z.loopZ_unroll tabOk 3 ?_
    | ((with_reducible refine slN_hi 0 ?_ ?_ ?_); (focus rfl); (focus (exact Nat.zero_le _)))
    | ((with_reducible refine apz0N_mk (a.length + b.length) ?_ ?_ ?_ ?_ ?_); (iterate 4 (focus ((try simp only [LN] at *) <;> omega))))
    | ((with_reducible apply rowN_mk); (focus rfl))
    | ((with_reducible apply ixN_lit); (focus (exact rfl)); (focus (exact rfl)))
    | with_reducible first | refine apdE_n ?_
    | ((with_reducible refine apdN.mk ?_ ?_ ?_ ?_ ?_ ?_); (focus (first | (simp; done))); (focus (first | exact one_map2 (fun _ => rfl))); (focus ((try simp only [LN] at *) <;> omega)); (focus ((try simp only [LN] at *) <;> omega)); (focus ((try simp only [LN] at *) <;> omega)))
    | with_reducible refine wr_i64 (by first | omega | (simp only [LN] at *; omega)) ?_
    | with_reducible first | refine Z.callZ_in tabOk 27 Try.f107 _ Try.func107 (by kernel_rfl) rfl rfl rfl ?_
    | ((with_reducible apply ex_and); exact rfl)
    | fail)
  all_goals (try (conv => whnf))
  all_goals try (show Nat.ble _ _ = true; rfl)
  all_goals try (exfalso; rename_i hz; cases hz; done)
  all_goals try (exfalso; (try simp only [LN] at *) <;> omega)
  all_goals (refine ret1b 2 (.c (.osl 0 0 (a ++ b).length none)) ((a ++ b).map cK) 4 74 false _ rfl ?_ (by rfl) ?_ (ren_map fun _ => rfl) rfl (own_map fun _ => rfl) ⟨rfl, rfl, rfl⟩)
  · exact congrArg (fun n => AV.c (Ce.osl 2 0 n none)) (by simp)
  · first | exact hA | (simp [List.take_of_length_le, Function.comp_def]; done) 
end Go.Proofs.Ytehhmkdghgabaaa
namespace Go.Proofs.Ytehhmkdghgabaaa
open Go Go.RowKit Wx
set_option linter.unusedVariables false
set_option linter.unusedSimpArgs false
set_option maxHeartbeats 4000000
theorem con_quiet {P : Program} {g : FuncId} {u v : Value} (hfn : fnB P g = true) (h : ∀ w, Calls P g #[u] w fun e w' => e = .returned v ∧ w' = w) : Con P g [.one (.v u)] (fun rx rK rt => rx = .val v ∧ rK = [] ∧ rt = 0) := by
  refine ⟨hfn, fun w vs hvs => ?_⟩
  cases vs with
  | nil => exact hvs.elim
  | cons x vs => cases vs with
    | cons _ _ => exact hvs.2.elim
    | nil =>
      have hx : x = u := hvs.1
      subst hx
      refine Calls.mono (h w) ?_
      rintro e w' ⟨rfl, rfl⟩
      exact ⟨v, .val v, [], 0, fun _ => none, fun _ _ => none, rfl, ⟨fun i b h => by simp [kg] at h, fun i j bi bj p q h => by simp [kg] at h, fun i b p h => by simp [kg] at h, (fun _ _ _ _ hu => nomatch hu), fun i b p f o h => by simp [kg] at h, (fun _ _ _ hu => nomatch hu), (fun _ _ _ hu => nomatch hu), .refl _, (fun _ _ _ _ hu => nomatch hu), fun _ h => h.elim⟩, fun _ _ => rfl, (fun p hp => nomatch hp), rfl, rfl, rfl, rfl⟩
theorem len0_con : Con Try.prog 109 [.one (.v (.int .u64 0))] (fun rx rK rt => rx = .val (.int .i64 0) ∧ rK = [] ∧ rt = 0) := con_quiet (by kernel_rfl) fun w => Any.bits_Len (SlLaysF0.n15.bits (P := Try.prog) (ρ := Try.sortK_ren) { Try.sortK with }) 0 w (by decide) (by decide)
theorem pdq0_con : Con Try.prog 108 [.one (.v (.slice none 0 0)), .one (.v (.int .i64 0)), .one (.v (.int .i64 0)), .one (.v (.int .i64 0)), .one (.fn 74 [])] (fun rx rK rt => rx = .tup [] ∧ rK = [] ∧ rt = 0) := Y.con_eval ftabOk tabOk mixOk 60 12 (by kernel_rfl) (by rfl) (by kernel_rfl)
theorem sortnil_con   : Con Try.prog 73 [.one (.v (.slice none 0 0)), .one (.fn 74 [])] (fun rx rK rt => rx = .tup [] ∧ rK = [] ∧ rt = 0) := by
  refine Z.con_ofF tabOk 14 Try.f73 _ Try.func73 (by kernel_rfl) rfl rfl rfl rfl ?_
  repeat' ((conv => whnf); first
    | with_reducible refine wr_u64 (by omega) ?_
    | ((first | (with_reducible refine Z.callZ_mk ?_ (pdq0_con) ?_) | (with_reducible refine Z.callZ_mk ?_ (len0_con) ?_)); (focus ((repeat' (first | exact trivial | exact rfl | exact .inl rfl | apply And.intro)); done)))
    | fail)
  all_goals (try (conv => whnf))
  all_goals try (show Nat.ble _ _ = true; rfl)
  all_goals first
    | ((first | (with_reducible apply Z.retF0)); (focus (exact rfl)); (repeat' (first | exact trivial)); (all_goals (try exact (fun _ => none))); all_goals (first | (simp; done)))
    | fail
theorem concat_nil   : Con Try.prog 72 [.one (.ro false 1 [[RT.ro 4 (([] : List Kc).map eK)], [RT.ro 4 (([] : List Kc).map eK)]])] (fun rx rK rt => rx = .val (.slice none 0 0) ∧ rK = [] ∧ rt = 0) := by
  refine Z.con_ofZ tabOk 36 Try.f72 _ Try.func72 (by kernel_rfl) rfl rfl rfl rfl ?_
  repeat' ((conv => whnf); first
    | with_reducible first | refine spB_yes (by decide) ?_ | refine spB_no (by decide) ?_
    | with_reducible first | refine Z.loopZ_unroll tabOk 3 ?_
    | ((with_reducible refine posE_nil ?_ ?_); (focus rfl))
    | ((with_reducible apply rowN_mk); (focus rfl))
    | ((with_reducible apply ixN_lit); (focus (exact rfl)); (focus (exact rfl)))
    | with_reducible refine wr_i64 (by first | omega | (simp only [LN] at *; omega)) ?_
    | with_reducible first | refine Z.callZ_in tabOk 27 Try.f107 _ Try.func107 (by kernel_rfl) rfl rfl rfl ?_
    | ((with_reducible apply ex_and); exact rfl)
    | fail)
  all_goals (try (conv => whnf))
  all_goals try (show Nat.ble _ _ = true; rfl)
  all_goals try (exfalso; rename_i hz; cases hz; done)
  all_goals try (exfalso; (try simp only [LN] at *) <;> omega)
  all_goals first
  | (refine ret1 [.one (.v (.slice none 0 0))] rfl [] (.val (.slice none 0 0)) [] rfl trivial List.nodup_nil rfl ?_ (fun p hp => nomatch hp) ⟨rfl, rfl, rfl⟩; intro p b hp; cases hp; done)
  | (fail)
end Go.Proofs.Ytehhmkdghgabaaa
namespace Go.Proofs.Ytehhmkdghgabaaa
open Go Go.RowKit Wx
set_option linter.unusedVariables false
set_option linter.unusedSimpArgs false
set_option maxHeartbeats 4000000
theorem join_bad (a b : List Kc) (h : tabR a = false ∨ tabR b = false) (hla : a.length ≤ 1000) (hlb : b.length ≤ 1000) : Con Try.prog 35 [.agg [.ro false 4 (a.map eK)], .agg [.ro false 4 (b.map eK)]] (fun rx rK rt => rx = .tup [.agg [.ro true 4 (([] : List Kc).map eK)], .one (.v (.int .i64 220))] ∧ rK = [] ∧ rt = 0) := by
  refine Z.con_ofF tabOk 32 Try.f35 _ Try.func35 (by kernel_rfl) rfl rfl rfl rfl ?_
  have ca := check_con a (by omega)
  have cb := check_con b (by omega)
  cases ha : tabR a
  all_goals rw [ha] at ca
  all_goals simp only [cond_true, cond_false] at ca
  rotate_left
  · have hb : tabR b = false := by rcases h with h | h; (rw [ha] at h; cases h); exact h
    rw [hb] at cb
    simp only [cond_false] at cb
    repeat' ((conv => whnf); first
      | with_reducible first | refine spB_t ?_
      | ((with_reducible apply spB_cong); (focus (simp only [beq_self_eq_true, bne_self_eq_false, Bool.true_bne, Bool.false_bne, Bool.bne_true, Bool.bne_false, Bool.true_beq, Bool.false_beq, Bool.not_true, Bool.not_false, Bool.not_not, Int.reduceBEq, Int.reduceBNe, Int.reduceLE, Int.reduceLT, Int.reduceEq, decide_true, decide_false]; rfl)))
      | with_reducible first | refine spB_no (by decide) ?_
      | ((first | (with_reducible refine Z.callZ_mk ?_ (ca) ?_)); (focus ((repeat' (first | exact trivial | exact rfl | apply And.intro)); done)))
      | ((first | (with_reducible refine Z.callZ_mk ?_ (cb) ?_)); (focus ((repeat' (first | exact trivial | exact rfl | apply And.intro)); done)))
      | fail)
    all_goals (try (conv => whnf))
    all_goals try (show Nat.ble _ _ = true; rfl)
    all_goals try (exfalso; rename_i hz; cases hz; done)
    all_goals try (exfalso; (try simp only [LN] at *) <;> omega)
    all_goals first
      | ((first | (with_reducible apply Z.retF2)); (focus (exact rfl)); (repeat' (first | exact trivial | (with_reducible apply Z.frz_one) | (with_reducible apply Z.frz_agg) | (with_reducible apply Z.fq_int) | (exact Z.frz_nil) | exact rfl | apply And.intro)); (all_goals (try exact (fun _ => none))); all_goals (first | (simp; done)))
      | fail
  repeat' ((conv => whnf); first
    | with_reducible first | refine spB_t ?_
    | ((with_reducible apply spB_cong); (focus (simp only [beq_self_eq_true, bne_self_eq_false, Bool.true_bne, Bool.false_bne, Bool.bne_true, Bool.bne_false, Bool.true_beq, Bool.false_beq, Bool.not_true, Bool.not_false, Bool.not_not, Int.reduceBEq, Int.reduceBNe, Int.reduceLE, Int.reduceLT, Int.reduceEq, decide_true, decide_false]; rfl)))
    | ((first | (with_reducible refine Z.callZ_mk ?_ (ca) ?_)); (focus ((repeat' (first | exact trivial | exact rfl | apply And.intro)); done)))
    | fail)
  all_goals (try (conv => whnf))
  all_goals try (show Nat.ble _ _ = true; rfl)
  all_goals try (exfalso; rename_i hz; cases hz; done)
  all_goals try (exfalso; (try simp only [LN] at *) <;> omega)
  all_goals first
    | ((first | (with_reducible apply Z.retF2)); (focus (exact rfl)); (repeat' (first | exact trivial | (with_reducible apply Z.frz_one) | (with_reducible apply Z.frz_agg) | (with_reducible apply Z.fq_int) | (exact Z.frz_nil) | exact rfl | apply And.intro)); (all_goals (try exact (fun _ => none))); all_goals (first | (simp; done)))
    | fail
theorem join_nil   : Con Try.prog 35 [.agg [.ro false 4 (([] : List Kc).map eK)], .agg [.ro false 4 (([] : List Kc).map eK)]] (fun rx rK rt => rx = .tup [.agg [.ro true 4 (([] : List Kc).map eK)], .one (.v (.int .i64 0))] ∧ rK = [] ∧ rt = 0) := by
  refine Z.con_ofF tabOk 32 Try.f35 _ Try.func35 (by kernel_rfl) rfl rfl rfl rfl ?_
  have ca := check_con [] (by simp)
  have cat := concat_nil
  rw [show tabR [] = true from rfl] at ca
  simp only [cond_true] at ca
  repeat' ((conv => whnf); first
    | ((with_reducible apply spB_cong); (focus (simp only [beq_self_eq_true, bne_self_eq_false, Bool.true_bne, Bool.false_bne, Bool.bne_true, Bool.bne_false, Bool.true_beq, Bool.false_beq, Bool.not_true, Bool.not_false, Bool.not_not, Int.reduceBEq, Int.reduceBNe, Int.reduceLE, Int.reduceLT, Int.reduceEq, decide_true, decide_false]; rfl)))
    | with_reducible first | refine spB_no (by decide) ?_
    | ((first | (with_reducible refine Z.callZ_mk ?_ (ca) ?_) | (with_reducible refine Z.callZ_mk ?_ (cat) ?_) | (with_reducible refine Z.callZ_mk ?_ (sortnil_con) ?_)); (focus ((repeat' (first | exact trivial | exact ⟨_, rfl, rfl, rfl⟩ | exact rfl | exact Z.low_nil | exact .inl rfl | apply And.intro)); done)))
    | fail)
  all_goals (try (conv => whnf))
  all_goals try (show Nat.ble _ _ = true; rfl)
  all_goals try (exfalso; rename_i hz; cases hz; done)
  all_goals try (exfalso; (try simp only [LN] at *) <;> omega)
  all_goals first
    | ((first | (with_reducible apply Z.retF2)); (focus (exact rfl)); (repeat' (first | exact trivial | (with_reducible apply Z.frz_one) | (with_reducible apply Z.frz_agg) | (with_reducible apply Z.fq_int) | (exact Z.frz_nil) | exact rfl | apply And.intro)); (all_goals (try exact (fun _ => none))); all_goals (first | (simp; done)))
    | fail
end Go.Proofs.Ytehhmkdghgabaaa
namespace Go.Proofs.Ytehhmkdghgabaaa
open Go Go.RowKit Wx
set_option linter.unusedVariables false
set_option linter.unusedSimpArgs false
set_option maxHeartbeats 4000000
theorem join_both (a b : List Kc) (ha : tabR a = true) (hb : tabR b = true) (h0 : 0 < a.length + b.length) (hc : comm a b = true) : Con Try.prog 35 [.agg [.ro false 4 (a.map eK)], .agg [.ro false 4 (b.map eK)]] (fun rx rK rt => rx = .tup [.agg [.ro true 4 (([] : List Kc).map eK)], .one (.v (.int .i64 5))] ∧ rK = [] ∧ rt = 0) := by
  refine Z.con_ofF tabOk 32 Try.f35 _ Try.func35 (by kernel_rfl) rfl rfl rfl rfl ?_
  have hla := tab_len ha
  have hlb := tab_len hb
  have ca := check_con a (by omega)
  have cb := check_con b (by omega)
  rw [ha] at ca
  rw [hb] at cb
  simp only [cond_true] at ca cb
  have cat := concat_own a b (by omega) (by omega) h0
  repeat' ((conv => whnf); first
    | ((with_reducible first | ((refine spB_t ?_); trace "<<G1A0>>")); trace "<<L17>>")
    | ((((with_reducible apply spB_cong); (focus (simp only [beq_self_eq_true, bne_self_eq_false, Bool.true_bne, Bool.false_bne, Bool.bne_true, Bool.bne_false, Bool.true_beq, Bool.false_beq, Bool.not_true, Bool.not_false, Bool.not_not, Int.reduceBEq, Int.reduceBNe, Int.reduceLE, Int.reduceLT, Int.reduceEq, decide_true, decide_false]; rfl)))); trace "<<L18>>")
    | ((with_reducible first | ((refine spB_no (by decide) ?_); trace "<<G2A1>>")); trace "<<L19>>")
    | ((((refine sort_rule (a ++ b) rfl ?_ ?_ ?_ ?_); (focus (first | ((exact ren_map fun _ => rfl); trace "<<G3A1>>"))); (focus (first | ((rfl); trace "<<G4A0>>"))); (focus ((try simp only [LN] at *) <;> omega)); (intro zs hzp hzs; have hzl : zs.length = (a ++ b).length := hzp.length_eq; obtain ⟨hj, hj2⟩ := sort_join ha hb hzp hzs; rw [hc] at hj; have cz := check_con zs (by rw [hzp.length_eq, List.length_append]; omega); rw [hj] at cz; simp only [Bool.not_true, Bool.not_false, cond_true, cond_false] at cz))); trace "<<L24>>")
    | ((((first | (((with_reducible refine Z.callZ_mk ?_ (cat) ?_)); trace "<<G7A1>>")); (focus ((repeat' (first | ((exact trivial); trace "<<G8A0>>") | ((exact ⟨_, rfl, rfl, rfl⟩); trace "<<G8A1>>") | ((apply And.intro); trace "<<G8A12>>"))); done)))); trace "<<L38>>")
    | ((((first | (((with_reducible refine Z.callZ_mk ?_ (ca) ?_)); trace "<<G10A1>>")); (focus ((repeat' (first | ((exact trivial); trace "<<G11A0>>") | ((exact rfl); trace "<<G11A3>>") | ((apply And.intro); trace "<<G11A12>>"))); done)))); trace "<<L39>>")
    | ((((first | (((with_reducible refine Z.callZ_mk ?_ (cb) ?_)); trace "<<G13A1>>")); (focus ((repeat' (first | ((exact trivial); trace "<<G14A0>>") | ((exact rfl); trace "<<G14A3>>") | ((apply And.intro); trace "<<G14A12>>"))); done)))); trace "<<L40>>")
    | ((((first | (((with_reducible refine Z.callZ_mk ?_ (cz) ?_)); trace "<<G16A1>>")); (focus ((repeat' (first | ((exact trivial); trace "<<G17A0>>") | (((refine Z.low_osln ?_ (fun _ => rfl); (first | ((exact hzl.symm); trace "<<G18A1>>")))); trace "<<G17A2>>") | ((apply And.intro); trace "<<G17A12>>"))); done)))); trace "<<L41>>")
    | fail)
  all_goals (try (conv => whnf))
  all_goals try (show Nat.ble _ _ = true; rfl)
  all_goals try (exfalso; rename_i hz; cases hz; done)
  all_goals try (exfalso; (try simp only [LN] at *) <;> omega)
  all_goals first
    | ((((first | (((with_reducible apply Z.retF2)); trace "<<G23A1>>")); (focus (exact rfl)); (repeat' (first | ((exact trivial); trace "<<G24A0>>") | (((with_reducible apply Z.frz_one)); trace "<<G24A1>>") | (((with_reducible apply Z.frz_agg)); trace "<<G24A2>>") | (((with_reducible apply Z.fq_int)); trace "<<G24A3>>") | (((exact Z.frz_nil)); trace "<<G24A5>>") | ((exact rfl); trace "<<G24A12>>") | ((apply And.intro); trace "<<G24A18>>"))); (all_goals (try exact (fun _ => none))); all_goals (first | (((simp; done)); trace "<<G30A1>>")))); trace "<<L53>>")
    | fail
end Go.Proofs.Ytehhmkdghgabaaa
