import Derived.Test.YtehhmkdghgabaaaLib3
import Derived.Test.YtehhmkdghgabaaaLib4
namespace Go.Proofs.Ytehhmkdghgabaaa
open Go Go.RowKit Wx
set_option linter.unusedVariables false
set_option linter.unusedSimpArgs false
set_option maxHeartbeats 4000000
def be : Nat → Int → List Int
  | 0, _ => []
  | n + 1, x => be n (x / 256) ++ [x % 256]
def isB (l : List Int) : Prop := ∀ b ∈ l, 0 ≤ b ∧ b ≤ 255
def cmpI (a b : Int) : Int := if a < b then -1 else if b < a then 1 else 0
def cmpR (s k s2 k2 : Int) : Int := if cmpI s s2 ≠ 0 then cmpI s s2 else cmpI k k2
structure Kc where
  src : Int
  key : Int
  cnt : Int
  sum : Int
deriving DecidableEq
def keyOk (s k : Int) : Bool := decide ((0 ≤ s ∧ s < 8) ∧ 0 ≤ k ∧ k < 32)
def kLt (s k s2 k2 : Int) : Prop := s < s2 ∨ (s = s2 ∧ k < k2)
instance (s k s2 k2 : Int) : Decidable (kLt s k s2 k2) := by unfold kLt; infer_instance
def okT : Option Kc → List Kc → Bool
  | _, [] => true
  | none, x :: r => keyOk x.src x.key && decide (0 < x.cnt) && okT (some x) r
  | some p, x :: r => keyOk x.src x.key && decide (0 < x.cnt) && decide (kLt p.src p.key x.src x.key) && okT (some x) r
def tabR (l : List Kc) : Bool := okT none l
theorem okT_all : ∀ {l : List Kc} {p : Option Kc}, okT p l = true → ∀ x ∈ l, keyOk x.src x.key = true ∧ 0 < x.cnt
  | [], _, _, x, hx => nomatch hx
  | y :: l, p, h, x, hx => by
    have h' : (keyOk y.src y.key = true ∧ 0 < y.cnt) ∧ okT (some y) l = true := by
      cases p with
      | none => simp only [okT, Bool.and_eq_true, decide_eq_true_eq] at h; exact ⟨h.1, h.2⟩
      | some p => simp only [okT, Bool.and_eq_true, decide_eq_true_eq] at h; exact ⟨h.1.1, h.2⟩
    rcases List.mem_cons.1 hx with rfl | hx
    · exact h'.1
    · exact okT_all h'.2 x hx
theorem keyOk_iff {s k : Int} : keyOk s k = true ↔ (0 ≤ s ∧ s < 8) ∧ 0 ≤ k ∧ k < 32 := by unfold keyOk; exact decide_eq_true_iff
theorem okT_len : ∀ {l : List Kc} {p : Kc}, keyOk p.src p.key = true → okT (some p) l = true → (l.length : Int) ≤ 255 - (p.src * 32 + p.key)
  | [], p, hp, _ => by rw [keyOk_iff] at hp; simp; omega
  | x :: l, p, hp, h => by
    simp only [okT, Bool.and_eq_true, decide_eq_true_eq] at h
    have ih := okT_len h.1.1.1 h.2
    have hx := keyOk_iff.1 h.1.1.1
    have hp' := keyOk_iff.1 hp
    have hk := h.1.2
    unfold kLt at hk
    simp only [List.length_cons]
    omega
theorem tab_len {l : List Kc} (h : tabR l = true) : l.length ≤ 256 := by
  cases l with
  | nil => simp
  | cons x l =>
    unfold tabR at h
    simp only [okT, Bool.and_eq_true, decide_eq_true_eq] at h
    have ih := okT_len h.1.1 h.2
    have hx := keyOk_iff.1 h.1.1
    simp only [List.length_cons]
    omega
theorem kLt_trans {a b c d e f : Int} (h1 : kLt a b c d) (h2 : kLt c d e f) : kLt a b e f := by unfold kLt at *; omega
theorem kLt_irr {a b : Int} : ¬ kLt a b a b := by unfold kLt; omega
theorem kLt_asym {a b c d : Int} (h : kLt a b c d) : ¬ kLt c d a b := by unfold kLt at *; omega
theorem kLt_tri {a b c d : Int} : kLt a b c d ∨ (a = c ∧ b = d) ∨ kLt c d a b := by unfold kLt; omega
abbrev kLtK (x y : Kc) : Prop := kLt x.src x.key y.src y.key
theorem okT_pw : ∀ {l : List Kc} {p : Kc}, okT (some p) l = true → (∀ x ∈ l, kLtK p x) ∧ l.Pairwise kLtK
  | [], _, _ => ⟨(fun x hx => nomatch hx), List.Pairwise.nil⟩
  | y :: l, p, h => by
    simp only [okT, Bool.and_eq_true, decide_eq_true_eq] at h
    obtain ⟨h1, h2⟩ := okT_pw h.2
    refine ⟨fun x hx => ?_, List.Pairwise.cons h1 h2⟩
    rcases List.mem_cons.1 hx with rfl | hx
    · exact h.1.2
    · exact kLt_trans h.1.2 (h1 x hx)
theorem okT_of : ∀ {l : List Kc} {p : Kc}, (∀ x ∈ l, keyOk x.src x.key = true ∧ 0 < x.cnt) → (∀ x ∈ l, kLtK p x) → l.Pairwise kLtK → okT (some p) l = true
  | [], _, _, _, _ => rfl
  | y :: l, p, h, hp, hw => by
    rw [List.pairwise_cons] at hw
    simp only [okT, Bool.and_eq_true, decide_eq_true_eq]
    exact ⟨⟨h y (by simp), hp y (by simp)⟩, okT_of (fun x hx => h x (by simp [hx])) hw.1 hw.2⟩
theorem tab_iff {l : List Kc} : tabR l = true ↔ (∀ x ∈ l, keyOk x.src x.key = true ∧ 0 < x.cnt) ∧ l.Pairwise kLtK := by
  constructor
  · intro h
    refine ⟨okT_all h, ?_⟩
    cases l with
    | nil => exact List.Pairwise.nil
    | cons y l =>
      unfold tabR at h
      simp only [okT, Bool.and_eq_true] at h
      exact List.Pairwise.cons (okT_pw h.2).1 (okT_pw h.2).2
  · rintro ⟨h1, h2⟩
    cases l with
    | nil => rfl
    | cons y l =>
      rw [List.pairwise_cons] at h2
      unfold tabR
      simp only [okT, Bool.and_eq_true, decide_eq_true_eq]
      exact ⟨h1 y (by simp), okT_of (fun x hx => h1 x (by simp [hx])) h2.1 h2.2⟩
def ltK (s k : Int) (x : Kc) : Bool := decide (kLt x.src x.key s k)
def gtK (s k : Int) (x : Kc) : Bool := decide (kLt s k x.src x.key)
def eqK (s k : Int) (x : Kc) : Bool := decide (x.src = s ∧ x.key = k)
def ownK (s k : Int) (c : Int × Int) : List Kc := if c = (0, 0) then [] else [⟨s, k, c.1, c.2⟩]
def putR (l : List Kc) (s k : Int) (c : Int × Int) : List Kc := l.filter (ltK s k) ++ ownK s k c ++ l.filter (gtK s k)
def getR (l : List Kc) (s k : Int) : Int × Int := match l.find? (eqK s k) with
  | none => (0, 0)
  | some x => (x.cnt, x.sum)
theorem put_tab {l : List Kc} {s k : Int} {c : Int × Int} (h : tabR l = true) (hk : keyOk s k = true) (hc : c = (0, 0) ∨ 0 < c.1) : tabR (putR l s k c) = true := by
  rw [tab_iff] at h ⊢
  obtain ⟨h1, h2⟩ := h
  have hown : ∀ x ∈ ownK s k c, x.src = s ∧ x.key = k ∧ 0 < x.cnt := fun x hx => by
    unfold ownK at hx
    split at hx
    · cases hx
    · rename_i h0
      rw [List.mem_singleton.1 hx]
      exact ⟨rfl, rfl, hc.resolve_left h0⟩
  refine ⟨fun x hx => ?_, ?_⟩
  · unfold putR at hx
    simp only [List.mem_append, List.mem_filter] at hx
    rcases hx with (hx | hx) | hx
    · exact h1 x hx.1
    · obtain ⟨e1, e2, e3⟩ := hown x hx
      rw [e1, e2]; exact ⟨hk, e3⟩
    · exact h1 x hx.1
  · unfold putR
    rw [List.pairwise_append, List.pairwise_append]
    refine ⟨⟨h2.filter _, ?_, fun x hx y hy => ?_⟩, h2.filter _, fun x hx y hy => ?_⟩
    · unfold ownK; split
      · exact List.Pairwise.nil
      · exact List.pairwise_singleton _ _
    · obtain ⟨e1, e2, _⟩ := hown y hy
      have := of_decide_eq_true (List.mem_filter.1 hx).2
      unfold kLtK; rw [e1, e2]; exact this
    · have hy' := of_decide_eq_true (List.mem_filter.1 hy).2
      rcases List.mem_append.1 hx with hx | hx
      · exact kLt_trans (of_decide_eq_true (List.mem_filter.1 hx).2) hy'
      · obtain ⟨e1, e2, _⟩ := hown x hx
        unfold kLtK; rw [e1, e2]; exact hy'
def posR (l : List Kc) (s k : Int) : Nat := (l.filter (ltK s k)).length
theorem pos_le (l : List Kc) (s k : Int) : posR l s k ≤ l.length := List.length_filter_le _ _
theorem filter_none {α : Type} {p : α → Bool} {l : List α} (h : ∀ x ∈ l, p x = false) : l.filter p = [] := List.filter_eq_nil_iff.2 fun x hx => by simp [h x hx]
theorem filter_all {α : Type} {p : α → Bool} {l : List α} (h : ∀ x ∈ l, p x = true) : l.filter p = l := List.filter_eq_self.2 h
theorem cut_lt : ∀ {l : List Kc} {s k : Int}, l.Pairwise kLtK → l.filter (ltK s k) = l.take (posR l s k) ∧ l.filter (gtK s k) = l.drop (posR l s k + (l.filter (eqK s k)).length)
  | [], _, _, _ => ⟨rfl, rfl⟩
  | x :: l, s, k, h => by
    rw [List.pairwise_cons] at h
    obtain ⟨i1, i2⟩ := cut_lt (s := s) (k := k) h.2
    rcases @kLt_tri x.src x.key s k with h1 | ⟨h1, h2⟩ | h1
    · have e1 : ltK s k x = true := decide_eq_true h1
      have e2 : gtK s k x = false := decide_eq_false (kLt_asym h1)
      have e3 : eqK s k x = false := decide_eq_false fun e => by rw [e.1, e.2] at h1; exact kLt_irr h1
      have hp : posR (x :: l) s k = posR l s k + 1 := by unfold posR; rw [List.filter_cons_of_pos e1]; rfl
      rw [hp, List.filter_cons_of_pos e1, List.filter_cons_of_neg (by simp [e2]), List.filter_cons_of_neg (by simp [e3]), List.take_succ_cons, i1, show posR l s k + 1 + (l.filter (eqK s k)).length = (posR l s k + (l.filter (eqK s k)).length) + 1 by omega, List.drop_succ_cons, i2]
      exact ⟨rfl, rfl⟩
    · have hg : ∀ y ∈ l, kLt s k y.src y.key := fun y hy => by have := h.1 y hy; unfold kLtK at this; rw [h1, h2] at this; exact this
      have e1 : ltK s k x = false := decide_eq_false (by rw [h1, h2]; exact kLt_irr)
      have e2 : gtK s k x = false := decide_eq_false (by rw [h1, h2]; exact kLt_irr)
      have e3 : eqK s k x = true := decide_eq_true ⟨h1, h2⟩
      have f1 : l.filter (ltK s k) = [] := filter_none fun y hy => decide_eq_false (kLt_asym (hg y hy))
      have f2 : l.filter (gtK s k) = l := filter_all fun y hy => decide_eq_true (hg y hy)
      have f3 : l.filter (eqK s k) = [] := filter_none fun y hy => decide_eq_false fun e => by have := hg y hy; rw [e.1, e.2] at this; exact kLt_irr this
      have hp : posR (x :: l) s k = 0 := by unfold posR; rw [List.filter_cons_of_neg (by simp [e1]), f1]; rfl
      rw [hp, List.filter_cons_of_neg (by simp [e1]), List.filter_cons_of_neg (by simp [e2]), List.filter_cons_of_pos e3, f1, f2, f3]
      exact ⟨rfl, rfl⟩
    · have hg : ∀ y ∈ l, kLt s k y.src y.key := fun y hy => kLt_trans h1 (h.1 y hy)
      have e1 : ltK s k x = false := decide_eq_false (kLt_asym h1)
      have e2 : gtK s k x = true := decide_eq_true h1
      have e3 : eqK s k x = false := decide_eq_false fun e => by rw [e.1, e.2] at h1; exact kLt_irr h1
      have f1 : l.filter (ltK s k) = [] := filter_none fun y hy => decide_eq_false (kLt_asym (hg y hy))
      have f2 : l.filter (gtK s k) = l := filter_all fun y hy => decide_eq_true (hg y hy)
      have f3 : l.filter (eqK s k) = [] := filter_none fun y hy => decide_eq_false fun e => by have := hg y hy; rw [e.1, e.2] at this; exact kLt_irr this
      have hp : posR (x :: l) s k = 0 := by unfold posR; rw [List.filter_cons_of_neg (by simp [e1]), f1]; rfl
      rw [hp, List.filter_cons_of_neg (by simp [e1]), List.filter_cons_of_pos e2, List.filter_cons_of_neg (by simp [e3]), f1, f2, f3]
      exact ⟨rfl, rfl⟩
theorem eq_at : ∀ {l : List Kc} {s k : Int}, l.Pairwise kLtK → (l.filter (eqK s k)).length ≤ 1 ∧ ((l.filter (eqK s k)).length = 1 ↔ ∃ x, l[posR l s k]? = some x ∧ x.src = s ∧ x.key = k)
  | [], _, _, _ => by simp
  | x :: l, s, k, h => by
    rw [List.pairwise_cons] at h
    obtain ⟨i1, i2⟩ := eq_at (s := s) (k := k) h.2
    rcases @kLt_tri x.src x.key s k with h1 | ⟨h1, h2⟩ | h1
    · have e1 : ltK s k x = true := decide_eq_true h1
      have e3 : eqK s k x = false := decide_eq_false fun e => by rw [e.1, e.2] at h1; exact kLt_irr h1
      have hp : posR (x :: l) s k = posR l s k + 1 := by unfold posR; rw [List.filter_cons_of_pos e1]; rfl
      rw [hp, List.filter_cons_of_neg (by simp [e3]), List.getElem?_cons_succ]
      exact ⟨i1, i2⟩
    · have hg : ∀ y ∈ l, kLt s k y.src y.key := fun y hy => by have := h.1 y hy; unfold kLtK at this; rw [h1, h2] at this; exact this
      have e1 : ltK s k x = false := decide_eq_false (by rw [h1, h2]; exact kLt_irr)
      have e3 : eqK s k x = true := decide_eq_true ⟨h1, h2⟩
      have f1 : l.filter (ltK s k) = [] := filter_none fun y hy => decide_eq_false (kLt_asym (hg y hy))
      have f3 : l.filter (eqK s k) = [] := filter_none fun y hy => decide_eq_false fun e => by have := hg y hy; rw [e.1, e.2] at this; exact kLt_irr this
      have hp : posR (x :: l) s k = 0 := by unfold posR; rw [List.filter_cons_of_neg (by simp [e1]), f1]; rfl
      rw [hp, List.filter_cons_of_pos e3, f3]
      exact ⟨Nat.le_refl _, fun _ => ⟨x, rfl, h1, h2⟩, fun _ => rfl⟩
    · have hg : ∀ y ∈ l, kLt s k y.src y.key := fun y hy => kLt_trans h1 (h.1 y hy)
      have e1 : ltK s k x = false := decide_eq_false (kLt_asym h1)
      have e3 : eqK s k x = false := decide_eq_false fun e => by rw [e.1, e.2] at h1; exact kLt_irr h1
      have f1 : l.filter (ltK s k) = [] := filter_none fun y hy => decide_eq_false (kLt_asym (hg y hy))
      have f3 : l.filter (eqK s k) = [] := filter_none fun y hy => decide_eq_false fun e => by have := hg y hy; rw [e.1, e.2] at this; exact kLt_irr this
      have hp : posR (x :: l) s k = 0 := by unfold posR; rw [List.filter_cons_of_neg (by simp [e1]), f1]; rfl
      rw [hp, List.filter_cons_of_neg (by simp [e3]), f3]
      refine ⟨Nat.zero_le _, fun h => by simp at h, ?_⟩
      rintro ⟨y, hy, h2, h3⟩
      cases hy
      rw [h2, h3] at h1
      exact absurd h1 kLt_irr
theorem put_at {l : List Kc} {s k : Int} {c : Int × Int} {x : Kc} (h : tabR l = true) (hx : l[posR l s k]? = some x) (he : x.src = s ∧ x.key = k) : putR l s k c = l.take (posR l s k) ++ ownK s k c ++ l.drop (posR l s k + 1) := by
  have hw := (tab_iff.1 h).2
  have h1 := ((eq_at hw).2).2 ⟨x, hx, he⟩
  unfold putR
  rw [(cut_lt hw).1, (cut_lt hw).2, h1]
theorem put_no {l : List Kc} {s k : Int} {c : Int × Int} (h : tabR l = true) (hn : ∀ x, l[posR l s k]? = some x → ¬ (x.src = s ∧ x.key = k)) : putR l s k c = l.take (posR l s k) ++ ownK s k c ++ l.drop (posR l s k) := by
  have hw := (tab_iff.1 h).2
  have h1 : (l.filter (eqK s k)).length = 0 := by
    have := (eq_at (s := s) (k := k) hw).1
    have h2 : ¬ (l.filter (eqK s k)).length = 1 := fun e => by
      obtain ⟨x, hx, he⟩ := ((eq_at hw).2).1 e
      exact hn x hx he
    omega
  unfold putR
  rw [(cut_lt hw).1, (cut_lt hw).2, h1, Nat.add_zero]
theorem cmp_lt {s k s2 k2 : Int} : decide (0 ≤ cmpR s k s2 k2) = !decide (kLt s k s2 k2) := by
  unfold cmpR cmpI kLt
  by_cases h1 : s < s2
  · simp [h1]
  · by_cases h2 : s2 < s
    · have h3 : ¬ s = s2 := by omega
      simp [h1, h2, h3]
    · have h3 : s = s2 := by omega
      by_cases h4 : k < k2
      · simp [h3, h4]
      · by_cases h5 : k2 < k
        · simp [h3, h4, h5]
        · simp [h3, h4, h5]
theorem cmp_eq (s k s2 k2 : Int) : (cmpR s k s2 k2 == 0) = (s == s2 && k == k2) := by
  unfold cmpR cmpI
  by_cases h1 : s < s2
  · have : ¬ s = s2 := by omega
    simp [h1, this]
  · by_cases h2 : s2 < s
    · have : ¬ s = s2 := by omega
      simp [h1, h2, this]
    · have h3 : s = s2 := by omega
      by_cases h4 : k < k2
      · have : ¬ k = k2 := by omega
        simp [h3, h4, this]
      · by_cases h5 : k2 < k
        · have : ¬ k = k2 := by omega
          simp [h3, h4, h5, this]
        · have : k = k2 := by omega
          simp [h3, this]
abbrev eK (x : Kc) : List RT := [RT.v (.int .i64 x.src), RT.v (.int .i64 x.key), RT.v (.int .i64 x.cnt), RT.v (.int .i64 x.sum)]
abbrev cK (x : Kc) : List Ce := [Ce.v (.int .i64 x.src), Ce.v (.int .i64 x.key), Ce.v (.int .i64 x.cnt), Ce.v (.int .i64 x.sum)]
def prevR (l : List Kc) : Nat → Option Kc
  | 0 => none
  | i + 1 => l[i]?
theorem okT_at {l : List Kc} {i : Nat} {x : Kc} (h : l[i]? = some x) : okT (prevR l i) (l.drop i) = (keyOk x.src x.key && decide (0 < x.cnt) && (match prevR l i with | none => true | some q => decide (kLt q.src q.key x.src x.key)) && okT (prevR l (i + 1)) (l.drop (i + 1))) := by
  rw [drop_cons h]
  have e : prevR l (i + 1) = some x := h
  rw [e]
  cases hp : prevR l i with
  | none => simp [okT]
  | some q => simp [okT]
end Go.Proofs.Ytehhmkdghgabaaa
namespace Go.Proofs.Ytehhmkdghgabaaa
open Go Go.RowKit Wx
set_option linter.unusedVariables false
set_option linter.unusedSimpArgs false
set_option maxHeartbeats 4000000
theorem nan_con (a : Int)  : Con Try.prog 115 [.one (.v (.int .i64 a))] (fun rx rK rt => rx = .val (.bool false) ∧ rK = [] ∧ rt = 0) := by
  refine Z.con_ofF tabOk 6 Try.f115 _ Try.func115 (by kernel_rfl) rfl rfl rfl rfl ?_
  repeat' ((conv => whnf); first
    | with_reducible first | refine spB_t ?_)
  all_goals (try (conv => whnf))
  all_goals first
    | ((first | (with_reducible apply Z.retF1)); (focus (exact rfl)); (repeat' (first | exact trivial | (with_reducible apply Z.frz_one) | (with_reducible apply Z.fq_bool) | apply And.intro)); (all_goals (try exact (fun _ => none))); all_goals (simp))
theorem cmp_con (a b : Int)  : Con Try.prog 91 [.one (.v (.int .i64 a)), .one (.v (.int .i64 b))] (fun rx rK rt => rx = .val (.int .i64 (cmpI a b)) ∧ rK = [] ∧ rt = 0) := by
  refine Z.con_ofF tabOk 20 Try.f91 _ Try.func91 (by kernel_rfl) rfl rfl rfl rfl ?_
  repeat' ((conv => whnf); first
    | with_reducible first | refine spB_no (by decide) ?_
    | (with_reducible refine spB_dec ?_ ?_ <;> intro _ <;> (try (exfalso; first | contradiction | omega | (rename_i hz; with_reducible exact absurd rfl hz))))
    | ((first | (with_reducible apply Z.callZ_mk ?_ (nan_con _) ?_)); (rotate_left 1); (focus ((repeat' (first | exact trivial | exact rfl | apply And.intro)); done))))
  all_goals (try (conv => whnf))
  all_goals first
    | ((first | (with_reducible apply Z.retF1)); (focus (exact rfl)); (repeat' (first | exact trivial | (with_reducible apply Z.frz_one) | (with_reducible apply Z.fq_int) | apply And.intro)); (all_goals (try exact (fun _ => none))); all_goals (first | (unfold cmpI; first | rw [if_pos (by omega)] | rw [if_neg (by omega), if_pos (by omega)] | rw [if_neg (by omega), if_neg (by omega)])))
theorem or_con (a b : Int)  : Con Try.prog 90 [.one (.ro false 1 [[.v (.int .i64 a)], [.v (.int .i64 b)]])] (fun rx rK rt => rx = .val (.int .i64 (if a ≠ 0 then a else b)) ∧ rK = [] ∧ rt = 0) := by
  refine Z.con_ofF tabOk 18 Try.f90 _ Try.func90 (by kernel_rfl) rfl rfl rfl rfl ?_
  repeat' ((conv => whnf); first
    | (with_reducible refine spB_dec ?_ ?_ <;> intro _ <;> (try (exfalso; first | contradiction | omega | (rename_i hz; refine hz ?_; simp; done) | (rename_i hz; simp at hz; done) | (simp only [LN] at *; omega))))
    | (with_reducible refine spB_bne ?_ ?_ <;> intro _ <;> (try (exfalso; first | contradiction | omega | (rename_i hz; refine hz ?_; simp; done) | (rename_i hz; simp at hz; done) | (simp only [LN] at *; omega))))
    | with_reducible first | refine Z.loopZ_unroll tabOk 3 ?_
    | ((with_reducible apply rowN_mk); (focus rfl))
    | ((with_reducible apply ixN_lit); (focus (exact rfl)); (focus (exact rfl)))
    | with_reducible refine wr_i64 (by first | omega | (simp only [LN] at *; omega)) ?_)
  all_goals (try (conv => whnf))
  all_goals try (show Nat.ble _ _ = true; rfl)
  all_goals try (exfalso; rename_i hz; cases hz; done)
  all_goals try (exfalso; (try simp only [LN] at *) <;> omega)
  all_goals first
    | ((first | (with_reducible apply Z.retF1)); (focus (exact rfl)); (repeat' (first | exact trivial | (with_reducible apply Z.frz_one) | (with_reducible apply Z.fq_int) | (apply Z.fq_int) | apply And.intro)); (all_goals (try exact (fun _ => none))); all_goals (first | (simp_all; done)))
theorem compare_con (s k v s2 k2 v2 : Int)  : Con Try.prog 51 [.agg [.v (.int .i64 s), .v (.int .i64 k), .v (.int .i64 v)], .agg [.v (.int .i64 s2), .v (.int .i64 k2), .v (.int .i64 v2)]] (fun rx rK rt => rx = .val (.int .i64 (cmpR s k s2 k2)) ∧ rK = [] ∧ rt = 0) := by
  refine Z.con_ofF tabOk 17 Try.f51 _ Try.func51 (by kernel_rfl) rfl rfl rfl rfl ?_
  repeat' ((conv => whnf); first
    | ((first | (with_reducible apply Z.conZ_mz ?_ (or_con _ _) ?_) | (with_reducible apply Z.conZ_mz ?_ (cmp_con _ _) ?_)); (rotate_left 2); (focus ((repeat' (first | exact trivial | exact ⟨_, rfl, rfl, rfl⟩ | exact rfl | apply And.intro)); done)))
    | with_reducible first | refine Z.drawZ_rule tabOk mixOk ?_ | refine Z.apZ_mk (by kernel_rfl) ?_)
  all_goals (try (conv => whnf))
  all_goals first
    | ((first | (with_reducible apply Z.retF1)); (focus (exact rfl)); (repeat' (first | exact trivial | exact rfl | apply And.intro)); (all_goals (try exact (fun _ => none))); all_goals (rfl))
theorem samekey_con (s k v s2 k2 v2 : Int)  : Con Try.prog 43 [.agg [.v (.int .i64 s), .v (.int .i64 k), .v (.int .i64 v)], .agg [.v (.int .i64 s2), .v (.int .i64 k2), .v (.int .i64 v2)]] (fun rx rK rt => rx = .val (.bool (s == s2 && k == k2)) ∧ rK = [] ∧ rt = 0) := by
  refine Z.con_ofF tabOk 9 Try.f43 _ Try.func43 (by kernel_rfl) rfl rfl rfl rfl ?_
  have cq := cmp_eq s k s2 k2
  repeat' ((conv => whnf); first
    | ((first | (with_reducible apply Z.callZ_mk ?_ (compare_con _ _ _ _ _ _) ?_)); (rotate_left 6); (focus ((repeat' (first | exact trivial | exact rfl | apply And.intro)); done))))
  all_goals (try (conv => whnf))
  all_goals first
    | ((first | (with_reducible apply Z.retF1)); (focus (exact rfl)); (repeat' (first | exact trivial | (with_reducible apply Z.frz_one) | (with_reducible apply Z.fq_bool) | apply And.intro)); (all_goals (try exact (fun _ => none))); all_goals (first | exact cq))
theorem rec_con (s k v : Int)  : Con Try.prog 50 [.agg [.v (.int .i64 s), .v (.int .i64 k), .v (.int .i64 v)]] (fun rx rK rt => rx = .val (.int .i64 (bif keyOk s k then 0 else 150)) ∧ rK = [] ∧ rt = 0) := by
  refine Z.con_ofF tabOk 21 Try.f50 _ Try.func50 (by kernel_rfl) rfl rfl rfl rfl ?_
  repeat' ((conv => whnf); first
    | with_reducible first | refine spB_t ?_
    | with_reducible first | refine spB_no (by decide) ?_
    | (with_reducible refine spB_dec ?_ ?_ <;> intro _ <;> (try (exfalso; first | contradiction | omega | (rename_i hz; refine hz ?_; simp; done) | (rename_i hz; simp at hz; done) | (simp only [LN] at *; omega)))))
  all_goals (try (conv => whnf))
  all_goals try (show Nat.ble _ _ = true; rfl)
  all_goals try (exfalso; rename_i hz; cases hz; done)
  all_goals try (exfalso; (try simp only [LN] at *) <;> omega)
  all_goals first
    | ((first | (with_reducible apply Z.retF1)); (focus (exact rfl)); (repeat' (first | exact trivial | (with_reducible apply Z.frz_one) | (with_reducible apply Z.fq_int) | apply And.intro)); (all_goals (try exact (fun _ => none))); all_goals (first | (rw [show keyOk s k = true from keyOk_iff.2 (by omega)]; rfl) | (rw [show keyOk s k = false by (cases hz : keyOk s k with | false => rfl | true => exact absurd (keyOk_iff.1 hz) (by omega))]; rfl)))
end Go.Proofs.Ytehhmkdghgabaaa
namespace Go.Proofs.Ytehhmkdghgabaaa
open Go Go.RowKit Wx
set_option linter.unusedVariables false
set_option linter.unusedSimpArgs false
set_option maxHeartbeats 4000000
theorem getR_at {l : List Kc} {i : Nat} {x : Kc} {s k : Int} (h : l[i]? = some x) : getR (l.drop i) s k = if x.src = s ∧ x.key = k then (x.cnt, x.sum) else getR (l.drop (i + 1)) s k := by
  rw [drop_cons h]
  unfold getR
  by_cases he : x.src = s ∧ x.key = k
  · rw [List.find?_cons_of_pos (show eqK s k x = true from decide_eq_true he), if_pos he]
  · rw [List.find?_cons_of_neg (by rw [show eqK s k x = false from decide_eq_false he]; simp), if_neg he]
end Go.Proofs.Ytehhmkdghgabaaa
namespace Go.Proofs.Ytehhmkdghgabaaa
open Go Go.RowKit Wx
set_option linter.unusedVariables false
set_option linter.unusedSimpArgs false
set_option maxHeartbeats 4000000
theorem pw_at {l : List Kc} (h : l.Pairwise kLtK) {a b : Nat} {x y : Kc} (hab : a < b) (hx : l[a]? = some x) (hy : l[b]? = some y) : kLtK x y := by
  obtain ⟨ha, rfl⟩ := List.getElem?_eq_some_iff.1 hx
  obtain ⟨hb, rfl⟩ := List.getElem?_eq_some_iff.1 hy
  exact List.pairwise_iff_getElem.1 h a b ha hb hab
theorem pos_eq {l : List Kc} {s k : Int} {i : Nat} (hi : i ≤ l.length) (h1 : ∀ (n : Nat) (x : Kc), n < i → l[n]? = some x → kLt x.src x.key s k) (h2 : ∀ (n : Nat) (x : Kc), i ≤ n → l[n]? = some x → ¬ kLt x.src x.key s k) : posR l s k = i := by
  unfold posR
  conv => lhs; rw [← List.take_append_drop i l]
  rw [List.filter_append, filter_all (l := l.take i) fun x hx => ?_, filter_none (l := l.drop i) fun x hx => ?_]
  · simp; omega
  · obtain ⟨n, hn⟩ := List.mem_iff_getElem?.1 hx
    rw [List.getElem?_drop] at hn
    exact decide_eq_false (h2 (i + n) x (by omega) hn)
  · obtain ⟨n, hn⟩ := List.mem_iff_getElem?.1 hx
    rw [List.getElem?_take] at hn
    split at hn
    · rename_i hni; exact decide_eq_true (h1 n x hni hn)
    · cases hn
theorem srch_lo {l : List Kc} {s k : Int} {m : Nat} {x : Kc} (hw : l.Pairwise kLtK) (hx : l[m]? = some x) (h : kLt x.src x.key s k) : ∀ (n : Nat) (y : Kc), n < m + 1 → l[n]? = some y → kLt y.src y.key s k := fun n y hn hy => by
  by_cases e : n = m
  · subst e; rw [hx] at hy; cases hy; exact h
  · exact kLt_trans (pw_at hw (by omega) hy hx) h
theorem srch_hi {l : List Kc} {s k : Int} {m : Nat} {x : Kc} (hw : l.Pairwise kLtK) (hx : l[m]? = some x) (h : ¬ kLt x.src x.key s k) : ∀ (n : Nat) (y : Kc), m ≤ n → l[n]? = some y → ¬ kLt y.src y.key s k := fun n y hn hy h2 => by
  by_cases e : n = m
  · subst e; rw [hx] at hy; cases hy; exact h h2
  · exact h (kLt_trans (pw_at hw (by omega) hx hy) h2)
def thereR (l : List Kc) (s k : Int) : Bool := match l[posR l s k]? with
  | none => false
  | some x => x.src == s && x.key == k
theorem vN_to {z : Int} {A : Int → Prop} (v : Int) (h : z = v) (k : A v) : vN z A := ⟨v, h, k⟩
theorem search_con (l : List Kc) (s k v : Int) (hl : l.length ≤ 1000) (ht : tabR l = true) : Con Try.prog 97 [.one (.ro false 4 (l.map eK)), .agg [.v (.int .i64 s), .v (.int .i64 k), .v (.int .i64 v)], .one (.fn 98 [])] (fun rx rK rt => rx = .tup [.one (.v (.int .i64 (posR l s k : Nat))), .one (.v (.bool (thereR l s k)))] ∧ rK = [] ∧ rt = 0) := by
  refine Z.con_ofF tabOk 49 Try.f97 _ Try.func97 (by kernel_rfl) rfl rfl rfl rfl ?_
  have hw := (tab_iff.1 ht).2
  repeat' ((conv => whnf); first
    | with_reducible first | refine spB_t ?_
    | fail)
  all_goals (try (conv => whnf))
  all_goals try (show Nat.ble _ _ = true; rfl)
  all_goals try (exfalso; rename_i hz; cases hz; done)
  all_goals try (exfalso; (try simp only [LN] at *) <;> omega)
  refine Z.loopK tabOk (fun zq : Nat × Nat => [(9, .val (.int .i64 (zq.1 : Int))), (10, .val (.int .i64 (zq.2 : Int)))]) (fun zq : Nat × Nat => ([(0, some (Z.Ob.b ⟨[[.v (.int .i64 s), .v (.int .i64 k), .v (.int .i64 v)]], 3, 39, true⟩))] : Z.Kr)) (fun zq => zq.1 ≤ zq.2 ∧ zq.2 ≤ l.length ∧ (∀ (n : Nat) (x : Kc), n < zq.1 → l[n]? = some x → kLt x.src x.key s k) ∧ (∀ (n : Nat) (x : Kc), zq.2 ≤ n → l[n]? = some x → ¬ kLt x.src x.key s k)) (fun zq => zq.2 - zq.1) (0, (l.map eK).length) 1 [(0, _), (2, _), (4, _), (8, _)] ⟨rfl, rfl, rfl, rfl, trivial⟩ [] trivial ?_ ?_ rfl rfl ⟨Nat.zero_le _, by (try dsimp only); rw [List.length_map]; exact Nat.le_refl _, fun n x h => absurd h (Nat.not_lt_zero _), fun n x h hx => absurd (List.getElem?_eq_some_iff.1 hx).1 (by (try dsimp only at h); rw [List.length_map] at h; omega)⟩ ?_
  · repeat' (first | exact trivial | apply And.intro | exact ⟨_, rfl, Z.Imp.refl _⟩)
  · repeat' (first | exact trivial | exact (fun b hb => ⟨b, hb, Z.ImpO.refl b⟩) | apply And.intro)
  rintro ⟨i, j⟩ HINV
  (try dsimp only at HINV); (try dsimp only)
  obtain ⟨HI1, HI2, HI3, HI4⟩ := HINV
  by_cases hij : i < j
  · obtain ⟨x, hx⟩ := getElem?_some' (xs := l) (i := (i + j) / 2) (by omega)
    have cc := compare_con x.src x.key 0 s k v
    have hcl := @cmp_lt x.src x.key s k
    generalize cmpR x.src x.key s k = C at *
    by_cases hlt : kLt x.src x.key s k
    · rw [decide_eq_true hlt] at hcl
      have hC : ¬ 0 ≤ C := of_decide_eq_false (by simpa using hcl)
      repeat' ((conv => whnf); first
        | (with_reducible refine spB_dec ?_ ?_ <;> intro _ <;> (try (exfalso; first | contradiction | omega | (rename_i hz; refine hz ?_; simp; done) | (rename_i hz; simp at hz; done) | (simp only [LN] at *; omega))))
        | ((with_reducible refine vN_to (((i + j) / 2 : Nat) : Int) ?_ ?_); (focus (rw [show (2 : Int) ^ min (Int.toNat 1) IntKind.u64.bits = 2 by decide, Int.fdiv_eq_ediv_of_nonneg _ (by decide)]; omega)))
        | with_reducible first | refine Z.rowN_known hx ?_
        | ((with_reducible refine ixN_mk ((i + j) / 2) ?_ ?_ ?_); (focus (first | rfl)); (focus ((try simp only [LN] at *) <;> omega)))
        | ((with_reducible refine eqN_mk2 ?_ ?_); (focus rfl))
        | with_reducible refine wr_i64 (by first | omega | (simp only [LN] at *; omega)) ?_
        | with_reducible refine wr_u64 (by omega) ?_
        | with_reducible first | refine Z.callZ_in tabOk 9 Try.f98 _ Try.func98 (by kernel_rfl) rfl rfl rfl ?_ | refine Z.callZ_in tabOk 8 Try.f49 _ Try.func49 (by kernel_rfl) rfl rfl rfl ?_
        | ((first | (with_reducible refine Z.conZ_mz ?_ (cc) ?_)); (focus ((repeat' (first | exact trivial | exact rfl | apply And.intro)); done)))
        | ((with_reducible apply ex_and); exact rfl)
        | with_reducible first | refine Z.drawZ_rule tabOk mixOk ?_ | refine Z.apZ_mk (by kernel_rfl) ?_
        | ((with_reducible refine Z.ConZ.red ?_); (try subst hlb); (apply Z.conZ_all); (focus (repeat (first | exact Z.FK.nil | (apply Z.FK.keep; exact rfl)))); (focus rfl); (focus rfl); (focus (repeat (first | exact trivial | (refine ⟨(fun o ho => (by first | (cases ho; rfl) | (cases ho; exact Z.inL_map fun _ => rfl) | (cases ho; exact Z.inL_mapr fun _ => rfl) | exact Z.inL_gB ho fun _ => rfl)), ?_⟩)))))
        | ((refine ⟨rfl, ?_, rfl⟩); (focus (repeat (first | exact Z.DK.nil | apply Z.DK.cons))))
        | fail)
      all_goals (try (conv => whnf))
      all_goals try (show Nat.ble _ _ = true; rfl)
      all_goals try (exfalso; rename_i hz; cases hz; done)
      all_goals try (exfalso; (try simp only [LN] at *) <;> omega)
      all_goals first
        | ((refine Z.rndK (((i + j) / 2 + 1, j)) (fun s => [0]) rfl rfl rfl rfl ?_ ?_ ?_ ?_); (focus (repeat' (first | exact trivial | exact rfl | apply And.intro))); (focus (repeat' (first | exact trivial | (intro b hb; cases hb; rfl) | apply And.intro))); (focus (exact ⟨by (try dsimp only); omega, HI2, srch_lo hw hx hlt, HI4⟩)); ((try dsimp only); omega))
        | fail
    · rw [decide_eq_false hlt] at hcl
      have hC : 0 ≤ C := of_decide_eq_true (by simpa using hcl)
      repeat' ((conv => whnf); first
        | (with_reducible refine spB_dec ?_ ?_ <;> intro _ <;> (try (exfalso; first | contradiction | omega | (rename_i hz; refine hz ?_; simp; done) | (rename_i hz; simp at hz; done) | (simp only [LN] at *; omega))))
        | ((with_reducible refine vN_to (((i + j) / 2 : Nat) : Int) ?_ ?_); (focus (rw [show (2 : Int) ^ min (Int.toNat 1) IntKind.u64.bits = 2 by decide, Int.fdiv_eq_ediv_of_nonneg _ (by decide)]; omega)))
        | with_reducible first | refine Z.rowN_known hx ?_
        | ((with_reducible refine ixN_mk ((i + j) / 2) ?_ ?_ ?_); (focus (first | rfl)); (focus ((try simp only [LN] at *) <;> omega)))
        | ((with_reducible refine eqN_mk2 ?_ ?_); (focus rfl))
        | with_reducible refine wr_i64 (by first | omega | (simp only [LN] at *; omega)) ?_
        | with_reducible refine wr_u64 (by omega) ?_
        | with_reducible first | refine Z.callZ_in tabOk 9 Try.f98 _ Try.func98 (by kernel_rfl) rfl rfl rfl ?_ | refine Z.callZ_in tabOk 8 Try.f49 _ Try.func49 (by kernel_rfl) rfl rfl rfl ?_
        | ((first | (with_reducible refine Z.conZ_mz ?_ (cc) ?_)); (focus ((repeat' (first | exact trivial | exact rfl | apply And.intro)); done)))
        | ((with_reducible apply ex_and); exact rfl)
        | with_reducible first | refine Z.drawZ_rule tabOk mixOk ?_ | refine Z.apZ_mk (by kernel_rfl) ?_
        | ((with_reducible refine Z.ConZ.red ?_); (try subst hlb); (apply Z.conZ_all); (focus (repeat (first | exact Z.FK.nil | (apply Z.FK.keep; exact rfl)))); (focus rfl); (focus rfl); (focus (repeat (first | exact trivial | (refine ⟨(fun o ho => (by first | (cases ho; rfl) | (cases ho; exact Z.inL_map fun _ => rfl) | (cases ho; exact Z.inL_mapr fun _ => rfl) | exact Z.inL_gB ho fun _ => rfl)), ?_⟩)))))
        | ((refine ⟨rfl, ?_, rfl⟩); (focus (repeat (first | exact Z.DK.nil | apply Z.DK.cons))))
        | fail)
      all_goals (try (conv => whnf))
      all_goals try (show Nat.ble _ _ = true; rfl)
      all_goals try (exfalso; rename_i hz; cases hz; done)
      all_goals try (exfalso; (try simp only [LN] at *) <;> omega)
      all_goals first
        | ((refine Z.rndK ((i, (i + j) / 2)) (fun s => [0]) rfl rfl rfl rfl ?_ ?_ ?_ ?_); (focus (repeat' (first | exact trivial | exact rfl | apply And.intro))); (focus (repeat' (first | exact trivial | (intro b hb; cases hb; rfl) | apply And.intro))); (focus (exact ⟨by (try dsimp only); omega, by (try dsimp only); omega, HI3, srch_hi hw hx hlt⟩)); ((try dsimp only); omega))
        | fail
  have hji : j = i := by omega
  subst hji
  have hp : posR l s k = j := pos_eq HI2 HI3 HI4
  unfold thereR
  rw [hp]
  cases hx : l[j]? with
  | none =>
    have hjl : l.length ≤ j := List.getElem?_eq_none_iff.1 hx
    repeat' ((conv => whnf); first
      | with_reducible first | refine spB_no (by decide) ?_
      | (with_reducible refine spB_dec ?_ ?_ <;> intro _ <;> (try (exfalso; first | contradiction | omega | (rename_i hz; refine hz ?_; simp; done) | (rename_i hz; simp at hz; done) | (simp only [LN] at *; omega))))
      | with_reducible first | refine Z.drawZ_rule tabOk mixOk ?_ | refine Z.apZ_mk (by kernel_rfl) ?_
      | fail)
    all_goals (try (conv => whnf))
    all_goals try (show Nat.ble _ _ = true; rfl)
    all_goals try (exfalso; rename_i hz; cases hz; done)
    all_goals try (exfalso; (try simp only [LN] at *) <;> omega)
    all_goals first
      | ((first | (with_reducible apply Z.retF2)); (focus (exact rfl)); (repeat' (first | exact trivial | (with_reducible apply Z.frz_one) | (with_reducible apply Z.fq_int) | (with_reducible apply Z.fq_bool) | exact rfl | apply And.intro)); (all_goals (try exact (fun _ => none))); all_goals (first | (simp; done)))
      | fail
  | some x =>
    have hjl := (List.getElem?_eq_some_iff.1 hx).1
    have cc := compare_con x.src x.key 0 s k v
    have hce := cmp_eq x.src x.key s k
    generalize cmpR x.src x.key s k = C at *
    dsimp only
    rw [← hce]
    repeat' ((conv => whnf); first
      | with_reducible first | refine spB_t ?_
      | (with_reducible refine spB_dec ?_ ?_ <;> intro _ <;> (try (exfalso; first | contradiction | omega | (rename_i hz; refine hz ?_; simp; done) | (rename_i hz; simp at hz; done) | (simp only [LN] at *; omega))))
      | with_reducible first | refine Z.rowN_known hx ?_
      | ((with_reducible refine ixN_mk (j) ?_ ?_ ?_); (focus (first | rfl)); (focus ((try simp only [LN] at *) <;> omega)))
      | with_reducible first | refine Z.callZ_in tabOk 9 Try.f98 _ Try.func98 (by kernel_rfl) rfl rfl rfl ?_ | refine Z.callZ_in tabOk 8 Try.f49 _ Try.func49 (by kernel_rfl) rfl rfl rfl ?_
      | ((first | (with_reducible refine Z.conZ_mz ?_ (cc) ?_)); (focus ((repeat' (first | exact trivial | exact rfl | apply And.intro)); done)))
      | ((with_reducible apply ex_and); exact rfl)
      | with_reducible first | refine Z.drawZ_rule tabOk mixOk ?_ | refine Z.apZ_mk (by kernel_rfl) ?_
      | ((with_reducible refine Z.ConZ.red ?_); (try subst hlb); (apply Z.conZ_all); (focus (repeat (first | exact Z.FK.nil | (apply Z.FK.keep; exact rfl)))); (focus rfl); (focus rfl); (focus (repeat (first | exact trivial | (refine ⟨(fun o ho => (by first | (cases ho; rfl) | (cases ho; exact Z.inL_map fun _ => rfl) | (cases ho; exact Z.inL_mapr fun _ => rfl) | exact Z.inL_gB ho fun _ => rfl)), ?_⟩)))))
      | ((refine ⟨rfl, ?_, rfl⟩); (focus (repeat (first | exact Z.DK.nil | apply Z.DK.cons))))
      | fail)
    all_goals (try (conv => whnf))
    all_goals try (show Nat.ble _ _ = true; rfl)
    all_goals try (exfalso; rename_i hz; cases hz; done)
    all_goals try (exfalso; (try simp only [LN] at *) <;> omega)
    all_goals first
      | ((first | (with_reducible apply Z.retF2)); (focus (exact rfl)); (repeat' (first | exact trivial | (with_reducible apply Z.frz_one) | (with_reducible apply Z.fq_int) | (with_reducible apply Z.fq_bool) | exact rfl | apply And.intro)); (all_goals (try exact (fun _ => none))); all_goals (first | (simp_all; done)))
      | fail
end Go.Proofs.Ytehhmkdghgabaaa
namespace Go.Proofs.Ytehhmkdghgabaaa
open Go Go.RowKit Wx
set_option linter.unusedVariables false
set_option linter.unusedSimpArgs false
set_option maxHeartbeats 4000000
theorem find_con (l : List Kc) (s k v : Int) (hl : l.length ≤ 1000) (ht : tabR l = true) : Con Try.prog 59 [.agg [.ro false 4 (l.map eK)], .agg [.v (.int .i64 s), .v (.int .i64 k), .v (.int .i64 v)]] (fun rx rK rt => rx = .tup [.one (.v (.int .i64 (posR l s k : Nat))), .one (.v (.bool (thereR l s k)))] ∧ rK = [] ∧ rt = 0) := by
  refine Z.con_ofF tabOk 12 Try.f59 _ Try.func59 (by kernel_rfl) rfl rfl rfl rfl ?_
  have cb := search_con l s k v hl ht
  repeat' ((conv => whnf); first
    | ((first | (with_reducible refine Z.callZ_mk ?_ (cb) ?_)); (focus ((repeat' (first | exact trivial | exact rfl | apply And.intro)); done))))
  all_goals (try (conv => whnf))
  all_goals try (show Nat.ble _ _ = true; rfl)
  all_goals first
    | ((first | (with_reducible apply Z.retF2)); (focus (exact rfl)); (repeat' (first | exact trivial | exact rfl | apply And.intro)); (all_goals (try exact (fun _ => none))); all_goals (rfl))
end Go.Proofs.Ytehhmkdghgabaaa
namespace Go.Proofs.Ytehhmkdghgabaaa
open Go Go.RowKit Wx
set_option linter.unusedVariables false
set_option linter.unusedSimpArgs false
set_option maxHeartbeats 4000000
theorem check_con (l : List Kc) (hl : l.length ≤ 9223372036854775807) : Con Try.prog 15 [.agg [.ro false 4 (l.map eK)]] (fun rx rK rt => rx = .val (.int .i64 (bif tabR l then 0 else 220)) ∧ rK = [] ∧ rt = 0) := by
  refine Z.con_ofF tabOk 42 Try.f15 _ Try.func15 (by kernel_rfl) rfl rfl rfl rfl ?_
  repeat' ((conv => whnf); first
    | with_reducible first | refine spB_t ?_
    | fail)
  all_goals (try (conv => whnf))
  all_goals try (show Nat.ble _ _ = true; rfl)
  all_goals try (exfalso; rename_i hz; cases hz; done)
  all_goals try (exfalso; (try simp only [LN] at *) <;> omega)
  refine Z.loopK tabOk (fun zq : Nat => [(9, .val (.int .i64 (zq : Int)))]) (fun zq : Nat => ([(0, some (Z.Ob.b ⟨[[.ro false 4 (l.map eK)]], 1, 30, true⟩))] : Z.Kr)) (fun zq => zq ≤ l.length ∧ tabR l = okT (prevR l zq) (l.drop zq)) (fun zq => l.length - zq) 0 1 [(1, _), (7, _), (8, _)] ⟨rfl, rfl, rfl, trivial⟩ [] trivial ?_ ?_ rfl rfl ⟨Nat.zero_le _, rfl⟩ ?_
  · repeat' (first | exact trivial | apply And.intro | exact ⟨_, rfl, Z.Imp.refl _⟩)
  · repeat' (first | exact trivial | exact (fun b hb => ⟨b, hb, Z.ImpO.refl b⟩) | apply And.intro)
  rintro i HINV
  (try dsimp only at HINV); (try dsimp only)
  obtain ⟨HI, HT⟩ := HINV
  by_cases hi : i < l.length
  · obtain ⟨x, hx⟩ := getElem?_some' (xs := l) (i := i) hi
    rw [okT_at hx] at HT
    have ck := rec_con x.src x.key 0
    cases hk : keyOk x.src x.key
    · rw [hk] at ck HT
      simp only [Bool.false_and, cond_false] at ck HT
      rw [HT]
      try simp only [cond_false]
      repeat' ((conv => whnf); first
        | with_reducible first | refine spB_t ?_
        | ((with_reducible apply spB_cong); (focus (simp only [beq_self_eq_true, bne_self_eq_false, Bool.true_bne, Bool.false_bne, Bool.bne_true, Bool.bne_false, Bool.true_beq, Bool.false_beq, Bool.not_true, Bool.not_false, Bool.not_not, Int.reduceBEq, Int.reduceBNe, Int.reduceLE, Int.reduceLT, Int.reduceEq, decide_true, decide_false]; rfl)))
        | (with_reducible refine spB_dec ?_ ?_ <;> intro _ <;> (try (exfalso; first | contradiction | omega | (rename_i hz; refine hz ?_; simp; done) | (rename_i hz; simp at hz; done) | (simp only [LN] at *; omega))))
        | with_reducible first | refine Z.rowN_known hx ?_
        | ((with_reducible apply ixN_litp); (focus (exact rfl)); (focus ((try simp only [LN] at *) <;> omega)))
        | with_reducible first | refine Z.callZ_in tabOk 8 Try.f49 _ Try.func49 (by kernel_rfl) rfl rfl rfl ?_
        | ((first | (with_reducible refine Z.conZ_mz ?_ (ck) ?_)); (focus ((repeat' (first | exact trivial | exact rfl | apply And.intro)); done)))
        | ((with_reducible apply ex_and); exact rfl)
        | with_reducible first | refine Z.drawZ_rule tabOk mixOk ?_ | refine Z.apZ_mk (by kernel_rfl) ?_
        | fail)
      all_goals (try (conv => whnf))
      all_goals try (show Nat.ble _ _ = true; rfl)
      all_goals try (exfalso; rename_i hz; cases hz; done)
      all_goals try (exfalso; (try simp only [LN] at *) <;> omega)
      all_goals first
        | ((first | (with_reducible apply Z.retF1)); (focus (exact rfl)); (repeat' (first | exact trivial | (with_reducible apply Z.frz_one) | (with_reducible apply Z.fq_int) | exact rfl | apply And.intro)); (all_goals (try exact (fun _ => none))); all_goals (first | (simp; done)))
        | fail
    rw [hk] at ck HT
    simp only [Bool.true_and, cond_true] at ck HT
    by_cases hc : 0 < x.cnt
    rotate_left
    · rw [decide_eq_false hc, Bool.false_and, Bool.false_and] at HT
      rw [HT]
      try simp only [cond_false]
      repeat' ((conv => whnf); first
        | with_reducible first | refine spB_t ?_
        | ((with_reducible apply spB_cong); (focus (simp only [beq_self_eq_true, bne_self_eq_false, Bool.true_bne, Bool.false_bne, Bool.bne_true, Bool.bne_false, Bool.true_beq, Bool.false_beq, Bool.not_true, Bool.not_false, Bool.not_not, Int.reduceBEq, Int.reduceBNe, Int.reduceLE, Int.reduceLT, Int.reduceEq, decide_true, decide_false]; rfl)))
        | with_reducible first | refine spB_no (by decide) ?_
        | (with_reducible refine spB_dec ?_ ?_ <;> intro _ <;> (try (exfalso; first | contradiction | omega | (rename_i hz; refine hz ?_; simp; done) | (rename_i hz; simp at hz; done) | (simp only [LN] at *; omega))))
        | with_reducible first | refine Z.rowN_known hx ?_
        | ((with_reducible apply ixN_litp); (focus (exact rfl)); (focus ((try simp only [LN] at *) <;> omega)))
        | with_reducible first | refine Z.callZ_in tabOk 8 Try.f49 _ Try.func49 (by kernel_rfl) rfl rfl rfl ?_
        | ((first | (with_reducible refine Z.conZ_mz ?_ (ck) ?_)); (focus ((repeat' (first | exact trivial | exact rfl | apply And.intro)); done)))
        | ((with_reducible apply ex_and); exact rfl)
        | with_reducible first | refine Z.drawZ_rule tabOk mixOk ?_ | refine Z.apZ_mk (by kernel_rfl) ?_
        | fail)
      all_goals (try (conv => whnf))
      all_goals try (show Nat.ble _ _ = true; rfl)
      all_goals try (exfalso; rename_i hz; cases hz; done)
      all_goals try (exfalso; (try simp only [LN] at *) <;> omega)
      all_goals first
        | ((first | (with_reducible apply Z.retF1)); (focus (exact rfl)); (repeat' (first | exact trivial | (with_reducible apply Z.frz_one) | (with_reducible apply Z.fq_int) | exact rfl | apply And.intro)); (all_goals (try exact (fun _ => none))); all_goals (first | (simp; done)))
        | fail
    rw [decide_eq_true hc, Bool.true_and] at HT
    rcases i with _ | j
    · have HT2 : tabR l = okT (prevR l 1) (l.drop 1) := by rw [HT]; rfl
      repeat' ((conv => whnf); first
        | ((with_reducible apply spB_cong); (focus (simp only [beq_self_eq_true, bne_self_eq_false, Bool.true_bne, Bool.false_bne, Bool.bne_true, Bool.bne_false, Bool.true_beq, Bool.false_beq, Bool.not_true, Bool.not_false, Bool.not_not, Int.reduceBEq, Int.reduceBNe, Int.reduceLE, Int.reduceLT, Int.reduceEq, decide_true, decide_false]; rfl)))
        | with_reducible first | refine spB_no (by decide) ?_
        | (with_reducible refine spB_dec ?_ ?_ <;> intro _ <;> (try (exfalso; first | contradiction | omega | (rename_i hz; refine hz ?_; simp; done) | (rename_i hz; simp at hz; done) | (simp only [LN] at *; omega))))
        | with_reducible first | refine Z.rowN_known hx ?_
        | ((with_reducible apply ixN_litp); (focus (exact rfl)); (focus ((try simp only [LN] at *) <;> omega)))
        | with_reducible refine wr_i64 (by first | omega | (simp only [LN] at *; omega)) ?_
        | with_reducible first | refine Z.callZ_in tabOk 8 Try.f49 _ Try.func49 (by kernel_rfl) rfl rfl rfl ?_
        | ((first | (with_reducible refine Z.conZ_mz ?_ (ck) ?_)); (focus ((repeat' (first | exact trivial | exact rfl | apply And.intro)); done)))
        | ((with_reducible apply ex_and); exact rfl)
        | with_reducible first | refine Z.drawZ_rule tabOk mixOk ?_ | refine Z.apZ_mk (by kernel_rfl) ?_
        | fail)
      all_goals (try (conv => whnf))
      all_goals try (show Nat.ble _ _ = true; rfl)
      all_goals try (exfalso; rename_i hz; cases hz; done)
      all_goals try (exfalso; (try simp only [LN] at *) <;> omega)
      all_goals first
        | ((refine Z.rndK (1) (fun s => [0]) rfl rfl rfl rfl ?_ ?_ ?_ ?_); (focus (repeat' (first | exact trivial | exact rfl | apply And.intro))); (focus (repeat' (first | exact trivial | (intro b hb; cases hb; rfl) | apply And.intro))); (focus (exact ⟨by (try dsimp only); omega, HT2⟩)); ((try dsimp only); omega))
        | fail
    obtain ⟨q, hq⟩ := getElem?_some' (xs := l) (i := j) (by omega)
    have hpr : prevR l (j + 1) = some q := hq
    rw [hpr] at HT
    simp only at HT
    have cc := compare_con q.src q.key 0 x.src x.key 0
    have hcl := @cmp_lt q.src q.key x.src x.key
    generalize cmpR q.src q.key x.src x.key = C at *
    by_cases hlt : kLt q.src q.key x.src x.key
    · rw [decide_eq_true hlt] at HT hcl
      have hC : ¬ 0 ≤ C := of_decide_eq_false (by simpa using hcl)
      rw [Bool.true_and] at HT
      repeat' ((conv => whnf); first
        | with_reducible first | refine spB_t ?_
        | ((with_reducible apply spB_cong); (focus (simp only [beq_self_eq_true, bne_self_eq_false, Bool.true_bne, Bool.false_bne, Bool.bne_true, Bool.bne_false, Bool.true_beq, Bool.false_beq, Bool.not_true, Bool.not_false, Bool.not_not, Int.reduceBEq, Int.reduceBNe, Int.reduceLE, Int.reduceLT, Int.reduceEq, decide_true, decide_false]; rfl)))
        | with_reducible first | refine spB_no (by decide) ?_
        | (with_reducible refine spB_dec ?_ ?_ <;> intro _ <;> (try (exfalso; first | contradiction | omega | (rename_i hz; refine hz ?_; simp; done) | (rename_i hz; simp at hz; done) | (simp only [LN] at *; omega))))
        | with_reducible first | refine Z.rowN_known hx ?_ | refine Z.rowN_known hq ?_
        | ((with_reducible refine ixN_mk (j) ?_ ?_ ?_); (focus (first | ((try simp only [LN] at *) <;> omega))); (focus ((try simp only [LN] at *) <;> omega)))
        | ((with_reducible apply ixN_litp); (focus (exact rfl)); (focus ((try simp only [LN] at *) <;> omega)))
        | with_reducible refine wr_i64 (by first | omega | (simp only [LN] at *; omega)) ?_
        | with_reducible first | refine Z.callZ_in tabOk 8 Try.f49 _ Try.func49 (by kernel_rfl) rfl rfl rfl ?_
        | ((first | (with_reducible refine Z.conZ_mz ?_ (ck) ?_) | (with_reducible refine Z.conZ_mz ?_ (cc) ?_)); (focus ((repeat' (first | exact trivial | exact rfl | apply And.intro)); done)))
        | ((with_reducible apply ex_and); exact rfl)
        | with_reducible first | refine Z.drawZ_rule tabOk mixOk ?_ | refine Z.apZ_mk (by kernel_rfl) ?_
        | ((with_reducible refine Z.ConZ.red ?_); (try subst hlb); (apply Z.conZ_all); (focus (repeat (first | exact Z.FK.nil | (apply Z.FK.keep; exact rfl)))); (focus rfl); (focus rfl); (focus (repeat (first | exact trivial | (refine ⟨(fun o ho => (by first | (cases ho; rfl) | (cases ho; exact Z.inL_map fun _ => rfl) | (cases ho; exact Z.inL_mapr fun _ => rfl) | exact Z.inL_gB ho fun _ => rfl)), ?_⟩)))))
        | ((refine ⟨rfl, ?_, rfl⟩); (focus (repeat (first | exact Z.DK.nil | apply Z.DK.cons))))
        | fail)
      all_goals (try (conv => whnf))
      all_goals try (show Nat.ble _ _ = true; rfl)
      all_goals try (exfalso; rename_i hz; cases hz; done)
      all_goals try (exfalso; (try simp only [LN] at *) <;> omega)
      all_goals first
        | ((refine Z.rndK ((j + 1 + 1)) (fun s => [0]) rfl rfl rfl rfl ?_ ?_ ?_ ?_); (focus (repeat' (first | exact trivial | exact rfl | apply And.intro))); (focus (repeat' (first | exact trivial | (intro b hb; cases hb; rfl) | apply And.intro))); (focus (exact ⟨by (try dsimp only); omega, HT⟩)); ((try dsimp only); omega))
        | fail
    · rw [decide_eq_false hlt] at HT hcl
      have hC : 0 ≤ C := of_decide_eq_true (by simpa using hcl)
      rw [Bool.false_and] at HT
      rw [HT]
      try simp only [cond_false]
      repeat' ((conv => whnf); first
        | with_reducible first | refine spB_t ?_
        | ((with_reducible apply spB_cong); (focus (simp only [beq_self_eq_true, bne_self_eq_false, Bool.true_bne, Bool.false_bne, Bool.bne_true, Bool.bne_false, Bool.true_beq, Bool.false_beq, Bool.not_true, Bool.not_false, Bool.not_not, Int.reduceBEq, Int.reduceBNe, Int.reduceLE, Int.reduceLT, Int.reduceEq, decide_true, decide_false]; rfl)))
        | with_reducible first | refine spB_no (by decide) ?_
        | (with_reducible refine spB_dec ?_ ?_ <;> intro _ <;> (try (exfalso; first | contradiction | omega | (rename_i hz; refine hz ?_; simp; done) | (rename_i hz; simp at hz; done) | (simp only [LN] at *; omega))))
        | with_reducible first | refine Z.rowN_known hx ?_ | refine Z.rowN_known hq ?_
        | ((with_reducible refine ixN_mk (j) ?_ ?_ ?_); (focus (first | ((try simp only [LN] at *) <;> omega))); (focus ((try simp only [LN] at *) <;> omega)))
        | ((with_reducible apply ixN_litp); (focus (exact rfl)); (focus ((try simp only [LN] at *) <;> omega)))
        | with_reducible refine wr_i64 (by first | omega | (simp only [LN] at *; omega)) ?_
        | with_reducible first | refine Z.callZ_in tabOk 8 Try.f49 _ Try.func49 (by kernel_rfl) rfl rfl rfl ?_
        | ((first | (with_reducible refine Z.conZ_mz ?_ (ck) ?_) | (with_reducible refine Z.conZ_mz ?_ (cc) ?_)); (focus ((repeat' (first | exact trivial | exact rfl | apply And.intro)); done)))
        | ((with_reducible apply ex_and); exact rfl)
        | with_reducible first | refine Z.drawZ_rule tabOk mixOk ?_ | refine Z.apZ_mk (by kernel_rfl) ?_
        | ((with_reducible refine Z.ConZ.red ?_); (try subst hlb); (apply Z.conZ_all); (focus (repeat (first | exact Z.FK.nil | (apply Z.FK.keep; exact rfl)))); (focus rfl); (focus rfl); (focus (repeat (first | exact trivial | (refine ⟨(fun o ho => (by first | (cases ho; rfl) | (cases ho; exact Z.inL_map fun _ => rfl) | (cases ho; exact Z.inL_mapr fun _ => rfl) | exact Z.inL_gB ho fun _ => rfl)), ?_⟩)))))
        | ((refine ⟨rfl, ?_, rfl⟩); (focus (repeat (first | exact Z.DK.nil | apply Z.DK.cons))))
        | fail)
      all_goals (try (conv => whnf))
      all_goals try (show Nat.ble _ _ = true; rfl)
      all_goals try (exfalso; rename_i hz; cases hz; done)
      all_goals try (exfalso; (try simp only [LN] at *) <;> omega)
      all_goals first
        | ((first | (with_reducible apply Z.retF1)); (focus (exact rfl)); (repeat' (first | exact trivial | (with_reducible apply Z.frz_one) | (with_reducible apply Z.fq_int) | exact rfl | apply And.intro)); (all_goals (try exact (fun _ => none))); all_goals (first | (simp; done)))
        | fail
  have hil : i = l.length := by omega
  subst hil
  rw [List.drop_length] at HT
  have HT3 : tabR l = true := by rw [HT]; cases prevR l l.length <;> rfl
  rw [HT3]
  try simp only [cond_true]
  repeat' ((conv => whnf); first
    | (with_reducible refine spB_dec ?_ ?_ <;> intro _ <;> (try (exfalso; first | contradiction | omega | (rename_i hz; refine hz ?_; simp; done) | (rename_i hz; simp at hz; done) | (simp only [LN] at *; omega))))
    | fail)
  all_goals (try (conv => whnf))
  all_goals try (show Nat.ble _ _ = true; rfl)
  all_goals try (exfalso; rename_i hz; cases hz; done)
  all_goals try (exfalso; (try simp only [LN] at *) <;> omega)
  all_goals first
    | ((first | (with_reducible apply Z.retF1)); (focus (exact rfl)); (repeat' (first | exact trivial | (with_reducible apply Z.frz_one) | (with_reducible apply Z.fq_int) | exact rfl | apply And.intro)); (all_goals (try exact (fun _ => none))); all_goals (first | (simp; done)))
    | fail
end Go.Proofs.Ytehhmkdghgabaaa
namespace Go.Proofs.Ytehhmkdghgabaaa
open Go Go.RowKit Wx
set_option linter.unusedVariables false
set_option linter.unusedSimpArgs false
set_option maxHeartbeats 4000000
theorem get_pos {l : List Kc} {s k : Int} (h : tabR l = true) : getR l s k = if thereR l s k = true then (match l[posR l s k]? with | some x => (x.cnt, x.sum) | none => (0, 0)) else (0, 0) := by
  have hw := (tab_iff.1 h).2
  obtain ⟨h1, h2⟩ := eq_at (s := s) (k := k) hw
  unfold getR
  rw [← List.head?_filter]
  by_cases hl : (l.filter (eqK s k)).length = 1
  · obtain ⟨x, hx, he⟩ := h2.1 hl
    have ht : thereR l s k = true := by unfold thereR; rw [hx]; simp [he.1, he.2]
    rw [if_pos ht, hx]
    have hm : x ∈ l.filter (eqK s k) := List.mem_filter.2 ⟨List.mem_of_getElem? hx, decide_eq_true he⟩
    cases hf : l.filter (eqK s k) with
    | nil => rw [hf] at hm; cases hm
    | cons y r =>
      rw [hf] at hl hm
      have hr : r = [] := by simpa using hl
      subst hr
      rw [List.mem_singleton.1 hm]
      rfl
  · have h0 : l.filter (eqK s k) = [] := List.length_eq_zero_iff.1 (by omega)
    have ht : thereR l s k = false := by
      cases ht : thereR l s k with
      | false => rfl
      | true =>
        exfalso
        unfold thereR at ht
        cases hx : l[posR l s k]? with
        | none => rw [hx] at ht; cases ht
        | some x => rw [hx] at ht; exact hl (h2.2 ⟨x, hx, by simpa using ht⟩)
    rw [h0, ht]
    rfl
theorem tget_con (l : List Kc) (s k v : Int) (hl : l.length ≤ 1000) : Con Try.prog 21 [.agg [.ro false 4 (l.map eK)], .agg [.v (.int .i64 s), .v (.int .i64 k), .v (.int .i64 v)]] (fun rx rK rt => rx = .pl (.agg [.v (.int .i64 (getR l s k).1), .v (.int .i64 (getR l s k).2)]) ∧ rK = [] ∧ rt = 0) := by
  refine Z.con_ofF tabOk 41 Try.f21 _ Try.func21 (by kernel_rfl) rfl rfl rfl rfl ?_
  have cc := check_con l (by omega)
  cases hok : tabR l
  all_goals rw [hok] at cc
  all_goals simp only [cond_true, cond_false] at cc
  rotate_left
  · have cf := find_con l s k v hl hok
    have hg := get_pos (s := s) (k := k) hok
    generalize hpp : posR l s k = p at *
    cases ht : thereR l s k
    all_goals rw [ht] at cf hg
    all_goals simp only [if_true, if_false, Bool.false_eq_true] at hg
    · rw [hg]
      repeat' ((conv => whnf); first
        | with_reducible first | refine spB_t ?_
        | ((with_reducible apply spB_cong); (focus (simp only [beq_self_eq_true, bne_self_eq_false, Bool.true_bne, Bool.false_bne, Bool.bne_true, Bool.bne_false, Bool.true_beq, Bool.false_beq, Bool.not_true, Bool.not_false, Bool.not_not, Int.reduceBEq, Int.reduceBNe, Int.reduceLE, Int.reduceLT, Int.reduceEq, decide_true, decide_false]; rfl)))
        | with_reducible first | refine spB_no (by decide) ?_
        | ((first | (with_reducible refine Z.callZ_mk ?_ (cc) ?_) | (with_reducible refine Z.callZ_mk ?_ (cf) ?_)); (focus ((repeat' (first | exact trivial | exact rfl | apply And.intro)); done)))
        | fail)
      all_goals (try (conv => whnf))
      all_goals try (show Nat.ble _ _ = true; rfl)
      all_goals try (exfalso; rename_i hz; cases hz; done)
      all_goals try (exfalso; (try simp only [LN] at *) <;> omega)
      all_goals first
        | ((first | (with_reducible apply Z.retF1)); (focus (exact rfl)); (repeat' (first | exact trivial | (with_reducible apply Z.frz_agg) | (with_reducible apply Z.fq_int) | exact rfl | apply And.intro)); (all_goals (try exact (fun _ => none))); all_goals (first | (simp; done)))
        | fail
    · obtain ⟨x, hx⟩ : ∃ x, l[p]? = some x := by
        unfold thereR at ht
        rw [hpp] at ht
        cases hx : l[p]? with
        | none => rw [hx] at ht; cases ht
        | some x => exact ⟨x, rfl⟩
      rw [hx] at hg
      simp only at hg
      rw [hg]
      have hpl := (List.getElem?_eq_some_iff.1 hx).1
      repeat' ((conv => whnf); first
        | with_reducible first | refine spB_t ?_
        | ((with_reducible apply spB_cong); (focus (simp only [beq_self_eq_true, bne_self_eq_false, Bool.true_bne, Bool.false_bne, Bool.bne_true, Bool.bne_false, Bool.true_beq, Bool.false_beq, Bool.not_true, Bool.not_false, Bool.not_not, Int.reduceBEq, Int.reduceBNe, Int.reduceLE, Int.reduceLT, Int.reduceEq, decide_true, decide_false]; rfl)))
        | with_reducible first | refine Z.rowN_known hx ?_
        | ((with_reducible refine ixN_mk (p) ?_ ?_ ?_); (focus (first | rfl)); (focus ((try simp only [LN] at *) <;> omega)))
        | ((first | (with_reducible refine Z.callZ_mk ?_ (cc) ?_) | (with_reducible refine Z.callZ_mk ?_ (cf) ?_)); (focus ((repeat' (first | exact trivial | exact rfl | apply And.intro)); done)))
        | fail)
      all_goals (try (conv => whnf))
      all_goals try (show Nat.ble _ _ = true; rfl)
      all_goals try (exfalso; rename_i hz; cases hz; done)
      all_goals try (exfalso; (try simp only [LN] at *) <;> omega)
      all_goals first
        | ((first | (with_reducible apply Z.retF1)); (focus (exact rfl)); (repeat' (first | exact trivial | (with_reducible apply Z.frz_agg) | exact rfl | apply And.intro)); (all_goals (try exact (fun _ => none))); all_goals (first | (simp; done)))
        | fail
  repeat' ((conv => whnf); first
    | ((with_reducible apply spB_cong); (focus (simp only [beq_self_eq_true, bne_self_eq_false, Bool.true_bne, Bool.false_bne, Bool.bne_true, Bool.bne_false, Bool.true_beq, Bool.false_beq, Bool.not_true, Bool.not_false, Bool.not_not, Int.reduceBEq, Int.reduceBNe, Int.reduceLE, Int.reduceLT, Int.reduceEq, decide_true, decide_false]; rfl)))
    | with_reducible first | refine spB_no (by decide) ?_
    | ((first | (with_reducible refine Z.callZ_mk ?_ (cc) ?_)); (focus ((repeat' (first | exact trivial | exact rfl | apply And.intro)); done)))
    | fail)
  all_goals (try (conv => whnf))
  all_goals try (show Nat.ble _ _ = true; rfl)
  all_goals try (exfalso; rename_i hz; cases hz; done)
  all_goals try (exfalso; (try simp only [LN] at *) <;> omega)
  refine Z.loopK tabOk (fun zq : Nat => [(29, .val (.int .i64 (zq : Int)))]) (fun zq : Nat => ([(0, some (Z.Ob.b ⟨[[.ro false 4 (l.map eK)]], 1, 30, true⟩)), (1, some (Z.Ob.b ⟨[[.v (.int .i64 s), .v (.int .i64 k), .v (.int .i64 v)]], 3, 39, true⟩)), (2, some (Z.Ob.b ⟨[[.v (.int .i64 0), .v (.int .i64 0)]], 2, 41, true⟩))] : Z.Kr)) (fun zq => zq ≤ l.length ∧ getR l s k = getR (l.drop zq) s k) (fun zq => l.length - zq) 0 3 [(3, _), (4, _), (27, _), (28, _)] ⟨rfl, rfl, rfl, rfl, trivial⟩ [] trivial ?_ ?_ rfl rfl ⟨Nat.zero_le _, rfl⟩ ?_
  · repeat' (first | exact trivial | apply And.intro | exact ⟨_, rfl, Z.Imp.refl _⟩)
  · repeat' (first | exact trivial | exact (fun b hb => ⟨b, hb, Z.ImpO.refl b⟩) | apply And.intro)
  rintro i HINV
  (try dsimp only at HINV); (try dsimp only)
  obtain ⟨HI, HG⟩ := HINV
  by_cases hi : i < l.length
  · obtain ⟨x, hx⟩ := getElem?_some' (xs := l) (i := i) hi
    rw [getR_at hx] at HG
    have csk := samekey_con x.src x.key 0 s k v
    by_cases h1 : x.src = s ∧ x.key = k
    all_goals simp only [h1, if_true, if_false] at HG
    · rw [show (x.src == s && x.key == k) = true by simp [h1.1, h1.2]] at csk
      repeat' ((conv => whnf); first
        | with_reducible first | refine spB_t ?_
        | (with_reducible refine spB_dec ?_ ?_ <;> intro _ <;> (try (exfalso; first | contradiction | omega | (rename_i hz; refine hz ?_; simp; done) | (rename_i hz; simp at hz; done) | (simp only [LN] at *; omega))))
        | with_reducible first | refine Z.rowN_known hx ?_
        | ((with_reducible apply ixN_litp); (focus (exact rfl)); (focus ((try simp only [LN] at *) <;> omega)))
        | with_reducible first | refine Z.callZ_in tabOk 8 Try.f49 _ Try.func49 (by kernel_rfl) rfl rfl rfl ?_
        | ((first | (with_reducible refine Z.conZ_mz ?_ (csk) ?_)); (focus ((repeat' (first | exact trivial | exact rfl | apply And.intro)); done)))
        | ((with_reducible apply ex_and); exact rfl)
        | with_reducible first | refine Z.drawZ_rule tabOk mixOk ?_ | refine Z.apZ_mk (by kernel_rfl) ?_
        | ((with_reducible refine Z.ConZ.red ?_); (try subst hlb); (apply Z.conZ_all); (focus (repeat (first | exact Z.FK.nil | (apply Z.FK.keep; exact rfl)))); (focus rfl); (focus rfl); (focus (repeat (first | exact trivial | (refine ⟨(fun o ho => (by first | (cases ho; rfl) | (cases ho; exact Z.inL_map fun _ => rfl) | (cases ho; exact Z.inL_mapr fun _ => rfl) | exact Z.inL_gB ho fun _ => rfl)), ?_⟩)))))
        | ((refine ⟨rfl, ?_, rfl⟩); (focus (repeat (first | exact Z.DK.nil | apply Z.DK.cons))))
        | fail)
      all_goals (try (conv => whnf))
      all_goals try (show Nat.ble _ _ = true; rfl)
      all_goals try (exfalso; rename_i hz; cases hz; done)
      all_goals try (exfalso; (try simp only [LN] at *) <;> omega)
      all_goals first
        | (rw [HG]; ((first | (with_reducible apply Z.retF1)); (focus (exact rfl)); (repeat' (first | exact trivial | (with_reducible apply Z.frz_agg) | exact rfl | apply And.intro)); (all_goals (try exact (fun _ => none))); all_goals (first | (simp; done))))
        | fail
    · rw [show (x.src == s && x.key == k) = false by (cases hz : (x.src == s && x.key == k) with | false => rfl | true => exact absurd (by simpa using hz) h1)] at csk
      repeat' ((conv => whnf); first
        | with_reducible first | refine spB_no (by decide) ?_
        | (with_reducible refine spB_dec ?_ ?_ <;> intro _ <;> (try (exfalso; first | contradiction | omega | (rename_i hz; refine hz ?_; simp; done) | (rename_i hz; simp at hz; done) | (simp only [LN] at *; omega))))
        | with_reducible first | refine Z.rowN_known hx ?_
        | ((with_reducible apply ixN_litp); (focus (exact rfl)); (focus ((try simp only [LN] at *) <;> omega)))
        | with_reducible refine wr_i64 (by first | omega | (simp only [LN] at *; omega)) ?_
        | with_reducible first | refine Z.callZ_in tabOk 8 Try.f49 _ Try.func49 (by kernel_rfl) rfl rfl rfl ?_
        | ((first | (with_reducible refine Z.conZ_mz ?_ (csk) ?_)); (focus ((repeat' (first | exact trivial | exact rfl | apply And.intro)); done)))
        | ((with_reducible apply ex_and); exact rfl)
        | with_reducible first | refine Z.drawZ_rule tabOk mixOk ?_ | refine Z.apZ_mk (by kernel_rfl) ?_
        | ((with_reducible refine Z.ConZ.red ?_); (try subst hlb); (apply Z.conZ_all); (focus (repeat (first | exact Z.FK.nil | (apply Z.FK.keep; exact rfl)))); (focus rfl); (focus rfl); (focus (repeat (first | exact trivial | (refine ⟨(fun o ho => (by first | (cases ho; rfl) | (cases ho; exact Z.inL_map fun _ => rfl) | (cases ho; exact Z.inL_mapr fun _ => rfl) | exact Z.inL_gB ho fun _ => rfl)), ?_⟩)))))
        | ((refine ⟨rfl, ?_, rfl⟩); (focus (repeat (first | exact Z.DK.nil | apply Z.DK.cons))))
        | fail)
      all_goals (try (conv => whnf))
      all_goals try (show Nat.ble _ _ = true; rfl)
      all_goals try (exfalso; rename_i hz; cases hz; done)
      all_goals try (exfalso; (try simp only [LN] at *) <;> omega)
      all_goals first
        | ((refine Z.rndK ((i + 1)) (fun s => [0, 1, 2]) rfl rfl rfl rfl ?_ ?_ ?_ ?_); (focus (repeat' (first | exact trivial | exact rfl | apply And.intro))); (focus (repeat' (first | exact trivial | (intro b hb; cases hb; rfl) | apply And.intro))); (focus (exact ⟨by (try dsimp only); omega, HG⟩)); ((try dsimp only); omega))
        | fail
  have hil : i = l.length := by omega
  subst hil
  rw [List.drop_length] at HG
  have HG0 : getR l s k = (0, 0) := HG
  rw [HG0]
  repeat' ((conv => whnf); first
    | (with_reducible refine spB_dec ?_ ?_ <;> intro _ <;> (try (exfalso; first | contradiction | omega | (rename_i hz; refine hz ?_; simp; done) | (rename_i hz; simp at hz; done) | (simp only [LN] at *; omega))))
    | fail)
  all_goals (try (conv => whnf))
  all_goals try (show Nat.ble _ _ = true; rfl)
  all_goals try (exfalso; rename_i hz; cases hz; done)
  all_goals try (exfalso; (try simp only [LN] at *) <;> omega)
  all_goals first
    | ((first | (with_reducible apply Z.retF1)); (focus (exact rfl)); (repeat' (first | exact trivial | (with_reducible apply Z.frz_agg) | (with_reducible apply Z.fq_int) | exact rfl | apply And.intro)); (all_goals (try exact (fun _ => none))); all_goals (first | (simp; done)))
    | fail
end Go.Proofs.Ytehhmkdghgabaaa
namespace Go.Proofs.Ytehhmkdghgabaaa
open Go Go.RowKit Wx
set_option linter.unusedVariables false
set_option linter.unusedSimpArgs false
set_option maxHeartbeats 4000000
end Go.Proofs.Ytehhmkdghgabaaa
namespace Go.Proofs.Ytehhmkdghgabaaa
open Go Go.RowKit Wx
set_option linter.unusedVariables false
set_option linter.unusedSimpArgs false
set_option maxHeartbeats 4000000
theorem cK_one (x : Kc) : ∀ c ∈ cK x, c.single = true := fun c hc => by
  simp only [List.mem_cons, List.not_mem_nil, or_false] at hc
  rcases hc with rfl | rfl | rfl | rfl <;> rfl
theorem there_no {l : List Kc} {s k : Int} (h : thereR l s k = false) : ∀ x, l[posR l s k]? = some x → ¬ (x.src = s ∧ x.key = k) := fun x hx he => by
  unfold thereR at h
  rw [hx] at h
  simp [he.1, he.2] at h
theorem there_at {l : List Kc} {s k : Int} (h : thereR l s k = true) : ∃ x, l[posR l s k]? = some x ∧ x.src = s ∧ x.key = k := by
  unfold thereR at h
  cases hx : l[posR l s k]? with
  | none => rw [hx] at h; cases h
  | some x => rw [hx] at h; exact ⟨x, rfl, by simpa using h⟩
theorem put_same {l : List Kc} {s k : Int} (ht : tabR l = true) (hth : thereR l s k = false) : putR l s k (0, 0) = l := by
  rw [put_no ht (there_no hth)]; simp [ownK]
theorem put_del {l : List Kc} {s k : Int} (ht : tabR l = true) (hth : thereR l s k = true) : putR l s k (0, 0) = l.eraseIdx (posR l s k) := by
  obtain ⟨x, hx, he⟩ := there_at hth
  rw [put_at ht hx he, List.eraseIdx_eq_take_drop_succ]; simp [ownK]
theorem put_new {l : List Kc} {s k : Int} {c : Int × Int} (ht : tabR l = true) (hth : thereR l s k = false) (hc : 0 < c.1) : putR l s k c = l.take (posR l s k) ++ ⟨s, k, c.1, c.2⟩ :: l.drop (posR l s k) := by
  rw [put_no ht (there_no hth)]
  unfold ownK
  rw [if_neg (fun e => by rw [e] at hc; exact absurd hc (by decide))]; simp
theorem put_upd {l : List Kc} {s k : Int} {c : Int × Int} (ht : tabR l = true) (hth : thereR l s k = true) (hc : 0 < c.1) : putR l s k c = (l.eraseIdx (posR l s k)).take (posR l s k) ++ ⟨s, k, c.1, c.2⟩ :: (l.eraseIdx (posR l s k)).drop (posR l s k) := by
  obtain ⟨x, hx, he⟩ := there_at hth
  rw [put_at ht hx he]
  unfold ownK
  rw [if_neg (fun e => by rw [e] at hc; exact absurd hc (by decide))]
  have hl := (List.getElem?_eq_some_iff.1 hx).1
  generalize posR l s k = p at *
  rw [List.eraseIdx_eq_take_drop_succ, List.take_left' (by simp; omega), List.drop_left' (by simp; omega)]; simp
theorem clonek_x (x : Kc) (l : List Kc) (hl : l.length ≤ 1000) : Con Try.prog 67 [.one (.ro false 4 ((x :: l).map eK))] (fun rx rK rt => rx = .c (.osl 0 0 (x :: l).length none) ∧ rK = [(0, some ⟨(x :: l).map cK, 4, 74, false⟩)] ∧ rt = 1) := by
  refine con_of tabOk 8 Try.f67 _ Try.func67 (by kernel_rfl) rfl rfl rfl rfl (fun W => ?_)
  repeat' ((conv => whnf); first
    | with_reducible first | refine spB_no (by decide) ?_
    | ((with_reducible refine apdE_n ?_); (with_reducible refine apdN.mk ?_ ?_ ?_ ?_ ?_ ?_); (focus (simp; done)); (focus (exact one_map2 fun _ => rfl)); (focus ((try simp only [LN] at *) <;> omega)); (focus ((try simp only [LN] at *) <;> omega)); (focus ((try simp only [LN] at *) <;> omega))))
  all_goals (try (conv => whnf))
  refine ret1b 1 (.c (.osl 0 0 (x :: l).length none)) ((x :: l).map cK) 4 74 false _ rfl ?_ rfl ?_ (ren_map fun _ => rfl) rfl (own_map fun _ => rfl) ⟨rfl, rfl, rfl⟩
  · rw [show (x :: l).length = 0 + (List.map eK (x :: l)).length by simp]; rfl
  · rw [show List.map cK (x :: l) = List.map (List.map (RT.ce false)) (List.map eK (x :: l)) by rw [List.map_map]; rfl]; rfl
theorem clonek_con (l : List Kc) (hl : l.length ≤ 1000) (hne : l ≠ []) : Con Try.prog 67 [.one (.ro false 4 (l.map eK))] (fun rx rK rt => rx = .c (.osl 0 0 l.length none) ∧ rK = [(0, some ⟨l.map cK, 4, 74, false⟩)] ∧ rt = 1) := by
  cases l with
  | nil => exact absurd rfl hne
  | cons x l => exact clonek_x x l (by simp only [List.length_cons] at hl; omega)
theorem clonek_0   : Con Try.prog 67 [.one (.v (.slice none 0 0))] (fun rx rK rt => rx = .val (.slice none 0 0) ∧ rK = [] ∧ rt = 0) := by
  refine con_of tabOk 8 Try.f67 _ Try.func67 (by kernel_rfl) rfl rfl rfl rfl (fun W => ?_)
  repeat' ((conv => whnf); first
    | with_reducible first | refine spB_t ?_)
  all_goals (try (conv => whnf))
  refine ret1 [.one (.v (.slice none 0 0))] rfl [] (.val (.slice none 0 0)) [] rfl trivial List.nodup_nil rfl ?_ (fun p hp => nomatch hp) ⟨rfl, rfl, rfl⟩
  intro p b hp; cases hp
theorem clonek_1 (ad : Addr) (cap : Nat)  : Con Try.prog 67 [.one (.v (.slice (some ad) 0 cap))] (fun rx rK rt => rx = .c (.osl 0 0 0 (some 0)) ∧ rK = [(0, some ⟨[], 4, 74, false⟩)] ∧ rt = 1) := by
  refine con_of tabOk 8 Try.f67 _ Try.func67 (by kernel_rfl) rfl rfl rfl rfl (fun W => ?_)
  repeat' ((conv => whnf); first
    | with_reducible first | refine spB_no (by decide) ?_
    | ((with_reducible refine apdE_r ?_); (with_reducible refine aprN.mk ⟨_, rfl, ?_⟩ ?_ ?_ ?_ ?_); (focus ((try simp only [LN] at *) <;> omega)); (focus (first | rfl)); (focus (first | exact one_all (by rfl))); (focus ((try simp only [LN] at *) <;> omega))))
  all_goals (try (conv => whnf))
  refine ret1b 0 (.c (.osl 0 0 0 (some 0))) [] 4 74 false _ rfl ?_ rfl ?_ rfl rfl (fun r hr => nomatch hr) ⟨rfl, rfl, rfl⟩
  all_goals rfl
end Go.Proofs.Ytehhmkdghgabaaa
namespace Go.Proofs.Ytehhmkdghgabaaa
open Go Go.RowKit Wx
set_option linter.unusedVariables false
set_option linter.unusedSimpArgs false
set_option maxHeartbeats 4000000
namespace Ops
def modE (x n : Int) : Int := if n < 1 then 0 else if x.tmod n < 0 then IntKind.i64.wrap (x.tmod n + n) else x.tmod n
abbrev eI (z : Int) : List RT := [RT.v (.int .i64 z)]
abbrev cI (z : Int) : List Ce := [Ce.v (.int .i64 z)]
def stp (t a b : Int) (c : Int × Int) (v : Int) : (Int × Int) × List Int :=
  if t = 2 then (c, [IntKind.i64.wrap (IntKind.i64.wrap (v * a) + b)])
  else if t = 3 then (c, if modE v a = b then [v] else [])
  else if t = 4 then ((c.1 + 1, IntKind.i64.wrap (c.2 + v)), [IntKind.i64.wrap (c.2 + v)])
  else if t = 5 then (if c.1 + 1 < a then ((c.1 + 1, IntKind.i64.wrap (c.2 + v)), []) else ((0, 0), [IntKind.i64.wrap (c.2 + v)]))
  else (c, [v])
def fs (t a b : Int) (c : Int × Int) (l : List Int) : (Int × Int) × List Int := l.foldl (fun s v => ((stp t a b s.1 v).1, s.2 ++ (stp t a b s.1 v).2)) (c, [])
theorem fs_nil {t a b : Int} {c : Int × Int} : fs t a b c [] = (c, []) := rfl
theorem fs_snoc {t a b : Int} {c : Int × Int} {l : List Int} {v : Int} : fs t a b c (l ++ [v]) = ((stp t a b (fs t a b c l).1 v).1, (fs t a b c l).2 ++ (stp t a b (fs t a b c l).1 v).2) := by
  simp only [fs, List.foldl_append, List.foldl_cons, List.foldl_nil]
theorem fs_step {t a b : Int} {c : Int × Int} {l : List Int} {i : Nat} {v : Int} (h : l[i]? = some v) : fs t a b c (l.take (i + 1)) = ((stp t a b (fs t a b c (l.take i)).1 v).1, (fs t a b c (l.take i)).2 ++ (stp t a b (fs t a b c (l.take i)).1 v).2) := by
  have hlt := (List.getElem?_eq_some_iff.1 h).1
  have hv := (List.getElem?_eq_some_iff.1 h).2
  rw [show l.take (i + 1) = l.take i ++ [v] by rw [List.take_succ_eq_append_getElem hlt, hv], fs_snoc]
theorem fs_acc {t a b : Int} : ∀ (l : List Int) (c : Int × Int) (o : List Int), l.foldl (fun s v => ((stp t a b s.1 v).1, s.2 ++ (stp t a b s.1 v).2)) (c, o) = ((fs t a b c l).1, o ++ (fs t a b c l).2)
  | [], c, o => by simp [fs]
  | v :: l, c, o => by
    simp only [fs, List.foldl_cons, List.nil_append]
    rw [fs_acc l, fs_acc l _ (stp t a b c v).2]
    simp [List.append_assoc]
theorem fs_cons {t a b : Int} {c : Int × Int} {v : Int} {l : List Int} : fs t a b c (v :: l) = ((fs t a b (stp t a b c v).1 l).1, (stp t a b c v).2 ++ (fs t a b (stp t a b c v).1 l).2) := by
  have := fs_acc (t := t) (a := a) (b := b) l (stp t a b c v).1 (stp t a b c v).2
  simp only [fs, List.foldl_cons, List.nil_append]
  exact this
def fitP (t a : Int) (c : Int × Int) : Prop := if t = 4 ∨ t = 5 then (c.1 = 0 ∧ c.2 = 0) ∨ (0 < c.1 ∧ (t = 4 ∨ c.1 < a)) else c.1 = 0 ∧ c.2 = 0
instance (t a : Int) (c : Int × Int) : Decidable (fitP t a c) := by unfold fitP; infer_instance
def ris (lim : Int) : Int → List Int → Bool
  | _, [] => true
  | last, x :: r => decide (last < x ∧ x < lim) && ris lim x r
def tagP (t n a b : Int) : Prop := (t = 1 ∧ n = 0 ∧ (0 ≤ a ∧ a < 4) ∧ b = 0) ∨ (t = 2 ∧ n = 1) ∨ (t = 3 ∧ n = 1 ∧ 0 < a ∧ 0 ≤ b ∧ b < a) ∨ ((t = 4 ∨ t = 7) ∧ n = 1 ∧ a = 0 ∧ b = 0) ∨ (t = 5 ∧ n = 1 ∧ (1 ≤ a ∧ a ≤ 8) ∧ b = 0) ∨ (t = 6 ∧ 2 ≤ n ∧ a = 0 ∧ b = 0)
instance (t n a b : Int) : Decidable (tagP t n a b) := by unfold tagP; infer_instance
def okO (t w : Int) (ins : List Int) (a b : Int) : Bool := decide (1 ≤ w ∧ w ≤ 3) && ris 8 (-1) ins && decide (tagP t ins.length a b)
theorem fit_stp {t a b : Int} {c : Int × Int} {v : Int} {n : Int} (ht : tagP t n a b) (h : fitP t a c) : fitP t a (stp t a b c v).1 := by
  unfold tagP at ht
  unfold fitP at h ⊢
  unfold stp
  by_cases h2 : t = 2
  · subst h2; simpa using h
  by_cases h3 : t = 3
  · subst h3; simpa using h
  by_cases h4 : t = 4
  · subst h4; simp at h ⊢; omega
  by_cases h5 : t = 5
  · subst h5
    simp only [h2, h3, h4, if_false, if_true, or_true] at h ⊢
    split
    · simp only; right; omega
    · simp
  · simp only [h2, h3, h4, h5, if_false, or_self] at h ⊢; exact h
theorem fit_low {t a b n : Int} (ht : tagP t n a b) {c : Int × Int} (h : fitP t a c) : 0 ≤ c.1 ∧ (t ≠ 4 → c.1 < 9) := by
  unfold tagP at ht; unfold fitP at h
  split at h
  · omega
  · omega
theorem out_len {t a b : Int} {c : Int × Int} {v : Int} : (stp t a b c v).2.length ≤ 1 := by
  unfold stp; repeat' split
  all_goals simp
theorem fs_len {t a b : Int} : ∀ (l : List Int) {c : Int × Int}, (fs t a b c l).2.length ≤ l.length
  | [], _ => by simp [fs]
  | v :: l, c => by
    rw [fs_cons]; simp only [List.length_append, List.length_cons]
    have h1 := out_len (t := t) (a := a) (b := b) (c := c) (v := v)
    have h2 := fs_len (t := t) (a := a) (b := b) l (c := (stp t a b c v).1)
    omega
end Ops
end Go.Proofs.Ytehhmkdghgabaaa
namespace Go.Proofs.Ytehhmkdghgabaaa
open Go Go.RowKit Wx
set_option linter.unusedVariables false
set_option linter.unusedSimpArgs false
set_option maxHeartbeats 4000000
namespace Ops
theorem mod_con (x n : Int)  : Con Try.prog 143 [.one (.v (.int .i64 x)), .one (.v (.int .i64 n))] (fun rx rK rt => rx = .val (.int .i64 (modE x n)) ∧ rK = [] ∧ rt = 0) := by
  refine con_of tabOk 17 Try.f143 _ Try.func143 (by kernel_rfl) rfl rfl rfl rfl (fun W => ?_)
  repeat' ((conv => whnf); first
    | (with_reducible refine spB_dec ?_ ?_ <;> intro _ <;> (try (exfalso; first | contradiction | omega | (rename_i hz; with_reducible exact absurd rfl hz))))
    | with_reducible first | refine wr_mk _ rfl ?_
    | with_reducible first | refine vN_mk ?_
    | with_reducible refine nzN_mk (by omega) ?_)
  all_goals (try (conv => whnf))
  all_goals refine ret0 _ rfl _ rfl (fun _ => rfl) rfl ⟨?_, rfl, rfl⟩
  all_goals (refine rv_int ?_; unfold modE; first | rw [if_pos (by omega)] | rw [if_neg (by omega), if_pos (by assumption)] | rw [if_neg (by omega), if_neg (by assumption)])
end Ops
end Go.Proofs.Ytehhmkdghgabaaa
namespace Go.Proofs.Ytehhmkdghgabaaa
open Go Go.RowKit Wx
set_option linter.unusedVariables false
set_option linter.unusedSimpArgs false
set_option maxHeartbeats 4000000
namespace Ops
theorem stp5y {a b c s x : Int} (h : c + 1 < a) : stp 5 a b (c, s) x = ((c + 1, IntKind.i64.wrap (s + x)), []) := by simp [stp, h]
theorem stp5n {a b c s x : Int} (h : ¬ c + 1 < a) : stp 5 a b (c, s) x = ((0, 0), [IntKind.i64.wrap (s + x)]) := by simp [stp, h]
theorem stp3y {a b c s x : Int} (h : modE x a = b) : stp 3 a b (c, s) x = ((c, s), [x]) := by simp [stp, h]
theorem stp3n {a b c s x : Int} (h : ¬ modE x a = b) : stp 3 a b (c, s) x = ((c, s), []) := by simp [stp, h]
theorem no_step {t a b c1 s1 : Int} {c : Int × Int} {l acc : List Int} {i : Nat} (hno : ∀ j, j < i → (fs t a b c (l.take j)).1.1 ≠ 9223372036854775807) (hq : ((c1, s1), acc) = fs t a b c (l.take i)) (hc : c1 ≠ 9223372036854775807) : ∀ j, j < i + 1 → (fs t a b c (l.take j)).1.1 ≠ 9223372036854775807 := fun j hj => by
  rcases Nat.lt_or_ge j i with h | h
  · exact hno j h
  · have : j = i := by omega
    subst this; rw [← hq]; exact hc
theorem run1_con (w : Int) (ins : List Int) (a b c s : Int) (l : List Int) (hc : 0 ≤ c ∧ c ≤ 9223372036854775807) (hl : l.length ≤ 40) : Con Try.prog 89 [.agg [.v (.int .i64 1), .v (.int .i64 w), .ro false 1 (ins.map eI), .v (.int .i64 a), .v (.int .i64 b)], .agg [.v (.int .i64 c), .v (.int .i64 s)], .one (.ro false 1 (l.map eI))] (fun rx rK rt => ((∃ j, j < l.length ∧ (fs 1 a b (c, s) (l.take j)).1.1 = 9223372036854775807) ∧ rx = .tup [.agg [.v (.int .i64 0), .v (.int .i64 0)], .one (.v (.slice none 0 0)), .one (.v (.int .i64 6))] ∧ rK = [] ∧ rt = 0) ∨ ((∀ j, j < l.length → (fs 1 a b (c, s) (l.take j)).1.1 ≠ 9223372036854775807) ∧ rx = .tup [.agg [.v (.int .i64 (fs 1 a b (c, s) (l)).1.1), .v (.int .i64 (fs 1 a b (c, s) (l)).1.2)], .one (.ro true 1 ((fs 1 a b (c, s) (l)).2.map eI)), .one (.v (.int .i64 0))] ∧ rK = [] ∧ rt = 0)) := by
  refine Z.con_ofZ tabOk 32 Try.f89 _ Try.func89 (by kernel_rfl) rfl rfl rfl rfl ?_
  repeat' ((conv => whnf); first
    | ((with_reducible apply ixN_lit); (focus (exact rfl)); (focus (exact rfl)))
    | (with_reducible refine Z.callZ_in tabOk 11 Try.f114 _ Try.func114 (by kernel_rfl) rfl rfl rfl ?_)
    | (with_reducible refine Z.callZ_in tabOk 18 Try.f131 _ Try.func131 (by kernel_rfl) rfl rfl rfl ?_)
    | (with_reducible refine Z.callZ_in tabOk 32 Try.f132 _ Try.func132 (by kernel_rfl) rfl rfl rfl ?_)
    | ((with_reducible apply ex_and); exact rfl)
    | ((with_reducible refine Z.RangeZ.red ?_); (refine Z.range_rule [(2, _), (4, _), (6, _), (9, _), (10, _)] rfl ⟨rfl, rfl, rfl, rfl, rfl, trivial⟩ rfl rfl ?_); intro lb hlb))
  all_goals (try (conv => whnf))
  refine Z.loopZ_rule tabOk (fun q : Nat × Int × Int × List Int => (⟨[(12, .val (.int .i64 (q.1 : Int))), (11, .val (.int .i64 ((l.map eI).length : Nat))), (10, .c (.ro false 1 (l.map eI))), (5, .c (.own 13 0 0)), (3, .c (.own 11 0 0)), (0, .c (.yl 12))], [(0, some (.b ⟨[[.v (.int .i64 1), .v (.int .i64 w), .ro false 1 (ins.map eI), .v (.int .i64 a), .v (.int .i64 b)]], 5, 25, true⟩)), (1, some (.b ⟨[[.v (.int .i64 q.2.1), .v (.int .i64 q.2.2.1)]], 2, 41, true⟩)), (2, some (.b ⟨[[.v (.int .i64 0), .v (.int .i64 0)]], 2, 41, true⟩)), (3, some (.b ⟨[[.gsl 14 (q.2.2.2.map cI)]], 1, 77, true⟩)), (4, some (.b ⟨[[.v (.int .i64 (q.1 : Int))]], 1, 3, true⟩)), (5, some (.b ⟨[[.v (.int .i64 1), .v (.int .i64 w), .ro false 1 (ins.map eI), .v (.int .i64 a), .v (.int .i64 b)]], 5, 25, true⟩)), (6, some (.b ⟨[[.v (.int .i64 c), .v (.int .i64 s)]], 2, 41, true⟩)), (7, some (.b ⟨[[.ro false 1 (l.map eI)]], 1, 77, true⟩)), (8, some (.b ⟨[[.v (.int .i64 1), .v (.int .i64 w), .ro false 1 (ins.map eI), .v (.int .i64 a), .v (.int .i64 b)]], 5, 25, true⟩)), (9, some (.b ⟨[[.fn 140 []]], 1, 166, true⟩)), (10, none), (11, some (.b ⟨[[.fn 139 []]], 1, 167, true⟩)), (12, some (.l lb)), (13, some (.b ⟨[[.v (.int .i64 q.2.1), .v (.int .i64 q.2.2.1)]], 2, 41, true⟩)), (14, (gB 1 2 (q.2.2.2.map cI)).map Z.Ob.b)], 15⟩ : Z.S)) (fun q => q.1 ≤ l.length ∧ ((q.2.1, q.2.2.1), q.2.2.2) = fs 1 a b (c, s) (l.take q.1) ∧ (0 ≤ q.2.1 ∧ q.2.1 ≤ 9223372036854775807) ∧ ∀ j, j < q.1 → (fs 1 a b (c, s) (l.take j)).1.1 ≠ 9223372036854775807) (fun q => l.length - q.1) (0, c, s, []) ⟨Nat.zero_le _, rfl, hc, fun j hj => absurd hj (Nat.not_lt_zero _)⟩ (Z.Stp.trans (Z.Stp.cells 3 _ [[.gsl 77 []]] rfl (Nat.le_of_ble_eq_true rfl) ⟨⟨Z.Imp.nilg 77, trivial⟩, trivial⟩) (Z.Wk.stp (l := [0, 1, 2, 3, 4, 5, 6, 7, 8, 9, 10, 11, 12, 13, 77]) ⟨rfl, by decide, rfl, (Nat.le_of_ble_eq_true rfl), ⟨rfl, rfl, rfl, rfl, rfl, rfl, trivial⟩, ⟨fun b hb => (by cases hb; rfl), fun b hb => (by cases hb; rfl), fun b hb => (by cases hb; rfl), fun b hb => (by cases hb; rfl), fun b hb => (by cases hb; rfl), fun b hb => (by cases hb; rfl), fun b hb => (by cases hb; rfl), fun b hb => (by cases hb; rfl), fun b hb => (by cases hb; rfl), fun b hb => (by cases hb; rfl), fun b hb => (by cases hb), fun b hb => (by cases hb; rfl), fun b hb => (by cases hb; (try subst hlb); rfl), fun b hb => (by cases hb; rfl), fun b hb => (by cases hb), trivial⟩⟩)) ?_
  rintro ⟨i, c1, s1, acc⟩ ⟨hi, hq, hb1, hno⟩
  dsimp only at hi hq hb1 hno ⊢
  have hal : acc.length ≤ 40 := by
    have := fs_len (t := 1) (a := a) (b := b) (l.take i) (c := (c, s))
    rw [← hq, List.length_take] at this; dsimp only at this; omega
  repeat' ((conv => whnf); first
    | ((with_reducible apply spB_cong); (focus (simp only [beq_self_eq_true, bne_self_eq_false, Bool.true_bne, Bool.false_bne, Bool.bne_true, Bool.bne_false, Bool.true_beq, Bool.false_beq, Bool.not_true, Bool.not_false, Bool.not_not, Int.reduceBEq, Int.reduceBNe, Int.reduceLE, Int.reduceLT, Int.reduceEq, decide_true, decide_false]; rfl)))
    | with_reducible first | refine spB_no (by decide) ?_
    | (with_reducible refine spB_dec ?_ ?_ <;> intro _ <;> (try (exfalso; first | contradiction | omega | (rename_i hz; with_reducible exact absurd rfl hz))))
    | (with_reducible refine spB_beq ?_ ?_ <;> intro _ <;> (try (exfalso; first | contradiction | omega | (rename_i hz; with_reducible exact absurd rfl hz))))
    | ((with_reducible refine posE_pos ?_ ?_); (focus ((try simp only [LN] at *) <;> omega)))
    | ((with_reducible apply ixN_litp); (focus (exact rfl)); (focus ((try simp only [LN] at *) <;> omega)))
    | ((with_reducible refine apdN.mk ?_ ?_ ?_ ?_ ?_ ?_); (focus (first | rfl)); (focus (first | exact one_all (by rfl))); (focus ((try simp only [LN] at *) <;> omega)); (focus ((try simp only [LN] at *) <;> omega)); (focus ((try simp only [LN] at *) <;> omega)))
    | with_reducible refine wr_i64 (by first | omega | (simp only [LN] at *; omega)) ?_
    | ((with_reducible refine rowN_map ?_ ?_); (focus ((try simp only [LN] at *) <;> omega)); intro x hx)
    | (with_reducible refine Z.callZ_in tabOk 9 Try.f139 _ Try.func139 (by kernel_rfl) rfl rfl rfl ?_)
    | ((with_reducible refine eqN_mk2 ?_ ?_); (focus (exact Z.kb_some rfl)))
    | ((with_reducible apply ex_and); exact rfl)
    | ((with_reducible refine Z.rngN.mk ?_); (try subst hlb))
    | ((with_reducible refine Z.CallZ.yl ?_); subst hlb; refine Z.yield_rule tabOk _ _ rfl rfl rfl rfl ?_)
    | with_reducible first | refine Z.drawZ_rule tabOk mixOk ?_ | refine Z.apZ_mk (by kernel_rfl) ?_)
  all_goals (try (conv => whnf))
  all_goals first
    | ((refine Z.rndK ((i + 1, c1, s1, acc ++ [x])) (fun s => [0, 1, 2, 3, 4, 5, 6, 7, 8, 9, 10, 11, 12, 13, s.idIn 3 0]) rfl rfl rfl rfl ?_ ?_ ?_ ?_); (focus (repeat' (first | exact trivial | exact rfl | apply And.intro))); (focus (repeat' (first | exact trivial | (intro b hb; cases hb; rfl) | (intro b hb; cases hb; rw [List.map_append]; rfl) | (intro b hb; cases hb; done) | exact Z.gB_sub' rfl (by first | rfl | (rw [List.map_append]; rfl) | simp only [List.map_append, List.map_cons, List.map_nil]) (ren_map fun _ => rfl) | apply And.intro))); (focus (refine ⟨by (try simp only [LN] at *); (try dsimp only); omega, ?_, ?_, ?_⟩; (focus (dsimp only; rw [fs_step hx, ← hq]; simp [stp])); (focus (dsimp only; omega)); exact no_step hno hq (by omega))); (try simp only [LN] at *); (try dsimp only); omega)
    | (refine ret0 _ rfl _ rfl (fun _ => rfl) rfl (.inl ⟨⟨i, by (try simp only [LN] at *) <;> omega, by rw [← hq]; (first | assumption)⟩, rfl, rfl, rfl⟩))
    | skip
  have hend : i = l.length := by (try simp only [LN] at *) <;> omega
  subst hend
  rw [List.take_length] at hq
  refine ret_stp (Stp.fzg 7 14 (acc.map cI) rfl 1 2 (by show Z.isB ((gB _ _ _).map Z.Ob.b) = _; exact Z.isB_map _) (acc.map eI) (by simp only [List.map_map]; rfl) (Nat.zero_le _)) ?_
  refine ret0 _ rfl _ rfl (fun _ => rfl) rfl (.inr ⟨hno, ?_, rfl, rfl⟩)
  rw [← hq]; rfl
theorem run2_con (w : Int) (ins : List Int) (a b c s : Int) (l : List Int) (hc : 0 ≤ c ∧ c ≤ 9223372036854775807) (hl : l.length ≤ 40) : Con Try.prog 89 [.agg [.v (.int .i64 2), .v (.int .i64 w), .ro false 1 (ins.map eI), .v (.int .i64 a), .v (.int .i64 b)], .agg [.v (.int .i64 c), .v (.int .i64 s)], .one (.ro false 1 (l.map eI))] (fun rx rK rt => ((∃ j, j < l.length ∧ (fs 2 a b (c, s) (l.take j)).1.1 = 9223372036854775807) ∧ rx = .tup [.agg [.v (.int .i64 0), .v (.int .i64 0)], .one (.v (.slice none 0 0)), .one (.v (.int .i64 6))] ∧ rK = [] ∧ rt = 0) ∨ ((∀ j, j < l.length → (fs 2 a b (c, s) (l.take j)).1.1 ≠ 9223372036854775807) ∧ rx = .tup [.agg [.v (.int .i64 (fs 2 a b (c, s) (l)).1.1), .v (.int .i64 (fs 2 a b (c, s) (l)).1.2)], .one (.ro true 1 ((fs 2 a b (c, s) (l)).2.map eI)), .one (.v (.int .i64 0))] ∧ rK = [] ∧ rt = 0)) := by
  refine Z.con_ofZ tabOk 32 Try.f89 _ Try.func89 (by kernel_rfl) rfl rfl rfl rfl ?_
  repeat' ((conv => whnf); first
    | ((with_reducible apply ixN_lit); (focus (exact rfl)); (focus (exact rfl)))
    | (with_reducible refine Z.callZ_in tabOk 11 Try.f114 _ Try.func114 (by kernel_rfl) rfl rfl rfl ?_)
    | (with_reducible refine Z.callZ_in tabOk 18 Try.f131 _ Try.func131 (by kernel_rfl) rfl rfl rfl ?_)
    | (with_reducible refine Z.callZ_in tabOk 32 Try.f132 _ Try.func132 (by kernel_rfl) rfl rfl rfl ?_)
    | ((with_reducible apply ex_and); exact rfl)
    | ((with_reducible refine Z.RangeZ.red ?_); (refine Z.range_rule [(2, _), (4, _), (6, _), (9, _), (10, _)] rfl ⟨rfl, rfl, rfl, rfl, rfl, trivial⟩ rfl rfl ?_); intro lb hlb))
  all_goals (try (conv => whnf))
  refine Z.loopZ_rule tabOk (fun q : Nat × Int × Int × List Int => (⟨[(12, .val (.int .i64 (q.1 : Int))), (11, .val (.int .i64 ((l.map eI).length : Nat))), (10, .c (.ro false 1 (l.map eI))), (5, .c (.own 13 0 0)), (3, .c (.own 11 0 0)), (0, .c (.yl 12))], [(0, some (.b ⟨[[.v (.int .i64 2), .v (.int .i64 w), .ro false 1 (ins.map eI), .v (.int .i64 a), .v (.int .i64 b)]], 5, 25, true⟩)), (1, some (.b ⟨[[.v (.int .i64 q.2.1), .v (.int .i64 q.2.2.1)]], 2, 41, true⟩)), (2, some (.b ⟨[[.v (.int .i64 0), .v (.int .i64 0)]], 2, 41, true⟩)), (3, some (.b ⟨[[.gsl 14 (q.2.2.2.map cI)]], 1, 77, true⟩)), (4, some (.b ⟨[[.v (.int .i64 (q.1 : Int))]], 1, 3, true⟩)), (5, some (.b ⟨[[.v (.int .i64 2), .v (.int .i64 w), .ro false 1 (ins.map eI), .v (.int .i64 a), .v (.int .i64 b)]], 5, 25, true⟩)), (6, some (.b ⟨[[.v (.int .i64 c), .v (.int .i64 s)]], 2, 41, true⟩)), (7, some (.b ⟨[[.ro false 1 (l.map eI)]], 1, 77, true⟩)), (8, some (.b ⟨[[.v (.int .i64 2), .v (.int .i64 w), .ro false 1 (ins.map eI), .v (.int .i64 a), .v (.int .i64 b)]], 5, 25, true⟩)), (9, some (.b ⟨[[.fn 140 []]], 1, 166, true⟩)), (10, none), (11, some (.b ⟨[[.fn 141 [.own 8 0 0]]], 1, 167, true⟩)), (12, some (.l lb)), (13, some (.b ⟨[[.v (.int .i64 q.2.1), .v (.int .i64 q.2.2.1)]], 2, 41, true⟩)), (14, (gB 1 2 (q.2.2.2.map cI)).map Z.Ob.b)], 15⟩ : Z.S)) (fun q => q.1 ≤ l.length ∧ ((q.2.1, q.2.2.1), q.2.2.2) = fs 2 a b (c, s) (l.take q.1) ∧ (0 ≤ q.2.1 ∧ q.2.1 ≤ 9223372036854775807) ∧ ∀ j, j < q.1 → (fs 2 a b (c, s) (l.take j)).1.1 ≠ 9223372036854775807) (fun q => l.length - q.1) (0, c, s, []) ⟨Nat.zero_le _, rfl, hc, fun j hj => absurd hj (Nat.not_lt_zero _)⟩ (Z.Stp.trans (Z.Stp.cells 3 _ [[.gsl 77 []]] rfl (Nat.le_of_ble_eq_true rfl) ⟨⟨Z.Imp.nilg 77, trivial⟩, trivial⟩) (Z.Wk.stp (l := [0, 1, 2, 3, 4, 5, 6, 7, 8, 9, 10, 11, 12, 13, 77]) ⟨rfl, by decide, rfl, (Nat.le_of_ble_eq_true rfl), ⟨rfl, rfl, rfl, rfl, rfl, rfl, trivial⟩, ⟨fun b hb => (by cases hb; rfl), fun b hb => (by cases hb; rfl), fun b hb => (by cases hb; rfl), fun b hb => (by cases hb; rfl), fun b hb => (by cases hb; rfl), fun b hb => (by cases hb; rfl), fun b hb => (by cases hb; rfl), fun b hb => (by cases hb; rfl), fun b hb => (by cases hb; rfl), fun b hb => (by cases hb; rfl), fun b hb => (by cases hb), fun b hb => (by cases hb; rfl), fun b hb => (by cases hb; (try subst hlb); rfl), fun b hb => (by cases hb; rfl), fun b hb => (by cases hb), trivial⟩⟩)) ?_
  rintro ⟨i, c1, s1, acc⟩ ⟨hi, hq, hb1, hno⟩
  dsimp only at hi hq hb1 hno ⊢
  have hal : acc.length ≤ 40 := by
    have := fs_len (t := 2) (a := a) (b := b) (l.take i) (c := (c, s))
    rw [← hq, List.length_take] at this; dsimp only at this; omega
  repeat' ((conv => whnf); first
    | ((with_reducible apply spB_cong); (focus (simp only [beq_self_eq_true, bne_self_eq_false, Bool.true_bne, Bool.false_bne, Bool.bne_true, Bool.bne_false, Bool.true_beq, Bool.false_beq, Bool.not_true, Bool.not_false, Bool.not_not, Int.reduceBEq, Int.reduceBNe, Int.reduceLE, Int.reduceLT, Int.reduceEq, decide_true, decide_false]; rfl)))
    | with_reducible first | refine spB_no (by decide) ?_
    | (with_reducible refine spB_dec ?_ ?_ <;> intro _ <;> (try (exfalso; first | contradiction | omega | (rename_i hz; with_reducible exact absurd rfl hz))))
    | (with_reducible refine spB_beq ?_ ?_ <;> intro _ <;> (try (exfalso; first | contradiction | omega | (rename_i hz; with_reducible exact absurd rfl hz))))
    | ((with_reducible refine posE_pos ?_ ?_); (focus ((try simp only [LN] at *) <;> omega)))
    | ((with_reducible apply ixN_litp); (focus (exact rfl)); (focus ((try simp only [LN] at *) <;> omega)))
    | ((with_reducible refine apdN.mk ?_ ?_ ?_ ?_ ?_ ?_); (focus (first | rfl)); (focus (first | exact one_all (by rfl))); (focus ((try simp only [LN] at *) <;> omega)); (focus ((try simp only [LN] at *) <;> omega)); (focus ((try simp only [LN] at *) <;> omega)))
    | with_reducible refine wr_i64 (by first | omega | (simp only [LN] at *; omega)) ?_
    | with_reducible first | refine wr_mk _ rfl ?_
    | ((with_reducible refine rowN_map ?_ ?_); (focus ((try simp only [LN] at *) <;> omega)); intro x hx)
    | (with_reducible refine Z.callZ_in tabOk 16 Try.f141 _ Try.func141 (by kernel_rfl) rfl rfl rfl ?_)
    | ((with_reducible refine eqN_mk2 ?_ ?_); (focus (exact Z.kb_some rfl)))
    | ((with_reducible apply ex_and); exact rfl)
    | ((with_reducible refine Z.rngN.mk ?_); (try subst hlb))
    | ((with_reducible refine Z.CallZ.yl ?_); subst hlb; refine Z.yield_rule tabOk _ _ rfl rfl rfl rfl ?_)
    | with_reducible first | refine Z.drawZ_rule tabOk mixOk ?_ | refine Z.apZ_mk (by kernel_rfl) ?_)
  all_goals (try (conv => whnf))
  all_goals first
    | ((refine Z.rndK ((i + 1, c1, s1, acc ++ [IntKind.i64.wrap (IntKind.i64.wrap (x * a) + b)])) (fun s => [0, 1, 2, 3, 4, 5, 6, 7, 8, 9, 10, 11, 12, 13, s.idIn 3 0]) rfl rfl rfl rfl ?_ ?_ ?_ ?_); (focus (repeat' (first | exact trivial | exact rfl | apply And.intro))); (focus (repeat' (first | exact trivial | (intro b hb; cases hb; rfl) | (intro b hb; cases hb; rw [List.map_append]; rfl) | (intro b hb; cases hb; done) | exact Z.gB_sub' rfl (by first | rfl | (rw [List.map_append]; rfl) | simp only [List.map_append, List.map_cons, List.map_nil]) (ren_map fun _ => rfl) | apply And.intro))); (focus (refine ⟨by (try simp only [LN] at *); (try dsimp only); omega, ?_, ?_, ?_⟩; (focus (dsimp only; rw [fs_step hx, ← hq]; simp [stp])); (focus (dsimp only; omega)); exact no_step hno hq (by omega))); (try simp only [LN] at *); (try dsimp only); omega)
    | (refine ret0 _ rfl _ rfl (fun _ => rfl) rfl (.inl ⟨⟨i, by (try simp only [LN] at *) <;> omega, by rw [← hq]; (first | assumption)⟩, rfl, rfl, rfl⟩))
    | skip
  have hend : i = l.length := by (try simp only [LN] at *) <;> omega
  subst hend
  rw [List.take_length] at hq
  refine ret_stp (Stp.fzg 7 14 (acc.map cI) rfl 1 2 (by show Z.isB ((gB _ _ _).map Z.Ob.b) = _; exact Z.isB_map _) (acc.map eI) (by simp only [List.map_map]; rfl) (Nat.zero_le _)) ?_
  refine ret0 _ rfl _ rfl (fun _ => rfl) rfl (.inr ⟨hno, ?_, rfl, rfl⟩)
  rw [← hq]; rfl
theorem run3_con (w : Int) (ins : List Int) (a b c s : Int) (l : List Int) (hc : 0 ≤ c ∧ c ≤ 9223372036854775807) (hl : l.length ≤ 40) : Con Try.prog 89 [.agg [.v (.int .i64 3), .v (.int .i64 w), .ro false 1 (ins.map eI), .v (.int .i64 a), .v (.int .i64 b)], .agg [.v (.int .i64 c), .v (.int .i64 s)], .one (.ro false 1 (l.map eI))] (fun rx rK rt => ((∃ j, j < l.length ∧ (fs 3 a b (c, s) (l.take j)).1.1 = 9223372036854775807) ∧ rx = .tup [.agg [.v (.int .i64 0), .v (.int .i64 0)], .one (.v (.slice none 0 0)), .one (.v (.int .i64 6))] ∧ rK = [] ∧ rt = 0) ∨ ((∀ j, j < l.length → (fs 3 a b (c, s) (l.take j)).1.1 ≠ 9223372036854775807) ∧ rx = .tup [.agg [.v (.int .i64 (fs 3 a b (c, s) (l)).1.1), .v (.int .i64 (fs 3 a b (c, s) (l)).1.2)], .one (.ro true 1 ((fs 3 a b (c, s) (l)).2.map eI)), .one (.v (.int .i64 0))] ∧ rK = [] ∧ rt = 0)) := by
  refine Z.con_ofZ tabOk 32 Try.f89 _ Try.func89 (by kernel_rfl) rfl rfl rfl rfl ?_
  repeat' ((conv => whnf); first
    | ((with_reducible apply ixN_lit); (focus (exact rfl)); (focus (exact rfl)))
    | (with_reducible refine Z.callZ_in tabOk 11 Try.f114 _ Try.func114 (by kernel_rfl) rfl rfl rfl ?_)
    | (with_reducible refine Z.callZ_in tabOk 18 Try.f131 _ Try.func131 (by kernel_rfl) rfl rfl rfl ?_)
    | (with_reducible refine Z.callZ_in tabOk 32 Try.f132 _ Try.func132 (by kernel_rfl) rfl rfl rfl ?_)
    | ((with_reducible apply ex_and); exact rfl)
    | ((with_reducible refine Z.RangeZ.red ?_); (refine Z.range_rule [(2, _), (4, _), (6, _), (9, _), (10, _)] rfl ⟨rfl, rfl, rfl, rfl, rfl, trivial⟩ rfl rfl ?_); intro lb hlb))
  all_goals (try (conv => whnf))
  refine Z.loopZ_rule tabOk (fun q : Nat × Int × Int × List Int => (⟨[(12, .val (.int .i64 (q.1 : Int))), (11, .val (.int .i64 ((l.map eI).length : Nat))), (10, .c (.ro false 1 (l.map eI))), (5, .c (.own 13 0 0)), (3, .c (.own 11 0 0)), (0, .c (.yl 12))], [(0, some (.b ⟨[[.v (.int .i64 3), .v (.int .i64 w), .ro false 1 (ins.map eI), .v (.int .i64 a), .v (.int .i64 b)]], 5, 25, true⟩)), (1, some (.b ⟨[[.v (.int .i64 q.2.1), .v (.int .i64 q.2.2.1)]], 2, 41, true⟩)), (2, some (.b ⟨[[.v (.int .i64 0), .v (.int .i64 0)]], 2, 41, true⟩)), (3, some (.b ⟨[[.gsl 14 (q.2.2.2.map cI)]], 1, 77, true⟩)), (4, some (.b ⟨[[.v (.int .i64 (q.1 : Int))]], 1, 3, true⟩)), (5, some (.b ⟨[[.v (.int .i64 3), .v (.int .i64 w), .ro false 1 (ins.map eI), .v (.int .i64 a), .v (.int .i64 b)]], 5, 25, true⟩)), (6, some (.b ⟨[[.v (.int .i64 c), .v (.int .i64 s)]], 2, 41, true⟩)), (7, some (.b ⟨[[.ro false 1 (l.map eI)]], 1, 77, true⟩)), (8, some (.b ⟨[[.v (.int .i64 3), .v (.int .i64 w), .ro false 1 (ins.map eI), .v (.int .i64 a), .v (.int .i64 b)]], 5, 25, true⟩)), (9, some (.b ⟨[[.fn 140 []]], 1, 166, true⟩)), (10, none), (11, some (.b ⟨[[.fn 142 [.own 8 0 0]]], 1, 167, true⟩)), (12, some (.l lb)), (13, some (.b ⟨[[.v (.int .i64 q.2.1), .v (.int .i64 q.2.2.1)]], 2, 41, true⟩)), (14, (gB 1 2 (q.2.2.2.map cI)).map Z.Ob.b)], 15⟩ : Z.S)) (fun q => q.1 ≤ l.length ∧ ((q.2.1, q.2.2.1), q.2.2.2) = fs 3 a b (c, s) (l.take q.1) ∧ (0 ≤ q.2.1 ∧ q.2.1 ≤ 9223372036854775807) ∧ ∀ j, j < q.1 → (fs 3 a b (c, s) (l.take j)).1.1 ≠ 9223372036854775807) (fun q => l.length - q.1) (0, c, s, []) ⟨Nat.zero_le _, rfl, hc, fun j hj => absurd hj (Nat.not_lt_zero _)⟩ (Z.Stp.trans (Z.Stp.cells 3 _ [[.gsl 77 []]] rfl (Nat.le_of_ble_eq_true rfl) ⟨⟨Z.Imp.nilg 77, trivial⟩, trivial⟩) (Z.Wk.stp (l := [0, 1, 2, 3, 4, 5, 6, 7, 8, 9, 10, 11, 12, 13, 77]) ⟨rfl, by decide, rfl, (Nat.le_of_ble_eq_true rfl), ⟨rfl, rfl, rfl, rfl, rfl, rfl, trivial⟩, ⟨fun b hb => (by cases hb; rfl), fun b hb => (by cases hb; rfl), fun b hb => (by cases hb; rfl), fun b hb => (by cases hb; rfl), fun b hb => (by cases hb; rfl), fun b hb => (by cases hb; rfl), fun b hb => (by cases hb; rfl), fun b hb => (by cases hb; rfl), fun b hb => (by cases hb; rfl), fun b hb => (by cases hb; rfl), fun b hb => (by cases hb), fun b hb => (by cases hb; rfl), fun b hb => (by cases hb; (try subst hlb); rfl), fun b hb => (by cases hb; rfl), fun b hb => (by cases hb), trivial⟩⟩)) ?_
  rintro ⟨i, c1, s1, acc⟩ ⟨hi, hq, hb1, hno⟩
  dsimp only at hi hq hb1 hno ⊢
  have hal : acc.length ≤ 40 := by
    have := fs_len (t := 3) (a := a) (b := b) (l.take i) (c := (c, s))
    rw [← hq, List.length_take] at this; dsimp only at this; omega
  repeat' ((conv => whnf); first
    | ((with_reducible apply spB_cong); (focus (simp only [beq_self_eq_true, bne_self_eq_false, Bool.true_bne, Bool.false_bne, Bool.bne_true, Bool.bne_false, Bool.true_beq, Bool.false_beq, Bool.not_true, Bool.not_false, Bool.not_not, Int.reduceBEq, Int.reduceBNe, Int.reduceLE, Int.reduceLT, Int.reduceEq, decide_true, decide_false]; rfl)))
    | with_reducible first | refine spB_no (by decide) ?_
    | (with_reducible refine spB_dec ?_ ?_ <;> intro _ <;> (try (exfalso; first | contradiction | omega | (rename_i hz; with_reducible exact absurd rfl hz))))
    | (with_reducible refine spB_beq ?_ ?_ <;> intro _ <;> (try (exfalso; first | contradiction | omega | (rename_i hz; with_reducible exact absurd rfl hz))))
    | (with_reducible refine spB_bne ?_ ?_ <;> intro _ <;> (try (exfalso; first | contradiction | omega | (rename_i hz; with_reducible exact absurd rfl hz))))
    | ((with_reducible refine posE_pos ?_ ?_); (focus ((try simp only [LN] at *) <;> omega)))
    | ((with_reducible refine posE_nil ?_ ?_); (focus rfl))
    | ((with_reducible apply ixN_litp); (focus (exact rfl)); (focus ((try simp only [LN] at *) <;> omega)))
    | ((with_reducible refine apdN.mk ?_ ?_ ?_ ?_ ?_ ?_); (focus (first | rfl)); (focus (first | exact one_all (by rfl))); (focus ((try simp only [LN] at *) <;> omega)); (focus ((try simp only [LN] at *) <;> omega)); (focus ((try simp only [LN] at *) <;> omega)))
    | with_reducible refine wr_i64 (by first | omega | (simp only [LN] at *; omega)) ?_
    | ((with_reducible refine rowN_map ?_ ?_); (focus ((try simp only [LN] at *) <;> omega)); intro x hx)
    | ((with_reducible apply Z.conZ_mk ?_ (mod_con _ _) ?_);(first | (rotate_left 2; (focus exact ⟨rfl, rfl, trivial⟩))); skip)
    | (with_reducible refine Z.callZ_in tabOk 18 Try.f142 _ Try.func142 (by kernel_rfl) rfl rfl rfl ?_)
    | ((with_reducible refine eqN_mk2 ?_ ?_); (focus (exact Z.kb_some rfl)))
    | ((with_reducible apply ex_and); exact rfl)
    | ((with_reducible refine Z.rngN.mk ?_); (try subst hlb))
    | ((with_reducible refine Z.CallZ.yl ?_); subst hlb; refine Z.yield_rule tabOk _ _ rfl rfl rfl rfl ?_)
    | with_reducible first | refine Z.drawZ_rule tabOk mixOk ?_ | refine Z.apZ_mk (by kernel_rfl) ?_)
  all_goals (try (conv => whnf))
  all_goals first
    | ((refine Z.rndK ((i + 1, c1, s1, acc ++ [x])) (fun s => [0, 1, 2, 3, 4, 5, 6, 7, 8, 9, 10, 11, 12, 13, s.idIn 3 0]) rfl rfl rfl rfl ?_ ?_ ?_ ?_); (focus (repeat' (first | exact trivial | exact rfl | apply And.intro))); (focus (repeat' (first | exact trivial | (intro b hb; cases hb; rfl) | (intro b hb; cases hb; rw [List.map_append]; rfl) | (intro b hb; cases hb; done) | exact Z.gB_sub' rfl (by first | rfl | (rw [List.map_append]; rfl) | simp only [List.map_append, List.map_cons, List.map_nil]) (ren_map fun _ => rfl) | apply And.intro))); (focus (refine ⟨by (try simp only [LN] at *); (try dsimp only); omega, ?_, ?_, ?_⟩; (focus (dsimp only; rw [fs_step hx, ← hq]; rw [stp3y (by assumption)])); (focus (dsimp only; omega)); exact no_step hno hq (by omega))); (try simp only [LN] at *); (try dsimp only); omega)
    | ((refine Z.rndK ((i + 1, c1, s1, acc)) (fun s => [0, 1, 2, 3, 4, 5, 6, 7, 8, 9, 10, 11, 12, 13, s.idIn 3 0]) rfl rfl rfl rfl ?_ ?_ ?_ ?_); (focus (repeat' (first | exact trivial | exact rfl | apply And.intro))); (focus (repeat' (first | exact trivial | (intro b hb; cases hb; rfl) | (intro b hb; cases hb; done) | exact Z.gB_sub rfl rfl (ren_map fun _ => rfl) | apply And.intro))); (focus (refine ⟨by (try simp only [LN] at *); (try dsimp only); omega, ?_, ?_, ?_⟩; (focus (dsimp only; rw [fs_step hx, ← hq]; rw [stp3n (by assumption), List.append_nil])); (focus (dsimp only; omega)); exact no_step hno hq (by omega))); (try simp only [LN] at *); (try dsimp only); omega)
    | (refine ret0 _ rfl _ rfl (fun _ => rfl) rfl (.inl ⟨⟨i, by (try simp only [LN] at *) <;> omega, by rw [← hq]; (first | assumption)⟩, rfl, rfl, rfl⟩))
    | skip
  have hend : i = l.length := by (try simp only [LN] at *) <;> omega
  subst hend
  rw [List.take_length] at hq
  refine ret_stp (Stp.fzg 7 14 (acc.map cI) rfl 1 2 (by show Z.isB ((gB _ _ _).map Z.Ob.b) = _; exact Z.isB_map _) (acc.map eI) (by simp only [List.map_map]; rfl) (Nat.zero_le _)) ?_
  refine ret0 _ rfl _ rfl (fun _ => rfl) rfl (.inr ⟨hno, ?_, rfl, rfl⟩)
  rw [← hq]; rfl
end Ops
end Go.Proofs.Ytehhmkdghgabaaa
namespace Go.Proofs.Ytehhmkdghgabaaa
open Go Go.RowKit Wx
set_option linter.unusedVariables false
set_option linter.unusedSimpArgs false
set_option maxHeartbeats 4000000
namespace Ops
theorem run4_con (w : Int) (ins : List Int) (a b c s : Int) (l : List Int) (hc : 0 ≤ c ∧ c ≤ 9223372036854775807) (hl : l.length ≤ 40) : Con Try.prog 89 [.agg [.v (.int .i64 4), .v (.int .i64 w), .ro false 1 (ins.map eI), .v (.int .i64 a), .v (.int .i64 b)], .agg [.v (.int .i64 c), .v (.int .i64 s)], .one (.ro false 1 (l.map eI))] (fun rx rK rt => ((∃ j, j < l.length ∧ (fs 4 a b (c, s) (l.take j)).1.1 = 9223372036854775807) ∧ rx = .tup [.agg [.v (.int .i64 0), .v (.int .i64 0)], .one (.v (.slice none 0 0)), .one (.v (.int .i64 6))] ∧ rK = [] ∧ rt = 0) ∨ ((∀ j, j < l.length → (fs 4 a b (c, s) (l.take j)).1.1 ≠ 9223372036854775807) ∧ rx = .tup [.agg [.v (.int .i64 (fs 4 a b (c, s) (l)).1.1), .v (.int .i64 (fs 4 a b (c, s) (l)).1.2)], .one (.ro true 1 ((fs 4 a b (c, s) (l)).2.map eI)), .one (.v (.int .i64 0))] ∧ rK = [] ∧ rt = 0)) := by
  refine Z.con_ofZ tabOk 32 Try.f89 _ Try.func89 (by kernel_rfl) rfl rfl rfl rfl ?_
  repeat' ((conv => whnf); first
    | ((with_reducible apply ixN_lit); (focus (exact rfl)); (focus (exact rfl)))
    | (with_reducible refine Z.callZ_in tabOk 11 Try.f114 _ Try.func114 (by kernel_rfl) rfl rfl rfl ?_)
    | (with_reducible refine Z.callZ_in tabOk 18 Try.f131 _ Try.func131 (by kernel_rfl) rfl rfl rfl ?_)
    | (with_reducible refine Z.callZ_in tabOk 32 Try.f132 _ Try.func132 (by kernel_rfl) rfl rfl rfl ?_)
    | ((with_reducible apply ex_and); exact rfl)
    | ((with_reducible refine Z.RangeZ.red ?_); (refine Z.range_rule [(2, _), (4, _), (6, _), (9, _), (10, _)] rfl ⟨rfl, rfl, rfl, rfl, rfl, trivial⟩ rfl rfl ?_); intro lb hlb))
  all_goals (try (conv => whnf))
  refine Z.loopZ_rule tabOk (fun q : Nat × Int × Int × List Int => (⟨[(12, .val (.int .i64 (q.1 : Int))), (11, .val (.int .i64 ((l.map eI).length : Nat))), (10, .c (.ro false 1 (l.map eI))), (5, .c (.own 13 0 0)), (3, .c (.own 11 0 0)), (0, .c (.yl 12))], [(0, some (.b ⟨[[.v (.int .i64 4), .v (.int .i64 w), .ro false 1 (ins.map eI), .v (.int .i64 a), .v (.int .i64 b)]], 5, 25, true⟩)), (1, some (.b ⟨[[.v (.int .i64 q.2.1), .v (.int .i64 q.2.2.1)]], 2, 41, true⟩)), (2, some (.b ⟨[[.v (.int .i64 0), .v (.int .i64 0)]], 2, 41, true⟩)), (3, some (.b ⟨[[.gsl 14 (q.2.2.2.map cI)]], 1, 77, true⟩)), (4, some (.b ⟨[[.v (.int .i64 (q.1 : Int))]], 1, 3, true⟩)), (5, some (.b ⟨[[.v (.int .i64 4), .v (.int .i64 w), .ro false 1 (ins.map eI), .v (.int .i64 a), .v (.int .i64 b)]], 5, 25, true⟩)), (6, some (.b ⟨[[.v (.int .i64 c), .v (.int .i64 s)]], 2, 41, true⟩)), (7, some (.b ⟨[[.ro false 1 (l.map eI)]], 1, 77, true⟩)), (8, some (.b ⟨[[.v (.int .i64 4), .v (.int .i64 w), .ro false 1 (ins.map eI), .v (.int .i64 a), .v (.int .i64 b)]], 5, 25, true⟩)), (9, some (.b ⟨[[.fn 140 []]], 1, 166, true⟩)), (10, none), (11, some (.b ⟨[[.fn 140 []]], 1, 167, true⟩)), (12, some (.l lb)), (13, some (.b ⟨[[.v (.int .i64 q.2.1), .v (.int .i64 q.2.2.1)]], 2, 41, true⟩)), (14, (gB 1 2 (q.2.2.2.map cI)).map Z.Ob.b)], 15⟩ : Z.S)) (fun q => q.1 ≤ l.length ∧ ((q.2.1, q.2.2.1), q.2.2.2) = fs 4 a b (c, s) (l.take q.1) ∧ (0 ≤ q.2.1 ∧ q.2.1 ≤ 9223372036854775807) ∧ ∀ j, j < q.1 → (fs 4 a b (c, s) (l.take j)).1.1 ≠ 9223372036854775807) (fun q => l.length - q.1) (0, c, s, []) ⟨Nat.zero_le _, rfl, hc, fun j hj => absurd hj (Nat.not_lt_zero _)⟩ (Z.Stp.trans (Z.Stp.cells 3 _ [[.gsl 77 []]] rfl (Nat.le_of_ble_eq_true rfl) ⟨⟨Z.Imp.nilg 77, trivial⟩, trivial⟩) (Z.Wk.stp (l := [0, 1, 2, 3, 4, 5, 6, 7, 8, 9, 10, 11, 12, 13, 77]) ⟨rfl, by decide, rfl, (Nat.le_of_ble_eq_true rfl), ⟨rfl, rfl, rfl, rfl, rfl, rfl, trivial⟩, ⟨fun b hb => (by cases hb; rfl), fun b hb => (by cases hb; rfl), fun b hb => (by cases hb; rfl), fun b hb => (by cases hb; rfl), fun b hb => (by cases hb; rfl), fun b hb => (by cases hb; rfl), fun b hb => (by cases hb; rfl), fun b hb => (by cases hb; rfl), fun b hb => (by cases hb; rfl), fun b hb => (by cases hb; rfl), fun b hb => (by cases hb), fun b hb => (by cases hb; rfl), fun b hb => (by cases hb; (try subst hlb); rfl), fun b hb => (by cases hb; rfl), fun b hb => (by cases hb), trivial⟩⟩)) ?_
  rintro ⟨i, c1, s1, acc⟩ ⟨hi, hq, hb1, hno⟩
  dsimp only at hi hq hb1 hno ⊢
  have hal : acc.length ≤ 40 := by
    have := fs_len (t := 4) (a := a) (b := b) (l.take i) (c := (c, s))
    rw [← hq, List.length_take] at this; dsimp only at this; omega
  repeat' ((conv => whnf); first
    | ((with_reducible apply spB_cong); (focus (simp only [beq_self_eq_true, bne_self_eq_false, Bool.true_bne, Bool.false_bne, Bool.bne_true, Bool.bne_false, Bool.true_beq, Bool.false_beq, Bool.not_true, Bool.not_false, Bool.not_not, Int.reduceBEq, Int.reduceBNe, Int.reduceLE, Int.reduceLT, Int.reduceEq, decide_true, decide_false]; rfl)))
    | with_reducible first | refine spB_no (by decide) ?_
    | (with_reducible refine spB_dec ?_ ?_ <;> intro _ <;> (try (exfalso; first | contradiction | omega | (rename_i hz; with_reducible exact absurd rfl hz))))
    | (with_reducible refine spB_beq ?_ ?_ <;> intro _ <;> (try (exfalso; first | contradiction | omega | (rename_i hz; with_reducible exact absurd rfl hz))))
    | ((with_reducible refine posE_pos ?_ ?_); (focus ((try simp only [LN] at *) <;> omega)))
    | ((with_reducible apply ixN_litp); (focus (exact rfl)); (focus ((try simp only [LN] at *) <;> omega)))
    | ((with_reducible refine apdN.mk ?_ ?_ ?_ ?_ ?_ ?_); (focus (first | rfl)); (focus (first | exact one_all (by rfl))); (focus ((try simp only [LN] at *) <;> omega)); (focus ((try simp only [LN] at *) <;> omega)); (focus ((try simp only [LN] at *) <;> omega)))
    | with_reducible refine wr_i64 (by first | omega | (simp only [LN] at *; omega)) ?_
    | with_reducible first | refine wr_mk _ rfl ?_
    | ((with_reducible refine rowN_map ?_ ?_); (focus ((try simp only [LN] at *) <;> omega)); intro x hx)
    | (with_reducible refine Z.callZ_in tabOk 18 Try.f140 _ Try.func140 (by kernel_rfl) rfl rfl rfl ?_)
    | ((with_reducible refine eqN_mk2 ?_ ?_); (focus (exact Z.kb_some rfl)))
    | ((with_reducible apply ex_and); exact rfl)
    | ((with_reducible refine Z.rngN.mk ?_); (try subst hlb))
    | ((with_reducible refine Z.CallZ.yl ?_); subst hlb; refine Z.yield_rule tabOk _ _ rfl rfl rfl rfl ?_)
    | with_reducible first | refine Z.drawZ_rule tabOk mixOk ?_ | refine Z.apZ_mk (by kernel_rfl) ?_)
  all_goals (try (conv => whnf))
  all_goals first
    | ((refine Z.rndK ((i + 1, (c1 + 1), (IntKind.i64.wrap (s1 + x)), acc ++ [IntKind.i64.wrap (s1 + x)])) (fun s => [0, 1, 2, 3, 4, 5, 6, 7, 8, 9, 10, 11, 12, 13, s.idIn 3 0]) rfl rfl rfl rfl ?_ ?_ ?_ ?_); (focus (repeat' (first | exact trivial | exact rfl | apply And.intro))); (focus (repeat' (first | exact trivial | (intro b hb; cases hb; rfl) | (intro b hb; cases hb; rw [List.map_append]; rfl) | (intro b hb; cases hb; done) | exact Z.gB_sub' rfl (by first | rfl | (rw [List.map_append]; rfl) | simp only [List.map_append, List.map_cons, List.map_nil]) (ren_map fun _ => rfl) | apply And.intro))); (focus (refine ⟨by (try simp only [LN] at *); (try dsimp only); omega, ?_, ?_, ?_⟩; (focus (dsimp only; rw [fs_step hx, ← hq]; simp [stp])); (focus (dsimp only; omega)); exact no_step hno hq (by omega))); (try simp only [LN] at *); (try dsimp only); omega)
    | (refine ret0 _ rfl _ rfl (fun _ => rfl) rfl (.inl ⟨⟨i, by (try simp only [LN] at *) <;> omega, by rw [← hq]; (first | assumption)⟩, rfl, rfl, rfl⟩))
    | skip
  have hend : i = l.length := by (try simp only [LN] at *) <;> omega
  subst hend
  rw [List.take_length] at hq
  refine ret_stp (Stp.fzg 7 14 (acc.map cI) rfl 1 2 (by show Z.isB ((gB _ _ _).map Z.Ob.b) = _; exact Z.isB_map _) (acc.map eI) (by simp only [List.map_map]; rfl) (Nat.zero_le _)) ?_
  refine ret0 _ rfl _ rfl (fun _ => rfl) rfl (.inr ⟨hno, ?_, rfl, rfl⟩)
  rw [← hq]; rfl
theorem run5_con (w : Int) (ins : List Int) (a b c s : Int) (l : List Int) (hc : 0 ≤ c ∧ c ≤ 9223372036854775807) (hl : l.length ≤ 40) : Con Try.prog 89 [.agg [.v (.int .i64 5), .v (.int .i64 w), .ro false 1 (ins.map eI), .v (.int .i64 a), .v (.int .i64 b)], .agg [.v (.int .i64 c), .v (.int .i64 s)], .one (.ro false 1 (l.map eI))] (fun rx rK rt => ((∃ j, j < l.length ∧ (fs 5 a b (c, s) (l.take j)).1.1 = 9223372036854775807) ∧ rx = .tup [.agg [.v (.int .i64 0), .v (.int .i64 0)], .one (.v (.slice none 0 0)), .one (.v (.int .i64 6))] ∧ rK = [] ∧ rt = 0) ∨ ((∀ j, j < l.length → (fs 5 a b (c, s) (l.take j)).1.1 ≠ 9223372036854775807) ∧ rx = .tup [.agg [.v (.int .i64 (fs 5 a b (c, s) (l)).1.1), .v (.int .i64 (fs 5 a b (c, s) (l)).1.2)], .one (.ro true 1 ((fs 5 a b (c, s) (l)).2.map eI)), .one (.v (.int .i64 0))] ∧ rK = [] ∧ rt = 0)) := by
  refine Z.con_ofZ tabOk 32 Try.f89 _ Try.func89 (by kernel_rfl) rfl rfl rfl rfl ?_
  repeat' ((conv => whnf); first
    | ((with_reducible apply ixN_lit); (focus (exact rfl)); (focus (exact rfl)))
    | (with_reducible refine Z.callZ_in tabOk 11 Try.f114 _ Try.func114 (by kernel_rfl) rfl rfl rfl ?_)
    | (with_reducible refine Z.callZ_in tabOk 18 Try.f131 _ Try.func131 (by kernel_rfl) rfl rfl rfl ?_)
    | (with_reducible refine Z.callZ_in tabOk 32 Try.f132 _ Try.func132 (by kernel_rfl) rfl rfl rfl ?_)
    | ((with_reducible apply ex_and); exact rfl)
    | ((with_reducible refine Z.RangeZ.red ?_); (refine Z.range_rule [(2, _), (4, _), (6, _), (9, _), (10, _)] rfl ⟨rfl, rfl, rfl, rfl, rfl, trivial⟩ rfl rfl ?_); intro lb hlb))
  all_goals (try (conv => whnf))
  refine Z.loopZ_rule tabOk (fun q : Nat × Int × Int × List Int => (⟨[(12, .val (.int .i64 (q.1 : Int))), (11, .val (.int .i64 ((l.map eI).length : Nat))), (10, .c (.ro false 1 (l.map eI))), (5, .c (.own 13 0 0)), (3, .c (.own 11 0 0)), (0, .c (.yl 12))], [(0, some (.b ⟨[[.v (.int .i64 5), .v (.int .i64 w), .ro false 1 (ins.map eI), .v (.int .i64 a), .v (.int .i64 b)]], 5, 25, true⟩)), (1, some (.b ⟨[[.v (.int .i64 q.2.1), .v (.int .i64 q.2.2.1)]], 2, 41, true⟩)), (2, some (.b ⟨[[.v (.int .i64 0), .v (.int .i64 0)]], 2, 41, true⟩)), (3, some (.b ⟨[[.gsl 14 (q.2.2.2.map cI)]], 1, 77, true⟩)), (4, some (.b ⟨[[.v (.int .i64 (q.1 : Int))]], 1, 3, true⟩)), (5, some (.b ⟨[[.v (.int .i64 5), .v (.int .i64 w), .ro false 1 (ins.map eI), .v (.int .i64 a), .v (.int .i64 b)]], 5, 25, true⟩)), (6, some (.b ⟨[[.v (.int .i64 c), .v (.int .i64 s)]], 2, 41, true⟩)), (7, some (.b ⟨[[.ro false 1 (l.map eI)]], 1, 77, true⟩)), (8, some (.b ⟨[[.v (.int .i64 5), .v (.int .i64 w), .ro false 1 (ins.map eI), .v (.int .i64 a), .v (.int .i64 b)]], 5, 25, true⟩)), (9, some (.b ⟨[[.fn 140 []]], 1, 166, true⟩)), (10, none), (11, some (.b ⟨[[.fn 144 [.own 9 0 0, .own 8 0 0]]], 1, 167, true⟩)), (12, some (.l lb)), (13, some (.b ⟨[[.v (.int .i64 q.2.1), .v (.int .i64 q.2.2.1)]], 2, 41, true⟩)), (14, (gB 1 2 (q.2.2.2.map cI)).map Z.Ob.b)], 15⟩ : Z.S)) (fun q => q.1 ≤ l.length ∧ ((q.2.1, q.2.2.1), q.2.2.2) = fs 5 a b (c, s) (l.take q.1) ∧ (0 ≤ q.2.1 ∧ q.2.1 ≤ 9223372036854775807) ∧ ∀ j, j < q.1 → (fs 5 a b (c, s) (l.take j)).1.1 ≠ 9223372036854775807) (fun q => l.length - q.1) (0, c, s, []) ⟨Nat.zero_le _, rfl, hc, fun j hj => absurd hj (Nat.not_lt_zero _)⟩ (Z.Stp.trans (Z.Stp.cells 3 _ [[.gsl 77 []]] rfl (Nat.le_of_ble_eq_true rfl) ⟨⟨Z.Imp.nilg 77, trivial⟩, trivial⟩) (Z.Wk.stp (l := [0, 1, 2, 3, 4, 5, 6, 7, 8, 9, 10, 11, 12, 13, 77]) ⟨rfl, by decide, rfl, (Nat.le_of_ble_eq_true rfl), ⟨rfl, rfl, rfl, rfl, rfl, rfl, trivial⟩, ⟨fun b hb => (by cases hb; rfl), fun b hb => (by cases hb; rfl), fun b hb => (by cases hb; rfl), fun b hb => (by cases hb; rfl), fun b hb => (by cases hb; rfl), fun b hb => (by cases hb; rfl), fun b hb => (by cases hb; rfl), fun b hb => (by cases hb; rfl), fun b hb => (by cases hb; rfl), fun b hb => (by cases hb; rfl), fun b hb => (by cases hb), fun b hb => (by cases hb; rfl), fun b hb => (by cases hb; (try subst hlb); rfl), fun b hb => (by cases hb; rfl), fun b hb => (by cases hb), trivial⟩⟩)) ?_
  rintro ⟨i, c1, s1, acc⟩ ⟨hi, hq, hb1, hno⟩
  dsimp only at hi hq hb1 hno ⊢
  have hal : acc.length ≤ 40 := by
    have := fs_len (t := 5) (a := a) (b := b) (l.take i) (c := (c, s))
    rw [← hq, List.length_take] at this; dsimp only at this; omega
  repeat' ((conv => whnf); first
    | ((with_reducible apply spB_cong); (focus (simp only [beq_self_eq_true, bne_self_eq_false, Bool.true_bne, Bool.false_bne, Bool.bne_true, Bool.bne_false, Bool.true_beq, Bool.false_beq, Bool.not_true, Bool.not_false, Bool.not_not, Int.reduceBEq, Int.reduceBNe, Int.reduceLE, Int.reduceLT, Int.reduceEq, decide_true, decide_false]; rfl)))
    | with_reducible first | refine spB_no (by decide) ?_
    | (with_reducible refine spB_dec ?_ ?_ <;> intro _ <;> (try (exfalso; first | contradiction | omega | (rename_i hz; with_reducible exact absurd rfl hz))))
    | (with_reducible refine spB_beq ?_ ?_ <;> intro _ <;> (try (exfalso; first | contradiction | omega | (rename_i hz; with_reducible exact absurd rfl hz))))
    | ((with_reducible refine posE_pos ?_ ?_); (focus ((try simp only [LN] at *) <;> omega)))
    | ((with_reducible refine posE_nil ?_ ?_); (focus rfl))
    | ((with_reducible apply ixN_litp); (focus (exact rfl)); (focus ((try simp only [LN] at *) <;> omega)))
    | ((with_reducible refine apdN.mk ?_ ?_ ?_ ?_ ?_ ?_); (focus (first | rfl)); (focus (first | exact one_all (by rfl))); (focus ((try simp only [LN] at *) <;> omega)); (focus ((try simp only [LN] at *) <;> omega)); (focus ((try simp only [LN] at *) <;> omega)))
    | with_reducible refine wr_i64 (by first | omega | (simp only [LN] at *; omega)) ?_
    | with_reducible first | refine wr_mk _ rfl ?_
    | ((with_reducible refine rowN_map ?_ ?_); (focus ((try simp only [LN] at *) <;> omega)); intro x hx)
    | (with_reducible refine Z.callZ_in tabOk 18 Try.f140 _ Try.func140 (by kernel_rfl) rfl rfl rfl ?_)
    | (with_reducible refine Z.callZ_in tabOk 24 Try.f144 _ Try.func144 (by kernel_rfl) rfl rfl rfl ?_)
    | ((with_reducible refine eqN_mk2 ?_ ?_); (focus (exact Z.kb_some rfl)))
    | ((with_reducible apply ex_and); exact rfl)
    | ((with_reducible refine Z.rngN.mk ?_); (try subst hlb))
    | ((with_reducible refine Z.CallZ.yl ?_); subst hlb; refine Z.yield_rule tabOk _ _ rfl rfl rfl rfl ?_)
    | with_reducible first | refine Z.drawZ_rule tabOk mixOk ?_ | refine Z.apZ_mk (by kernel_rfl) ?_)
  all_goals (try (conv => whnf))
  all_goals first
    | ((refine Z.rndK ((i + 1, (c1 + 1), (IntKind.i64.wrap (s1 + x)), acc)) (fun s => [0, 1, 2, 3, 4, 5, 6, 7, 8, 9, 10, 11, 12, 13, s.idIn 3 0]) rfl rfl rfl rfl ?_ ?_ ?_ ?_); (focus (repeat' (first | exact trivial | exact rfl | apply And.intro))); (focus (repeat' (first | exact trivial | (intro b hb; cases hb; rfl) | (intro b hb; cases hb; done) | exact Z.gB_sub rfl rfl (ren_map fun _ => rfl) | exact Z.gB_sub' rfl (by first | rfl | (rw [List.map_append]; rfl) | simp only [List.map_append, List.map_cons, List.map_nil]) (ren_map fun _ => rfl) | apply And.intro))); (focus (refine ⟨by (try simp only [LN] at *); (try dsimp only); omega, ?_, ?_, ?_⟩; (focus (dsimp only; rw [fs_step hx, ← hq]; rw [stp5y (by assumption), List.append_nil])); (focus (dsimp only; omega)); exact no_step hno hq (by omega))); (try simp only [LN] at *); (try dsimp only); omega)
    | ((refine Z.rndK ((i + 1, 0, 0, acc ++ [IntKind.i64.wrap (s1 + x)])) (fun s => [0, 1, 2, 3, 4, 5, 6, 7, 8, 9, 10, 11, 12, 13, s.idIn 3 0]) rfl rfl rfl rfl ?_ ?_ ?_ ?_); (focus (repeat' (first | exact trivial | exact rfl | apply And.intro))); (focus (repeat' (first | exact trivial | (intro b hb; cases hb; rfl) | (intro b hb; cases hb; rw [List.map_append]; rfl) | (intro b hb; cases hb; done) | exact Z.gB_sub' rfl (by first | rfl | (rw [List.map_append]; rfl) | simp only [List.map_append, List.map_cons, List.map_nil]) (ren_map fun _ => rfl) | apply And.intro))); (focus (refine ⟨by (try simp only [LN] at *); (try dsimp only); omega, ?_, ?_, ?_⟩; (focus (dsimp only; rw [fs_step hx, ← hq]; rw [stp5n (by assumption)])); (focus (dsimp only; omega)); exact no_step hno hq (by omega))); (try simp only [LN] at *); (try dsimp only); omega)
    | (refine ret0 _ rfl _ rfl (fun _ => rfl) rfl (.inl ⟨⟨i, by (try simp only [LN] at *) <;> omega, by rw [← hq]; (first | assumption)⟩, rfl, rfl, rfl⟩))
    | skip
  have hend : i = l.length := by (try simp only [LN] at *) <;> omega
  subst hend
  rw [List.take_length] at hq
  refine ret_stp (Stp.fzg 7 14 (acc.map cI) rfl 1 2 (by show Z.isB ((gB _ _ _).map Z.Ob.b) = _; exact Z.isB_map _) (acc.map eI) (by simp only [List.map_map]; rfl) (Nat.zero_le _)) ?_
  refine ret0 _ rfl _ rfl (fun _ => rfl) rfl (.inr ⟨hno, ?_, rfl, rfl⟩)
  rw [← hq]; rfl
theorem run6_con (w : Int) (ins : List Int) (a b c s : Int) (l : List Int) (hc : 0 ≤ c ∧ c ≤ 9223372036854775807) (hl : l.length ≤ 40) : Con Try.prog 89 [.agg [.v (.int .i64 6), .v (.int .i64 w), .ro false 1 (ins.map eI), .v (.int .i64 a), .v (.int .i64 b)], .agg [.v (.int .i64 c), .v (.int .i64 s)], .one (.ro false 1 (l.map eI))] (fun rx rK rt => ((∃ j, j < l.length ∧ (fs 6 a b (c, s) (l.take j)).1.1 = 9223372036854775807) ∧ rx = .tup [.agg [.v (.int .i64 0), .v (.int .i64 0)], .one (.v (.slice none 0 0)), .one (.v (.int .i64 6))] ∧ rK = [] ∧ rt = 0) ∨ ((∀ j, j < l.length → (fs 6 a b (c, s) (l.take j)).1.1 ≠ 9223372036854775807) ∧ rx = .tup [.agg [.v (.int .i64 (fs 6 a b (c, s) (l)).1.1), .v (.int .i64 (fs 6 a b (c, s) (l)).1.2)], .one (.ro true 1 ((fs 6 a b (c, s) (l)).2.map eI)), .one (.v (.int .i64 0))] ∧ rK = [] ∧ rt = 0)) := by
  refine Z.con_ofZ tabOk 32 Try.f89 _ Try.func89 (by kernel_rfl) rfl rfl rfl rfl ?_
  repeat' ((conv => whnf); first
    | ((with_reducible apply ixN_lit); (focus (exact rfl)); (focus (exact rfl)))
    | (with_reducible refine Z.callZ_in tabOk 11 Try.f114 _ Try.func114 (by kernel_rfl) rfl rfl rfl ?_)
    | (with_reducible refine Z.callZ_in tabOk 18 Try.f131 _ Try.func131 (by kernel_rfl) rfl rfl rfl ?_)
    | (with_reducible refine Z.callZ_in tabOk 32 Try.f132 _ Try.func132 (by kernel_rfl) rfl rfl rfl ?_)
    | ((with_reducible apply ex_and); exact rfl)
    | ((with_reducible refine Z.RangeZ.red ?_); (refine Z.range_rule [(2, _), (4, _), (6, _), (9, _), (10, _)] rfl ⟨rfl, rfl, rfl, rfl, rfl, trivial⟩ rfl rfl ?_); intro lb hlb))
  all_goals (try (conv => whnf))
  refine Z.loopZ_rule tabOk (fun q : Nat × Int × Int × List Int => (⟨[(12, .val (.int .i64 (q.1 : Int))), (11, .val (.int .i64 ((l.map eI).length : Nat))), (10, .c (.ro false 1 (l.map eI))), (5, .c (.own 13 0 0)), (3, .c (.own 11 0 0)), (0, .c (.yl 12))], [(0, some (.b ⟨[[.v (.int .i64 6), .v (.int .i64 w), .ro false 1 (ins.map eI), .v (.int .i64 a), .v (.int .i64 b)]], 5, 25, true⟩)), (1, some (.b ⟨[[.v (.int .i64 q.2.1), .v (.int .i64 q.2.2.1)]], 2, 41, true⟩)), (2, some (.b ⟨[[.v (.int .i64 0), .v (.int .i64 0)]], 2, 41, true⟩)), (3, some (.b ⟨[[.gsl 14 (q.2.2.2.map cI)]], 1, 77, true⟩)), (4, some (.b ⟨[[.v (.int .i64 (q.1 : Int))]], 1, 3, true⟩)), (5, some (.b ⟨[[.v (.int .i64 6), .v (.int .i64 w), .ro false 1 (ins.map eI), .v (.int .i64 a), .v (.int .i64 b)]], 5, 25, true⟩)), (6, some (.b ⟨[[.v (.int .i64 c), .v (.int .i64 s)]], 2, 41, true⟩)), (7, some (.b ⟨[[.ro false 1 (l.map eI)]], 1, 77, true⟩)), (8, some (.b ⟨[[.v (.int .i64 6), .v (.int .i64 w), .ro false 1 (ins.map eI), .v (.int .i64 a), .v (.int .i64 b)]], 5, 25, true⟩)), (9, some (.b ⟨[[.fn 140 []]], 1, 166, true⟩)), (10, none), (11, some (.b ⟨[[.fn 139 []]], 1, 167, true⟩)), (12, some (.l lb)), (13, some (.b ⟨[[.v (.int .i64 q.2.1), .v (.int .i64 q.2.2.1)]], 2, 41, true⟩)), (14, (gB 1 2 (q.2.2.2.map cI)).map Z.Ob.b)], 15⟩ : Z.S)) (fun q => q.1 ≤ l.length ∧ ((q.2.1, q.2.2.1), q.2.2.2) = fs 6 a b (c, s) (l.take q.1) ∧ (0 ≤ q.2.1 ∧ q.2.1 ≤ 9223372036854775807) ∧ ∀ j, j < q.1 → (fs 6 a b (c, s) (l.take j)).1.1 ≠ 9223372036854775807) (fun q => l.length - q.1) (0, c, s, []) ⟨Nat.zero_le _, rfl, hc, fun j hj => absurd hj (Nat.not_lt_zero _)⟩ (Z.Stp.trans (Z.Stp.cells 3 _ [[.gsl 77 []]] rfl (Nat.le_of_ble_eq_true rfl) ⟨⟨Z.Imp.nilg 77, trivial⟩, trivial⟩) (Z.Wk.stp (l := [0, 1, 2, 3, 4, 5, 6, 7, 8, 9, 10, 11, 12, 13, 77]) ⟨rfl, by decide, rfl, (Nat.le_of_ble_eq_true rfl), ⟨rfl, rfl, rfl, rfl, rfl, rfl, trivial⟩, ⟨fun b hb => (by cases hb; rfl), fun b hb => (by cases hb; rfl), fun b hb => (by cases hb; rfl), fun b hb => (by cases hb; rfl), fun b hb => (by cases hb; rfl), fun b hb => (by cases hb; rfl), fun b hb => (by cases hb; rfl), fun b hb => (by cases hb; rfl), fun b hb => (by cases hb; rfl), fun b hb => (by cases hb; rfl), fun b hb => (by cases hb), fun b hb => (by cases hb; rfl), fun b hb => (by cases hb; (try subst hlb); rfl), fun b hb => (by cases hb; rfl), fun b hb => (by cases hb), trivial⟩⟩)) ?_
  rintro ⟨i, c1, s1, acc⟩ ⟨hi, hq, hb1, hno⟩
  dsimp only at hi hq hb1 hno ⊢
  have hal : acc.length ≤ 40 := by
    have := fs_len (t := 6) (a := a) (b := b) (l.take i) (c := (c, s))
    rw [← hq, List.length_take] at this; dsimp only at this; omega
  repeat' ((conv => whnf); first
    | ((with_reducible apply spB_cong); (focus (simp only [beq_self_eq_true, bne_self_eq_false, Bool.true_bne, Bool.false_bne, Bool.bne_true, Bool.bne_false, Bool.true_beq, Bool.false_beq, Bool.not_true, Bool.not_false, Bool.not_not, Int.reduceBEq, Int.reduceBNe, Int.reduceLE, Int.reduceLT, Int.reduceEq, decide_true, decide_false]; rfl)))
    | with_reducible first | refine spB_no (by decide) ?_
    | (with_reducible refine spB_dec ?_ ?_ <;> intro _ <;> (try (exfalso; first | contradiction | omega | (rename_i hz; with_reducible exact absurd rfl hz))))
    | (with_reducible refine spB_beq ?_ ?_ <;> intro _ <;> (try (exfalso; first | contradiction | omega | (rename_i hz; with_reducible exact absurd rfl hz))))
    | ((with_reducible refine posE_pos ?_ ?_); (focus ((try simp only [LN] at *) <;> omega)))
    | ((with_reducible apply ixN_litp); (focus (exact rfl)); (focus ((try simp only [LN] at *) <;> omega)))
    | ((with_reducible refine apdN.mk ?_ ?_ ?_ ?_ ?_ ?_); (focus (first | rfl)); (focus (first | exact one_all (by rfl))); (focus ((try simp only [LN] at *) <;> omega)); (focus ((try simp only [LN] at *) <;> omega)); (focus ((try simp only [LN] at *) <;> omega)))
    | with_reducible refine wr_i64 (by first | omega | (simp only [LN] at *; omega)) ?_
    | ((with_reducible refine rowN_map ?_ ?_); (focus ((try simp only [LN] at *) <;> omega)); intro x hx)
    | (with_reducible refine Z.callZ_in tabOk 9 Try.f139 _ Try.func139 (by kernel_rfl) rfl rfl rfl ?_)
    | ((with_reducible refine eqN_mk2 ?_ ?_); (focus (exact Z.kb_some rfl)))
    | ((with_reducible apply ex_and); exact rfl)
    | ((with_reducible refine Z.rngN.mk ?_); (try subst hlb))
    | ((with_reducible refine Z.CallZ.yl ?_); subst hlb; refine Z.yield_rule tabOk _ _ rfl rfl rfl rfl ?_)
    | with_reducible first | refine Z.drawZ_rule tabOk mixOk ?_ | refine Z.apZ_mk (by kernel_rfl) ?_)
  all_goals (try (conv => whnf))
  all_goals first
    | ((refine Z.rndK ((i + 1, c1, s1, acc ++ [x])) (fun s => [0, 1, 2, 3, 4, 5, 6, 7, 8, 9, 10, 11, 12, 13, s.idIn 3 0]) rfl rfl rfl rfl ?_ ?_ ?_ ?_); (focus (repeat' (first | exact trivial | exact rfl | apply And.intro))); (focus (repeat' (first | exact trivial | (intro b hb; cases hb; rfl) | (intro b hb; cases hb; rw [List.map_append]; rfl) | (intro b hb; cases hb; done) | exact Z.gB_sub' rfl (by first | rfl | (rw [List.map_append]; rfl) | simp only [List.map_append, List.map_cons, List.map_nil]) (ren_map fun _ => rfl) | apply And.intro))); (focus (refine ⟨by (try simp only [LN] at *); (try dsimp only); omega, ?_, ?_, ?_⟩; (focus (dsimp only; rw [fs_step hx, ← hq]; simp [stp])); (focus (dsimp only; omega)); exact no_step hno hq (by omega))); (try simp only [LN] at *); (try dsimp only); omega)
    | (refine ret0 _ rfl _ rfl (fun _ => rfl) rfl (.inl ⟨⟨i, by (try simp only [LN] at *) <;> omega, by rw [← hq]; (first | assumption)⟩, rfl, rfl, rfl⟩))
    | skip
  have hend : i = l.length := by (try simp only [LN] at *) <;> omega
  subst hend
  rw [List.take_length] at hq
  refine ret_stp (Stp.fzg 7 14 (acc.map cI) rfl 1 2 (by show Z.isB ((gB _ _ _).map Z.Ob.b) = _; exact Z.isB_map _) (acc.map eI) (by simp only [List.map_map]; rfl) (Nat.zero_le _)) ?_
  refine ret0 _ rfl _ rfl (fun _ => rfl) rfl (.inr ⟨hno, ?_, rfl, rfl⟩)
  rw [← hq]; rfl
theorem run7_con (w : Int) (ins : List Int) (a b c s : Int) (l : List Int) (hc : 0 ≤ c ∧ c ≤ 9223372036854775807) (hl : l.length ≤ 40) : Con Try.prog 89 [.agg [.v (.int .i64 7), .v (.int .i64 w), .ro false 1 (ins.map eI), .v (.int .i64 a), .v (.int .i64 b)], .agg [.v (.int .i64 c), .v (.int .i64 s)], .one (.ro false 1 (l.map eI))] (fun rx rK rt => ((∃ j, j < l.length ∧ (fs 7 a b (c, s) (l.take j)).1.1 = 9223372036854775807) ∧ rx = .tup [.agg [.v (.int .i64 0), .v (.int .i64 0)], .one (.v (.slice none 0 0)), .one (.v (.int .i64 6))] ∧ rK = [] ∧ rt = 0) ∨ ((∀ j, j < l.length → (fs 7 a b (c, s) (l.take j)).1.1 ≠ 9223372036854775807) ∧ rx = .tup [.agg [.v (.int .i64 (fs 7 a b (c, s) (l)).1.1), .v (.int .i64 (fs 7 a b (c, s) (l)).1.2)], .one (.ro true 1 ((fs 7 a b (c, s) (l)).2.map eI)), .one (.v (.int .i64 0))] ∧ rK = [] ∧ rt = 0)) := by
  refine Z.con_ofZ tabOk 32 Try.f89 _ Try.func89 (by kernel_rfl) rfl rfl rfl rfl ?_
  repeat' ((conv => whnf); first
    | ((with_reducible apply ixN_lit); (focus (exact rfl)); (focus (exact rfl)))
    | (with_reducible refine Z.callZ_in tabOk 11 Try.f114 _ Try.func114 (by kernel_rfl) rfl rfl rfl ?_)
    | (with_reducible refine Z.callZ_in tabOk 18 Try.f131 _ Try.func131 (by kernel_rfl) rfl rfl rfl ?_)
    | (with_reducible refine Z.callZ_in tabOk 32 Try.f132 _ Try.func132 (by kernel_rfl) rfl rfl rfl ?_)
    | ((with_reducible apply ex_and); exact rfl)
    | ((with_reducible refine Z.RangeZ.red ?_); (refine Z.range_rule [(2, _), (4, _), (6, _), (9, _), (10, _)] rfl ⟨rfl, rfl, rfl, rfl, rfl, trivial⟩ rfl rfl ?_); intro lb hlb))
  all_goals (try (conv => whnf))
  refine Z.loopZ_rule tabOk (fun q : Nat × Int × Int × List Int => (⟨[(12, .val (.int .i64 (q.1 : Int))), (11, .val (.int .i64 ((l.map eI).length : Nat))), (10, .c (.ro false 1 (l.map eI))), (5, .c (.own 13 0 0)), (3, .c (.own 11 0 0)), (0, .c (.yl 12))], [(0, some (.b ⟨[[.v (.int .i64 7), .v (.int .i64 w), .ro false 1 (ins.map eI), .v (.int .i64 a), .v (.int .i64 b)]], 5, 25, true⟩)), (1, some (.b ⟨[[.v (.int .i64 q.2.1), .v (.int .i64 q.2.2.1)]], 2, 41, true⟩)), (2, some (.b ⟨[[.v (.int .i64 0), .v (.int .i64 0)]], 2, 41, true⟩)), (3, some (.b ⟨[[.gsl 14 (q.2.2.2.map cI)]], 1, 77, true⟩)), (4, some (.b ⟨[[.v (.int .i64 (q.1 : Int))]], 1, 3, true⟩)), (5, some (.b ⟨[[.v (.int .i64 7), .v (.int .i64 w), .ro false 1 (ins.map eI), .v (.int .i64 a), .v (.int .i64 b)]], 5, 25, true⟩)), (6, some (.b ⟨[[.v (.int .i64 c), .v (.int .i64 s)]], 2, 41, true⟩)), (7, some (.b ⟨[[.ro false 1 (l.map eI)]], 1, 77, true⟩)), (8, some (.b ⟨[[.v (.int .i64 7), .v (.int .i64 w), .ro false 1 (ins.map eI), .v (.int .i64 a), .v (.int .i64 b)]], 5, 25, true⟩)), (9, some (.b ⟨[[.fn 140 []]], 1, 166, true⟩)), (10, none), (11, some (.b ⟨[[.fn 139 []]], 1, 167, true⟩)), (12, some (.l lb)), (13, some (.b ⟨[[.v (.int .i64 q.2.1), .v (.int .i64 q.2.2.1)]], 2, 41, true⟩)), (14, (gB 1 2 (q.2.2.2.map cI)).map Z.Ob.b)], 15⟩ : Z.S)) (fun q => q.1 ≤ l.length ∧ ((q.2.1, q.2.2.1), q.2.2.2) = fs 7 a b (c, s) (l.take q.1) ∧ (0 ≤ q.2.1 ∧ q.2.1 ≤ 9223372036854775807) ∧ ∀ j, j < q.1 → (fs 7 a b (c, s) (l.take j)).1.1 ≠ 9223372036854775807) (fun q => l.length - q.1) (0, c, s, []) ⟨Nat.zero_le _, rfl, hc, fun j hj => absurd hj (Nat.not_lt_zero _)⟩ (Z.Stp.trans (Z.Stp.cells 3 _ [[.gsl 77 []]] rfl (Nat.le_of_ble_eq_true rfl) ⟨⟨Z.Imp.nilg 77, trivial⟩, trivial⟩) (Z.Wk.stp (l := [0, 1, 2, 3, 4, 5, 6, 7, 8, 9, 10, 11, 12, 13, 77]) ⟨rfl, by decide, rfl, (Nat.le_of_ble_eq_true rfl), ⟨rfl, rfl, rfl, rfl, rfl, rfl, trivial⟩, ⟨fun b hb => (by cases hb; rfl), fun b hb => (by cases hb; rfl), fun b hb => (by cases hb; rfl), fun b hb => (by cases hb; rfl), fun b hb => (by cases hb; rfl), fun b hb => (by cases hb; rfl), fun b hb => (by cases hb; rfl), fun b hb => (by cases hb; rfl), fun b hb => (by cases hb; rfl), fun b hb => (by cases hb; rfl), fun b hb => (by cases hb), fun b hb => (by cases hb; rfl), fun b hb => (by cases hb; (try subst hlb); rfl), fun b hb => (by cases hb; rfl), fun b hb => (by cases hb), trivial⟩⟩)) ?_
  rintro ⟨i, c1, s1, acc⟩ ⟨hi, hq, hb1, hno⟩
  dsimp only at hi hq hb1 hno ⊢
  have hal : acc.length ≤ 40 := by
    have := fs_len (t := 7) (a := a) (b := b) (l.take i) (c := (c, s))
    rw [← hq, List.length_take] at this; dsimp only at this; omega
  repeat' ((conv => whnf); first
    | ((with_reducible apply spB_cong); (focus (simp only [beq_self_eq_true, bne_self_eq_false, Bool.true_bne, Bool.false_bne, Bool.bne_true, Bool.bne_false, Bool.true_beq, Bool.false_beq, Bool.not_true, Bool.not_false, Bool.not_not, Int.reduceBEq, Int.reduceBNe, Int.reduceLE, Int.reduceLT, Int.reduceEq, decide_true, decide_false]; rfl)))
    | with_reducible first | refine spB_no (by decide) ?_
    | (with_reducible refine spB_dec ?_ ?_ <;> intro _ <;> (try (exfalso; first | contradiction | omega | (rename_i hz; with_reducible exact absurd rfl hz))))
    | (with_reducible refine spB_beq ?_ ?_ <;> intro _ <;> (try (exfalso; first | contradiction | omega | (rename_i hz; with_reducible exact absurd rfl hz))))
    | ((with_reducible refine posE_pos ?_ ?_); (focus ((try simp only [LN] at *) <;> omega)))
    | ((with_reducible apply ixN_litp); (focus (exact rfl)); (focus ((try simp only [LN] at *) <;> omega)))
    | ((with_reducible refine apdN.mk ?_ ?_ ?_ ?_ ?_ ?_); (focus (first | rfl)); (focus (first | exact one_all (by rfl))); (focus ((try simp only [LN] at *) <;> omega)); (focus ((try simp only [LN] at *) <;> omega)); (focus ((try simp only [LN] at *) <;> omega)))
    | with_reducible refine wr_i64 (by first | omega | (simp only [LN] at *; omega)) ?_
    | ((with_reducible refine rowN_map ?_ ?_); (focus ((try simp only [LN] at *) <;> omega)); intro x hx)
    | (with_reducible refine Z.callZ_in tabOk 9 Try.f139 _ Try.func139 (by kernel_rfl) rfl rfl rfl ?_)
    | ((with_reducible refine eqN_mk2 ?_ ?_); (focus (exact Z.kb_some rfl)))
    | ((with_reducible apply ex_and); exact rfl)
    | ((with_reducible refine Z.rngN.mk ?_); (try subst hlb))
    | ((with_reducible refine Z.CallZ.yl ?_); subst hlb; refine Z.yield_rule tabOk _ _ rfl rfl rfl rfl ?_)
    | with_reducible first | refine Z.drawZ_rule tabOk mixOk ?_ | refine Z.apZ_mk (by kernel_rfl) ?_)
  all_goals (try (conv => whnf))
  all_goals first
    | ((refine Z.rndK ((i + 1, c1, s1, acc ++ [x])) (fun s => [0, 1, 2, 3, 4, 5, 6, 7, 8, 9, 10, 11, 12, 13, s.idIn 3 0]) rfl rfl rfl rfl ?_ ?_ ?_ ?_); (focus (repeat' (first | exact trivial | exact rfl | apply And.intro))); (focus (repeat' (first | exact trivial | (intro b hb; cases hb; rfl) | (intro b hb; cases hb; rw [List.map_append]; rfl) | (intro b hb; cases hb; done) | exact Z.gB_sub' rfl (by first | rfl | (rw [List.map_append]; rfl) | simp only [List.map_append, List.map_cons, List.map_nil]) (ren_map fun _ => rfl) | apply And.intro))); (focus (refine ⟨by (try simp only [LN] at *); (try dsimp only); omega, ?_, ?_, ?_⟩; (focus (dsimp only; rw [fs_step hx, ← hq]; simp [stp])); (focus (dsimp only; omega)); exact no_step hno hq (by omega))); (try simp only [LN] at *); (try dsimp only); omega)
    | (refine ret0 _ rfl _ rfl (fun _ => rfl) rfl (.inl ⟨⟨i, by (try simp only [LN] at *) <;> omega, by rw [← hq]; (first | assumption)⟩, rfl, rfl, rfl⟩))
    | skip
  have hend : i = l.length := by (try simp only [LN] at *) <;> omega
  subst hend
  rw [List.take_length] at hq
  refine ret_stp (Stp.fzg 7 14 (acc.map cI) rfl 1 2 (by show Z.isB ((gB _ _ _).map Z.Ob.b) = _; exact Z.isB_map _) (acc.map eI) (by simp only [List.map_map]; rfl) (Nat.zero_le _)) ?_
  refine ret0 _ rfl _ rfl (fun _ => rfl) rfl (.inr ⟨hno, ?_, rfl, rfl⟩)
  rw [← hq]; rfl
end Ops
end Go.Proofs.Ytehhmkdghgabaaa
namespace Go.Proofs.Ytehhmkdghgabaaa
open Go Go.RowKit Wx
set_option linter.unusedVariables false
set_option linter.unusedSimpArgs false
set_option maxHeartbeats 4000000
namespace Ops
theorem keeps_con (t w a b : Int) (ins : List Int)  : Con Try.prog 116 [.agg [.v (.int .i64 t), .v (.int .i64 w), .ro false 1 (ins.map eI), .v (.int .i64 a), .v (.int .i64 b)]] (fun rx rK rt => rx = .val (.bool (decide (t = 4 ∨ t = 5))) ∧ rK = [] ∧ rt = 0) := by
  refine con_of tabOk 11 Try.f116 _ Try.func116 (by kernel_rfl) rfl rfl rfl rfl (fun W => ?_)
  repeat' ((conv => whnf); first
    | with_reducible first | refine spB_t ?_
    | with_reducible first | refine spB_no (by decide) ?_
    | (with_reducible refine spB_beq ?_ ?_ <;> intro _ <;> (try (exfalso; first | contradiction | omega | (rename_i hz; with_reducible exact absurd rfl hz)))))
  all_goals (try (conv => whnf))
  all_goals refine ret0 _ rfl _ rfl (fun _ => rfl) rfl ⟨?_, rfl, rfl⟩
  all_goals (refine rv_bool ?_; first | (exact bool_t (by omega)) | (exact bool_f (by omega)) | (exact bool_p (by omega)))
theorem drop_cons8 {α : Type} {l : List α} {i : Nat} {x : α} (h : l[i]? = some x) : l.drop i = x :: l.drop (i + 1) := by
  have hlt := (List.getElem?_eq_some_iff.1 h).1
  rw [List.drop_eq_getElem_cons hlt, (List.getElem?_eq_some_iff.1 h).2]
theorem rising_con (l : List Int) (lim : Int) (hl : l.length ≤ 9223372036854775807) : Con Try.prog 92 [.one (.ro false 1 (l.map eI)), .one (.v (.int .i64 lim))] (fun rx rK rt => rx = .val (.bool (ris lim (-1) l)) ∧ rK = [] ∧ rt = 0) := by
  refine con_of tabOk 24 Try.f92 _ Try.func92 (by kernel_rfl) rfl rfl rfl rfl (fun W => ?_)
  repeat' ((conv => whnf); first
    | with_reducible first | refine spB_t ?_)
  all_goals (try (conv => whnf))
  refine loop_rule tabOk (fun q : Nat × Int => ⟨[(10, .val (.int .i64 (q.1 : Int))), (9, .val (.int .i64 ((l.map eI).length : Nat))), (8, .c (.ro false 1 (l.map eI))), (5, .val (.int .i64 q.2)), (1, .val (.int .i64 lim))], [], 0⟩) (fun q => q.1 ≤ l.length ∧ ris lim (-1) l = ris lim q.2 (l.drop q.1)) (fun q => l.length - q.1) (0, -1) ⟨Nat.zero_le _, rfl⟩ (Wk.stp (l := []) ⟨rfl, by decide, rfl, Nat.zero_le _, ⟨rfl, rfl, rfl, rfl, rfl, trivial⟩, trivial⟩) ?_
  rintro ⟨i, last⟩ ⟨hi, hr⟩
  dsimp only at hi hr ⊢
  repeat' ((conv => whnf); first
    | with_reducible first | refine spB_t ?_
    | with_reducible first | refine spB_no (by decide) ?_
    | (with_reducible refine spB_dec ?_ ?_ <;> intro _ <;> (try (exfalso; first | contradiction | omega | (rename_i hz; with_reducible exact absurd rfl hz))))
    | ((with_reducible apply ixN_litp); (focus (exact rfl)); (focus ((try simp only [LN] at *) <;> omega)))
    | with_reducible refine wr_i64 (by first | omega | (simp only [LN] at *; omega)) ?_
    | ((with_reducible refine rowN_map ?_ ?_); (focus ((try simp only [LN] at *) <;> omega)); intro x hx))
  all_goals (try (conv => whnf))
  all_goals first
    | (refine ⟨⟨(i + 1, x), ⟨by (try simp only [LN] at *) <;> omega, ?_⟩, by (try simp only [List.length_map] at *); (try dsimp only); omega, (Wk.stp (l := []) ⟨rfl, by decide, rfl, Nat.zero_le _, ⟨rfl, rfl, rfl, rfl, rfl, trivial⟩, trivial⟩)⟩⟩
       dsimp only; rw [hr, drop_cons8 hx, ris, decide_eq_true (by omega), Bool.true_and])
    | (refine ret0 _ rfl _ rfl (fun _ => rfl) rfl ⟨?_, rfl, rfl⟩; refine rv_bool ?_; rw [hr, drop_cons8 hx, ris, decide_eq_false (by omega), Bool.false_and])
    | (refine ret0 _ rfl _ rfl (fun _ => rfl) rfl ⟨?_, rfl, rfl⟩; refine rv_bool ?_; rw [hr, List.drop_eq_nil_of_le (by (try simp only [LN] at *) <;> omega)]; rfl)
    | (fail)
theorem okO_e {x : Bool} {p q : Prop} [Decidable p] [Decidable q] (h : x = true ↔ p ∧ q) : x = (decide p && decide q) := by
  rw [Bool.eq_iff_iff, h, Bool.and_eq_true, decide_eq_true_eq, decide_eq_true_eq]
theorem okO_f {p q : Prop} [Decidable p] [Decidable q] (h : ¬ (p ∧ q)) : false = (decide p && decide q) := by
  cases hh : (decide p && decide q) with
  | false => rfl
  | true => simp only [Bool.and_eq_true, decide_eq_true_eq] at hh; exact absurd hh h
theorem alone_t (t w a b : Int) (ins : List Int) (hl : ins.length ≤ 9223372036854775807) (hr : ris 8 (-1) ins = true) : Con Try.prog 52 [.agg [.v (.int .i64 t), .v (.int .i64 w), .ro false 1 (ins.map eI), .v (.int .i64 a), .v (.int .i64 b)], .one (.v (.int .i64 8))] (fun rx rK rt => rx = .val (.bool (okO t w ins a b)) ∧ rK = [] ∧ rt = 0) := by
  refine con_of tabOk 118 Try.f52 _ Try.func52 (by kernel_rfl) rfl rfl rfl rfl (fun W => ?_)
  have c1 := rising_con ins 8 hl; rw [hr] at c1
  repeat' ((conv => whnf); first
    | with_reducible first | refine spB_t ?_
    | ((with_reducible apply spB_cong); (focus (simp only [beq_self_eq_true, bne_self_eq_false, Bool.true_bne, Bool.false_bne, Bool.bne_true, Bool.bne_false, Bool.true_beq, Bool.false_beq, Bool.not_true, Bool.not_false, Bool.not_not, Int.reduceBEq, Int.reduceBNe, Int.reduceLE, Int.reduceLT, Int.reduceEq, decide_true, decide_false]; rfl)))
    | with_reducible first | refine spB_no (by decide) ?_
    | (with_reducible refine spB_dec ?_ ?_ <;> intro _ <;> (try (exfalso; first | contradiction | omega | (rename_i hz; with_reducible exact absurd rfl hz))))
    | (with_reducible refine spB_beq ?_ ?_ <;> intro _ <;> (try (exfalso; first | contradiction | omega | (rename_i hz; with_reducible exact absurd rfl hz))))
    | ((with_reducible apply call_con2 ?_ (c1) ?_);(first | (focus exact ⟨rfl, rfl, trivial⟩)); rintro _ _ _ ⟨rfl, rfl, rfl⟩))
  all_goals (try (conv => whnf))
  all_goals refine ret0 _ rfl _ rfl (fun _ => rfl) rfl ⟨?_, rfl, rfl⟩
  all_goals (refine rv_bool ?_; unfold okO; rw [hr]; simp only [Bool.and_true, Bool.and_false, Bool.false_and] <;> first | exact okO_t (by omega) (by unfold tagP; (try simp only [LN] at *) <;> omega) | exact okO_f (by unfold tagP; (try simp only [LN] at *) <;> omega) | rfl | (refine okO_e ?_; simp only [beq_iff_eq, decide_eq_true_eq, List.length_map]; unfold tagP; (try simp only [LN] at *) <;> omega) | (fail))
theorem alone_f (t w a b : Int) (ins : List Int) (hl : ins.length ≤ 9223372036854775807) (hr : ris 8 (-1) ins = false) : Con Try.prog 52 [.agg [.v (.int .i64 t), .v (.int .i64 w), .ro false 1 (ins.map eI), .v (.int .i64 a), .v (.int .i64 b)], .one (.v (.int .i64 8))] (fun rx rK rt => rx = .val (.bool (okO t w ins a b)) ∧ rK = [] ∧ rt = 0) := by
  refine con_of tabOk 118 Try.f52 _ Try.func52 (by kernel_rfl) rfl rfl rfl rfl (fun W => ?_)
  have c1 := rising_con ins 8 hl; rw [hr] at c1
  repeat' ((conv => whnf); first
    | with_reducible first | refine spB_t ?_
    | ((with_reducible apply spB_cong); (focus (simp only [beq_self_eq_true, bne_self_eq_false, Bool.true_bne, Bool.false_bne, Bool.bne_true, Bool.bne_false, Bool.true_beq, Bool.false_beq, Bool.not_true, Bool.not_false, Bool.not_not, Int.reduceBEq, Int.reduceBNe, Int.reduceLE, Int.reduceLT, Int.reduceEq, decide_true, decide_false]; rfl)))
    | with_reducible first | refine spB_no (by decide) ?_
    | (with_reducible refine spB_dec ?_ ?_ <;> intro _ <;> (try (exfalso; first | contradiction | omega | (rename_i hz; with_reducible exact absurd rfl hz))))
    | ((with_reducible apply call_con2 ?_ (c1) ?_);(first | (focus exact ⟨rfl, rfl, trivial⟩)); rintro _ _ _ ⟨rfl, rfl, rfl⟩))
  all_goals (try (conv => whnf))
  all_goals refine ret0 _ rfl _ rfl (fun _ => rfl) rfl ⟨?_, rfl, rfl⟩
  all_goals (refine rv_bool ?_; unfold okO; rw [hr]; simp only [Bool.and_true, Bool.and_false, Bool.false_and] <;> first | exact okO_t (by omega) (by unfold tagP; (try simp only [LN] at *) <;> omega) | exact okO_f (by unfold tagP; (try simp only [LN] at *) <;> omega) | rfl | (refine okO_e ?_; simp only [beq_iff_eq, decide_eq_true_eq, List.length_map]; unfold tagP; (try simp only [LN] at *) <;> omega) | (fail))
theorem alone_con (t w a b : Int) (ins : List Int) (hl : ins.length ≤ 9223372036854775807) : Con Try.prog 52 [.agg [.v (.int .i64 t), .v (.int .i64 w), .ro false 1 (ins.map eI), .v (.int .i64 a), .v (.int .i64 b)], .one (.v (.int .i64 8))] (fun rx rK rt => rx = .val (.bool (okO t w ins a b)) ∧ rK = [] ∧ rt = 0) := by
  cases hr : ris 8 (-1) ins with
  | true => exact alone_t t w a b ins hl hr
  | false => exact alone_f t w a b ins hl hr
end Ops
end Go.Proofs.Ytehhmkdghgabaaa
namespace Go.Proofs.Ytehhmkdghgabaaa
open Go Go.RowKit Wx
set_option linter.unusedVariables false
set_option linter.unusedSimpArgs false
set_option maxHeartbeats 4000000
namespace Ops
end Ops
end Go.Proofs.Ytehhmkdghgabaaa
namespace Go.Proofs.Ytehhmkdghgabaaa
open Go Go.RowKit Wx
set_option linter.unusedVariables false
set_option linter.unusedSimpArgs false
set_option maxHeartbeats 4000000
namespace Ops
theorem may_con (t w a b : Int) (ins : List Int) (hl : ins.length ≤ 9223372036854775807) : Con Try.prog 94 [.agg [.v (.int .i64 t), .v (.int .i64 w), .ro false 1 (ins.map eI), .v (.int .i64 a), .v (.int .i64 b)]] (fun rx rK rt => rx = .val (.bool (okO t w ins a b)) ∧ rK = [] ∧ rt = 0) := by
  refine con_of tabOk 5 Try.f94 _ Try.func94 (by kernel_rfl) rfl rfl rfl rfl (fun W => ?_)
  repeat' ((conv => whnf); first
    | ((with_reducible apply call_con2 ?_ (alone_con _ _ _ _ _ hl) ?_);(first | (rotate_left 4; (focus exact ⟨⟨rfl, rfl, rfl, rfl, rfl, trivial⟩, rfl, trivial⟩))); rintro _ _ _ ⟨rfl, rfl, rfl⟩))
  all_goals (try (conv => whnf))
  all_goals refine ret0 _ rfl _ rfl (fun _ => rfl) rfl ⟨?_, rfl, rfl⟩
  all_goals rfl
theorem bool_e {x : Bool} {p : Prop} [Decidable p] (h : x = true ↔ p) : x = decide p := by rw [Bool.eq_iff_iff, h, decide_eq_true_eq]
theorem fits_con (t w a b c s : Int) (ins : List Int)  : Con Try.prog 95 [.agg [.v (.int .i64 t), .v (.int .i64 w), .ro false 1 (ins.map eI), .v (.int .i64 a), .v (.int .i64 b)], .agg [.v (.int .i64 c), .v (.int .i64 s)]] (fun rx rK rt => rx = .val (.bool (decide (fitP t a (c, s)))) ∧ rK = [] ∧ rt = 0) := by
  refine con_of tabOk 31 Try.f95 _ Try.func95 (by kernel_rfl) rfl rfl rfl rfl (fun W => ?_)
  repeat' ((conv => whnf); first
    | with_reducible first | refine spB_t ?_
    | with_reducible first | refine spB_no (by decide) ?_ | refine spB_not ?_
    | (with_reducible refine spB_dec ?_ ?_ <;> intro _ <;> (try (exfalso; first | contradiction | omega | (rename_i hz; with_reducible exact absurd rfl hz))))
    | (with_reducible refine spB_beq ?_ ?_ <;> intro _ <;> (try (exfalso; first | contradiction | omega | (rename_i hz; with_reducible exact absurd rfl hz))))
    | ((with_reducible apply call_con2 ?_ (keeps_con _ _ _ _ _) ?_);(first | (rotate_left 5; (focus exact ⟨⟨rfl, rfl, rfl, rfl, rfl, trivial⟩, trivial⟩))); rintro _ _ _ ⟨rfl, rfl, rfl⟩))
  all_goals (try (conv => whnf))
  all_goals refine ret0 _ rfl _ rfl (fun _ => rfl) rfl ⟨?_, rfl, rfl⟩
  all_goals (refine rv_bool ?_; first | exact bool_t (by unfold fitP; split <;> omega) | exact bool_f (by unfold fitP; split <;> omega) | (refine bool_e ?_; simp only [Bool.and_true, beq_iff_eq, bne_iff_ne, Bool.and_eq_true, decide_eq_true_eq]; unfold fitP; split <;> omega) | (fail))
end Ops
end Go.Proofs.Ytehhmkdghgabaaa
namespace Go.Proofs.Ytehhmkdghgabaaa
open Go Go.RowKit Wx
set_option linter.unusedVariables false
set_option linter.unusedSimpArgs false
set_option maxHeartbeats 4000000
namespace Ops
theorem con_mono {P : Program} {g : FuncId} {args : List A0} {p q : AV → Kr → Nat → Prop} (h : Con P g args p) (hh : ∀ x K t, p x K t → q x K t) : Con P g args q := ⟨h.fn, fun w vs hv => (h.run w vs hv).mono fun e w2 ⟨v, x, Kc, tc, I, Rf, h1, h2, h3, h4, h5, h6⟩ => ⟨v, x, Kc, tc, I, Rf, h1, h2, h3, h4, h5, hh _ _ _ h6⟩⟩
theorem con_to {P : Program} {g : FuncId} {args : List A0} {X X' : AV} {K : Kr} {t : Nat} (h : Con P g args (fun rx rK rt => rx = X ∧ rK = K ∧ rt = t)) (hx : ∀ I R v, X.rel I R v → X'.rel I R v) : Con P g args (fun rx rK rt => rx = X' ∧ rK = K ∧ rt = t) :=
  ⟨h.fn, fun w vs hv => (h.run w vs hv).mono fun e w2 ⟨v, x, Kc, tc, I, Rf, h1, h2, h3, h4, h5, h6, h7, h8⟩ => ⟨v, X', Kc, tc, I, Rf, h1, h2, h3, h4, hx _ _ _ (h6 ▸ h5), rfl, h7, h8⟩⟩
theorem nil_ro {a e : A0} {I : IM} {R : RM} {v : Value} (h : (AV.tup [a, .one (.v (.slice none 0 0)), e]).rel I R v) : (AV.tup [a, .one (.ro true 1 []), e]).rel I R v := by
  obtain ⟨vs, h1, h2⟩ := h
  cases vs with
  | nil => exact h2.elim
  | cons x vs => cases vs with
    | nil => exact h2.2.elim
    | cons y vs =>
      refine ⟨_, h1, h2.1, ?_, h2.2.2⟩
      have : y = .slice none 0 0 := h2.2.1
      subst this
      exact Rd.nil 1
def fullB (t a b : Int) : Int × Int → List Int → Bool
  | _, [] => false
  | c, v :: r => decide (c.1 = 9223372036854775807) || fullB t a b (stp t a b c v).1 r
theorem full_t {t a b : Int} : ∀ {l : List Int} {c : Int × Int}, (∃ j, j < l.length ∧ (fs t a b c (l.take j)).1.1 = 9223372036854775807) → fullB t a b c l = true
  | [], _, ⟨j, h, _⟩ => absurd h (Nat.not_lt_zero _)
  | v :: r, c, ⟨0, _, h2⟩ => by unfold fullB; rw [decide_eq_true (by simpa [fs] using h2)]; rfl
  | v :: r, c, ⟨j + 1, h1, h2⟩ => by
    unfold fullB
    rw [full_t (l := r) ⟨j, by simpa using h1, by rw [List.take_succ_cons, fs_cons] at h2; exact h2⟩, Bool.or_true]
theorem full_f {t a b : Int} : ∀ {l : List Int} {c : Int × Int}, (∀ j, j < l.length → (fs t a b c (l.take j)).1.1 ≠ 9223372036854775807) → fullB t a b c l = false
  | [], _, _ => rfl
  | v :: r, c, h => by
    unfold fullB
    rw [decide_eq_false (by have := h 0 (by simp); simpa [fs] using this), full_f (l := r) (fun j hj => by have := h (j + 1) (by simpa using hj); rw [List.take_succ_cons, fs_cons] at this; exact this)]; rfl
def runG (t a b c s : Int) (l : List Int) : (Int × Int) × List Int × Int := if fullB t a b (c, s) l = true then ((0, 0), [], 6) else ((fs t a b (c, s) l).1, (fs t a b (c, s) l).2, 0)
def runF (t w : Int) (ins : List Int) (a b c s : Int) (l : List Int) : (Int × Int) × List Int × Int :=
  if 40 < l.length then ((0, 0), [], 3) else if okO t w ins a b = false then ((0, 0), [], 180) else if ¬ fitP t a (c, s) then ((0, 0), [], 181) else runG t a b c s l
theorem okO_tag {t w a b : Int} {ins : List Int} (h : okO t w ins a b = true) : tagP t ins.length a b := by
  unfold okO at h; simp only [Bool.and_eq_true, decide_eq_true_eq] at h; exact h.2
theorem rung_con (t w a b c s : Int) (ins : List Int) (l : List Int) (hok : okO t w ins a b = true) (hf : fitP t a (c, s)) (hc : c ≤ 9223372036854775807) (hl : l.length ≤ 40) : Con Try.prog 89 [.agg [.v (.int .i64 t), .v (.int .i64 w), .ro false 1 (ins.map eI), .v (.int .i64 a), .v (.int .i64 b)], .agg [.v (.int .i64 c), .v (.int .i64 s)], .one (.ro false 1 (l.map eI))] (fun rx rK rt => rx = .tup [.agg [.v (.int .i64 (runG t a b c s l).1.1), .v (.int .i64 (runG t a b c s l).1.2)], .one (.ro true 1 ((runG t a b c s l).2.1.map eI)), .one (.v (.int .i64 (runG t a b c s l).2.2))] ∧ rK = [] ∧ rt = 0) := by
  have ht := okO_tag hok
  have h0 := (fit_low ht hf).1
  cases hfu : fullB t a b (c, s) l with
  | true =>
    have hr : runG t a b c s l = ((0, 0), [], 6) := by unfold runG; rw [if_pos hfu]
    rw [hr]
    refine con_to (X := .tup [.agg [.v (.int .i64 0), .v (.int .i64 0)], .one (.v (.slice none 0 0)), .one (.v (.int .i64 6))]) ?_ (fun I R v h => nil_ro h)
    rcases ht with ⟨rfl, _⟩ | ⟨rfl, _⟩ | ⟨rfl, _⟩ | ⟨rfl | rfl, _⟩ | ⟨rfl, _⟩ | ⟨rfl, _⟩
    · exact con_mono (run1_con w ins a b c s l ⟨h0, hc⟩ hl) (fun rx rK rt h => h.elim (fun h => h.2) (fun h => by have := full_f h.1; rw [hfu] at this; cases this))
    · exact con_mono (run2_con w ins a b c s l ⟨h0, hc⟩ hl) (fun rx rK rt h => h.elim (fun h => h.2) (fun h => by have := full_f h.1; rw [hfu] at this; cases this))
    · exact con_mono (run3_con w ins a b c s l ⟨h0, hc⟩ hl) (fun rx rK rt h => h.elim (fun h => h.2) (fun h => by have := full_f h.1; rw [hfu] at this; cases this))
    · exact con_mono (run4_con w ins a b c s l ⟨h0, hc⟩ hl) (fun rx rK rt h => h.elim (fun h => h.2) (fun h => by have := full_f h.1; rw [hfu] at this; cases this))
    · exact con_mono (run7_con w ins a b c s l ⟨h0, hc⟩ hl) (fun rx rK rt h => h.elim (fun h => h.2) (fun h => by have := full_f h.1; rw [hfu] at this; cases this))
    · exact con_mono (run5_con w ins a b c s l ⟨h0, hc⟩ hl) (fun rx rK rt h => h.elim (fun h => h.2) (fun h => by have := full_f h.1; rw [hfu] at this; cases this))
    · exact con_mono (run6_con w ins a b c s l ⟨h0, hc⟩ hl) (fun rx rK rt h => h.elim (fun h => h.2) (fun h => by have := full_f h.1; rw [hfu] at this; cases this))
  | false =>
    have hr : runG t a b c s l = ((fs t a b (c, s) l).1, (fs t a b (c, s) l).2, 0) := by unfold runG; rw [if_neg (by rw [hfu]; simp)]
    rw [hr]
    rcases ht with ⟨rfl, _⟩ | ⟨rfl, _⟩ | ⟨rfl, _⟩ | ⟨rfl | rfl, _⟩ | ⟨rfl, _⟩ | ⟨rfl, _⟩
    · exact con_mono (run1_con w ins a b c s l ⟨h0, hc⟩ hl) (fun rx rK rt h => h.elim (fun h => by have := full_t h.1; rw [hfu] at this; cases this) (fun h => h.2))
    · exact con_mono (run2_con w ins a b c s l ⟨h0, hc⟩ hl) (fun rx rK rt h => h.elim (fun h => by have := full_t h.1; rw [hfu] at this; cases this) (fun h => h.2))
    · exact con_mono (run3_con w ins a b c s l ⟨h0, hc⟩ hl) (fun rx rK rt h => h.elim (fun h => by have := full_t h.1; rw [hfu] at this; cases this) (fun h => h.2))
    · exact con_mono (run4_con w ins a b c s l ⟨h0, hc⟩ hl) (fun rx rK rt h => h.elim (fun h => by have := full_t h.1; rw [hfu] at this; cases this) (fun h => h.2))
    · exact con_mono (run7_con w ins a b c s l ⟨h0, hc⟩ hl) (fun rx rK rt h => h.elim (fun h => by have := full_t h.1; rw [hfu] at this; cases this) (fun h => h.2))
    · exact con_mono (run5_con w ins a b c s l ⟨h0, hc⟩ hl) (fun rx rK rt h => h.elim (fun h => by have := full_t h.1; rw [hfu] at this; cases this) (fun h => h.2))
    · exact con_mono (run6_con w ins a b c s l ⟨h0, hc⟩ hl) (fun rx rK rt h => h.elim (fun h => by have := full_t h.1; rw [hfu] at this; cases this) (fun h => h.2))
theorem check_con (t w a b c s : Int) (ins : List Int) (hi : ins.length ≤ 9223372036854775807) : Con Try.prog 88 [.agg [.v (.int .i64 t), .v (.int .i64 w), .ro false 1 (ins.map eI), .v (.int .i64 a), .v (.int .i64 b)], .agg [.v (.int .i64 c), .v (.int .i64 s)]] (fun rx rK rt => rx = .val (.int .i64 (if okO t w ins a b = false then 180 else if ¬ fitP t a (c, s) then 181 else 0)) ∧ rK = [] ∧ rt = 0) := by
  have c1 := may_con t w a b ins hi
  have c2 := fits_con t w a b c s ins
  cases hok : okO t w ins a b <;> by_cases hf : fitP t a (c, s)
  · rw [hok] at c1; simp only [decide_eq_true hf] at c2
    refine con_of tabOk 14 Try.f88 _ Try.func88 (by kernel_rfl) rfl rfl rfl rfl (fun W => ?_)
    repeat' ((conv => whnf); first
      | with_reducible first | refine spB_t ?_
      | ((with_reducible apply spB_cong); (focus (simp only [beq_self_eq_true, bne_self_eq_false, Bool.true_bne, Bool.false_bne, Bool.bne_true, Bool.bne_false, Bool.true_beq, Bool.false_beq, Bool.not_true, Bool.not_false, Bool.not_not, Int.reduceBEq, Int.reduceBNe, Int.reduceLE, Int.reduceLT, Int.reduceEq, decide_true, decide_false]; rfl)))
      | ((with_reducible apply call_con2 ?_ (c1) ?_);(first | (focus exact ⟨⟨rfl, rfl, rfl, rfl, rfl, trivial⟩, trivial⟩)); rintro _ _ _ ⟨rfl, rfl, rfl⟩))
    all_goals (try (conv => whnf))
    all_goals refine ret0 _ rfl _ rfl (fun _ => rfl) rfl ⟨?_, rfl, rfl⟩
    all_goals (refine rv_int ?_; simp [hf])
  · rw [hok] at c1; simp only [decide_eq_false hf] at c2
    refine con_of tabOk 14 Try.f88 _ Try.func88 (by kernel_rfl) rfl rfl rfl rfl (fun W => ?_)
    repeat' ((conv => whnf); first
      | with_reducible first | refine spB_t ?_
      | ((with_reducible apply spB_cong); (focus (simp only [beq_self_eq_true, bne_self_eq_false, Bool.true_bne, Bool.false_bne, Bool.bne_true, Bool.bne_false, Bool.true_beq, Bool.false_beq, Bool.not_true, Bool.not_false, Bool.not_not, Int.reduceBEq, Int.reduceBNe, Int.reduceLE, Int.reduceLT, Int.reduceEq, decide_true, decide_false]; rfl)))
      | ((with_reducible apply call_con2 ?_ (c1) ?_);(first | (focus exact ⟨⟨rfl, rfl, rfl, rfl, rfl, trivial⟩, trivial⟩)); rintro _ _ _ ⟨rfl, rfl, rfl⟩))
    all_goals (try (conv => whnf))
    all_goals refine ret0 _ rfl _ rfl (fun _ => rfl) rfl ⟨?_, rfl, rfl⟩
    all_goals (refine rv_int ?_; simp [hf])
  · rw [hok] at c1; simp only [decide_eq_true hf] at c2
    refine con_of tabOk 14 Try.f88 _ Try.func88 (by kernel_rfl) rfl rfl rfl rfl (fun W => ?_)
    repeat' ((conv => whnf); first
      | ((with_reducible apply spB_cong); (focus (simp only [beq_self_eq_true, bne_self_eq_false, Bool.true_bne, Bool.false_bne, Bool.bne_true, Bool.bne_false, Bool.true_beq, Bool.false_beq, Bool.not_true, Bool.not_false, Bool.not_not, Int.reduceBEq, Int.reduceBNe, Int.reduceLE, Int.reduceLT, Int.reduceEq, decide_true, decide_false]; rfl)))
      | with_reducible first | refine spB_no (by decide) ?_
      | ((with_reducible apply call_con2 ?_ (c1) ?_);(first | (focus exact ⟨⟨rfl, rfl, rfl, rfl, rfl, trivial⟩, trivial⟩)); rintro _ _ _ ⟨rfl, rfl, rfl⟩)
      | ((with_reducible apply call_con2 ?_ (c2) ?_);(first | (focus exact ⟨⟨rfl, rfl, rfl, rfl, rfl, trivial⟩, ⟨rfl, rfl, trivial⟩, trivial⟩)); rintro _ _ _ ⟨rfl, rfl, rfl⟩))
    all_goals (try (conv => whnf))
    all_goals refine ret0 _ rfl _ rfl (fun _ => rfl) rfl ⟨?_, rfl, rfl⟩
    all_goals (refine rv_int ?_; simp [hf])
  · rw [hok] at c1; simp only [decide_eq_false hf] at c2
    refine con_of tabOk 14 Try.f88 _ Try.func88 (by kernel_rfl) rfl rfl rfl rfl (fun W => ?_)
    repeat' ((conv => whnf); first
      | with_reducible first | refine spB_t ?_
      | ((with_reducible apply spB_cong); (focus (simp only [beq_self_eq_true, bne_self_eq_false, Bool.true_bne, Bool.false_bne, Bool.bne_true, Bool.bne_false, Bool.true_beq, Bool.false_beq, Bool.not_true, Bool.not_false, Bool.not_not, Int.reduceBEq, Int.reduceBNe, Int.reduceLE, Int.reduceLT, Int.reduceEq, decide_true, decide_false]; rfl)))
      | with_reducible first | refine spB_no (by decide) ?_
      | ((with_reducible apply call_con2 ?_ (c1) ?_);(first | (focus exact ⟨⟨rfl, rfl, rfl, rfl, rfl, trivial⟩, trivial⟩)); rintro _ _ _ ⟨rfl, rfl, rfl⟩)
      | ((with_reducible apply call_con2 ?_ (c2) ?_);(first | (focus exact ⟨⟨rfl, rfl, rfl, rfl, rfl, trivial⟩, ⟨rfl, rfl, trivial⟩, trivial⟩)); rintro _ _ _ ⟨rfl, rfl, rfl⟩))
    all_goals (try (conv => whnf))
    all_goals refine ret0 _ rfl _ rfl (fun _ => rfl) rfl ⟨?_, rfl, rfl⟩
    all_goals (refine rv_int ?_; simp [hf])
end Ops
end Go.Proofs.Ytehhmkdghgabaaa
namespace Go.Proofs.Ytehhmkdghgabaaa
open Go Go.RowKit Wx
set_option linter.unusedVariables false
set_option linter.unusedSimpArgs false
set_option maxHeartbeats 4000000
namespace Ops
theorem Run_con (t w a b c s : Int) (ins : List Int) (l : List Int) (hi : ins.length ≤ 9223372036854775807) (hc : c ≤ 9223372036854775807) (hl : l.length ≤ 9223372036854775807) : Con Try.prog 44 [.agg [.v (.int .i64 t), .v (.int .i64 w), .ro false 1 (ins.map eI), .v (.int .i64 a), .v (.int .i64 b)], .agg [.v (.int .i64 c), .v (.int .i64 s)], .one (.ro false 1 (l.map eI))] (fun rx rK rt => rx = .tup [.agg [.v (.int .i64 (runF t w ins a b c s l).1.1), .v (.int .i64 (runF t w ins a b c s l).1.2)], .one (.ro true 1 ((runF t w ins a b c s l).2.1.map eI)), .one (.v (.int .i64 (runF t w ins a b c s l).2.2))] ∧ rK = [] ∧ rt = 0) := by
  have c1 := check_con t w a b c s ins hi
  by_cases h40 : 40 < l.length
  · rw [show runF t w ins a b c s l = ((0, 0), [], 3) by unfold runF; rw [if_pos h40]]
    refine con_to (X := .tup [.agg [.v (.int .i64 0), .v (.int .i64 0)], .one (.v (.slice none 0 0)), .one (.v (.int .i64 3))]) ?_ (fun I R v h => nil_ro h)
    refine con_of tabOk 28 Try.f44 _ Try.func44 (by kernel_rfl) rfl rfl rfl rfl (fun W => ?_)
    repeat' ((conv => whnf); first
      | (with_reducible refine spB_dec ?_ ?_ <;> intro _ <;> (try (exfalso; first | contradiction | omega | (rename_i hz; with_reducible exact absurd rfl hz))))
      | (with_reducible refine spB_bne ?_ ?_ <;> intro _ <;> (try (exfalso; first | contradiction | omega | (rename_i hz; with_reducible exact absurd rfl hz))))
      | ((with_reducible apply call_con2 ?_ (c1) ?_);(first | (focus exact ⟨⟨rfl, rfl, rfl, rfl, rfl, trivial⟩, ⟨rfl, rfl, trivial⟩, trivial⟩)); rintro _ _ _ ⟨rfl, rfl, rfl⟩))
    all_goals (try (conv => whnf))
    all_goals first | (refine ret0 _ rfl _ rfl (fun _ => rfl) rfl ⟨?_, rfl, rfl⟩; rfl) | (exfalso; (try simp only [LN] at *) <;> omega) | (fail)
  by_cases hok : okO t w ins a b = false
  · rw [show runF t w ins a b c s l = ((0, 0), [], 180) by unfold runF; rw [if_neg h40, if_pos hok]]
    rw [if_pos hok] at c1
    refine con_to (X := .tup [.agg [.v (.int .i64 0), .v (.int .i64 0)], .one (.v (.slice none 0 0)), .one (.v (.int .i64 180))]) ?_ (fun I R v h => nil_ro h)
    refine con_of tabOk 28 Try.f44 _ Try.func44 (by kernel_rfl) rfl rfl rfl rfl (fun W => ?_)
    repeat' ((conv => whnf); first
      | with_reducible first | refine spB_t ?_
      | ((with_reducible apply spB_cong); (focus (simp only [beq_self_eq_true, bne_self_eq_false, Bool.true_bne, Bool.false_bne, Bool.bne_true, Bool.bne_false, Bool.true_beq, Bool.false_beq, Bool.not_true, Bool.not_false, Bool.not_not, Int.reduceBEq, Int.reduceBNe, Int.reduceLE, Int.reduceLT, Int.reduceEq, decide_true, decide_false]; rfl)))
      | (with_reducible refine spB_dec ?_ ?_ <;> intro _ <;> (try (exfalso; first | contradiction | omega | (rename_i hz; with_reducible exact absurd rfl hz))))
      | ((with_reducible apply call_con2 ?_ (c1) ?_);(first | (focus exact ⟨⟨rfl, rfl, rfl, rfl, rfl, trivial⟩, ⟨rfl, rfl, trivial⟩, trivial⟩)); rintro _ _ _ ⟨rfl, rfl, rfl⟩))
    all_goals (try (conv => whnf))
    all_goals first | (refine ret0 _ rfl _ rfl (fun _ => rfl) rfl ⟨?_, rfl, rfl⟩; rfl) | (exfalso; (try simp only [LN] at *) <;> omega) | (fail)
  by_cases hf : fitP t a (c, s)
  · have c2 := rung_con t w a b c s ins l (by simpa using hok) hf hc (by omega)
    rw [show runF t w ins a b c s l = runG t a b c s l by unfold runF; rw [if_neg h40, if_neg hok, if_neg (not_not_intro hf)]]
    rw [if_neg hok, if_neg (not_not_intro hf)] at c1
    refine con_of tabOk 28 Try.f44 _ Try.func44 (by kernel_rfl) rfl rfl rfl rfl (fun W => ?_)
    repeat' ((conv => whnf); first
      | ((with_reducible apply spB_cong); (focus (simp only [beq_self_eq_true, bne_self_eq_false, Bool.true_bne, Bool.false_bne, Bool.bne_true, Bool.bne_false, Bool.true_beq, Bool.false_beq, Bool.not_true, Bool.not_false, Bool.not_not, Int.reduceBEq, Int.reduceBNe, Int.reduceLE, Int.reduceLT, Int.reduceEq, decide_true, decide_false]; rfl)))
      | with_reducible first | refine spB_no (by decide) ?_
      | (with_reducible refine spB_dec ?_ ?_ <;> intro _ <;> (try (exfalso; first | contradiction | omega | (rename_i hz; with_reducible exact absurd rfl hz))))
      | ((with_reducible apply call_con2 ?_ (c1) ?_);(first | (focus exact ⟨⟨rfl, rfl, rfl, rfl, rfl, trivial⟩, ⟨rfl, rfl, trivial⟩, trivial⟩)); rintro _ _ _ ⟨rfl, rfl, rfl⟩)
      | ((with_reducible apply call_con2 ?_ (c2) ?_);(first | (focus exact ⟨⟨rfl, rfl, rfl, rfl, rfl, trivial⟩, ⟨rfl, rfl, trivial⟩, rfl, trivial⟩)); rintro _ _ _ ⟨rfl, rfl, rfl⟩))
    all_goals (try (conv => whnf))
    all_goals first | (refine ret0 _ rfl _ rfl (fun _ => rfl) rfl ⟨?_, rfl, rfl⟩; rfl) | (exfalso; (try simp only [LN] at *) <;> omega) | (fail)
  · rw [show runF t w ins a b c s l = ((0, 0), [], 181) by unfold runF; rw [if_neg h40, if_neg hok, if_pos hf]]
    rw [if_neg hok, if_pos hf] at c1
    refine con_to (X := .tup [.agg [.v (.int .i64 0), .v (.int .i64 0)], .one (.v (.slice none 0 0)), .one (.v (.int .i64 181))]) ?_ (fun I R v h => nil_ro h)
    refine con_of tabOk 28 Try.f44 _ Try.func44 (by kernel_rfl) rfl rfl rfl rfl (fun W => ?_)
    repeat' ((conv => whnf); first
      | with_reducible first | refine spB_t ?_
      | ((with_reducible apply spB_cong); (focus (simp only [beq_self_eq_true, bne_self_eq_false, Bool.true_bne, Bool.false_bne, Bool.bne_true, Bool.bne_false, Bool.true_beq, Bool.false_beq, Bool.not_true, Bool.not_false, Bool.not_not, Int.reduceBEq, Int.reduceBNe, Int.reduceLE, Int.reduceLT, Int.reduceEq, decide_true, decide_false]; rfl)))
      | (with_reducible refine spB_dec ?_ ?_ <;> intro _ <;> (try (exfalso; first | contradiction | omega | (rename_i hz; with_reducible exact absurd rfl hz))))
      | ((with_reducible apply call_con2 ?_ (c1) ?_);(first | (focus exact ⟨⟨rfl, rfl, rfl, rfl, rfl, trivial⟩, ⟨rfl, rfl, trivial⟩, trivial⟩)); rintro _ _ _ ⟨rfl, rfl, rfl⟩))
    all_goals (try (conv => whnf))
    all_goals first | (refine ret0 _ rfl _ rfl (fun _ => rfl) rfl ⟨?_, rfl, rfl⟩; rfl) | (exfalso; (try simp only [LN] at *) <;> omega) | (fail)
end Ops
end Go.Proofs.Ytehhmkdghgabaaa
namespace Go.Proofs.Ytehhmkdghgabaaa
open Go Go.RowKit Wx
set_option linter.unusedVariables false
set_option linter.unusedSimpArgs false
set_option maxHeartbeats 4000000
namespace Ops
def doF (t w : Int) (ins : List Int) (a b c s v : Int) : (Int × Int) × List Int × Int :=
  if okO t w ins a b = false then ((0, 0), [], 180) else if ¬ fitP t a (c, s) then ((0, 0), [], 181) else if c = 9223372036854775807 then ((0, 0), [], 6) else ((stp t a b (c, s) v).1, (stp t a b (c, s) v).2, 0)
end Ops
end Go.Proofs.Ytehhmkdghgabaaa
namespace Go.Proofs.Ytehhmkdghgabaaa
open Go Go.RowKit Wx
set_option linter.unusedVariables false
set_option linter.unusedSimpArgs false
set_option maxHeartbeats 4000000
namespace Ops
theorem run_one (t w a b c s v : Int) (ins : List Int) : runF t w ins a b c s [v] = doF t w ins a b c s v := by
  unfold runF doF runG fullB fullB
  rw [if_neg (by simp)]
  split
  · rfl
  · split
    · rfl
    · simp [fs]
theorem doF_len {t w a b c s v : Int} {ins : List Int} : (doF t w ins a b c s v).2.1.length ≤ 1 := by
  unfold doF
  repeat' split
  all_goals first | exact Nat.zero_le _ | exact out_len
theorem do_con (t w a b c s v : Int) (ins : List Int) (hi : ins.length ≤ 9223372036854775807) (hc : c ≤ 9223372036854775807) : Con Try.prog 102 [.agg [.v (.int .i64 t), .v (.int .i64 w), .ro false 1 (ins.map eI), .v (.int .i64 a), .v (.int .i64 b)], .agg [.v (.int .i64 c), .v (.int .i64 s)], .one (.v (.int .i64 v))] (fun rx rK rt => rx = .tup [.agg [.v (.int .i64 (doF t w ins a b c s v).1.1), .v (.int .i64 (doF t w ins a b c s v).1.2)], .one (.ro true 1 ((doF t w ins a b c s v).2.1.map eI)), .one (.v (.int .i64 (doF t w ins a b c s v).2.2))] ∧ rK = [] ∧ rt = 0) := by
  have c1 := Run_con t w a b c s ins [v] hi hc (by simp)
  rw [run_one] at c1
  refine con_of tabOk 17 Try.f102 _ Try.func102 (by kernel_rfl) rfl rfl rfl rfl (fun W => ?_)
  repeat' ((conv => whnf); first
    | ((with_reducible apply call_con2 ?_ (c1) ?_);(first | (focus exact ⟨⟨rfl, rfl, rfl, rfl, rfl, trivial⟩, ⟨rfl, rfl, trivial⟩, ⟨[eI v], rfl, rfl, rfl⟩, trivial⟩)); rintro _ _ _ ⟨rfl, rfl, rfl⟩))
  all_goals (try (conv => whnf))
  all_goals first | (refine ret0 _ rfl _ rfl (fun _ => rfl) rfl ⟨?_, rfl, rfl⟩; rfl) | (fail)
end Ops
end Go.Proofs.Ytehhmkdghgabaaa
namespace Go.Proofs.Ytehhmkdghgabaaa
open Go Go.RowKit Wx
set_option linter.unusedVariables false
set_option linter.unusedSimpArgs false
set_option maxHeartbeats 4000000
structure Rcd where
  src : Int
  key : Int
  val : Int
deriving DecidableEq
abbrev eR (x : Rcd) : List RT := [RT.v (.int .i64 x.src), RT.v (.int .i64 x.key), RT.v (.int .i64 x.val)]
abbrev cR (x : Rcd) : List Ce := [Ce.v (.int .i64 x.src), Ce.v (.int .i64 x.key), Ce.v (.int .i64 x.val)]
structure Opr where
  t : Int
  w : Int
  ins : List Int
  a : Int
  b : Int
def dT (o : Opr) (l : List Kc) (r : Rcd) : List Kc × List Rcd × Int :=
  if keyOk r.src r.key = false then ([], [], 150) else
  if (Ops.doF o.t o.w o.ins o.a o.b (getR l r.src r.key).1 (getR l r.src r.key).2 r.val).2.2 = 0 then
    (putR l r.src r.key (Ops.doF o.t o.w o.ins o.a o.b (getR l r.src r.key).1 (getR l r.src r.key).2 r.val).1, (Ops.doF o.t o.w o.ins o.a o.b (getR l r.src r.key).1 (getR l r.src r.key).2 r.val).2.1.map fun x => ⟨r.src, r.key, x⟩, 0)
  else ([], [], (Ops.doF o.t o.w o.ins o.a o.b (getR l r.src r.key).1 (getR l r.src r.key).2 r.val).2.2)
theorem doF_err {t w : Int} {ins : List Int} {a b c s v : Int} (h : (Ops.doF t w ins a b c s v).2.2 ≠ 0) : Ops.doF t w ins a b c s v = ((0, 0), [], (Ops.doF t w ins a b c s v).2.2) := by
  unfold Ops.doF at *
  split
  · rfl
  · split
    · rfl
    · split
      · rfl
      · rename_i h1 h2 h3; simp [h1, h2, h3] at h
theorem doF_cell {t w : Int} {ins : List Int} {a b c s v : Int} (h : (Ops.doF t w ins a b c s v).2.2 = 0) : (0 < (Ops.doF t w ins a b c s v).1.1 ∨ (Ops.doF t w ins a b c s v).1 = (0, 0)) := by
  unfold Ops.doF at *
  split at h
  · cases h
  · split at h
    · cases h
    · split at h
      · cases h
      · rename_i h1 h2 h3
        have ht := Ops.okO_tag (by simpa using h1)
        have hf := Ops.fit_stp (v := v) ht (Decidable.not_not.1 h2)
        rw [if_neg h1, if_neg h2, if_neg h3]
        simp only
        generalize (Ops.stp t a b (c, s) v).1 = q at *
        unfold Ops.fitP at hf
        split at hf
        · rcases hf with ⟨h5, h6⟩ | ⟨h5, _⟩
          · right; exact Prod.ext h5 h6
          · left; exact h5
        · right; exact Prod.ext hf.1 hf.2
end Go.Proofs.Ytehhmkdghgabaaa
namespace Go.Proofs.Ytehhmkdghgabaaa
open Go Go.RowKit Wx
set_option linter.unusedVariables false
set_option linter.unusedSimpArgs false
set_option maxHeartbeats 4000000
theorem do_z0 (t w a b : Int) (ins : List Int) (l : List Kc) (s k v : Int) (c : Int × Int) (O : List Int) (p : Nat) (hi : ins.length ≤ 9223372036854775807) (hO : O.length ≤ 1) (hl : l.length ≤ 1000) (ht : tabR l = true) (hk : keyOk s k = true) (hr : Ops.doF t w ins a b 0 0 v = (c, O, 0)) (hc : c = (0, 0)) (hth : thereR l s k = false) (hp : posR l s k = p) (hne : l ≠ []) : Con Try.prog 64 [.agg [.v (.int .i64 t), .v (.int .i64 w), .ro false 1 (ins.map Ops.eI), .v (.int .i64 a), .v (.int .i64 b)], .agg [.ro false 4 (l.map eK)], .agg [.v (.int .i64 s), .v (.int .i64 k), .v (.int .i64 v)]] (fun rx rK rt => rx = .tup [.agg [.ro true 4 (l.map eK)], .one (.ro true 3 ((O.map fun x => (⟨s, k, x⟩ : Rcd)).map eR)), .one (.v (.int .i64 0))] ∧ rK = [] ∧ rt = 0) := by
  refine Z.con_ofF tabOk 22 Try.f64 _ Try.func64 (by kernel_rfl) rfl rfl rfl rfl ?_
  have ck := rec_con s k v
  rw [hk] at ck
  simp only [cond_true, cond_false] at ck
  have cf := find_con l s k v hl ht
  rw [hth, hp] at cf
  have cd := Ops.do_con t w a b 0 0 v ins hi (by decide)
  rw [hr] at cd
  dsimp only at cd
  have cw := clonek_con l hl hne
  subst hc
  rcases O with _ | ⟨y, _ | ⟨z, O⟩⟩
  rotate_right 1
  · exact absurd hO (by simp)
  all_goals (
    repeat' ((conv => whnf); first
      | ((with_reducible apply spB_cong); (focus (simp only [beq_self_eq_true, bne_self_eq_false, Bool.true_bne, Bool.false_bne, Bool.bne_true, Bool.bne_false, Bool.true_beq, Bool.false_beq, Bool.not_true, Bool.not_false, Bool.not_not, Int.reduceBEq, Int.reduceBNe, Int.reduceLE, Int.reduceLT, Int.reduceEq, decide_true, decide_false]; rfl)))
      | with_reducible first | refine spB_no (by decide) ?_
      | (with_reducible refine spB_dec ?_ ?_ <;> intro _ <;> (try (exfalso; first | contradiction | omega | (rename_i hz; refine hz ?_; simp; done) | (rename_i hz; simp at hz; done) | (simp only [LN] at *; omega))))
      | with_reducible first | refine Z.loopZ_unroll tabOk 3 ?_
      | ((with_reducible refine posE_pos ?_ ?_); (focus ((try simp only [LN] at *) <;> omega)))
      | ((with_reducible apply rowN_mk); (focus rfl))
      | ((with_reducible apply ixN_lit); (focus (exact rfl)); (focus (exact rfl)))
      | ((with_reducible refine apdN.mk ?_ ?_ ?_ ?_ ?_ ?_); (focus (first | rfl)); (focus (first | exact one_all (by rfl))); (focus ((try simp only [LN] at *) <;> omega)); (focus ((try simp only [LN] at *) <;> omega)); (focus ((try simp only [LN] at *) <;> omega)))
      | with_reducible refine wr_i64 (by first | omega | (simp only [LN] at *; omega)) ?_
      | with_reducible first | refine Z.callZ_in tabOk 38 Try.f101 _ Try.func101 (by kernel_rfl) rfl rfl rfl ?_ | refine Z.callZ_in tabOk 67 Try.f60 _ Try.func60 (by kernel_rfl) rfl rfl rfl ?_
      | ((first | (with_reducible refine Z.callZ_mk ?_ (cd) ?_) | (with_reducible refine Z.callZ_mk ?_ (ck) ?_) | (with_reducible refine Z.callZ_mk ?_ (cf) ?_) | (with_reducible refine Z.callZ_mk ?_ (cw) ?_)); (focus ((repeat' (first | exact trivial | exact rfl | apply And.intro)); done)))
      | ((with_reducible apply ex_and); exact rfl)
      | with_reducible first | refine Z.drawZ_rule tabOk mixOk ?_ | refine Z.apZ_mk (by kernel_rfl) ?_)
    all_goals (try (conv => whnf)))
  all_goals try (show Nat.ble _ _ = true; rfl)
  all_goals try (exfalso; rename_i hz; cases hz; done)
  all_goals try (exfalso; (try simp only [LN] at *) <;> omega)
  all_goals first
    | ((first | (with_reducible apply Z.retF2)); (focus (exact rfl)); (repeat' (first | exact trivial | (refine Z.frz_osl (l := l) (f := cK) (ty := 74) (bx := false) (by first | rfl | exact congrArg (fun r => some (⟨r, 4, 74, false⟩ : Blk)) (ren_map fun _ => rfl)) rfl (fun _ => rfl)) | (refine Z.fq_gsl (l := [(⟨s, k, y⟩ : Rcd)]) (f := cR) (g := eR) (sz := 3) (ty := 39) rfl (fun _ => rfl) ?_) | (with_reducible apply Z.frz_one) | (with_reducible apply Z.frz_agg) | (with_reducible apply Z.fq_int) | (exact Z.frz_nil) | exact rfl | apply And.intro)); (all_goals (try exact (fun _ => none))); all_goals (first | (simp; done)))
end Go.Proofs.Ytehhmkdghgabaaa
namespace Go.Proofs.Ytehhmkdghgabaaa
open Go Go.RowKit Wx
set_option linter.unusedVariables false
set_option linter.unusedSimpArgs false
set_option maxHeartbeats 4000000
theorem do_na (t w a b : Int) (ins : List Int) (l : List Kc) (s k v : Int) (c : Int × Int) (O : List Int) (p : Nat) (hi : ins.length ≤ 9223372036854775807) (hO : O.length ≤ 1) (hl : l.length ≤ 1000) (ht : tabR l = true) (hk : keyOk s k = true) (hr : Ops.doF t w ins a b 0 0 v = (c, O, 0)) (hc : 0 < c.1) (hth : thereR l s k = false) (hp : posR l s k = p) (hne : l ≠ []) (hpl : p = l.length) : Con Try.prog 64 [.agg [.v (.int .i64 t), .v (.int .i64 w), .ro false 1 (ins.map Ops.eI), .v (.int .i64 a), .v (.int .i64 b)], .agg [.ro false 4 (l.map eK)], .agg [.v (.int .i64 s), .v (.int .i64 k), .v (.int .i64 v)]] (fun rx rK rt => rx = .tup [.agg [.ro true 4 ((l ++ [(⟨s, k, c.1, c.2⟩ : Kc)]).map eK)], .one (.ro true 3 ((O.map fun x => (⟨s, k, x⟩ : Rcd)).map eR)), .one (.v (.int .i64 0))] ∧ rK = [] ∧ rt = 0) := by
  refine Z.con_ofF tabOk 22 Try.f64 _ Try.func64 (by kernel_rfl) rfl rfl rfl rfl ?_
  have ck := rec_con s k v
  rw [hk] at ck
  simp only [cond_true, cond_false] at ck
  have cf := find_con l s k v hl ht
  rw [hth, hp] at cf
  have cd := Ops.do_con t w a b 0 0 v ins hi (by decide)
  rw [hr] at cd
  dsimp only at cd
  have hcz : (c.1 == 0 && (c.2 == 0 && true)) = false := by rw [show (c.1 == 0) = false by simp; omega]; rfl
  have cw := clonek_con l hl hne
  subst hpl
  rcases O with _ | ⟨y, _ | ⟨z, O⟩⟩
  rotate_right 1
  · exact absurd hO (by simp)
  all_goals (
    repeat' ((conv => whnf); first
      | with_reducible first | refine spB_t ?_
      | ((with_reducible apply spB_cong); (focus (simp only [beq_self_eq_true, bne_self_eq_false, Bool.true_bne, Bool.false_bne, Bool.bne_true, Bool.bne_false, Bool.true_beq, Bool.false_beq, Bool.not_true, Bool.not_false, Bool.not_not, Int.reduceBEq, Int.reduceBNe, Int.reduceLE, Int.reduceLT, Int.reduceEq, decide_true, decide_false]; rfl)))
      | with_reducible first | refine spB_no (by decide) ?_ | refine spB_not ?_ | refine spB_no (by assumption) ?_
      | (with_reducible refine spB_dec ?_ ?_ <;> intro _ <;> (try (exfalso; first | contradiction | omega | (rename_i hz; refine hz ?_; simp; done) | (rename_i hz; simp at hz; done) | (simp only [LN] at *; omega) | (rename_i hz; exact absurd (hcz.symm.trans hz) Bool.false_ne_true))))
      | with_reducible first | refine Z.loopZ_unroll tabOk 3 ?_
      | ((apply Z.callZ_rwcap (l.map cK)); (focus (exact rfl)); (focus (first | exact ren_map fun _ => rfl)); (focus (simp; done)); (intro capv hcapv; refine ⟨fun hcap => ?_, fun hcap gv hgv => ?_⟩))
      | ((with_reducible refine Z.slN_lo (l.length) ?_ ?_ ?_); (focus rfl); (focus ((try simp only [LN] at *) <;> omega)))
      | ((with_reducible refine apdE_r ?_); (with_reducible refine aprN.mk ⟨_, rfl, ?_⟩ ?_ ?_ ?_ ?_); (focus omega); (focus rfl); (focus (exact one_all (by rfl))); (focus (simp; done)))
      | ((with_reducible refine apdE_k ?_); (with_reducible refine apkN.mk ⟨_, rfl, ?_⟩ ?_); (focus omega); (with_reducible refine apdN.mk ?_ ?_ ?_ ?_ ?_ ?_); (focus rfl); (focus (exact one_all (by rfl))); (focus (simp; done)); (focus ((try simp only [LN] at *) <;> omega)); (focus ((try simp only [LN] at *) <;> omega)))
      | ((with_reducible refine posE_pos ?_ ?_); (focus ((try simp only [LN] at *) <;> omega)))
      | ((with_reducible apply rowN_mk); (focus rfl))
      | ((with_reducible apply ixN_lit); (focus (exact rfl)); (focus (exact rfl)))
      | ((with_reducible refine slE_b ?_ ?_); (focus ((try simp only [LN] at *) <;> omega)))
      | ((with_reducible refine apdN.mk ?_ ?_ ?_ ?_ ?_ ?_); (focus (first | rfl)); (focus (first | exact one_all (by rfl))); (focus ((try simp only [LN] at *) <;> omega)); (focus ((try simp only [LN] at *) <;> omega)); (focus ((try simp only [LN] at *) <;> omega)))
      | with_reducible refine wr_i64 (by first | omega | (simp only [LN] at *; omega)) ?_
      | with_reducible first | refine Z.callZ_in tabOk 38 Try.f101 _ Try.func101 (by kernel_rfl) rfl rfl rfl ?_ | refine Z.callZ_in tabOk 67 Try.f60 _ Try.func60 (by kernel_rfl) rfl rfl rfl ?_ | refine Z.callZ_in tabOk 95 Try.f100 _ Try.func100 (by kernel_rfl) rfl rfl rfl ?_
      | ((first | (with_reducible refine Z.callZ_mk ?_ (cd) ?_) | (with_reducible refine Z.callZ_mk ?_ (ck) ?_) | (with_reducible refine Z.callZ_mk ?_ (cf) ?_) | (with_reducible refine Z.callZ_mk ?_ (cw) ?_)); (focus ((repeat' (first | exact trivial | exact rfl | apply And.intro)); done)))
      | ((with_reducible apply ex_and); exact rfl)
      | with_reducible first | refine Z.drawZ_rule tabOk mixOk ?_ | refine Z.apZ_mk (by kernel_rfl) ?_)
    all_goals (try (conv => whnf)))
  all_goals try (show Nat.ble _ _ = true; rfl)
  all_goals try (exfalso; rename_i hz; cases hz; done)
  all_goals try (exfalso; (try simp only [LN] at *) <;> omega)
  all_goals first
    | ((first | (with_reducible apply Z.retF2)); (focus (exact rfl)); (repeat' (first | exact trivial | (refine Z.frz_oslw (l := (l ++ [(⟨s, k, c.1, c.2⟩ : Kc)])) (f := cK) (ty := 74) (bx := false) rfl ?_ ?_ (fun _ => rfl); (focus (first | (simp; done))); (focus (first | exact (congrArg (List.take _) (Z.g_app (f := cK) (v := (⟨s, k, c.1, c.2⟩ : Kc)) rfl rfl)).trans (List.take_of_length_le (by simp)) | exact (congrArg (List.take _) (Z.g_appr (f := cK) (v := (⟨s, k, c.1, c.2⟩ : Kc)) rfl rfl)).trans (List.take_of_length_le (by simp))))) | (refine Z.fq_gsl (l := [(⟨s, k, y⟩ : Rcd)]) (f := cR) (g := eR) (sz := 3) (ty := 39) rfl (fun _ => rfl) ?_) | (with_reducible apply Z.frz_one) | (with_reducible apply Z.frz_agg) | (with_reducible apply Z.fq_int) | (exact Z.frz_nil) | exact rfl | apply And.intro)); (all_goals (try exact (fun _ => none))); all_goals (first | (simp; done)))
end Go.Proofs.Ytehhmkdghgabaaa
namespace Go.Proofs.Ytehhmkdghgabaaa
open Go Go.RowKit Wx
set_option linter.unusedVariables false
set_option linter.unusedSimpArgs false
set_option maxHeartbeats 4000000
theorem do_ni (t w a b : Int) (ins : List Int) (l : List Kc) (s k v : Int) (c : Int × Int) (O : List Int) (p : Nat) (hi : ins.length ≤ 9223372036854775807) (hO : O.length ≤ 1) (hl : l.length ≤ 1000) (ht : tabR l = true) (hk : keyOk s k = true) (hr : Ops.doF t w ins a b 0 0 v = (c, O, 0)) (hc : 0 < c.1) (hth : thereR l s k = false) (hp : posR l s k = p) (hne : l ≠ []) (hpl : p < l.length) : Con Try.prog 64 [.agg [.v (.int .i64 t), .v (.int .i64 w), .ro false 1 (ins.map Ops.eI), .v (.int .i64 a), .v (.int .i64 b)], .agg [.ro false 4 (l.map eK)], .agg [.v (.int .i64 s), .v (.int .i64 k), .v (.int .i64 v)]] (fun rx rK rt => rx = .tup [.agg [.ro true 4 ((l.take p ++ (⟨s, k, c.1, c.2⟩ : Kc) :: l.drop p).map eK)], .one (.ro true 3 ((O.map fun x => (⟨s, k, x⟩ : Rcd)).map eR)), .one (.v (.int .i64 0))] ∧ rK = [] ∧ rt = 0) := by
  refine Z.con_ofF tabOk 22 Try.f64 _ Try.func64 (by kernel_rfl) rfl rfl rfl rfl ?_
  have ck := rec_con s k v
  rw [hk] at ck
  simp only [cond_true, cond_false] at ck
  have cf := find_con l s k v hl ht
  rw [hth, hp] at cf
  have cd := Ops.do_con t w a b 0 0 v ins hi (by decide)
  rw [hr] at cd
  dsimp only at cd
  have hcz : (c.1 == 0 && (c.2 == 0 && true)) = false := by rw [show (c.1 == 0) = false by simp; omega]; rfl
  have cw := clonek_con l hl hne
  obtain ⟨x0, hx0⟩ := getElem?_some' (xs := l) (i := p) hpl
  rcases O with _ | ⟨y, _ | ⟨z, O⟩⟩
  rotate_right 1
  · exact absurd hO (by simp)
  all_goals (
    repeat' ((conv => whnf); first
      | with_reducible first | refine spB_t ?_
      | ((with_reducible apply spB_cong); (focus (simp only [beq_self_eq_true, bne_self_eq_false, Bool.true_bne, Bool.false_bne, Bool.bne_true, Bool.bne_false, Bool.true_beq, Bool.false_beq, Bool.not_true, Bool.not_false, Bool.not_not, Int.reduceBEq, Int.reduceBNe, Int.reduceLE, Int.reduceLT, Int.reduceEq, decide_true, decide_false]; rfl)))
      | with_reducible first | refine spB_no (by decide) ?_ | refine spB_not ?_ | refine spB_no (by assumption) ?_
      | (with_reducible refine spB_dec ?_ ?_ <;> intro _ <;> (try (exfalso; first | contradiction | omega | (rename_i hz; refine hz ?_; simp; done) | (rename_i hz; simp at hz; done) | (simp only [LN] at *; omega) | (rename_i hz; exact absurd (hcz.symm.trans hz) Bool.false_ne_true))))
      | (with_reducible refine spB_beq ?_ ?_ <;> intro _ <;> (try (exfalso; first | contradiction | omega | (rename_i hz; refine hz ?_; simp; done) | (rename_i hz; simp at hz; done) | (simp only [LN] at *; omega) | (rename_i hz; exact absurd (hcz.symm.trans hz) Bool.false_ne_true))))
      | with_reducible first | refine Z.loopZ_unroll tabOk 3 ?_
      | ((apply Z.callZ_rwcap (l.map cK)); (focus (exact rfl)); (focus (first | exact ren_map fun _ => rfl)); (focus (simp; done)); (intro capv hcapv; refine ⟨fun hcap => ?_, fun hcap gv hgv => ?_⟩))
      | ((with_reducible refine Z.slN_lo (p) ?_ ?_ ?_); (focus rfl); (focus ((try simp only [LN] at *) <;> omega)))
      | ((with_reducible refine Z.slN_lo (p + 1) ?_ ?_ ?_); (focus rfl); (focus ((try simp only [LN] at *) <;> omega)))
      | ((with_reducible refine slN_hi (p) ?_ ?_ ?_); (focus rfl); (focus ((try simp only [LN] at *) <;> omega)))
      | ((with_reducible refine Z.slN_hc (l.length + 1) ?_ ?_ ?_); (focus rfl); (focus (exact ⟨_, rfl, by first | omega | (dsimp only; omega) | (simp; omega)⟩)))
      | ((with_reducible refine apzE_k ?_); (with_reducible refine apzK_mk (l.length + 1 - p) ⟨_, rfl, ?_⟩ ?_ ?_ ?_ ?_ ?_ ?_); (focus ((try simp only [LN] at *) <;> omega)); (focus ((try simp only [LN] at *) <;> omega)); (focus (exact Z.g_le (f := cK) rfl (by omega))); (iterate 2 (focus ((try simp only [LN] at *) <;> omega))); (focus rfl))
      | ((with_reducible refine cpyN.mk ?_ ?_ ?_ ?_); (focus rfl); (focus (exact one_all (by rfl))); (focus (exact Z.g_fit (f := cK) rfl (by omega) (by (try simp only [LN] at *) <;> omega))))
      | ((with_reducible refine cpyN.mk ?_ ?_ ?_ ?_); (focus (exact Z.g_len (f := cK) rfl (by (try simp only [LN] at *) <;> omega))); (focus (exact Z.g_one cK_one rfl)); (focus (exact Z.g_fit2 (f := cK) rfl (by omega) (by (try simp only [LN] at *) <;> omega) Z.gS_len)))
      | ((with_reducible refine cpyN.mk2 ?_ ?_ ?_ ?_); (focus (exact Z.g_lenp (f := cK) (by (try simp only [LN] at *) <;> omega))); (focus (exact Z.g_onep cK_one (Z.g_min (by (try simp only [LN] at *) <;> omega)))); (focus (exact Z.g_fitp (f := cK) (by (try simp only [LN] at *) <;> omega))))
      | ((with_reducible refine cpyN.mk ?_ ?_ ?_ ?_); (focus rfl); (focus (exact one_all (by rfl))); (focus (exact Z.g_fitp2 (f := cK) (by (try simp only [LN] at *) <;> omega) (Z.g_fitk (by (try simp only [LN] at *) <;> omega)))))
      | ((with_reducible apply Z.callZ_ovl (tS := 28) (tR := 4) tabOk Try.f117 Try.func117 (by kernel_rfl) (by kernel_rfl) (by kernel_rfl) (by kernel_rfl)); (iterate 4 (focus (exact rfl))); (focus (exact Nat.ne_of_beq_eq_false rfl)); (focus (simp; done)); (focus (exact Nat.zero_lt_succ _)))
      | ((with_reducible refine posE_pos ?_ ?_); (focus ((try simp only [LN] at *) <;> omega)))
      | ((with_reducible apply rowN_mk); (focus rfl))
      | ((with_reducible apply ixN_lit); (focus (exact rfl)); (focus (exact rfl)))
      | ((with_reducible refine slE_a ?_ ?_); (focus ((try simp only [LN] at *) <;> omega)))
      | ((with_reducible refine apdN.mk ?_ ?_ ?_ ?_ ?_ ?_); (focus (first | rfl)); (focus (first | exact one_all (by rfl))); (focus ((try simp only [LN] at *) <;> omega)); (focus ((try simp only [LN] at *) <;> omega)); (focus ((try simp only [LN] at *) <;> omega)))
      | with_reducible refine wr_i64 (by first | omega | (simp only [LN] at *; omega)) ?_
      | with_reducible first | refine Z.callZ_in tabOk 38 Try.f101 _ Try.func101 (by kernel_rfl) rfl rfl rfl ?_ | refine Z.callZ_in tabOk 67 Try.f60 _ Try.func60 (by kernel_rfl) rfl rfl rfl ?_ | refine Z.callZ_in tabOk 95 Try.f100 _ Try.func100 (by kernel_rfl) rfl rfl rfl ?_
      | ((first | (with_reducible refine Z.callZ_mk ?_ (cd) ?_) | (with_reducible refine Z.callZ_mk ?_ (ck) ?_) | (with_reducible refine Z.callZ_mk ?_ (cf) ?_) | (with_reducible refine Z.callZ_mk ?_ (cw) ?_)); (focus ((repeat' (first | exact trivial | exact rfl | apply And.intro)); done)))
      | ((with_reducible apply ex_and); exact rfl)
      | with_reducible first | refine Z.drawZ_rule tabOk mixOk ?_ | refine Z.apZ_mk (by kernel_rfl) ?_)
    all_goals (try (conv => whnf)))
  all_goals try (show Nat.ble _ _ = true; rfl)
  all_goals try (exfalso; rename_i hz; cases hz; done)
  all_goals try (exfalso; (try simp only [LN] at *) <;> omega)
  all_goals first
    | ((first | (with_reducible apply Z.retF2)); (focus (exact rfl)); (repeat' (first | exact trivial | (refine Z.frz_oslw (l := (l.take p ++ (⟨s, k, c.1, c.2⟩ : Kc) :: l.drop p)) (f := cK) (ty := 74) (bx := false) rfl ?_ ?_ (fun _ => rfl); (focus (first | (simp; omega))); (focus (first | exact (congrArg (List.take _) (Z.g_ins (f := cK) (v := (⟨s, k, c.1, c.2⟩ : Kc)) rfl (by omega) rfl (Z.gS_eq (by omega) rfl) (Z.gT_eq (f := cK) rfl (Nat.le_min.2 ⟨by omega, by omega⟩) (by omega)))).trans (List.take_of_length_le (by simp; omega)) | exact (congrArg (List.take _) (Z.g_insp (f := cK) (v := (⟨s, k, c.1, c.2⟩ : Kc)) (by omega) (Z.gS_eq (by omega) rfl) (Z.gT_eqp (f := cK) (by omega) (.inl ⟨(Nat.min_eq_right (by omega)).trans (by omega), by omega⟩)))).trans (List.take_of_length_le (by simp; omega))))) | (refine Z.fq_gsl (l := [(⟨s, k, y⟩ : Rcd)]) (f := cR) (g := eR) (sz := 3) (ty := 39) rfl (fun _ => rfl) ?_) | (with_reducible apply Z.frz_one) | (with_reducible apply Z.frz_agg) | (with_reducible apply Z.fq_int) | (exact Z.frz_nil) | exact rfl | apply And.intro)); (all_goals (try exact (fun _ => none))); all_goals (first | (simp; done)))
end Go.Proofs.Ytehhmkdghgabaaa
namespace Go.Proofs.Ytehhmkdghgabaaa
open Go Go.RowKit Wx
set_option linter.unusedVariables false
set_option linter.unusedSimpArgs false
set_option maxHeartbeats 4000000
theorem do_za (t w a b : Int) (ins : List Int) (l : List Kc) (s k v : Int) (c : Int × Int) (O : List Int) (p : Nat) (hi : ins.length ≤ 9223372036854775807) (hO : O.length ≤ 1) (hl : l.length ≤ 1000) (ht : tabR l = true) (hk : keyOk s k = true) (hth : thereR l s k = true) (hp : posR l s k = p) (hne : l ≠ []) (x : Kc) (hx : l[p]? = some x) (hc0 : x.cnt ≤ 9223372036854775807) (hr : Ops.doF t w ins a b x.cnt x.sum v = (c, O, 0)) (hc : c = (0, 0)) (hpl : p < l.length) (hpe : p + 1 = l.length) : Con Try.prog 64 [.agg [.v (.int .i64 t), .v (.int .i64 w), .ro false 1 (ins.map Ops.eI), .v (.int .i64 a), .v (.int .i64 b)], .agg [.ro false 4 (l.map eK)], .agg [.v (.int .i64 s), .v (.int .i64 k), .v (.int .i64 v)]] (fun rx rK rt => rx = .tup [.agg [.ro true 4 ((l.eraseIdx p).map eK)], .one (.ro true 3 ((O.map fun x => (⟨s, k, x⟩ : Rcd)).map eR)), .one (.v (.int .i64 0))] ∧ rK = [] ∧ rt = 0) := by
  refine Z.con_ofF tabOk 22 Try.f64 _ Try.func64 (by kernel_rfl) rfl rfl rfl rfl ?_
  have ck := rec_con s k v
  rw [hk] at ck
  simp only [cond_true, cond_false] at ck
  have cf := find_con l s k v hl ht
  rw [hth, hp] at cf
  have cd := Ops.do_con t w a b x.cnt x.sum v ins hi hc0
  rw [hr] at cd
  dsimp only at cd
  subst hc
  have cw := clonek_con l hl hne
  rcases O with _ | ⟨y, _ | ⟨z, O⟩⟩
  rotate_right 1
  · exact absurd hO (by simp)
  all_goals (
    repeat' ((conv => whnf); first
      | with_reducible first | refine spB_t ?_
      | ((with_reducible apply spB_cong); (focus (simp only [beq_self_eq_true, bne_self_eq_false, Bool.true_bne, Bool.false_bne, Bool.bne_true, Bool.bne_false, Bool.true_beq, Bool.false_beq, Bool.not_true, Bool.not_false, Bool.not_not, Int.reduceBEq, Int.reduceBNe, Int.reduceLE, Int.reduceLT, Int.reduceEq, decide_true, decide_false]; rfl)))
      | with_reducible first | refine spB_no (by decide) ?_
      | (with_reducible refine spB_dec ?_ ?_ <;> intro _ <;> (try (exfalso; first | contradiction | omega | (rename_i hz; refine hz ?_; simp; done) | (rename_i hz; simp at hz; done) | (simp only [LN] at *; omega))))
      | (with_reducible refine spB_beq ?_ ?_ <;> intro _ <;> (try (exfalso; first | contradiction | omega | (rename_i hz; refine hz ?_; simp; done) | (rename_i hz; simp at hz; done) | (simp only [LN] at *; omega))))
      | with_reducible first | refine Z.loopZ_unroll tabOk 3 ?_
      | ((apply Z.callZ_rwcapn (l.map cK)); (focus (exact rfl)); (focus (first | exact ren_map fun _ => rfl)); (intro capv hcapv))
      | ((with_reducible refine slN_hi (p) ?_ ?_ ?_); (focus rfl); (focus ((try simp only [LN] at *) <;> omega)))
      | ((with_reducible refine Z.slN_lo (p + 1) ?_ ?_ ?_); (focus rfl); (focus ((try simp only [LN] at *) <;> omega)))
      | ((with_reducible refine Z.slN_lhc (l.length - 1) l.length ?_ ?_ ?_ ?_ ?_); (iterate 3 (focus ((try simp only [LN] at *) <;> omega))); (focus (exact ⟨_, rfl, (by (try simp only [LN] at *) <;> omega)⟩)))
      | ((with_reducible refine apdE_r ?_); (with_reducible refine aprN.mk ⟨_, rfl, ?_⟩ ?_ ?_ ?_ ?_); (focus ((try simp only [LN] at *) <;> omega)); (focus rfl); (focus (exact one_all (by rfl))); (focus (exact Z.g_le (f := cK) rfl (by (try simp only [LN] at *) <;> omega))))
      | ((with_reducible refine clrN_mk ?_ ?_ ?_); (focus (exact Z.g_clr (f := cK) rfl (by first | (rw [Z.g_len (f := cK) (l := l) rfl (by (try simp only [LN] at *) <;> omega)]; omega) | (simp; omega)) (by (try simp only [LN] at *) <;> omega))); (focus rfl))
      | with_reducible first | refine Z.rowN_known hx ?_
      | ((with_reducible refine ixN_mk (p) ?_ ?_ ?_); (focus (first | rfl)); (focus ((try simp only [LN] at *) <;> omega)))
      | ((with_reducible refine posE_pos ?_ ?_); (focus ((try simp only [LN] at *) <;> omega)))
      | ((with_reducible apply rowN_mk); (focus rfl))
      | ((with_reducible apply ixN_lit); (focus (exact rfl)); (focus (exact rfl)))
      | ((with_reducible refine slE_a ?_ ?_); (focus ((try simp only [LN] at *) <;> omega)))
      | ((with_reducible refine slE_b ?_ ?_); (focus ((try simp only [LN] at *) <;> omega)))
      | ((with_reducible apply sl3N_mk); (focus (exact rfl)); (focus (exact rfl)); (focus (exact rfl)); (focus ((try simp only [LN] at *) <;> omega)); (focus ((try simp only [LN] at *) <;> omega)); (focus ((try simp only [LN] at *) <;> omega)); (focus ((try simp only [LN] at *) <;> omega)))
      | ((with_reducible refine apdN.mk ?_ ?_ ?_ ?_ ?_ ?_); (focus (first | rfl)); (focus (first | exact one_all (by rfl))); (focus ((try simp only [LN] at *) <;> omega)); (focus ((try simp only [LN] at *) <;> omega)); (focus ((try simp only [LN] at *) <;> omega)))
      | with_reducible refine wr_i64 (by first | omega | (simp only [LN] at *; omega)) ?_
      | with_reducible first | refine Z.callZ_in tabOk 38 Try.f101 _ Try.func101 (by kernel_rfl) rfl rfl rfl ?_ | refine Z.callZ_in tabOk 67 Try.f60 _ Try.func60 (by kernel_rfl) rfl rfl rfl ?_ | refine Z.callZ_in tabOk 33 Try.f99 _ Try.func99 (by kernel_rfl) rfl rfl rfl ?_
      | ((first | (with_reducible refine Z.callZ_mk ?_ (cd) ?_) | (with_reducible refine Z.callZ_mk ?_ (ck) ?_) | (with_reducible refine Z.callZ_mk ?_ (cf) ?_) | (with_reducible refine Z.callZ_mk ?_ (cw) ?_)); (focus ((repeat' (first | exact trivial | exact rfl | apply And.intro)); done)))
      | ((with_reducible apply ex_and); exact rfl)
      | with_reducible first | refine Z.drawZ_rule tabOk mixOk ?_ | refine Z.apZ_mk (by kernel_rfl) ?_)
    all_goals (try (conv => whnf)))
  all_goals try (show Nat.ble _ _ = true; rfl)
  all_goals try (exfalso; rename_i hz; cases hz; done)
  all_goals try (exfalso; (try simp only [LN] at *) <;> omega)
  all_goals first
    | ((first | (with_reducible apply Z.retF2)); (focus (exact rfl)); (repeat' (first | exact trivial | (refine Z.frz_oslw (l := l.eraseIdx p) (f := cK) (ty := 74) (bx := false) rfl ?_ ?_ (fun _ => rfl); (focus (rw [List.length_eraseIdx, if_pos hpl]; (try simp only [LN] at *) <;> omega)); (focus (first | exact Z.del_end (by omega)))) | (refine Z.fq_gsl (l := [(⟨s, k, y⟩ : Rcd)]) (f := cR) (g := eR) (sz := 3) (ty := 39) rfl (fun _ => rfl) ?_) | (with_reducible apply Z.frz_one) | (with_reducible apply Z.frz_agg) | (with_reducible apply Z.fq_int) | (exact Z.frz_nil) | exact rfl | apply And.intro)); (all_goals (try exact (fun _ => none))); all_goals (first | (simp; done)))
end Go.Proofs.Ytehhmkdghgabaaa
namespace Go.Proofs.Ytehhmkdghgabaaa
open Go Go.RowKit Wx
set_option linter.unusedVariables false
set_option linter.unusedSimpArgs false
set_option maxHeartbeats 4000000
theorem do_zi (t w a b : Int) (ins : List Int) (l : List Kc) (s k v : Int) (c : Int × Int) (O : List Int) (p : Nat) (hi : ins.length ≤ 9223372036854775807) (hO : O.length ≤ 1) (hl : l.length ≤ 1000) (ht : tabR l = true) (hk : keyOk s k = true) (hth : thereR l s k = true) (hp : posR l s k = p) (hne : l ≠ []) (x : Kc) (hx : l[p]? = some x) (hc0 : x.cnt ≤ 9223372036854775807) (hr : Ops.doF t w ins a b x.cnt x.sum v = (c, O, 0)) (hc : c = (0, 0)) (hpl : p < l.length) (hpe : p + 1 < l.length) : Con Try.prog 64 [.agg [.v (.int .i64 t), .v (.int .i64 w), .ro false 1 (ins.map Ops.eI), .v (.int .i64 a), .v (.int .i64 b)], .agg [.ro false 4 (l.map eK)], .agg [.v (.int .i64 s), .v (.int .i64 k), .v (.int .i64 v)]] (fun rx rK rt => rx = .tup [.agg [.ro true 4 ((l.eraseIdx p).map eK)], .one (.ro true 3 ((O.map fun x => (⟨s, k, x⟩ : Rcd)).map eR)), .one (.v (.int .i64 0))] ∧ rK = [] ∧ rt = 0) := by
  refine Z.con_ofF tabOk 22 Try.f64 _ Try.func64 (by kernel_rfl) rfl rfl rfl rfl ?_
  have ck := rec_con s k v
  rw [hk] at ck
  simp only [cond_true, cond_false] at ck
  have cf := find_con l s k v hl ht
  rw [hth, hp] at cf
  have cd := Ops.do_con t w a b x.cnt x.sum v ins hi hc0
  rw [hr] at cd
  dsimp only at cd
  subst hc
  have cw := clonek_con l hl hne
  rcases O with _ | ⟨y, _ | ⟨z, O⟩⟩
  rotate_right 1
  · exact absurd hO (by simp)
  all_goals (
    repeat' ((conv => whnf); first
      | with_reducible first | refine spB_t ?_
      | ((with_reducible apply spB_cong); (focus (simp only [beq_self_eq_true, bne_self_eq_false, Bool.true_bne, Bool.false_bne, Bool.bne_true, Bool.bne_false, Bool.true_beq, Bool.false_beq, Bool.not_true, Bool.not_false, Bool.not_not, Int.reduceBEq, Int.reduceBNe, Int.reduceLE, Int.reduceLT, Int.reduceEq, decide_true, decide_false]; rfl)))
      | with_reducible first | refine spB_no (by decide) ?_
      | (with_reducible refine spB_dec ?_ ?_ <;> intro _ <;> (try (exfalso; first | contradiction | omega | (rename_i hz; refine hz ?_; simp; done) | (rename_i hz; simp at hz; done) | (simp only [LN] at *; omega))))
      | (with_reducible refine spB_beq ?_ ?_ <;> intro _ <;> (try (exfalso; first | contradiction | omega | (rename_i hz; refine hz ?_; simp; done) | (rename_i hz; simp at hz; done) | (simp only [LN] at *; omega))))
      | with_reducible first | refine Z.loopZ_unroll tabOk 3 ?_
      | ((apply Z.callZ_rwcapn (l.map cK)); (focus (exact rfl)); (focus (first | exact ren_map fun _ => rfl)); (intro capv hcapv))
      | ((with_reducible refine slN_hi (p) ?_ ?_ ?_); (focus rfl); (focus ((try simp only [LN] at *) <;> omega)))
      | ((with_reducible refine Z.slN_lo (p + 1) ?_ ?_ ?_); (focus rfl); (focus ((try simp only [LN] at *) <;> omega)))
      | ((with_reducible refine Z.slN_lhc (l.length - 1) l.length ?_ ?_ ?_ ?_ ?_); (iterate 3 (focus ((try simp only [LN] at *) <;> omega))); (focus (exact ⟨_, rfl, (by (try simp only [LN] at *) <;> omega)⟩)))
      | ((with_reducible refine apdE_r ?_); (with_reducible refine aprN.mk ⟨_, rfl, ?_⟩ ?_ ?_ ?_ ?_); (focus ((try simp only [LN] at *) <;> omega)); (focus (exact Z.g_len (f := cK) rfl (by (try simp only [LN] at *) <;> omega))); (focus (exact Z.g_one cK_one rfl)); (focus (exact Z.g_le (f := cK) rfl (by (try simp only [LN] at *) <;> omega))))
      | ((with_reducible refine clrN_mk ?_ ?_ ?_); (focus (exact Z.g_clr (f := cK) rfl (by first | (rw [Z.g_len (f := cK) (l := l) rfl (by (try simp only [LN] at *) <;> omega)]; omega) | (simp; omega)) (by (try simp only [LN] at *) <;> omega))); (focus rfl))
      | with_reducible first | refine Z.rowN_known hx ?_
      | ((with_reducible refine ixN_mk (p) ?_ ?_ ?_); (focus (first | rfl)); (focus ((try simp only [LN] at *) <;> omega)))
      | ((with_reducible refine posE_pos ?_ ?_); (focus ((try simp only [LN] at *) <;> omega)))
      | ((with_reducible apply rowN_mk); (focus rfl))
      | ((with_reducible apply ixN_lit); (focus (exact rfl)); (focus (exact rfl)))
      | ((with_reducible refine slE_a ?_ ?_); (focus ((try simp only [LN] at *) <;> omega)))
      | ((with_reducible apply sl3N_mk); (focus (exact rfl)); (focus (exact rfl)); (focus (exact rfl)); (focus ((try simp only [LN] at *) <;> omega)); (focus ((try simp only [LN] at *) <;> omega)); (focus ((try simp only [LN] at *) <;> omega)); (focus ((try simp only [LN] at *) <;> omega)))
      | ((with_reducible refine apdN.mk ?_ ?_ ?_ ?_ ?_ ?_); (focus (first | rfl)); (focus (first | exact one_all (by rfl))); (focus ((try simp only [LN] at *) <;> omega)); (focus ((try simp only [LN] at *) <;> omega)); (focus ((try simp only [LN] at *) <;> omega)))
      | with_reducible refine wr_i64 (by first | omega | (simp only [LN] at *; omega)) ?_
      | with_reducible first | refine Z.callZ_in tabOk 38 Try.f101 _ Try.func101 (by kernel_rfl) rfl rfl rfl ?_ | refine Z.callZ_in tabOk 67 Try.f60 _ Try.func60 (by kernel_rfl) rfl rfl rfl ?_ | refine Z.callZ_in tabOk 33 Try.f99 _ Try.func99 (by kernel_rfl) rfl rfl rfl ?_
      | ((first | (with_reducible refine Z.callZ_mk ?_ (cd) ?_) | (with_reducible refine Z.callZ_mk ?_ (ck) ?_) | (with_reducible refine Z.callZ_mk ?_ (cf) ?_) | (with_reducible refine Z.callZ_mk ?_ (cw) ?_)); (focus ((repeat' (first | exact trivial | exact rfl | apply And.intro)); done)))
      | ((with_reducible apply ex_and); exact rfl)
      | with_reducible first | refine Z.drawZ_rule tabOk mixOk ?_ | refine Z.apZ_mk (by kernel_rfl) ?_)
    all_goals (try (conv => whnf)))
  all_goals try (show Nat.ble _ _ = true; rfl)
  all_goals try (exfalso; rename_i hz; cases hz; done)
  all_goals try (exfalso; (try simp only [LN] at *) <;> omega)
  all_goals first
    | ((first | (with_reducible apply Z.retF2)); (focus (exact rfl)); (repeat' (first | exact trivial | (refine Z.frz_oslw (l := l.eraseIdx p) (f := cK) (ty := 74) (bx := false) rfl ?_ ?_ (fun _ => rfl); (focus (rw [List.length_eraseIdx, if_pos hpl]; (try simp only [LN] at *) <;> omega)); (focus (first | exact Z.del_rows hpl (by simp)))) | (refine Z.fq_gsl (l := [(⟨s, k, y⟩ : Rcd)]) (f := cR) (g := eR) (sz := 3) (ty := 39) rfl (fun _ => rfl) ?_) | (with_reducible apply Z.frz_one) | (with_reducible apply Z.frz_agg) | (with_reducible apply Z.fq_int) | (exact Z.frz_nil) | exact rfl | apply And.intro)); (all_goals (try exact (fun _ => none))); all_goals (first | (simp; done)))
end Go.Proofs.Ytehhmkdghgabaaa
namespace Go.Proofs.Ytehhmkdghgabaaa
open Go Go.RowKit Wx
set_option linter.unusedVariables false
set_option linter.unusedSimpArgs false
set_option maxHeartbeats 4000000
theorem do_sa (t w a b : Int) (ins : List Int) (l : List Kc) (s k v : Int) (c : Int × Int) (O : List Int) (p : Nat) (hi : ins.length ≤ 9223372036854775807) (hO : O.length ≤ 1) (hl : l.length ≤ 1000) (ht : tabR l = true) (hk : keyOk s k = true) (hth : thereR l s k = true) (hp : posR l s k = p) (hne : l ≠ []) (x : Kc) (hx : l[p]? = some x) (hc0 : x.cnt ≤ 9223372036854775807) (hr : Ops.doF t w ins a b x.cnt x.sum v = (c, O, 0)) (hc : 0 < c.1) (hpl : p < l.length) (hpe : p + 1 = l.length) : Con Try.prog 64 [.agg [.v (.int .i64 t), .v (.int .i64 w), .ro false 1 (ins.map Ops.eI), .v (.int .i64 a), .v (.int .i64 b)], .agg [.ro false 4 (l.map eK)], .agg [.v (.int .i64 s), .v (.int .i64 k), .v (.int .i64 v)]] (fun rx rK rt => rx = .tup [.agg [.ro true 4 (((l.eraseIdx p).take p ++ (⟨s, k, c.1, c.2⟩ : Kc) :: (l.eraseIdx p).drop p).map eK)], .one (.ro true 3 ((O.map fun x => (⟨s, k, x⟩ : Rcd)).map eR)), .one (.v (.int .i64 0))] ∧ rK = [] ∧ rt = 0) := by
  refine Z.con_ofF tabOk 22 Try.f64 _ Try.func64 (by kernel_rfl) rfl rfl rfl rfl ?_
  have ck := rec_con s k v
  rw [hk] at ck
  simp only [cond_true, cond_false] at ck
  have cf := find_con l s k v hl ht
  rw [hth, hp] at cf
  have cd := Ops.do_con t w a b x.cnt x.sum v ins hi hc0
  rw [hr] at cd
  dsimp only at cd
  have hcz : (c.1 == 0 && (c.2 == 0 && true)) = false := by rw [show (c.1 == 0) = false by simp; omega]; rfl
  have cw := clonek_con l hl hne
  obtain ⟨L, hL⟩ : ∃ L, l.eraseIdx p = L := ⟨_, rfl⟩
  have hLl : L.length + 1 = l.length := by rw [← hL, List.length_eraseIdx, if_pos hpl]; omega
  rw [hL]
  rcases O with _ | ⟨y, _ | ⟨z, O⟩⟩
  rotate_right 1
  · exact absurd hO (by simp)
  all_goals (
    repeat' ((conv => whnf); first
      | with_reducible first | refine spB_t ?_
      | ((with_reducible apply spB_cong); (focus (simp only [beq_self_eq_true, bne_self_eq_false, Bool.true_bne, Bool.false_bne, Bool.bne_true, Bool.bne_false, Bool.true_beq, Bool.false_beq, Bool.not_true, Bool.not_false, Bool.not_not, Int.reduceBEq, Int.reduceBNe, Int.reduceLE, Int.reduceLT, Int.reduceEq, decide_true, decide_false]; rfl)))
      | with_reducible first | refine spB_no (by decide) ?_ | refine spB_not ?_ | refine spB_no (by assumption) ?_
      | (with_reducible refine spB_dec ?_ ?_ <;> intro _ <;> (try (exfalso; first | contradiction | omega | (rename_i hz; refine hz ?_; simp; done) | (rename_i hz; simp at hz; done) | (simp only [LN] at *; omega) | (rename_i hz; exact absurd (hcz.symm.trans hz) Bool.false_ne_true))))
      | (with_reducible refine spB_beq ?_ ?_ <;> intro _ <;> (try (exfalso; first | contradiction | omega | (rename_i hz; refine hz ?_; simp; done) | (rename_i hz; simp at hz; done) | (simp only [LN] at *; omega) | (rename_i hz; exact absurd (hcz.symm.trans hz) Bool.false_ne_true))))
      | with_reducible first | refine Z.loopZ_unroll tabOk 3 ?_
      | ((apply Z.callZ_tell (L.map cK ++ [cK ⟨0, 0, 0, 0⟩]) L.length); (focus (exact rfl)); (focus (exact (Z.del_full0 (f := cK) (z := (⟨0, 0, 0, 0⟩ : Kc)) rfl hpe rfl (by first | rfl | (rw [show l.length - (l.length - 1) = 1 by omega]; rfl))).trans (by rw [hL, List.map_append]; rfl))); (focus ((try simp only [LN] at *) <;> omega)))
      | ((apply Z.callZ_rwcapn (l.map cK)); (focus (exact rfl)); (focus (first | exact ren_map fun _ => rfl)); (intro capv hcapv))
      | ((with_reducible refine slN_hi (p) ?_ ?_ ?_); (focus rfl); (focus ((try simp only [LN] at *) <;> omega)))
      | ((with_reducible refine Z.slN_lo (p + 1) ?_ ?_ ?_); (focus rfl); (focus ((try simp only [LN] at *) <;> omega)))
      | ((with_reducible refine Z.slN_lhc (l.length - 1) l.length ?_ ?_ ?_ ?_ ?_); (iterate 3 (focus ((try simp only [LN] at *) <;> omega))); (focus (exact ⟨_, rfl, (by (try simp only [LN] at *) <;> omega)⟩)))
      | ((with_reducible refine apdE_r ?_); (with_reducible refine aprN.mk ⟨_, rfl, ?_⟩ ?_ ?_ ?_ ?_); (focus ((try simp only [LN] at *) <;> omega)); (focus rfl); (focus (exact one_all (by rfl))); (focus (exact Z.g_le (f := cK) rfl (by (try simp only [LN] at *) <;> omega))))
      | ((with_reducible refine clrN_mk ?_ ?_ ?_); (focus (exact Z.g_clr (f := cK) rfl (by first | (rw [Z.g_len (f := cK) (l := l) rfl (by (try simp only [LN] at *) <;> omega)]; omega) | (simp; omega)) (by (try simp only [LN] at *) <;> omega))); (focus rfl))
      | ((with_reducible refine Z.slN_lo (p) ?_ ?_ ?_); (focus rfl); (focus ((try simp only [LN] at *) <;> omega)))
      | with_reducible first | refine Z.rowN_known hx ?_
      | ((with_reducible refine ixN_mk (p) ?_ ?_ ?_); (focus (first | rfl)); (focus ((try simp only [LN] at *) <;> omega)))
      | ((with_reducible refine posE_pos ?_ ?_); (focus ((try simp only [LN] at *) <;> omega)))
      | ((with_reducible apply rowN_mk); (focus rfl))
      | ((with_reducible apply ixN_lit); (focus (exact rfl)); (focus (exact rfl)))
      | ((with_reducible refine apdE_r ?_); (with_reducible refine aprN.mk ⟨_, rfl, ?_⟩ ?_ ?_ ?_ ?_); (focus ((try simp only [LN] at *) <;> omega)); (focus (first | rfl)); (focus (first | exact one_all (by rfl))); (focus ((try simp only [LN] at *) <;> omega)))
      | ((with_reducible refine slE_a ?_ ?_); (focus ((try simp only [LN] at *) <;> omega)))
      | ((with_reducible refine slE_b ?_ ?_); (focus ((try simp only [LN] at *) <;> omega)))
      | ((with_reducible apply sl3N_mk); (focus (exact rfl)); (focus (exact rfl)); (focus (exact rfl)); (focus ((try simp only [LN] at *) <;> omega)); (focus ((try simp only [LN] at *) <;> omega)); (focus ((try simp only [LN] at *) <;> omega)); (focus ((try simp only [LN] at *) <;> omega)))
      | ((with_reducible refine apdN.mk ?_ ?_ ?_ ?_ ?_ ?_); (focus (first | rfl)); (focus (first | exact one_all (by rfl))); (focus ((try simp only [LN] at *) <;> omega)); (focus ((try simp only [LN] at *) <;> omega)); (focus ((try simp only [LN] at *) <;> omega)))
      | with_reducible refine wr_i64 (by first | omega | (simp only [LN] at *; omega)) ?_
      | with_reducible first | refine Z.callZ_in tabOk 38 Try.f101 _ Try.func101 (by kernel_rfl) rfl rfl rfl ?_ | refine Z.callZ_in tabOk 67 Try.f60 _ Try.func60 (by kernel_rfl) rfl rfl rfl ?_ | refine Z.callZ_in tabOk 33 Try.f99 _ Try.func99 (by kernel_rfl) rfl rfl rfl ?_ | refine Z.callZ_in tabOk 95 Try.f100 _ Try.func100 (by kernel_rfl) rfl rfl rfl ?_
      | ((first | (with_reducible refine Z.callZ_mk ?_ (cd) ?_) | (with_reducible refine Z.callZ_mk ?_ (ck) ?_) | (with_reducible refine Z.callZ_mk ?_ (cf) ?_) | (with_reducible refine Z.callZ_mk ?_ (cw) ?_)); (focus ((repeat' (first | exact trivial | exact rfl | apply And.intro)); done)))
      | ((with_reducible apply ex_and); exact rfl)
      | with_reducible first | refine Z.drawZ_rule tabOk mixOk ?_ | refine Z.apZ_mk (by kernel_rfl) ?_)
    all_goals (try (conv => whnf)))
  all_goals try (show Nat.ble _ _ = true; rfl)
  all_goals try (exfalso; rename_i hz; cases hz; done)
  all_goals try (exfalso; (try simp only [LN] at *) <;> omega)
  all_goals (have hpL : p = L.length := by omega)
  all_goals (rw [show L.take p ++ (⟨s, k, c.1, c.2⟩ : Kc) :: L.drop p = L ++ [⟨s, k, c.1, c.2⟩] by rw [hpL, List.take_length, List.drop_length]])
  all_goals first
    | ((first | (with_reducible apply Z.retF2)); (focus (exact rfl)); (repeat' (first | exact trivial | (refine Z.frz_oslw (l := (L ++ [(⟨s, k, c.1, c.2⟩ : Kc)])) (f := cK) (ty := 74) (bx := false) rfl ?_ ?_ (fun _ => rfl); (focus (first | (simp; done))); (focus (first | exact (congrArg (List.take _) (Z.g_appr (f := cK) (l := L) (g := cK ⟨0, 0, 0, 0⟩) (v := (⟨s, k, c.1, c.2⟩ : Kc)) rfl rfl)).trans (List.take_of_length_le (by simp))))) | (refine Z.fq_gsl (l := [(⟨s, k, y⟩ : Rcd)]) (f := cR) (g := eR) (sz := 3) (ty := 39) rfl (fun _ => rfl) ?_) | (with_reducible apply Z.frz_one) | (with_reducible apply Z.frz_agg) | (with_reducible apply Z.fq_int) | (exact Z.frz_nil) | exact rfl | apply And.intro)); (all_goals (try exact (fun _ => none))); all_goals (first | (simp; done)))
end Go.Proofs.Ytehhmkdghgabaaa
namespace Go.Proofs.Ytehhmkdghgabaaa
open Go Go.RowKit Wx
set_option linter.unusedVariables false
set_option linter.unusedSimpArgs false
set_option maxHeartbeats 4000000
theorem do_si (t w a b : Int) (ins : List Int) (l : List Kc) (s k v : Int) (c : Int × Int) (O : List Int) (p : Nat) (hi : ins.length ≤ 9223372036854775807) (hO : O.length ≤ 1) (hl : l.length ≤ 1000) (ht : tabR l = true) (hk : keyOk s k = true) (hth : thereR l s k = true) (hp : posR l s k = p) (hne : l ≠ []) (x : Kc) (hx : l[p]? = some x) (hc0 : x.cnt ≤ 9223372036854775807) (hr : Ops.doF t w ins a b x.cnt x.sum v = (c, O, 0)) (hc : 0 < c.1) (hpl : p < l.length) (hpe : p + 1 < l.length) : Con Try.prog 64 [.agg [.v (.int .i64 t), .v (.int .i64 w), .ro false 1 (ins.map Ops.eI), .v (.int .i64 a), .v (.int .i64 b)], .agg [.ro false 4 (l.map eK)], .agg [.v (.int .i64 s), .v (.int .i64 k), .v (.int .i64 v)]] (fun rx rK rt => rx = .tup [.agg [.ro true 4 (((l.eraseIdx p).take p ++ (⟨s, k, c.1, c.2⟩ : Kc) :: (l.eraseIdx p).drop p).map eK)], .one (.ro true 3 ((O.map fun x => (⟨s, k, x⟩ : Rcd)).map eR)), .one (.v (.int .i64 0))] ∧ rK = [] ∧ rt = 0) := by
  refine Z.con_ofF tabOk 22 Try.f64 _ Try.func64 (by kernel_rfl) rfl rfl rfl rfl ?_
  have ck := rec_con s k v
  rw [hk] at ck
  simp only [cond_true, cond_false] at ck
  have cf := find_con l s k v hl ht
  rw [hth, hp] at cf
  have cd := Ops.do_con t w a b x.cnt x.sum v ins hi hc0
  rw [hr] at cd
  dsimp only at cd
  have hcz : (c.1 == 0 && (c.2 == 0 && true)) = false := by rw [show (c.1 == 0) = false by simp; omega]; rfl
  have cw := clonek_con l hl hne
  obtain ⟨L, hL⟩ : ∃ L, l.eraseIdx p = L := ⟨_, rfl⟩
  have hLl : L.length + 1 = l.length := by rw [← hL, List.length_eraseIdx, if_pos hpl]; omega
  rw [hL]
  rcases O with _ | ⟨y, _ | ⟨z, O⟩⟩
  rotate_right 1
  · exact absurd hO (by simp)
  all_goals (
    repeat' ((conv => whnf); first
      | with_reducible first | refine spB_t ?_
      | ((with_reducible apply spB_cong); (focus (simp only [beq_self_eq_true, bne_self_eq_false, Bool.true_bne, Bool.false_bne, Bool.bne_true, Bool.bne_false, Bool.true_beq, Bool.false_beq, Bool.not_true, Bool.not_false, Bool.not_not, Int.reduceBEq, Int.reduceBNe, Int.reduceLE, Int.reduceLT, Int.reduceEq, decide_true, decide_false]; rfl)))
      | with_reducible first | refine spB_no (by decide) ?_ | refine spB_not ?_ | refine spB_no (by assumption) ?_
      | (with_reducible refine spB_dec ?_ ?_ <;> intro _ <;> (try (exfalso; first | contradiction | omega | (rename_i hz; refine hz ?_; simp; done) | (rename_i hz; simp at hz; done) | (simp only [LN] at *; omega) | (rename_i hz; exact absurd (hcz.symm.trans hz) Bool.false_ne_true))))
      | (with_reducible refine spB_beq ?_ ?_ <;> intro _ <;> (try (exfalso; first | contradiction | omega | (rename_i hz; refine hz ?_; simp; done) | (rename_i hz; simp at hz; done) | (simp only [LN] at *; omega) | (rename_i hz; exact absurd (hcz.symm.trans hz) Bool.false_ne_true))))
      | with_reducible first | refine Z.loopZ_unroll tabOk 3 ?_
      | ((apply Z.callZ_tell (L.map cK ++ [cK ⟨0, 0, 0, 0⟩]) L.length); (focus (exact rfl)); (focus (exact (Z.del_full (f := cK) (z := (⟨0, 0, 0, 0⟩ : Kc)) rfl hpl rfl (by first | rfl | (rw [show l.length - (l.length - 1) = 1 by omega]; rfl))).trans (by rw [hL, List.map_append]; rfl))); (focus ((try simp only [LN] at *) <;> omega)))
      | ((apply Z.callZ_rwcapn (l.map cK)); (focus (exact rfl)); (focus (first | exact ren_map fun _ => rfl)); (intro capv hcapv))
      | ((with_reducible refine slN_hi (p) ?_ ?_ ?_); (focus rfl); (focus ((try simp only [LN] at *) <;> omega)))
      | ((with_reducible refine Z.slN_lo (p + 1) ?_ ?_ ?_); (focus rfl); (focus ((try simp only [LN] at *) <;> omega)))
      | ((with_reducible refine Z.slN_lhc (l.length - 1) l.length ?_ ?_ ?_ ?_ ?_); (iterate 3 (focus ((try simp only [LN] at *) <;> omega))); (focus (exact ⟨_, rfl, (by (try simp only [LN] at *) <;> omega)⟩)))
      | ((with_reducible refine apdE_r ?_); (with_reducible refine aprN.mk ⟨_, rfl, ?_⟩ ?_ ?_ ?_ ?_); (focus ((try simp only [LN] at *) <;> omega)); (focus (exact Z.g_len (f := cK) rfl (by (try simp only [LN] at *) <;> omega))); (focus (exact Z.g_one cK_one rfl)); (focus (exact Z.g_le (f := cK) rfl (by (try simp only [LN] at *) <;> omega))))
      | ((with_reducible refine clrN_mk ?_ ?_ ?_); (focus (exact Z.g_clr (f := cK) rfl (by first | (rw [Z.g_len (f := cK) (l := l) rfl (by (try simp only [LN] at *) <;> omega)]; omega) | (simp; omega)) (by (try simp only [LN] at *) <;> omega))); (focus rfl))
      | ((with_reducible refine Z.slN_lo (p) ?_ ?_ ?_); (focus rfl); (focus ((try simp only [LN] at *) <;> omega)))
      | ((with_reducible refine Z.slN_hc (L.length + 1) ?_ ?_ ?_); (focus rfl); (focus (exact ⟨_, rfl, by first | omega | (dsimp only; omega) | (simp; omega)⟩)))
      | ((with_reducible refine cpyN.mk2 ?_ ?_ ?_ ?_); (focus (exact Z.g_lenp (f := cK) (by (try simp only [LN] at *) <;> omega))); (focus (exact Z.g_onep cK_one (Z.g_min (by (try simp only [LN] at *) <;> omega)))); (focus (exact Z.g_fitp (f := cK) (by (try simp only [LN] at *) <;> omega))))
      | ((with_reducible refine cpyN.mk ?_ ?_ ?_ ?_); (focus rfl); (focus (exact one_all (by rfl))); (focus (exact Z.g_fitp2 (f := cK) (by (try simp only [LN] at *) <;> omega) (Z.g_fitk (by (try simp only [LN] at *) <;> omega)))))
      | ((with_reducible apply Z.callZ_ovl (tS := 28) (tR := 4) tabOk Try.f117 Try.func117 (by kernel_rfl) (by kernel_rfl) (by kernel_rfl) (by kernel_rfl)); (iterate 4 (focus (exact rfl))); (focus (exact Nat.ne_of_beq_eq_false rfl)); (focus (simp; done)); (focus (exact Nat.zero_lt_succ _)))
      | with_reducible first | refine Z.rowN_known hx ?_
      | ((with_reducible refine ixN_mk (p) ?_ ?_ ?_); (focus (first | rfl)); (focus ((try simp only [LN] at *) <;> omega)))
      | ((with_reducible refine posE_pos ?_ ?_); (focus ((try simp only [LN] at *) <;> omega)))
      | ((with_reducible apply rowN_mk); (focus rfl))
      | ((with_reducible apply ixN_lit); (focus (exact rfl)); (focus (exact rfl)))
      | ((with_reducible refine slE_a ?_ ?_); (focus ((try simp only [LN] at *) <;> omega)))
      | ((with_reducible apply sl3N_mk); (focus (exact rfl)); (focus (exact rfl)); (focus (exact rfl)); (focus ((try simp only [LN] at *) <;> omega)); (focus ((try simp only [LN] at *) <;> omega)); (focus ((try simp only [LN] at *) <;> omega)); (focus ((try simp only [LN] at *) <;> omega)))
      | ((with_reducible refine apdN.mk ?_ ?_ ?_ ?_ ?_ ?_); (focus (first | rfl)); (focus (first | exact one_all (by rfl))); (focus ((try simp only [LN] at *) <;> omega)); (focus ((try simp only [LN] at *) <;> omega)); (focus ((try simp only [LN] at *) <;> omega)))
      | with_reducible refine wr_i64 (by first | omega | (simp only [LN] at *; omega)) ?_
      | with_reducible first | refine Z.callZ_in tabOk 38 Try.f101 _ Try.func101 (by kernel_rfl) rfl rfl rfl ?_ | refine Z.callZ_in tabOk 67 Try.f60 _ Try.func60 (by kernel_rfl) rfl rfl rfl ?_ | refine Z.callZ_in tabOk 33 Try.f99 _ Try.func99 (by kernel_rfl) rfl rfl rfl ?_ | refine Z.callZ_in tabOk 95 Try.f100 _ Try.func100 (by kernel_rfl) rfl rfl rfl ?_
      | ((first | (with_reducible refine Z.callZ_mk ?_ (cd) ?_) | (with_reducible refine Z.callZ_mk ?_ (ck) ?_) | (with_reducible refine Z.callZ_mk ?_ (cf) ?_) | (with_reducible refine Z.callZ_mk ?_ (cw) ?_)); (focus ((repeat' (first | exact trivial | exact rfl | apply And.intro)); done)))
      | ((with_reducible apply ex_and); exact rfl)
      | with_reducible first | refine Z.drawZ_rule tabOk mixOk ?_ | refine Z.apZ_mk (by kernel_rfl) ?_)
    all_goals (try (conv => whnf)))
  all_goals try (show Nat.ble _ _ = true; rfl)
  all_goals try (exfalso; rename_i hz; cases hz; done)
  all_goals try (exfalso; (try simp only [LN] at *) <;> omega)
  all_goals first
    | ((first | (with_reducible apply Z.retF2)); (focus (exact rfl)); (repeat' (first | exact trivial | (refine Z.frz_oslw (l := (L.take p ++ (⟨s, k, c.1, c.2⟩ : Kc) :: L.drop p)) (f := cK) (ty := 74) (bx := false) rfl ?_ ?_ (fun _ => rfl); (focus (first | (simp; omega))); (focus (first | exact (congrArg (List.take _) (Z.g_insp (f := cK) (l := L) (g := cK ⟨0, 0, 0, 0⟩) (v := (⟨s, k, c.1, c.2⟩ : Kc)) (by omega) (Z.gS_eq (by omega) rfl) (Z.gT_eqp (f := cK) (by omega) (.inl ⟨(Nat.min_eq_right (by omega)).trans (by omega), by omega⟩)))).trans (List.take_of_length_le (by simp; omega))))) | (refine Z.fq_gsl (l := [(⟨s, k, y⟩ : Rcd)]) (f := cR) (g := eR) (sz := 3) (ty := 39) rfl (fun _ => rfl) ?_) | (with_reducible apply Z.frz_one) | (with_reducible apply Z.frz_agg) | (with_reducible apply Z.fq_int) | (exact Z.frz_nil) | exact rfl | apply And.intro)); (all_goals (try exact (fun _ => none))); all_goals (first | (simp; done)))
end Go.Proofs.Ytehhmkdghgabaaa
namespace Go.Proofs.Ytehhmkdghgabaaa
open Go Go.RowKit Wx
set_option linter.unusedVariables false
set_option linter.unusedSimpArgs false
set_option maxHeartbeats 4000000
theorem con_empagg {P : Program} {g : FuncId} {sz : Nat} {cs : List Ce} {av : List A0} {post : AV → Wx.Kr → Nat → Prop} (ad : Addr) (cap : Nat) (h : Con P g (.agg (.ro false sz [] :: cs) :: av) post) : Con P g (.agg (.v (.slice (some ad) 0 cap) :: cs) :: av) post := by
  refine ⟨h.fn, fun w vs hvs => ?_⟩
  cases vs with
  | nil => exact hvs.elim
  | cons v vs =>
    obtain ⟨⟨us, rfl, hus⟩, hvs⟩ := hvs
    cases us with
    | nil => exact hus.elim
    | cons u us =>
      obtain ⟨hu, hus⟩ := hus
      have hu : u = .slice (some ad) 0 cap := hu
      subst hu
      exact h.run w _ ⟨⟨_, rfl, (show Rd _ (.ro sz []) _ from .emp _ ad cap), hus⟩, hvs⟩
end Go.Proofs.Ytehhmkdghgabaaa
namespace Go.Proofs.Ytehhmkdghgabaaa
open Go Go.RowKit Wx
set_option linter.unusedVariables false
set_option linter.unusedSimpArgs false
set_option maxHeartbeats 4000000
theorem do_0zn (t w a b : Int) (ins : List Int) (s k v : Int) (c : Int × Int) (O : List Int) (hi : ins.length ≤ 9223372036854775807) (hO : O.length ≤ 1) (hk : keyOk s k = true) (hr : Ops.doF t w ins a b 0 0 v = (c, O, 0)) (hc : c = (0, 0)) : Con Try.prog 64 [.agg [.v (.int .i64 t), .v (.int .i64 w), .ro false 1 (ins.map Ops.eI), .v (.int .i64 a), .v (.int .i64 b)], .agg [.v (.slice none 0 0)], .agg [.v (.int .i64 s), .v (.int .i64 k), .v (.int .i64 v)]] (fun rx rK rt => rx = .tup [.agg [.ro true 4 (([] : List Kc).map eK)], .one (.ro true 3 ((O.map fun x => (⟨s, k, x⟩ : Rcd)).map eR)), .one (.v (.int .i64 0))] ∧ rK = [] ∧ rt = 0) := by
  refine Z.con_ofF tabOk 22 Try.f64 _ Try.func64 (by kernel_rfl) rfl rfl rfl rfl ?_
  have ck := rec_con s k v
  rw [hk] at ck
  simp only [cond_true] at ck
  have cf := find_con [] s k v (by simp) rfl
  rw [show thereR [] s k = false from rfl, show posR [] s k = 0 from rfl] at cf
  have cd := Ops.do_con t w a b 0 0 v ins hi (by decide)
  rw [hr] at cd
  dsimp only at cd
  subst hc
  have cw := clonek_0
  rcases O with _ | ⟨y, _ | ⟨z, O⟩⟩
  rotate_right 1
  · exact absurd hO (by simp)
  all_goals (
    repeat' ((conv => whnf); first
      | ((with_reducible apply spB_cong); (focus (simp only [beq_self_eq_true, bne_self_eq_false, Bool.true_bne, Bool.false_bne, Bool.bne_true, Bool.bne_false, Bool.true_beq, Bool.false_beq, Bool.not_true, Bool.not_false, Bool.not_not, Int.reduceBEq, Int.reduceBNe, Int.reduceLE, Int.reduceLT, Int.reduceEq, decide_true, decide_false]; rfl)))
      | with_reducible first | refine spB_no (by decide) ?_
      | (with_reducible refine spB_dec ?_ ?_ <;> intro _ <;> (try (exfalso; first | contradiction | omega | (rename_i hz; refine hz ?_; simp; done) | (rename_i hz; simp at hz; done) | (simp only [LN] at *; omega))))
      | with_reducible first | refine Z.loopZ_unroll tabOk 3 ?_
      | ((with_reducible refine posE_pos ?_ ?_); (focus ((try simp only [LN] at *) <;> omega)))
      | ((with_reducible apply rowN_mk); (focus rfl))
      | ((with_reducible apply ixN_lit); (focus (exact rfl)); (focus (exact rfl)))
      | ((with_reducible refine apdN.mk ?_ ?_ ?_ ?_ ?_ ?_); (focus (first | rfl)); (focus (first | exact one_all (by rfl))); (focus ((try simp only [LN] at *) <;> omega)); (focus ((try simp only [LN] at *) <;> omega)); (focus ((try simp only [LN] at *) <;> omega)))
      | with_reducible refine wr_i64 (by first | omega | (simp only [LN] at *; omega)) ?_
      | with_reducible first | refine Z.callZ_in tabOk 38 Try.f101 _ Try.func101 (by kernel_rfl) rfl rfl rfl ?_ | refine Z.callZ_in tabOk 67 Try.f60 _ Try.func60 (by kernel_rfl) rfl rfl rfl ?_
      | ((first | (with_reducible refine Z.callZ_mk ?_ (cd) ?_) | (with_reducible refine Z.callZ_mk ?_ (ck) ?_) | (with_reducible refine Z.callZ_mk ?_ (cf) ?_) | (with_reducible refine Z.callZ_mk ?_ (cw) ?_)); (focus ((repeat' (first | exact trivial | exact rfl | exact Z.low_nil | exact .inl rfl | apply And.intro)); done)))
      | ((with_reducible apply ex_and); exact rfl)
      | with_reducible first | refine Z.drawZ_rule tabOk mixOk ?_ | refine Z.apZ_mk (by kernel_rfl) ?_)
    all_goals (try (conv => whnf)))
  all_goals try (show Nat.ble _ _ = true; rfl)
  all_goals try (exfalso; rename_i hz; cases hz; done)
  all_goals try (exfalso; (try simp only [LN] at *) <;> omega)
  all_goals first
    | ((first | (with_reducible apply Z.retF2)); (focus (exact rfl)); (repeat' (first | exact trivial | (refine Z.fq_gsl (l := [(⟨s, k, y⟩ : Rcd)]) (f := cR) (g := eR) (sz := 3) (ty := 39) rfl (fun _ => rfl) ?_) | (with_reducible apply Z.frz_one) | (with_reducible apply Z.frz_agg) | (with_reducible apply Z.fq_int) | (exact Z.frz_nil) | exact rfl | apply And.intro)); (all_goals (try exact (fun _ => none))); all_goals (first | (simp; done)))
theorem do_0ze (t w a b : Int) (ins : List Int) (ad : Addr) (cap : Nat) (s k v : Int) (c : Int × Int) (O : List Int) (hi : ins.length ≤ 9223372036854775807) (hO : O.length ≤ 1) (hk : keyOk s k = true) (hr : Ops.doF t w ins a b 0 0 v = (c, O, 0)) (hc : c = (0, 0)) : Con Try.prog 64 [.agg [.v (.int .i64 t), .v (.int .i64 w), .ro false 1 (ins.map Ops.eI), .v (.int .i64 a), .v (.int .i64 b)], .agg [.v (.slice (some ad) 0 cap)], .agg [.v (.int .i64 s), .v (.int .i64 k), .v (.int .i64 v)]] (fun rx rK rt => rx = .tup [.agg [.ro true 4 (([] : List Kc).map eK)], .one (.ro true 3 ((O.map fun x => (⟨s, k, x⟩ : Rcd)).map eR)), .one (.v (.int .i64 0))] ∧ rK = [] ∧ rt = 0) := by
  refine Z.con_ofF tabOk 22 Try.f64 _ Try.func64 (by kernel_rfl) rfl rfl rfl rfl ?_
  have ck := rec_con s k v
  rw [hk] at ck
  simp only [cond_true] at ck
  have cf := find_con [] s k v (by simp) rfl
  rw [show thereR [] s k = false from rfl, show posR [] s k = 0 from rfl] at cf
  have cd := Ops.do_con t w a b 0 0 v ins hi (by decide)
  rw [hr] at cd
  dsimp only at cd
  subst hc
  have cf := con_empagg ad cap cf
  have cw := clonek_1 ad cap
  rcases O with _ | ⟨y, _ | ⟨z, O⟩⟩
  rotate_right 1
  · exact absurd hO (by simp)
  all_goals (
    repeat' ((conv => whnf); first
      | ((with_reducible apply spB_cong); (focus (simp only [beq_self_eq_true, bne_self_eq_false, Bool.true_bne, Bool.false_bne, Bool.bne_true, Bool.bne_false, Bool.true_beq, Bool.false_beq, Bool.not_true, Bool.not_false, Bool.not_not, Int.reduceBEq, Int.reduceBNe, Int.reduceLE, Int.reduceLT, Int.reduceEq, decide_true, decide_false]; rfl)))
      | with_reducible first | refine spB_no (by decide) ?_
      | (with_reducible refine spB_dec ?_ ?_ <;> intro _ <;> (try (exfalso; first | contradiction | omega | (rename_i hz; refine hz ?_; simp; done) | (rename_i hz; simp at hz; done) | (simp only [LN] at *; omega))))
      | with_reducible first | refine Z.loopZ_unroll tabOk 3 ?_
      | ((with_reducible refine posE_pos ?_ ?_); (focus ((try simp only [LN] at *) <;> omega)))
      | ((with_reducible apply rowN_mk); (focus rfl))
      | ((with_reducible apply ixN_lit); (focus (exact rfl)); (focus (exact rfl)))
      | ((with_reducible refine apdN.mk ?_ ?_ ?_ ?_ ?_ ?_); (focus (first | rfl)); (focus (first | exact one_all (by rfl))); (focus ((try simp only [LN] at *) <;> omega)); (focus ((try simp only [LN] at *) <;> omega)); (focus ((try simp only [LN] at *) <;> omega)))
      | with_reducible refine wr_i64 (by first | omega | (simp only [LN] at *; omega)) ?_
      | with_reducible first | refine Z.callZ_in tabOk 38 Try.f101 _ Try.func101 (by kernel_rfl) rfl rfl rfl ?_ | refine Z.callZ_in tabOk 67 Try.f60 _ Try.func60 (by kernel_rfl) rfl rfl rfl ?_
      | ((first | (with_reducible refine Z.callZ_mk ?_ (cd) ?_) | (with_reducible refine Z.callZ_mk ?_ (ck) ?_) | (with_reducible refine Z.callZ_mk ?_ (cf) ?_) | (with_reducible refine Z.callZ_mk ?_ (cw) ?_)); (focus ((repeat' (first | exact trivial | exact rfl | apply And.intro)); done)))
      | ((with_reducible apply ex_and); exact rfl)
      | with_reducible first | refine Z.drawZ_rule tabOk mixOk ?_ | refine Z.apZ_mk (by kernel_rfl) ?_)
    all_goals (try (conv => whnf)))
  all_goals try (show Nat.ble _ _ = true; rfl)
  all_goals try (exfalso; rename_i hz; cases hz; done)
  all_goals try (exfalso; (try simp only [LN] at *) <;> omega)
  all_goals first
    | ((first | (with_reducible apply Z.retF2)); (focus (exact rfl)); (repeat' (first | exact trivial | (refine Z.fq_gsl (l := [(⟨s, k, y⟩ : Rcd)]) (f := cR) (g := eR) (sz := 3) (ty := 39) rfl (fun _ => rfl) ?_) | (with_reducible apply Z.frz_one) | (with_reducible apply Z.frz_agg) | (with_reducible apply Z.fq_int) | (exact Z.frz_nil) | (exact Z.frz_osl0 rfl rfl rfl) | exact rfl | apply And.intro)); (all_goals (try exact (fun _ => none))); all_goals (first | (simp; done)))
end Go.Proofs.Ytehhmkdghgabaaa
