import Derived.Test.YtibjpohankaoeaaWf0
import Derived.Test.YtibjpohankaoeaaWs
import Derived.Test.YtibjpohankaoeaaWzc
import Derived.Test.YtibjpohankaoeaaWzd
import Derived.Test.YtibjpohankaoeaaWy
namespace Go.Proofs.Ytibjpohankaoeaa
open Go Go.RowKit Wx
set_option linter.unusedVariables false
set_option linter.unusedSimpArgs false
set_option maxHeartbeats 4000000
def modE (x n : Int) : Int := if n < 1 then 0 else if x.tmod n < 0 then IntKind.i64.wrap (x.tmod n + n) else x.tmod n
abbrev eI (z : Int) : List RT := [RT.v (.int .i64 z)]
abbrev cI (z : Int) : List Ce := [Ce.v (.int .i64 z)]
/-- What an operator does with a value. -/
def stp (t a b : Int) (c : Int × Int) (v : Int) : (Int × Int) × List Int :=
  if t = 2 then (c, [IntKind.i64.wrap (IntKind.i64.wrap (v * a) + b)])
  else if t = 3 then (c, if modE v a = b then [v] else [])
  else if t = 4 then ((c.1 + 1, IntKind.i64.wrap (c.2 + v)), [IntKind.i64.wrap (c.2 + v)])
  else if t = 5 then (if c.1 + 1 < a then ((c.1 + 1, IntKind.i64.wrap (c.2 + v)), []) else ((0, 0), [IntKind.i64.wrap (c.2 + v)]))
  else (c, [v])
/-- What comes of values. -/
def fs (t a b : Int) (c : Int × Int) (l : List Int) : (Int × Int) × List Int := l.foldl (fun s v => ((stp t a b s.1 v).1, s.2 ++ (stp t a b s.1 v).2)) (c, [])
theorem fs_nil {t a b : Int} {c : Int × Int} : fs t a b c [] = (c, []) := rfl
theorem fs_snoc {t a b : Int} {c : Int × Int} {l : List Int} {v : Int} : fs t a b c (l ++ [v]) = ((stp t a b (fs t a b c l).1 v).1, (fs t a b c l).2 ++ (stp t a b (fs t a b c l).1 v).2) := by
  simp only [fs, List.foldl_append, List.foldl_cons, List.foldl_nil]
theorem fs_step {t a b : Int} {c : Int × Int} {l : List Int} {i : Nat} {v : Int} (h : l[i]? = some v) : fs t a b c (l.take (i + 1)) = ((stp t a b (fs t a b c (l.take i)).1 v).1, (fs t a b c (l.take i)).2 ++ (stp t a b (fs t a b c (l.take i)).1 v).2) := by
  have hlt := (List.getElem?_eq_some_iff.1 h).1
  have hv := (List.getElem?_eq_some_iff.1 h).2
  rw [show l.take (i + 1) = l.take i ++ [v] by rw [List.take_succ_eq_append_getElem hlt, hv], fs_snoc]
theorem fs_acc {t a b : Int} : ∀ (l : List Int) (c : Int × Int) (o : List Int), l.foldl (fun s v => ((stp t a b s.1 v).1, s.2 ++ (stp t a b s.1 v).2)) (c, o) = ((fs t a b c l).1, o ++ (fs t a b c l).2)
  | [], c, o => by simp [fs]
  | v :: l, c, o => by
    simp only [fs, List.foldl_cons, List.nil_append]
    rw [fs_acc l, fs_acc l _ (stp t a b c v).2]
    simp [List.append_assoc]
theorem fs_cons {t a b : Int} {c : Int × Int} {v : Int} {l : List Int} : fs t a b c (v :: l) = ((fs t a b (stp t a b c v).1 l).1, (stp t a b c v).2 ++ (fs t a b (stp t a b c v).1 l).2) := by
  have := fs_acc (t := t) (a := a) (b := b) l (stp t a b c v).1 (stp t a b c v).2
  simp only [fs, List.foldl_cons, List.nil_append]
  exact this
theorem fs_append {t a b : Int} {c : Int × Int} {l m : List Int} : fs t a b c (l ++ m) = ((fs t a b (fs t a b c l).1 m).1, (fs t a b c l).2 ++ (fs t a b (fs t a b c l).1 m).2) := by
  have : fs t a b c (l ++ m) = m.foldl (fun s v => ((stp t a b s.1 v).1, s.2 ++ (stp t a b s.1 v).2)) (fs t a b c l) := by simp only [fs, List.foldl_append]
  rw [this, show fs t a b c l = ((fs t a b c l).1, (fs t a b c l).2) from rfl, fs_acc]
def MX : Int := 9223372036854775807
/-- A cell that an operator may have. -/
def fitP (t a : Int) (c : Int × Int) : Prop := if t = 4 ∨ t = 5 then (c.1 = 0 ∧ c.2 = 0) ∨ (0 < c.1 ∧ (t = 4 ∨ c.1 < a)) else c.1 = 0 ∧ c.2 = 0
instance (t a : Int) (c : Int × Int) : Decidable (fitP t a c) := by unfold fitP; infer_instance
def ris (lim : Int) : Int → List Int → Bool
  | _, [] => true
  | last, x :: r => decide (last < x ∧ x < lim) && ris lim x r
def tagP (t n a b : Int) : Prop := (t = 1 ∧ n = 0 ∧ (0 ≤ a ∧ a < 4) ∧ b = 0) ∨ (t = 2 ∧ n = 1) ∨ (t = 3 ∧ n = 1 ∧ 0 < a ∧ 0 ≤ b ∧ b < a) ∨ ((t = 4 ∨ t = 7) ∧ n = 1 ∧ a = 0 ∧ b = 0) ∨ (t = 5 ∧ n = 1 ∧ (1 ≤ a ∧ a ≤ 8) ∧ b = 0) ∨ (t = 6 ∧ 2 ≤ n ∧ a = 0 ∧ b = 0)
instance (t n a b : Int) : Decidable (tagP t n a b) := by unfold tagP; infer_instance
def okO (t w : Int) (ins : List Int) (a b : Int) : Bool := decide (1 ≤ w ∧ w ≤ 3) && ris 8 (-1) ins && decide (tagP t ins.length a b)
theorem fit_stp {t a b : Int} {c : Int × Int} {v : Int} {n : Int} (ht : tagP t n a b) (h : fitP t a c) : fitP t a (stp t a b c v).1 := by
  unfold tagP at ht
  unfold fitP at h ⊢
  unfold stp
  by_cases h2 : t = 2
  · subst h2; simpa using h
  by_cases h3 : t = 3
  · subst h3; simpa using h
  by_cases h4 : t = 4
  · subst h4; simp at h ⊢; omega
  by_cases h5 : t = 5
  · subst h5
    simp only [h2, h3, h4, if_false, if_true, or_true] at h ⊢
    split
    · simp only; right; omega
    · simp
  · simp only [h2, h3, h4, h5, if_false, or_self] at h ⊢; exact h
theorem fit_fs {t a b : Int} {n : Int} (ht : tagP t n a b) : ∀ (l : List Int) {c : Int × Int}, fitP t a c → fitP t a (fs t a b c l).1
  | [], _, h => h
  | v :: l, _, h => by rw [fs_cons]; exact fit_fs ht l (fit_stp ht h)
theorem fit_low {t a b n : Int} (ht : tagP t n a b) {c : Int × Int} (h : fitP t a c) : 0 ≤ c.1 ∧ (t ≠ 4 → c.1 < 9) := by
  unfold tagP at ht; unfold fitP at h
  split at h
  · omega
  · omega
theorem out_len {t a b : Int} {c : Int × Int} {v : Int} : (stp t a b c v).2.length ≤ 1 := by
  unfold stp; repeat' split
  all_goals simp
theorem fs_len {t a b : Int} : ∀ (l : List Int) {c : Int × Int}, (fs t a b c l).2.length ≤ l.length
  | [], _ => by simp [fs]
  | v :: l, c => by
    rw [fs_cons]; simp only [List.length_append, List.length_cons]
    have h1 := out_len (t := t) (a := a) (b := b) (c := c) (v := v)
    have h2 := fs_len (t := t) (a := a) (b := b) l (c := (stp t a b c v).1)
    omega
theorem wakes_con : Con Try.prog 10 [] (fun x K t => x = .val (.bool true) ∧ K = [] ∧ t = 0) := Y.con_run ftabOk tabOk mixOk 40 12 (by kernel_rfl) (by kernel_rfl)
end Go.Proofs.Ytibjpohankaoeaa
