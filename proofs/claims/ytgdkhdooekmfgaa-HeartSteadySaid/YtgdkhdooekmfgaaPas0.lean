import Derived.Test.YtgdkhdooekmfgaaTel3
import Derived.Test.YtgdkhdooekmfgaaWzc
namespace Go.Proofs.Ytgdkhdooekmfgaa
open Go Go.RowKit Wx
set_option linter.unusedVariables false
set_option linter.unusedSimpArgs false
set_option maxHeartbeats 4000000
def isLate (span t : Int) (p : Pu) : Bool := !p.d && decide (p.h + span ≤ t)
def dn (span t : Int) (p : Pu) : Pu := if isLate span t p = true then ⟨p.w, p.h, true⟩ else p
def gone (span t : Int) (ps : List Pu) : List Int := (ps.filter (isLate span t)).map (fun p => p.w)
def mkq (span t : Int) (ps : List Pu) (i : Nat) : List Pu := (ps.take i).map (dn span t) ++ ps.drop i
theorem mkq_get {span t : Int} {ps : List Pu} {i : Nat} {x : Pu} (h : ps[i]? = some x) : (mkq span t ps i)[i]? = some x := by
  have hlt := (List.getElem?_eq_some_iff.1 h).1
  unfold mkq
  rw [List.getElem?_append_right (by simp only [List.length_map, List.length_take]; omega)]
  simp only [List.length_map, List.length_take]
  rw [show i - min i ps.length = 0 by omega, List.getElem?_drop, Nat.add_zero, h]
theorem mkq_succ {span t : Int} {ps : List Pu} {i : Nat} {x : Pu} (h : ps[i]? = some x) : mkq span t ps (i + 1) = (mkq span t ps i).set i (dn span t x) := by
  have hlt := (List.getElem?_eq_some_iff.1 h).1
  unfold mkq
  rw [take_snoc h, List.map_append, drop_cons h, List.set_append_right _ _ (by simp only [List.length_map, List.length_take]; omega)]
  simp only [List.length_map, List.length_take]
  rw [show i - min i ps.length = 0 by omega]
  simp
theorem mkq_yes {span t : Int} {ps : List Pu} {i : Nat} {x : Pu} (h : ps[i]? = some x) (hd : x.d = false) (hh : x.h + span ≤ t) : mkq span t ps (i + 1) = (mkq span t ps i).set i ⟨x.w, x.h, true⟩ := by
  rw [mkq_succ h]; simp [dn, isLate, hd, hh]
theorem mkq_no {span t : Int} {ps : List Pu} {i : Nat} {x : Pu} (h : ps[i]? = some x) (hn : ¬ (x.d = false ∧ x.h + span ≤ t)) : mkq span t ps (i + 1) = mkq span t ps i := by
  rw [mkq_succ h]
  have : dn span t x = x := by unfold dn; rw [if_neg]; simp only [isLate, Bool.and_eq_true, Bool.not_eq_true', decide_eq_true_eq]; exact hn
  rw [this]
  apply List.ext_getElem?
  intro j
  rw [List.getElem?_set]
  split
  · rename_i e; subst e; split
    · rw [mkq_get h]
    · rw [mkq_get h] at *; rename_i h2; have := (List.getElem?_eq_some_iff.1 (mkq_get (span := span) (t := t) h)).1; omega
  · rfl
theorem mkq_len (span t : Int) (ps : List Pu) (i : Nat) : (mkq span t ps i).length = ps.length := by
  unfold mkq; simp only [List.length_append, List.length_map, List.length_take, List.length_drop]; omega
theorem gone_yes {span t : Int} {ps : List Pu} {i : Nat} {x : Pu} (h : ps[i]? = some x) (hd : x.d = false) (hh : x.h + span ≤ t) : gone span t (ps.take (i + 1)) = gone span t (ps.take i) ++ [x.w] := by
  rw [take_snoc h]; simp [gone, List.filter_append, isLate, hd, hh]
theorem gone_no {span t : Int} {ps : List Pu} {i : Nat} {x : Pu} (h : ps[i]? = some x) (hn : ¬ (x.d = false ∧ x.h + span ≤ t)) : gone span t (ps.take (i + 1)) = gone span t (ps.take i) := by
  rw [take_snoc h]
  have : isLate span t x = false := by
    rw [Bool.eq_false_iff]; simp only [isLate, ne_eq, Bool.and_eq_true, Bool.not_eq_true', decide_eq_true_eq]; exact hn
  simp [gone, List.filter_append, this]
theorem gone_len (span t : Int) (ps : List Pu) : (gone span t ps).length ≤ ps.length := by simp only [gone, List.length_map]; exact List.length_filter_le _ _
end Go.Proofs.Ytgdkhdooekmfgaa
