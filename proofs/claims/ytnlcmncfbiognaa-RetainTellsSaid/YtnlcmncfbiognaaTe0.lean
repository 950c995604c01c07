import Derived.Test.YtnlcmncfbiognaaWakes
import Derived.Test.YtnlcmncfbiognaaWs
namespace Go.Proofs.Ytnlcmncfbiognaa
open Go Go.RowKit Wx
set_option linter.unusedVariables false
set_option linter.unusedSimpArgs false
set_option maxHeartbeats 4000000
structure Kp where
  num : Int
  sv : Bool
  op : Bool
deriving DecidableEq
theorem eqK {x y : Kp} (h1 : x.num = y.num) (h2 : x.sv = y.sv) (h3 : x.op = y.op) : x = y := by cases x; cases y; simp_all
abbrev eK (x : Kp) : List RT := [RT.v (.int .u64 x.num), RT.v (.bool x.sv), RT.v (.bool x.op)]
abbrev cK (x : Kp) : List Ce := [Ce.v (.int .u64 x.num), Ce.v (.bool x.sv), Ce.v (.bool x.op)]
abbrev eU (z : Int) : List RT := [RT.v (.int .u64 z)]
abbrev cU (z : Int) : List Ce := [Ce.v (.int .u64 z)]
abbrev k0 : Kp := ⟨0, false, false⟩
def okK : Kp → List Kp → Bool
  | _, [] => true
  | a, r :: rs => decide (a.num < r.num ∧ r.num ≤ 4611686018427387904 ∧ (a.op = true → r.op = true)) && okK r rs
def okS (keep : Int) (rs : List Kp) : Bool := decide ((1 ≤ keep ∧ keep ≤ 4) ∧ (rs.length : Int) ≤ 16) && okK k0 rs
def lastK (rs : List Kp) : Kp := rs.getLast?.getD k0
def saves (rs : List Kp) : List Int := (rs.filter (fun r => r.sv)).map (fun r => r.num)
def idxO (rs : List Kp) : Int := if rs.findIdx (fun r => r.op) < rs.length then (rs.findIdx (fun r => r.op) : Int) else -1
def nextN (rs : List Kp) : Int := ((rs.find? (fun r => r.op)).map (fun r => r.num)).getD 0
theorem saves_yes {rs : List Kp} {i : Nat} {x : Kp} (h : rs[i]? = some x) (hd : x.sv = true) : saves (rs.take (i + 1)) = saves (rs.take i) ++ [x.num] := by
  rw [take_snoc h]; simp [saves, List.filter_append, hd]
theorem saves_no {rs : List Kp} {i : Nat} {x : Kp} (h : rs[i]? = some x) (hd : x.sv = false) : saves (rs.take (i + 1)) = saves (rs.take i) := by
  rw [take_snoc h]; simp [saves, List.filter_append, hd]
theorem saves_len (rs : List Kp) : (saves rs).length ≤ rs.length := by simp only [saves, List.length_map]; exact List.length_filter_le _ _
theorem okK_mem : ∀ {rs : List Kp} {a : Kp}, 0 ≤ a.num → okK a rs = true → ∀ p ∈ rs, 1 ≤ p.num
  | [], _, _, _, p, hp => by simp at hp
  | q :: r, a, ha, h, p, hp => by
    simp only [okK, Bool.and_eq_true, decide_eq_true_eq] at h
    rcases List.mem_cons.1 hp with rfl | hp
    · omega
    · exact okK_mem (by omega) h.2 p hp
theorem idx_at {rs : List Kp} {i : Nat} {x : Kp} (h : rs[i]? = some x) (hi : i ≤ rs.findIdx (fun r => r.op)) (hx : x.op = true) : idxO rs = i := by
  obtain ⟨hlt, he⟩ := List.getElem?_eq_some_iff.1 h
  have h2 : rs.findIdx (fun r => r.op) ≤ i := by
    rcases Nat.lt_or_ge i (rs.findIdx (fun r => r.op)) with h3 | h3
    · have := List.not_of_lt_findIdx h3
      rw [he] at this; simp [hx] at this
    · exact h3
  have : rs.findIdx (fun r => r.op) = i := by omega
  unfold idxO; rw [this, if_pos hlt]
theorem idx_step {rs : List Kp} {i : Nat} {x : Kp} (h : rs[i]? = some x) (hi : i ≤ rs.findIdx (fun r => r.op)) (hx : x.op = false) : i + 1 ≤ rs.findIdx (fun r => r.op) := by
  obtain ⟨hlt, he⟩ := List.getElem?_eq_some_iff.1 h
  rcases Nat.lt_or_ge i (rs.findIdx (fun r => r.op)) with h3 | h3
  · exact h3
  · have h4 : rs.findIdx (fun r => r.op) = i := by omega
    have h5 : rs.findIdx (fun r => r.op) < rs.length := by omega
    have := List.findIdx_getElem (w := h5)
    simp only [h4] at this
    rw [he, hx] at this; cases this
theorem idx_none {rs : List Kp} (hi : rs.length ≤ rs.findIdx (fun r => r.op)) : idxO rs = -1 := by unfold idxO; rw [if_neg (by omega)]
theorem idx_next {rs : List Kp} : (idxO rs < 0 ∧ rs.find? (fun r => r.op) = none) ∨ ∃ (i : Nat) (x : Kp), idxO rs = i ∧ rs[i]? = some x ∧ rs.find? (fun r => r.op) = some x := by
  unfold idxO
  by_cases h : rs.findIdx (fun r => r.op) < rs.length
  · rw [if_pos h]
    refine .inr ⟨_, rs[rs.findIdx (fun r => r.op)], rfl, List.getElem?_eq_getElem h, ?_⟩
    have h1 := List.findIdx_getElem (w := h)
    rw [List.find?_eq_some_iff_getElem]
    exact ⟨h1, _, h, rfl, fun j hj => by simpa using List.not_of_lt_findIdx hj⟩
  · rw [if_neg h]
    refine .inl ⟨by omega, ?_⟩
    rw [List.find?_eq_none]
    intro x hx
    have h2 : rs.findIdx (fun r => r.op) = rs.length := Nat.le_antisymm List.findIdx_le_length (by omega)
    have := List.findIdx_eq_length.1 h2 x hx
    simpa using this
theorem find_snoc {rs : List Kp} {i : Nat} {x : Kp} (h : rs[i]? = some x) : (rs.take (i + 1)).find? (fun r => r.op) = ((rs.take i).find? (fun r => r.op)).or (if x.op then some x else none) := by
  rw [take_snoc h, List.find?_append]
  congr 1
  simp only [List.find?_cons, List.find?_nil]
  cases x.op <;> rfl
theorem last_snoc {rs : List Kp} {i : Nat} {x : Kp} (h : rs[i]? = some x) : lastK (rs.take (i + 1)) = x := by
  rw [take_snoc h]; simp [lastK]
end Go.Proofs.Ytnlcmncfbiognaa
