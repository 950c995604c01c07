/-
  What is known of slices of bytes that come in.
-/
import Derived.Test.YtngnhieddblnmaaLays
namespace Go.Proofs.Ytngnhieddblnmaa
open Go.ChangeShapes Go.WideShapes Go.ChangeAt Go.RowKit

/-- What is known of a slice of bytes that came in. -/
structure InB (w : World) (a : Option Addr) (n c : Nat) (xs : List Int) : Prop where
  len : xs.length = n
  seen : Seen w a xs
  cap : n ≤ c
  ok : bytesOk xs
  nil : a = none → n = 0 ∧ c = 0

theorem ret_bool {a b : Bool} (h : a = b) : Ending.returned (.bool a) = .returned (.bool b) := by rw [h]
theorem InB.later {w w1 : World} {a : Option Addr} {n c : Nat} {xs : List Int} (h : InB w a n c xs) (hb : Below w.heap.size w w1) : InB w1 a n c xs :=
  ⟨h.len, h.seen.later hb, h.cap, h.ok, h.nil⟩
theorem InB.adds {w w1 : World} {ad : Addr} {n c : Nat} {xs : List Int} (h : InB w (some ad) n c xs) (hb : Below w.heap.size w w1) : ∀ j u, (By xs)[j]? = some u → w1.cell? (ad.add j) = some u := by
  intro j u hj
  have h0 : 0 < xs.length := by
    rcases Nat.eq_zero_or_pos xs.length with h | h
    · rw [List.eq_nil_of_length_eq_zero h] at hj; simp [By] at hj
    · exact h
  obtain ⟨ad', he, hc⟩ := (h.seen.later hb) h0
  obtain rfl : ad = ad' := by simpa using he
  exact hc j u hj

/-- WHAT THE WALK IS TOLD OF A SLICE OF INTEGERS THAT CAME IN: it is nil; or it leads to a row of 'cap' cells, the numbers 'zs' (the first 'len' are its elements, the rest its spare room), each fitting its kind. -/
def Came (k : IntKind) (w : World) (a : Option Addr) (len cap : Nat) (zs : List Int) : Prop :=
  (a = none ∧ len = 0 ∧ cap = 0 ∧ zs = []) ∨
  ∃ x, a = some x ∧ len ≤ cap ∧ cap ≤ maxLen ∧ zs.length = cap ∧ (∀ i, i < zs.length → w.cell? (x.add i) = some (.int k (zs.getD i 0))) ∧ ∀ n ∈ zs, (Lit.int k n).wf = true

theorem came_in {w : World} {a : Option Addr} {n c : Nat} {zs : List Int} (h : Came .u8 w a n c zs) : InB w a n c (zs.take n) := by
  rcases h with ⟨rfl, rfl, rfl, rfl⟩ | ⟨x, rfl, hl, hm, hz, hcell, hwz⟩
  · exact ⟨rfl, fun h => absurd h (by decide), Nat.le_refl _, fun j hj => absurd hj (by simp), fun _ => ⟨rfl, rfl⟩⟩
  · have hlen : (zs.take n).length = n := by rw [List.length_take]; omega
    refine ⟨hlen, fun _ => ⟨x, rfl, fun j v hj => ?_⟩, hl, fun j hj => ?_, fun h => by cases h⟩
    · have hj' : j < n := by
        rcases Nat.lt_or_ge j (By (zs.take n)).length with h' | h'
        · rw [By_length, hlen] at h'; exact h'
        · rw [List.getElem?_eq_none h'] at hj; cases hj
      rw [hcell j (by omega), ← hj]
      simp [By, List.getElem?_take_of_lt hj', List.getElem?_eq_getElem (show j < zs.length by omega), List.map_take, List.getD]
    · rw [hlen] at hj
      rw [List.getElem?_take_of_lt hj, List.getElem?_eq_getElem (show j < zs.length by omega)]
      have := bounds_u8 (hwz (zs[j]'(by omega)) (List.getElem_mem _))
      simpa using this

end Go.Proofs.Ytngnhieddblnmaa
