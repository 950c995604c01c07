/-
  Layer 3 (sum), said plainly: one byte that is another one; two neighbours put the other way round.
-/
import Derived.Test.YtfidmbccboggoaaJoins
namespace Go.Proofs.Ytfidmbccboggoaa
open Go.RowKit

theorem split_at (xs : List Int) (k : Nat) (hk : k < xs.length) : xs = xs.take k ++ ([xs[k]?.getD 0] ++ xs.drop (k + 1)) := by
  rw [← List.append_assoc, ← take_snoc xs k hk, List.take_append_drop]
theorem set_at (xs : List Int) (k : Nat) (v : Int) (hk : k < xs.length) : xs.set k v = xs.take k ++ ([v] ++ xs.drop (k + 1)) := by
  rw [List.set_eq_take_append_cons_drop]; simp [hk]
theorem tot_set (xs : List Int) (k : Nat) (v : Int) (hk : k < xs.length) : tot (xs.set k v) = tot xs - xs[k]?.getD 0 + v := by
  have e := congrArg tot (split_at xs k hk)
  rw [set_at xs k v hk, tot_append, tot_append]
  rw [tot_append, tot_append] at e
  have h1 : ∀ x : Int, tot [x] = x := fun x => by simp [tot]
  rw [h1] at e ⊢
  omega
theorem tri_one (x : Int) : tri [x] = x := by simp [tri]
theorem tot_one (x : Int) : tot [x] = x := by simp [tot]
theorem tri_set (xs : List Int) (k : Nat) (v : Int) (hk : k < xs.length) : tri (xs.set k v) = tri xs + ((xs.length - k : Nat) : Int) * (v - xs[k]?.getD 0) := by
  have e := congrArg tri (split_at xs k hk)
  rw [set_at xs k v hk]
  simp only [tri_append, tri_one, tot_one, List.length_append, List.length_singleton, List.length_drop] at e ⊢
  rw [e]
  have h : ((1 + (xs.length - (k + 1)) : Nat) : Int) = ((xs.length - k : Nat) : Int) := by omega
  have h2 : ((xs.length - (k + 1) : Nat) : Int) = ((xs.length - k : Nat) : Int) - 1 := by omega
  rw [h, h2, Int.sub_mul, Int.sub_mul, Int.mul_sub]
  omega
/-- One byte that is another one: the low sum is another one. -/
theorem adl_set (xs : List Int) (k : Nat) (v : Int) (hk : k < xs.length) (hb : bytesOk xs) (h0 : 0 ≤ v) (h1 : v ≤ 255) : adl (xs.set k v) = adl xs ↔ v = xs[k]?.getD 0 := by
  constructor
  · intro h
    have hl : lo (xs.set k v) = lo xs := by rw [← adl_lo, h, adl_lo]
    obtain ⟨b0, b1⟩ := hb k hk
    simp only [lo, tot_set xs k v hk] at hl
    omega
  · intro h
    have : xs.set k v = xs := by
      rw [h, List.getElem?_eq_getElem hk]; simp
    rw [this]
/-- Two neighbours put the other way round. -/
theorem adl_swap (xs : List Int) (k : Nat) (hk : k + 1 < xs.length) (hb : bytesOk xs) : adl ((xs.set k (xs[k + 1]?.getD 0)).set (k + 1) (xs[k]?.getD 0)) = adl xs ↔ xs[k]?.getD 0 = xs[k + 1]?.getD 0 := by
  obtain ⟨a0, a1⟩ := hb k (by omega)
  obtain ⟨b0, b1⟩ := hb (k + 1) hk
  have hg : ((xs.set k (xs[k + 1]?.getD 0))[k + 1]?.getD 0) = xs[k + 1]?.getD 0 := by
    rw [List.getElem?_set_ne (by omega)]
  have ht : tri ((xs.set k (xs[k + 1]?.getD 0)).set (k + 1) (xs[k]?.getD 0)) = tri xs + (xs[k + 1]?.getD 0 - xs[k]?.getD 0) := by
    rw [tri_set _ _ _ (by simpa using hk), tri_set _ _ _ (by omega), hg, List.length_set]
    have h2 : ((xs.length - (k + 1) : Nat) : Int) = ((xs.length - k : Nat) : Int) - 1 := by omega
    rw [h2, Int.sub_mul, Int.mul_sub, Int.mul_sub]
    omega
  constructor
  · intro h
    have hh : hi ((xs.set k (xs[k + 1]?.getD 0)).set (k + 1) (xs[k]?.getD 0)) = hi xs := by rw [← adl_hi, h, adl_hi]
    simp only [hi, ht, List.length_set] at hh
    omega
  · intro h
    have e1 : xs.set k (xs[k + 1]?.getD 0) = xs := by
      rw [← h, List.getElem?_eq_getElem (by omega)]; simp
    have e2 : xs.set (k + 1) (xs[k]?.getD 0) = xs := by
      rw [h, List.getElem?_eq_getElem hk]; simp
    rw [e1, e2]
theorem bytesOk_set {xs : List Int} (h : bytesOk xs) (k : Nat) (v : Int) (h0 : 0 ≤ v) (h1 : v ≤ 255) : bytesOk (xs.set k v) := by
  intro j hj
  have hj' : j < xs.length := by simpa using hj
  by_cases hjk : k = j
  · subst hjk
    simp [hj']
    exact ⟨h0, h1⟩
  · rw [List.getElem?_set_ne hjk]; exact h j hj'
theorem xor_bd (a b : Int) (a0 : 0 ≤ a) (a1 : a ≤ 255) (b0 : 0 ≤ b) (b1 : b ≤ 255) : 0 ≤ bits .xor .u8 a b ∧ bits .xor .u8 a b ≤ 255 ∧ (bits .xor .u8 a b = a ↔ b = 0) := by
  rw [u8_xor a b a0 (by omega) b0 (by omega)]
  have h : a.toNat ^^^ b.toNat < 2 ^ 8 := Nat.xor_lt_two_pow (by omega) (by omega)
  refine ⟨by omega, by omega, ?_⟩
  constructor
  · intro e
    have e1 : a.toNat ^^^ b.toNat = a.toNat := by omega
    have e2 : b.toNat = 0 := by
      have := congrArg (fun x => a.toNat ^^^ x) e1
      simpa [← Nat.xor_assoc] using this
    omega
  · rintro rfl
    simp; omega
end Go.Proofs.Ytfidmbccboggoaa
