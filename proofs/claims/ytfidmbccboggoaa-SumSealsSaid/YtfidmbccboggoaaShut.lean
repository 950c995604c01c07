/-
  Layer 3 (sum), said plainly: what was sealed, with one byte that is another one.
-/
import Derived.Test.YtfidmbccboggoaaTurn
namespace Go.Proofs.Ytfidmbccboggoaa
open Go.RowKit

theorem take_drop_one (xs : List Int) (n : Nat) (h : xs.length = n + 1) : xs = xs.take n ++ [xs[n]?.getD 0] := by
  have := take_snoc xs n (by omega)
  rw [List.take_of_length_le (by omega)] at this
  exact this
theorem num_inj : ∀ (n : Nat) (xs ys : List Int), xs.length = n → ys.length = n → bytesOk xs → bytesOk ys → num xs = num ys → xs = ys := by
  intro n
  induction n with
  | zero => intro xs ys hx hy _ _ _; rw [List.eq_nil_of_length_eq_zero hx, List.eq_nil_of_length_eq_zero hy]
  | succ n ih =>
    intro xs ys hx hy bx by' h
    have ex := take_drop_one xs n hx
    have ey := take_drop_one ys n hy
    obtain ⟨x0, x1⟩ := bx n (by omega)
    obtain ⟨y0, y1⟩ := by' n (by omega)
    rw [ex, ey, num_snoc, num_snoc] at h
    have h1 : xs[n]?.getD 0 = ys[n]?.getD 0 := by omega
    have h2 : num (xs.take n) = num (ys.take n) := by omega
    have h3 := ih _ _ (by rw [List.length_take]; omega) (by rw [List.length_take]; omega) (bytesOk_take bx n) (bytesOk_take by' n) h2
    rw [ex, ey, h1, h3]
/-- What was sealed is opened no more, when one byte is another one. -/
theorem turned_seal (xs : List Int) (k : Nat) (v : Int) (hb : bytesOk xs) (hk : k < xs.length + 4) (h0 : 0 ≤ v) (h1 : v ≤ 255) (hv : v ≠ (xs ++ be 4 (adl xs))[k]?.getD 0) :
    num (((xs ++ be 4 (adl xs)).set k v).drop xs.length) ≠ adl (((xs ++ be 4 (adl xs)).set k v).take xs.length) := by
  have hn : num (be 4 (adl xs)) = adl xs := num_be 4 _ (adl_bd xs).1 (by simpa using (adl_bd xs).2)
  by_cases hl : k < xs.length
  · rw [List.set_append_left _ _ hl]
    have e1 : ((xs.set k v) ++ be 4 (adl xs)).drop xs.length = be 4 (adl xs) := by
      rw [show xs.length = (xs.set k v).length by rw [List.length_set], List.drop_left]
    have e2 : ((xs.set k v) ++ be 4 (adl xs)).take xs.length = xs.set k v := by
      rw [show xs.length = (xs.set k v).length by rw [List.length_set], List.take_left]
    rw [e1, e2, hn]
    intro h
    rw [List.getElem?_append_left hl] at hv
    exact hv ((adl_set xs k v hl hb h0 h1).1 h.symm)
  · rw [List.set_append_right _ _ (by omega), List.drop_left, List.take_left]
    intro h
    rw [List.getElem?_append_right (by omega)] at hv
    have hlen : k - xs.length < (be 4 (adl xs)).length := by rw [be_length]; omega
    have h2 := num_inj 4 ((be 4 (adl xs)).set (k - xs.length) v) (be 4 (adl xs)) (by rw [List.length_set, be_length]) (be_length _ _) (bytesOk_set (be_ok _ _) _ _ h0 h1) (be_ok _ _) (by rw [h, hn])
    have h3 := congrArg (fun l => l[k - xs.length]?.getD 0) h2
    simp [hlen] at h3
    rw [List.getElem?_eq_getElem hlen] at hv
    exact hv (by simpa using h3)
end Go.Proofs.Ytfidmbccboggoaa
