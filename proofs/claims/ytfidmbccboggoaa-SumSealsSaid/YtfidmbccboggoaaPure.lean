/-
  Layer 3 (sum), said plainly: Adler's sum by plain sums.
-/
import Derived.Test.YtfidmbccboggoaaOctSeven
namespace Go.Proofs.Ytfidmbccboggoaa
open Go.RowKit

/-- All bytes together; of all beginnings that are not empty, together. -/
def tot (xs : List Int) : Int := xs.foldl (fun x b => x + b) 0
theorem tot_snoc (xs : List Int) (b : Int) : tot (xs ++ [b]) = tot xs + b := by simp [tot]
def tri : List Int → Int
  | [] => 0
  | b :: r => b * (r.length + 1) + tri r
theorem tot_cons (b : Int) (xs : List Int) : tot (b :: xs) = b + tot xs := by
  have h : ∀ (ys : List Int) (x y : Int), ys.foldl (fun x b => x + b) (x + y) = x + ys.foldl (fun x b => x + b) y := by
    intro ys
    induction ys with
    | nil => intro x y; rfl
    | cons c r ih => intro x y; simp only [List.foldl_cons]; rw [Int.add_assoc, ih]
  have := h xs b 0
  simpa [tot] using this
theorem tot_append (xs ys : List Int) : tot (xs ++ ys) = tot xs + tot ys := by
  induction xs with
  | nil => simp [tot]
  | cons b r ih => rw [List.cons_append, tot_cons, tot_cons, ih]; omega
theorem tri_append (xs ys : List Int) : tri (xs ++ ys) = tri xs + tri ys + ys.length * tot xs := by
  induction xs with
  | nil => simp [tri, tot]
  | cons b r ih =>
    rw [List.cons_append, tri, ih, tri, tot_cons, List.length_append]
    have e1 : b * (((r.length + ys.length : Nat) : Int) + 1) = b * ((r.length : Int) + 1) + ys.length * b := by
      rw [show ((r.length + ys.length : Nat) : Int) + 1 = ((r.length : Int) + 1) + ys.length by omega, Int.mul_add, Int.mul_comm b ys.length]
    have e2 : (ys.length : Int) * (b + tot r) = ys.length * b + ys.length * tot r := Int.mul_add _ _ _
    omega
theorem tri_snoc (xs : List Int) (b : Int) : tri (xs ++ [b]) = tri xs + tot xs + b := by
  rw [tri_append]; simp [tri]; omega

/-- The low sum, the high one, and both. -/
def lo (xs : List Int) : Int := (1 + tot xs) % 65521
def hi (xs : List Int) : Int := (xs.length + tri xs) % 65521
def adl (xs : List Int) : Int := hi xs * 65536 + lo xs
theorem lo_snoc (xs : List Int) (b : Int) : lo (xs ++ [b]) = (lo xs + b) % 65521 := by
  simp only [lo, tot_snoc]; omega
theorem hi_snoc (xs : List Int) (b : Int) : hi (xs ++ [b]) = (hi xs + lo (xs ++ [b])) % 65521 := by
  simp only [lo, hi, tot_snoc, tri_snoc, List.length_append, List.length_singleton]; omega
theorem lo_bd (xs : List Int) : 0 ≤ lo xs ∧ lo xs < 65521 := by unfold lo; omega
theorem hi_bd (xs : List Int) : 0 ≤ hi xs ∧ hi xs < 65521 := by unfold hi; omega
theorem adl_bd (xs : List Int) : 0 ≤ adl xs ∧ adl xs < 4294967296 := by
  have := lo_bd xs; have := hi_bd xs; unfold adl; omega
theorem adl_hi (xs : List Int) : adl xs / 65536 = hi xs := by
  have := lo_bd xs; have := hi_bd xs; unfold adl; omega
theorem adl_lo (xs : List Int) : adl xs % 65536 = lo xs := by
  have := lo_bd xs; have := hi_bd xs; unfold adl; omega
theorem join16 (h l : Int) (h0 : 0 ≤ h) (h1 : h < 65521) (l0 : 0 ≤ l) (l1 : l < 65521) : bits .or .u32 (IntKind.u32.wrap (h * 65536)) l = h * 65536 + l := by
  have hw : IntKind.u32.wrap (h * 65536) = h * 65536 := by
    show (h * 65536) % 4294967296 = h * 65536
    omega
  rw [hw, u32_or _ _ (by omega) (by omega) l0 (by omega), Nat.or_comm, nat_join16' _ _ (by omega) (by omega)]
  omega
/-- One row behind the other. -/
theorem lo_join (xs ys : List Int) : lo (xs ++ ys) = (lo xs + lo ys + 65521 - 1) % 65521 := by
  simp only [lo, tot_append]; omega
theorem hi_join (xs ys : List Int) : hi (xs ++ ys) = (hi xs + hi ys + (ys.length * (lo xs + 65521 - 1)) % 65521) % 65521 := by
  have e : (ys.length * (lo xs + 65521 - 1)) % 65521 = (ys.length * tot xs) % 65521 := by
    rw [Int.mul_emod, show (lo xs + 65521 - 1) % 65521 = tot xs % 65521 by unfold lo; omega, ← Int.mul_emod]
  rw [e]
  simp only [hi, tri_append, List.length_append]
  generalize (ys.length : Int) * tot xs = z
  omega
end Go.Proofs.Ytfidmbccboggoaa
