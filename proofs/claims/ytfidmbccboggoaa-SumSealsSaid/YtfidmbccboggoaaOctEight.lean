/-
  The walks of layer 1's functions (octet), at the seat's numbers: Put16, Put32, Put64, Equal.
-/
import Derived.Test.YtfidmbccboggoaaOctSeven
import Derived.BigQuiet
import Derived.Deep.QuietTactic
namespace Go.Proofs.Ytfidmbccboggoaa
open Go.ChangeShapes Go.WideShapes Go.ChangeAt Go.RowKit

theorem put32_any (a : Option Addr) (n c : Nat) (x : Int) (xs : List Int) (w : World) (hn : xs.length = n) (hs : Seen w a xs) (hreach : n ≤ 140737488351232) (h0 : 0 ≤ x) (h1 : x < 4294967296) :
    Calls Try.prog 22 #[.slice a n c, .int .u32 x] w fun e w' => e = .returned (.slice (some ⟨w.heap.size, 0, none⟩) (n + 4) (n + 4)) ∧
      w'.heap[w.heap.size]? = some (.cells (By (xs ++ be 4 x)).toArray 5 (0, 0)) ∧ Below w.heap.size w w' := by
  have HN := Lib.hid hn; clear hn
  have HS := Lib.hid hs; clear hs
  go_enter Try.func22, Try.ntmps22
  go_wp2_with (go_at_call 26; refine (put_any _ _ _ 4 _ xs _ HN.out HS.out hreach (by decide) h0 (by omega)).mono ?_; rintro e w1 ⟨rfl, hg, hb⟩; have HG := Lib.hid hg; clear hg)
  go_ret
  exact ⟨rfl, HG.out, hb⟩
/-- The place where the bytes lie, where there are any. -/
theorem Seen.place {w : World} {a : Option Addr} {xs : List Int} (h : Seen w a xs) (h0 : 0 < xs.length) :
    ∃ b o, a = some ⟨b, o, none⟩ ∧ b < w.heap.size ∧ ∀ j, j < xs.length → w.cell? ⟨b, o + j, none⟩ = some (.int .u8 (xs[j]?.getD 0)) := by
  obtain ⟨ad, rfl, hcs⟩ := h h0
  have hc0 := hcs 0 (.int .u8 (xs[0])) (by simp [By, List.getElem?_eq_getElem h0])
  have hs := World.cell?_spot hc0
  have hblt := World.block_lt_of_cell? _ _ hc0
  obtain ⟨b, o, sp⟩ := ad
  simp [Addr.add] at hs hblt
  subst hs
  refine ⟨b, o, rfl, hblt, fun j hj => ?_⟩
  have := hcs j (.int .u8 (xs[j])) (by simp [By, List.getElem?_eq_getElem hj])
  rw [List.getElem?_eq_getElem hj]
  cases j <;> simpa [Addr.add] using this

def same (xs ys : List Int) : Bool := decide (xs = ys)

theorem same_not {xs ys : List Int} {k : Nat} (h : (xs[k]?.getD 0 != ys[k]?.getD 0) = true) : same xs ys = false := by
  simp only [same, decide_eq_false_iff_not]
  rintro rfl
  simp at h
theorem drewN_below (B : Nat) (w : World) (n : Nat) : Below B w (w.drewN n) := ⟨rfl, rfl, rfl, Nat.le_refl _, fun _ _ => rfl⟩

end Go.Proofs.Ytfidmbccboggoaa
