/-
  The walks of layer 1's functions (octet), at the seat's numbers: the layer does something.
-/
import Derived.Test.YtngnhieddblnmaaNine
namespace Go.Proofs.Ytngnhieddblnmaa
open Go.ChangeShapes Go.WideShapes Go.ChangeAt Go.RowKit

theorem row_seen {w : World} {g : Nat} {cs : Array Value} {xs : List Int} (h : w.heap[g]? = some (.cells cs 5 (0, 0))) (hc : cs = (By xs).toArray) : Seen w (some ⟨g, 0, none⟩) xs := by
  subst hc; exact Seen.row h
theorem RdAt.only {w w1 : World} {R : Nat} {xs : List Int} {e : Int} (h : RdAt w R xs e) (hb : Below w.heap.size w w1) : RdAt w1 R xs e := h.later hb
theorem keep {B b : Nat} {w w1 : World} {o : Obj} (hb : Below B w w1) (hB : b < B) (h : w.heap[b]? = some o) : w1.heap[b]? = some o := (hb.block b hB).trans h

theorem wu8 (R : Nat) (w : World) (h : RdAt w R [1, 0, 42, 7] 0) : Calls Try.prog 19 #[.pointer (some ⟨R, 0, none⟩)] w fun f w' => f = .returned (.int .u8 1) ∧ Only R w w' ∧ RdAt w' R [0, 42, 7] 0 :=
  u8_ok R _ w h (by decide) (by intro j hj; match j, hj with | 0, _ => decide | 1, _ => decide | 2, _ => decide | 3, _ => decide)
theorem wu16 (R : Nat) (w : World) (h : RdAt w R [0, 42, 7] 0) : Calls Try.prog 21 #[.pointer (some ⟨R, 0, none⟩)] w fun f w' => f = .returned (.int .u16 42) ∧ Only R w w' ∧ RdAt w' R [7] 0 :=
  u16_ok R _ w h (by decide) (by intro j hj; match j, hj with | 0, _ => decide | 1, _ => decide | 2, _ => decide)
theorem wu16s (R : Nat) (w : World) (h : RdAt w R [7] 0) : Calls Try.prog 21 #[.pointer (some ⟨R, 0, none⟩)] w fun f w' => f = .returned (.int .u16 0) ∧ Only R w w' ∧ RdAt w' R [7] 7 :=
  u16_short R _ w h (by decide)
theorem wput (g : Nat) (w : World) (h : w.heap[g]? = some (.cells #[.int .u8 1] 5 (0, 0))) : Calls Try.prog 13 #[.slice (some ⟨g, 0, none⟩) 1 1, .int .u16 4660] w fun e w' => e = .returned (.slice (some ⟨w.heap.size, 0, none⟩) 3 3) ∧
      w'.heap[w.heap.size]? = some (.cells (By [1, 18, 52]).toArray 5 (0, 0)) ∧ Below w.heap.size w w' :=
  put16_any _ 1 1 4660 [1] w rfl (row_seen h rfl) (by decide) (by decide) (by decide)

theorem wput1 (w : World) : Calls Try.prog 13 #[.slice (some ⟨w.heap.size, 0, none⟩) 1 1, .int .u16 4660] (w.alloc (.cells #[.int .u8 1] 5)) fun e w' => e = .returned (.slice (some ⟨w.heap.size + 1, 0, none⟩) 3 3) ∧
      w'.heap[w.heap.size + 1]? = some (.cells (By [1, 18, 52]).toArray 5 (0, 0)) ∧ Below (w.heap.size + 1) (w.alloc (.cells #[.int .u8 1] 5)) w' := by
  have := wput w.heap.size (w.alloc (.cells #[.int .u8 1] 5)) (heap_alloc_new _ _)
  rwa [show (w.alloc (.cells #[.int .u8 1] 5)).heap.size = w.heap.size + 1 from by simp] at this
theorem wequal (g : Nat) (w : World) (h : w.heap[g]? = some (.cells (By [1, 18, 52]).toArray 5 (0, 0))) : Calls Try.prog 10 #[.slice (some ⟨g, 0, none⟩) 3 3, .slice (some ⟨w.heap.size, 0, none⟩) 3 3] (w.alloc (.cells #[.int .u8 1, .int .u8 18, .int .u8 52] 5)) fun e w' => e = .returned (.bool true) ∧ Below (w.heap.size + 1) (w.alloc (.cells #[.int .u8 1, .int .u8 18, .int .u8 52] 5)) w' := by
  have hs := (Seen.row h).later ((Below.refl _ _).alloc (Nat.le_refl _) (.cells #[.int .u8 1, .int .u8 18, .int .u8 52] 5))
  have ht : Seen (w.alloc (.cells #[.int .u8 1, .int .u8 18, .int .u8 52] 5)) (some ⟨w.heap.size, 0, none⟩) [1, 18, 52] := row_seen (heap_alloc_new _ _) rfl
  have := equal_any _ _ 3 3 3 3 [1, 18, 52] [1, 18, 52] _ rfl rfl (by decide) hs ht
  rwa [show same [1, 18, 52] [1, 18, 52] = true from rfl, show (w.alloc (.cells #[.int .u8 1, .int .u8 18, .int .u8 52] 5)).heap.size = w.heap.size + 1 from by simp] at this

theorem wakes_any (w : World) : Calls Try.prog 9 #[] w fun e w' => e = .returned (.bool true) ∧ Below w.heap.size w w' := by
  go_enter Try.func9, Try.ntmps9
  go_wp2_with (first
    | (go_at_call 17; refine (read_any _ _ _ [1, 0, 42, 7] _ rfl (row_seen (heap_alloc_new _ _) rfl) (by decide)).mono ?_; rintro e w1 ⟨⟨R, rfl, hR, hrd⟩, hb1⟩; have HR1 := Lib.hid hrd; clear hrd)
    | (go_at_call 19; refine (wu8 R _ HR1.out).mono ?_; rintro e w2 ⟨rfl, hb2, hrd⟩; have HR2 := Lib.hid hrd; clear hrd)
    | (go_at_call 21; ((with_reducible refine (wu16 R _ HR2.out).mono ?_); rintro e w3 ⟨rfl, hb3, hrd⟩; have HR3 := Lib.hid hrd; clear hrd))
    | (go_at_call 25; refine (rest_any R [7] 0 _ HR3.out (by decide)).mono ?_; rintro e w4 ⟨⟨g, rfl, hg0, hg⟩, hb4⟩; have HG4 := Lib.hid hg; clear hg; have hc4 := row_cell HG4.out 0 (by decide); have HR4 := Lib.hid (HR3.out.later hb4))
    | (go_at_call 26; refine (left_any R [7] 0 _ HR4.out).mono ?_; rintro e w' ⟨rfl, rfl⟩)
    | (go_at_call 21; ((with_reducible refine (wu16s R _ HR4.out).mono ?_); rintro e w5 ⟨rfl, hb5, hrd⟩; have HR5 := Lib.hid hrd; clear hrd))
    | (go_at_call 27; refine (err_any R [7] 7 _ HR5.out).mono ?_; rintro e w' ⟨rfl, rfl⟩)
    | (go_at_call 13; ((with_reducible refine (wput1 _).mono ?_); rintro e w6 ⟨rfl, hg, hb6⟩; have HG6 := Lib.hid hg; clear hg))
    | (go_at_call 10; ((with_reducible refine (wequal _ _ HG6.out).mono ?_); rintro e w7 ⟨rfl, hb7⟩)))
  go_ret
  refine ⟨rfl, ?_⟩
  have z0 : w.heap.size + 1 ≤ R := by simpa using hR
  have z1 : w.heap.size + 1 ≤ w1.heap.size := by simpa using hb1.size
  have z2 := hb2.size
  have z3 := hb3.size
  have z4 := hb4.size
  have z5 := hb5.size
  have z6 : w5.heap.size + 1 ≤ w6.heap.size := by simpa using hb6.size
  have y1 : Below w.heap.size w w1 := ((Below.refl _ _).alloc (Nat.le_refl _) _).trans (hb1.mono (by simp))
  have y2 : Below w.heap.size w w2 := y1.trans (hb2.below (by omega) (by omega))
  have y3 : Below w.heap.size w w3 := y2.trans (hb3.below (by omega) (by omega))
  have y4 : Below w.heap.size w w4 := y3.trans (hb4.mono (by omega))
  have y5 : Below w.heap.size w w5 := y4.trans (hb5.below (by omega) (by omega))
  have y6 : Below w.heap.size w w6 := (y5.alloc (by omega) _).trans (hb6.mono (by omega))
  exact (y6.alloc (by omega) _).trans (hb7.mono (by omega))

end Go.Proofs.Ytngnhieddblnmaa
