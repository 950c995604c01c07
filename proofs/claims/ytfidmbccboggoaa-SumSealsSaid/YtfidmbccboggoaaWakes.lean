/-
  The walks of layer 3's functions (sum), at the seat's numbers: the layer does something.
-/
import Derived.Test.YtfidmbccboggoaaSeal
import Derived.Lib.SlBytesConst
namespace Go.Proofs.Ytfidmbccboggoaa
open Go.ChangeShapes Go.WideShapes Go.ChangeAt Go.RowKit

theorem row_seen {w : World} {g : Nat} {cs : Array Value} {xs : List Int} (h : w.heap[g]? = some (.cells cs 5 (0, 0))) (hc : cs = (By xs).toArray) : Seen w (some ⟨g, 0, none⟩) xs := by
  subst hc; exact Seen.row h
theorem ok3 : bytesOk [97, 98, 99] := by intro j hj; match j, hj with | 0, _ => decide | 1, _ => decide | 2, _ => decide
theorem ok1 : bytesOk [7] := by intro j hj; match j, hj with | 0, _ => decide
theorem ok5 : bytesOk [7, 0, 8, 0, 8] := by intro j hj; match j, hj with | 0, _ => decide | 1, _ => decide | 2, _ => decide | 3, _ => decide | 4, _ => decide

theorem wsum (w : World) : Calls Try.prog 11 #[.slice (some ⟨w.heap.size, 0, none⟩) 3 3] (w.alloc (.cells #[.int .u8 97, .int .u8 98, .int .u8 99] 5 (3, 4))) fun e w' => e = .returned (.int .u32 38600999) ∧ Below w.heap.size (w.alloc (.cells #[.int .u8 97, .int .u8 98, .int .u8 99] 5 (3, 4))) w' := by
  have h : Seen (w.alloc (.cells #[.int .u8 97, .int .u8 98, .int .u8 99] 5 (3, 4))) (some ⟨w.heap.size, 0, none⟩) [97, 98, 99] := by
    intro _
    refine ⟨_, rfl, fun j v hj => ?_⟩
    have h := World.cell?_alloc_mark w #[.int .u8 97, .int .u8 98, .int .u8 99] 5 (3, 4) j
    have e : (⟨w.heap.size, 0, none⟩ : Addr).add j = ⟨w.heap.size, j, none⟩ := by cases j <;> simp [Addr.add]
    rw [e, h, ← hj]
    simp [By]
  refine (sum32_any _ 3 3 [97, 98, 99] _ rfl h (by decide) ok3).mono ?_
  rintro e w' ⟨rfl, hb⟩
  exact ⟨rfl, hb.mono (by simp)⟩
theorem wparts (w : World) : Calls Try.prog 10 #[.int .u32 38600999] w fun e w' => e = .returned (.tuple #[.int .u32 589, .int .u32 295]) ∧ w = w' := parts_any [97, 98, 99] w
theorem wseal (w : World) : Calls Try.prog 14 #[.slice (some ⟨w.heap.size, 0, none⟩) 1 1] (w.alloc (.cells #[.int .u8 7] 5)) fun e w' => IsRow w.heap.size [7, 0, 8, 0, 8] e w' ∧ Below w.heap.size (w.alloc (.cells #[.int .u8 7] 5)) w' := by
  have h : Seen (w.alloc (.cells #[.int .u8 7] 5)) (some ⟨w.heap.size, 0, none⟩) [7] := row_seen (heap_alloc_new _ _) rfl
  refine (seal_any _ 1 1 [7] _ rfl h (by decide) ok1).mono ?_
  rintro e w' ⟨⟨g, rfl, h1, h2⟩, hb⟩
  exact ⟨⟨g, rfl, by simp at h1; omega, h2⟩, hb.mono (by simp)⟩
theorem wopen (g : Nat) (w : World) (h : w.heap[g]? = some (.cells (By [7, 0, 8, 0, 8]).toArray 5 (0, 0))) : Calls Try.prog 15 #[.slice (some ⟨g, 0, none⟩) 5 5] w fun e w' => IsOpened w.heap.size [7] e w' ∧ Below w.heap.size w w' :=
  open_ok (some ⟨g, 0, none⟩) 1 5 [7, 0, 8, 0, 8] w rfl (Seen.row h) (by decide) ok5 (by decide) (by decide)
theorem wnil (w : World) : Calls Try.prog 11 #[.slice none 0 0] w fun e w' => e = .returned (.int .u32 1) ∧ Below w.heap.size w w' :=
  sum32_any none 0 0 [] w rfl (fun h => absurd h (by decide)) (by decide) (fun j hj => absurd hj (by simp))

theorem wakes_any (w : World) : Calls Try.prog 8 #[] w fun e w' => e = .returned (.bool true) ∧ Below w.heap.size w w' := by
  have kc := fun (w : World) (C : Array Value) (n c : Nat) => Lib.run_convert_bytes_const (P := Try.prog) w 22 5 C n c Try.underlying22 Try.underlying5
  go_enter Try.func8, Try.ntmps8
  go_wp2_with (first
    | (go_at_call 11; ((with_reducible refine (wsum _).mono ?_); rintro e w1 ⟨rfl, hb1⟩))
    | (go_at_call 10; ((with_reducible refine (wparts _).mono ?_); rintro e w' ⟨rfl, rfl⟩))
    | (go_at_call 14; ((with_reducible refine (wseal _).mono ?_); rintro e w2 ⟨⟨g, rfl, hg0, hg⟩, hb2⟩; have HG := Lib.hid hg; clear hg))
    | (go_at_call 15; ((with_reducible refine (wopen _ _ HG.out).mono ?_); rintro e w3 ⟨⟨g3, rfl, hg3, hg⟩, hb3⟩; have HG3 := Lib.hid hg; clear hg))
    | (go_at_call 11; ((with_reducible refine (wnil _).mono ?_); rintro e w4 ⟨rfl, hb4⟩; have hc4 := row_cell (keep hb4 (lt_of_block HG3.out) HG3.out) 0 (by decide))))
  go_ret
  have z1 : w.heap.size ≤ w1.heap.size := by have := hb1.size; simp at this; omega
  have z2 : w1.heap.size ≤ w2.heap.size := by have := hb2.size; simp at this; omega
  have z3 := hb3.size
  have y1 : Below w.heap.size w w1 := ((Below.refl _ _).alloc (Nat.le_refl _) _).trans hb1
  have y2 : Below w.heap.size w w2 := (y1.alloc z1 _).trans (hb2.mono (by omega))
  exact ⟨rfl, (y2.trans (hb3.mono (by omega))).trans (hb4.mono (by omega))⟩

end Go.Proofs.Ytfidmbccboggoaa
