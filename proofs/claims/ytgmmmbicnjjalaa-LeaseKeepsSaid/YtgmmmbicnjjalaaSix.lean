/-
  The walks of layer 21's functions (lease), at the seat's numbers: the layer does something.
-/
import Derived.Test.YtgmmmbicnjjalaaFive
namespace Go.Proofs.Ytgmmmbicnjjalaa
open Go.ChangeShapes Go.WideShapes Go.ChangeAt Go.RowKit

def N2 (a b : Int) : Obj := .cells #[.int .i64 a, .int .i64 b] 26 (0, 0)
theorem n2_cell {w : World} {b : Nat} {x y : Int} (hl : w.heap[b]? = some (N2 x y)) : w.cell? ⟨b, 0, none⟩ = some (.int .i64 x) ∧ w.cell? ⟨b, 1, none⟩ = some (.int .i64 y) := by
  simp [World.cell?, hl, N2]
theorem keep {B b : Nat} {w w1 : World} {o : Obj} (hb : Below B w w1) (hB : b < B) (h : w.heap[b]? = some o) : w1.heap[b]? = some o := (hb.block b hB).trans h
theorem keep_alloc {b : Nat} {w : World} {o : Obj} (o' : Obj) (h : w.heap[b]? = some o) : (w.alloc o').heap[b]? = some o := (Below.heap_alloc _ _ _ (lt_of_block h)).trans h
theorem new_second (w : World) (o o' : Obj) : ((w.alloc o).alloc o').heap[w.heap.size + 1]? = some o' := by
  have := heap_alloc_new (w.alloc o) o'
  rwa [show (w.alloc o).heap.size = w.heap.size + 1 from by simp] at this
theorem new_first (w : World) (o o' : Obj) : ((w.alloc o).alloc o').heap[w.heap.size]? = some o := keep_alloc _ (heap_alloc_new _ _)

theorem wk1 (w : World) : Calls Try.prog 8 #[.agg #[.int .u64 0, .int .i64 0, .int .i64 0], .int .i64 1, .int .i64 10, .int .i64 5] w fun e' w' =>
      e' = .returned (.tuple #[.agg #[.int .u64 1, .int .i64 1, .int .i64 15], .int .i64 0]) ∧ Below w.heap.size w w' :=
  acquire_any 0 0 0 1 10 5 w (by decide)
theorem wk2 (w : World) : Calls Try.prog 8 #[.agg #[.int .u64 1, .int .i64 1, .int .i64 15], .int .i64 2, .int .i64 14, .int .i64 5] w fun e' w' =>
      e' = .returned (.tuple #[.agg #[.int .u64 0, .int .i64 0, .int .i64 0], .int .i64 311]) ∧ Below w.heap.size w w' :=
  acquire_any 1 1 15 2 14 5 w (by decide)
theorem wk3 (w : World) : Calls Try.prog 8 #[.agg #[.int .u64 1, .int .i64 1, .int .i64 15], .int .i64 2, .int .i64 15, .int .i64 5] w fun e' w' =>
      e' = .returned (.tuple #[.agg #[.int .u64 2, .int .i64 2, .int .i64 20], .int .i64 0]) ∧ Below w.heap.size w w' :=
  acquire_any 1 1 15 2 15 5 w (by decide)

theorem wakes_any (w : World) : Calls Try.prog 7 #[] w fun e' w' => e' = .returned (.bool true) ∧ Below w.heap.size w w' := by
  go_enter Try.func7, Try.ntmps7
  go_wp2_with (first | (go_at_call 8; ((with_reducible refine (wk1 _).mono ?_); rintro e1 w1 ⟨rfl, hb1⟩)) | (go_at_call 8; ((with_reducible refine (wk2 _).mono ?_); rintro e1 w2 ⟨rfl, hb2⟩; have HL2 : Hid (w2.heap[w1.heap.size]? = some (L3 1 1 15)) := Lib.hid ((hb2.block _ (by simp)).trans (heap_alloc_new _ _)); obtain ⟨a0, a1, a2⟩ := l3_cell HL2.out; have lt2 := l3_lt HL2.out)) | (go_at_call 8; ((with_reducible refine (wk3 _).mono ?_); rintro e1 w3 ⟨rfl, hb3⟩; have HL3 : Hid (w3.heap[w1.heap.size]? = some (L3 1 1 15)) := Lib.hid ((hb3.block _ (by simp; omega)).trans ((Below.heap_alloc _ _ _ lt2).trans HL2.out)); obtain ⟨k0, k1, k2⟩ := l3_cell HL3.out; have lt3 := l3_lt HL3.out)))
  go_ret
  exact ⟨rfl, (((hb1.trans ((Below.refl _ _).alloc hb1.size _)).trans (hb2.mono (by have := hb1.size; simp; omega))).trans (((Below.refl _ _).alloc (by have := hb1.size; omega) _).trans (hb3.mono (by have := hb1.size; simp; omega)))).alloc (by have := hb1.size; omega) _⟩

end Go.Proofs.Ytgmmmbicnjjalaa
