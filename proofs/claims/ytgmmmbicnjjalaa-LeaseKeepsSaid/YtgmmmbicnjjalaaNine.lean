/-
  Layer 21 (lease): what lies in memory beside a lease.
-/
import Derived.Test.YtgmmmbicnjjalaaSix
namespace Go.Proofs.Ytgmmmbicnjjalaa
open Go.ChangeShapes Go.WideShapes Go.ChangeAt Go.RowKit

/-- Who, in memory. -/
def WP (a b : Int) : Obj := .cells #[.int .i64 a, .int .u64 b] 35 (0, 0)
theorem wp_cell {w : World} {b : Nat} {x y : Int} (hl : w.heap[b]? = some (WP x y)) : w.cell? ⟨b, 0, none⟩ = some (.int .i64 x) ∧ w.cell? ⟨b, 1, none⟩ = some (.int .u64 y) := by
  simp [World.cell?, hl, WP]
theorem below_three {w w1 : World} {o1 o2 o3 : Obj} {B : Nat} (hb : Below B (((w.alloc o1).alloc o2).alloc o3) w1) (hB : w.heap.size ≤ B) : Below w.heap.size w w1 :=
  ((((Below.refl _ _).alloc (Nat.le_refl _) _).alloc (by simp) _).alloc (by simp; omega) _).trans (hb.mono hB)
theorem new_third (w : World) (o o' o'' : Obj) : (((w.alloc o).alloc o').alloc o'').heap[w.heap.size + 1 + 1]? = some o'' := by
  have := heap_alloc_new ((w.alloc o).alloc o') o''
  rwa [show ((w.alloc o).alloc o').heap.size = w.heap.size + 1 + 1 from by simp] at this
end Go.Proofs.Ytgmmmbicnjjalaa
