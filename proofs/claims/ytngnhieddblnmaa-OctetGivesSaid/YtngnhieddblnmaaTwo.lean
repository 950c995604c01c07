/-
  The walks of layer 1's functions (octet), at the seat's numbers: bytes copied.
-/
import Derived.Test.YtngnhieddblnmaaRows
import Derived.WalkKit
import Derived.ProofKit
import Derived.OpenShut
import Derived.Outline
import Derived.Deep.OwnRows
import Derived.Laws.CopyOwn
import Derived.Lib.Hide
import Derived.WalkSpells
namespace Go.Proofs.Ytngnhieddblnmaa
open Go.ChangeShapes Go.WideShapes Go.ChangeAt Go.RowKit

theorem Try.info5 : (Try.prog.info? 5).map (fun i => (i.zero, i.size, i.bytes)) = some (some (.int .u8 0), 1, 1) := by kernel_rfl
theorem Try.size5 : (Try.prog.info? 5).map (·.size) = some 1 := by kernel_rfl

def By (xs : List Int) : List Value := xs.map (Value.int .u8)
theorem By_length (xs : List Int) : (By xs).length = xs.length := by simp [By]
theorem By_one (xs : List Int) : ∀ v ∈ By xs, v.oneCell' = true := by
  intro v hv; simp only [By, List.mem_map] at hv; obtain ⟨x, _, rfl⟩ := hv; rfl

/-- WHAT A SLICE VALUE SHOWS: its cells are these bytes. -/
def Seen (w : World) (a : Option Addr) (xs : List Int) : Prop :=
  0 < xs.length → ∃ ad, a = some ad ∧ ∀ j v, (By xs)[j]? = some v → w.cell? (ad.add j) = some v

theorem splice_all (n : Nat) (L : List Value) (z : Value) (h : L.length = n) : splice (List.replicate n z) 0 L = L := by
  simp [splice, h]

theorem made (n : Nat) (z : Value) : madeCells #[z] n = (List.replicate n z).toArray := by
  apply Array.ext'; rw [toList_madeCells_one]
theorem made_block (w : World) (n : Nat) (z : Value) (t : TypeId) : (w.alloc (.cells (madeCells #[z] n) t)).heap[w.heap.size]? = some (.cells (List.replicate n z).toArray t (0, 0)) := by
  rw [made]; exact heap_alloc_new w _
theorem Seen.alloc {w : World} {a : Option Addr} {xs : List Int} (h : Seen w a xs) (o : Obj) : Seen (w.alloc o) a xs := by
  intro h0
  obtain ⟨ad, rfl, h1⟩ := h h0
  refine ⟨ad, rfl, fun j v hj => ?_⟩
  have hc := h1 j v hj
  exact cell_later ((Below.refl w.heap.size w).alloc (Nat.le_refl _) o) hc

theorem copied_any (a : Option Addr) (n c : Nat) (xs : List Int) (w : World) (hn : xs.length = n) (hs : Seen w a xs) (hreach : n ≤ 140737488351232) :
    Calls Try.prog 32 #[.slice a n c] w fun e w' => e = .returned (.slice (some ⟨w.heap.size, 0, none⟩) n n) ∧
      w'.heap[w.heap.size]? = some (.cells (By xs).toArray 5 (0, 0)) ∧ Below w.heap.size w w' := by
  have hmk := run_make_row' (P := Try.prog) 22 5 (.int .u8 0) 1 Try.underlying22 Try.info5 rfl .i64 .i64 n (by omega) (by omega)
  have HG := Lib.hid (made_block w n (.int .u8 0) 5)
  have HS := Lib.hid (hs.alloc (.cells (madeCells #[.int .u8 0] n) 5))
  have HB := Lib.hid ((Below.refl w.heap.size w).alloc (Nat.le_refl _) (.cells (madeCells #[.int .u8 0] n) 5))
  have HL : Hid ((By xs).length = Nat.min n n) := Lib.hid (by rw [By_length, hn]; simp)
  have HF : Hid (0 + (By xs).length ≤ (List.replicate n (Value.int .u8 0)).length) := Lib.hid (by rw [By_length, hn]; simp)
  have HN := Lib.hid hn; clear hn hs
  go_enter Try.func32, Try.ntmps32
  go_wp2_with (refine wpList_copy_splice (o := ⟨some 9, _, _, _, _, _⟩) rfl (.tmp 7) (.tmp 8) 22 22 rfl 5 Try.underlying22 Try.size5 _ _ n n n c rfl rfl w.heap.size 0 (List.replicate n (.int .u8 0)) 5 HG.out (By xs) HL.out (fun h => ⟨rfl, HS.out (by simpa [By] using h)⟩) HF.out (By_one xs) w.heap.size w HB.out (Nat.le_refl _) ?_; intro w2 hg2 hb2)
  have HG2 := hg2.out
  rw [splice_all n _ _ (by rw [By_length, HN.out])] at HG2
  have HG3 := Lib.hid HG2; clear HG2 hg2
  go_ret
  exact ⟨rfl, HG3.out, hb2⟩

end Go.Proofs.Ytngnhieddblnmaa
