/-
  The walks of layer 1's functions (octet), at the seat's numbers: a reader is made; what it holds, and with what it refuses.
-/
import Derived.Test.YtngnhieddblnmaaTwo
namespace Go.Proofs.Ytngnhieddblnmaa
open Go.ChangeShapes Go.WideShapes Go.ChangeAt Go.RowKit

/-- A READER IN MEMORY: at block R, holding the bytes xs, refusing with e. -/
def RdAt (w : World) (R : Nat) (xs : List Int) (e : Int) : Prop :=
  ∃ a c, w.heap[R]? = some (.cells #[.slice a xs.length c, .int .i64 e] 63 (0, 0)) ∧ Seen w a xs ∧ xs.length ≤ c

theorem rd_cell {w : World} {R n c : Nat} {a : Option Addr} {e : Int} (h : w.heap[R]? = some (.cells #[.slice a n c, .int .i64 e] 63 (0, 0))) :
    w.cell? ⟨R, 0, none⟩ = some (.slice a n c) ∧ w.cell? ⟨R, 1, none⟩ = some (.int .i64 e) ∧ w.frozen? ⟨R, 0, none⟩ = false ∧ w.frozen? ⟨R, 1, none⟩ = false := by
  simp [World.cell?, World.frozen?, h]

theorem Seen.later {w w1 : World} {a : Option Addr} {xs : List Int} (h : Seen w a xs) (hb : Below w.heap.size w w1) : Seen w1 a xs := by
  intro h0
  obtain ⟨ad, rfl, h1⟩ := h h0
  exact ⟨ad, rfl, fun j v hj => cell_later hb (h1 j v hj)⟩
theorem RdAt.later {w w1 : World} {R : Nat} {xs : List Int} {e : Int} (h : RdAt w R xs e) (hb : Below w.heap.size w w1) : RdAt w1 R xs e := by
  obtain ⟨a, c, h1, h2, h3⟩ := h
  exact ⟨a, c, (hb.block R (lt_of_block h1)).trans h1, h2.later hb, h3⟩

/-- A row known whole is seen. -/
theorem Seen.row {w : World} {g : Nat} {xs : List Int} (h : w.heap[g]? = some (.cells (By xs).toArray 5 (0, 0))) : Seen w (some ⟨g, 0, none⟩) xs := by
  intro _
  refine ⟨_, rfl, fun j v hj => ?_⟩
  cases j with
  | zero => simpa [Addr.add, World.cell?, h] using hj
  | succ j => simpa [Addr.add, World.cell?, h] using hj

def IsRd (B : Nat) (xs : List Int) (e : Int) (f : Ending) (w' : World) : Prop := ∃ R, f = .returned (.pointer (some ⟨R, 0, none⟩)) ∧ B ≤ R ∧ RdAt w' R xs e

theorem read_any (a : Option Addr) (n c : Nat) (xs : List Int) (w : World) (hn : xs.length = n) (hs : Seen w a xs) (hreach : n ≤ 140737488351232) :
    Calls Try.prog 17 #[.slice a n c] w fun e w' => IsRd w.heap.size xs 0 e w' ∧ Below w.heap.size w w' := by
  have HN := Lib.hid hn; clear hn
  have HS := Lib.hid hs; clear hs
  go_enter Try.func17, Try.ntmps17
  go_wp2_with (go_at_call 32; refine (copied_any _ _ _ xs _ HN.out HS.out hreach).mono ?_; rintro e w1 ⟨rfl, hg, hb⟩; have HG := Lib.hid hg; clear hg)
  go_ret
  have h1 := lt_of_block HG.out
  refine ⟨⟨w1.heap.size, rfl, by omega, some ⟨w.heap.size, 0, none⟩, n, ?_, (Seen.row HG.out).later ((Below.refl _ _).alloc (Nat.le_refl _) _), by rw [HN.out]; exact Nat.le_refl _⟩, hb.alloc (by omega) _⟩
  rw [HN.out]
  exact heap_alloc_new _ _

theorem left_any (R : Nat) (xs : List Int) (e : Int) (w : World) (h : RdAt w R xs e) :
    Calls Try.prog 26 #[.pointer (some ⟨R, 0, none⟩)] w fun f w' => f = .returned (.int .i64 (xs.length : Int)) ∧ w = w' := by
  obtain ⟨a, c, h1, h2, h3⟩ := h
  obtain ⟨c0, c1, f0, f1⟩ := rd_cell h1
  clear h1 h2
  go_enter Try.func26, Try.ntmps26
  go_wp2
  go_ret
  exact ⟨rfl, rfl⟩

theorem err_any (R : Nat) (xs : List Int) (e : Int) (w : World) (h : RdAt w R xs e) :
    Calls Try.prog 27 #[.pointer (some ⟨R, 0, none⟩)] w fun f w' => f = .returned (.int .i64 e) ∧ w = w' := by
  obtain ⟨a, c, h1, h2, h3⟩ := h
  obtain ⟨c0, c1, f0, f1⟩ := rd_cell h1
  clear h1 h2
  go_enter Try.func27, Try.ntmps27
  go_wp2
  go_ret
  exact ⟨rfl, rfl⟩

def IsRow (B : Nat) (xs : List Int) (f : Ending) (w' : World) : Prop := ∃ g, f = .returned (.slice (some ⟨g, 0, none⟩) xs.length xs.length) ∧ B ≤ g ∧ w'.heap[g]? = some (.cells (By xs).toArray 5 (0, 0))

theorem rest_any (R : Nat) (xs : List Int) (e : Int) (w : World) (h : RdAt w R xs e) (hreach : xs.length ≤ 140737488351232) :
    Calls Try.prog 25 #[.pointer (some ⟨R, 0, none⟩)] w fun f w' => IsRow w.heap.size xs f w' ∧ Below w.heap.size w w' := by
  obtain ⟨a, c, h1, h2, h3⟩ := h
  obtain ⟨c0, c1, f0, f1⟩ := rd_cell h1
  have HS := Lib.hid h2
  clear h1 h2
  go_enter Try.func25, Try.ntmps25
  go_wp2_with (go_at_call 32; refine (copied_any _ _ _ xs _ rfl HS.out hreach).mono ?_; rintro e w1 ⟨rfl, hg, hb⟩; have HG := Lib.hid hg; clear hg)
  go_ret
  exact ⟨⟨_, rfl, Nat.le_refl _, HG.out⟩, hb⟩

end Go.Proofs.Ytngnhieddblnmaa
