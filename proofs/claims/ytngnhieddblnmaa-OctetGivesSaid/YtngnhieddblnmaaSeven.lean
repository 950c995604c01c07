/-
  The walks of layer 1's functions (octet), at the seat's numbers: numbers laid as bytes.
-/
import Derived.Test.YtngnhieddblnmaaSix
namespace Go.Proofs.Ytngnhieddblnmaa
open Go.ChangeShapes Go.WideShapes Go.ChangeAt Go.RowKit

/-- A number's lowest n bytes, highest first. -/
def be : Nat → Int → List Int
  | 0, _ => []
  | n + 1, x => be n (x / 256) ++ [x % 256]
theorem be_length (n : Nat) : ∀ x, (be n x).length = n := by
  induction n with
  | zero => intro x; rfl
  | succ n ih => intro x; simp [be, ih]
theorem be_front (n : Nat) : ∀ x, be (n + 1) x = (x / 256 ^ n % 256) :: be n x := by
  induction n with
  | zero => intro x; simp [be]
  | succ n ih =>
    intro x
    rw [be, ih, be, Int.ediv_ediv_of_nonneg (by decide)]
    rw [show (256 : Int) * 256 ^ n = 256 ^ (n + 1) by rw [Int.pow_succ, Int.mul_comm]]
    simp

/-- The row behind j rounds. -/
def putRow (xs : List Int) (k j : Nat) (x : Int) : List Int := xs ++ (List.replicate (k - j) 0 ++ be j x)
theorem putRow_length (xs : List Int) (k j : Nat) (x : Int) (h : j ≤ k) : (putRow xs k j x).length = xs.length + k := by
  simp [putRow, be_length]; omega
theorem putRow_set (xs : List Int) (k j : Nat) (x : Int) (h : j < k) : (putRow xs k j x).set (xs.length + (k - (j + 1))) (x / 256 ^ j % 256) = putRow xs k (j + 1) x := by
  unfold putRow
  rw [List.set_append_right _ _ (by omega), be_front]
  rw [show xs.length + (k - (j + 1)) - xs.length = k - (j + 1) by omega]
  rw [show k - j = (k - (j + 1)) + 1 by omega, List.replicate_succ']
  rw [List.append_assoc, List.set_append_right _ _ (by simp)]
  simp

theorem row_cell {w : World} {g : Nat} {xs : List Int} (h : w.heap[g]? = some (.cells (By xs).toArray 5 (0, 0))) (o : Nat) (ho : o < xs.length) : w.cell? ⟨g, o, none⟩ = some (.int .u8 (xs[o]?.getD 0)) := by
  simp [World.cell?, h, By, List.getElem?_eq_getElem ho]
theorem row_free {w : World} {g : Nat} {xs : List Int} (h : w.heap[g]? = some (.cells (By xs).toArray 5 (0, 0))) (o : Nat) : w.frozen? ⟨g, o, none⟩ = false := by
  simp [World.frozen?, h]
theorem row_set {w : World} {g : Nat} {xs : List Int} (h : w.heap[g]? = some (.cells (By xs).toArray 5 (0, 0))) (o : Nat) (x : Int) : (w.setCell ⟨g, o, none⟩ (.int .u8 x)).heap[g]? = some (.cells (By (xs.set o x)).toArray 5 (0, 0)) := by
  rw [block_setCell h]
  simp [By, List.map_set]

theorem put_any (a : Option Addr) (n c k : Nat) (x : Int) (xs : List Int) (w : World) (hn : xs.length = n) (hs : Seen w a xs) (hreach : n ≤ 140737488351232) (hk : k ≤ 8) (h0 : 0 ≤ x) (h1 : x < 18446744073709551616) :
    Calls Try.prog 31 #[.slice a n c, .int .u64 x, .int .i64 (k : Int)] w fun e w' => e = .returned (.slice (some ⟨w.heap.size, 0, none⟩) (n + k) (n + k)) ∧
      w'.heap[w.heap.size]? = some (.cells (By (xs ++ be k x)).toArray 5 (0, 0)) ∧ Below w.heap.size w w' := by
  have hmk := run_make_row' (P := Try.prog) 22 5 (.int .u8 0) 1 Try.underlying22 Try.info5 rfl .i64 .i64 (n + k) (by omega) (by omega)
  rw [show ((n + k : Nat) : Int) = (n : Int) + (k : Int) by omega] at hmk
  have HG := Lib.hid (made_block w (n + k) (.int .u8 0) 5)
  have HS := Lib.hid (hs.alloc (.cells (madeCells #[.int .u8 0] (n + k)) 5))
  have HB := Lib.hid ((Below.refl w.heap.size w).alloc (Nat.le_refl _) (.cells (madeCells #[.int .u8 0] (n + k)) 5))
  have HL : Hid ((By xs).length = Nat.min n (n + k)) := Lib.hid (by rw [By_length, hn]; simp)
  have HF : Hid (0 + (By xs).length ≤ (List.replicate (n + k) (Value.int .u8 0)).length) := Lib.hid (by rw [By_length, hn]; simp)
  have HN := Lib.hid hn; clear hn hs
  have HX0 := Lib.hid h0; have HX1 := Lib.hid h1
  go_enter Try.func31, Try.ntmps31
  go_wp2_with (refine wpList_copy_splice (o := ⟨some 16, _, _, _, _, _⟩) rfl (.tmp 14) (.tmp 15) 22 22 rfl 5 Try.underlying22 Try.size5 _ _ (n + k) (n + k) n c rfl rfl w.heap.size 0 (List.replicate (n + k) (.int .u8 0)) 5 HG.out (By xs) HL.out (fun h => ⟨rfl, HS.out (by simpa [By] using h)⟩) HF.out (By_one xs) w.heap.size w HB.out (Nat.le_refl _) ?_; intro w2 hg2 hb2)
  have HG2 : Hid (w2.heap[w.heap.size]? = some (.cells (By (putRow xs k 0 x)).toArray 5 (0, 0))) := by
    have h := hg2.out
    refine Lib.hid (h.trans ?_)
    congr 2
    simp [splice, putRow, be, By, HN.out]
  clear hg2
  have HB2 := Lib.hid hb2; clear hb2
  go_loopw [1, 18] (fun y i wr => ∃ j : Nat, j ≤ k ∧ i = .int .i64 j ∧ y = .int .u64 (x / 256 ^ j) ∧ wr.heap[w.heap.size]? = some (.cells (By (putRow xs k j x)).toArray 5 (0, 0)) ∧ Below w.heap.size w wr) (fun _ i _ => k - (intOf i).toNat)
  case atStart => exact ⟨0, Nat.zero_le _, rfl, by simp, HG2.out, HB2.out⟩
  case round =>
    obtain ⟨j, hj, rfl, rfl, hg, hb⟩ := hrel
    have HGj := Lib.hid hg; clear hg
    have HBj := Lib.hid hb; clear hb
    by_cases hlt : j < k
    · have hc := row_cell HGj.out (n + k - 1 - j) (by rw [putRow_length _ _ _ _ hj, HN.out]; omega)
      have hf := row_free HGj.out (n + k - 1 - j)
      have y0 : 0 ≤ x / 256 ^ j := Int.ediv_nonneg h0 (Int.pow_nonneg (by decide))
      have y1 : x / 256 ^ j < 18446744073709551616 := Int.lt_of_le_of_lt (Int.ediv_le_self _ h0) h1
      obtain ⟨y, hy⟩ : ∃ y, y = x / 256 ^ j := ⟨_, rfl⟩
      rw [← hy] at y0 y1
      rw [← hy]
      have HY := Lib.hid hy; clear hy
      go_wp2
      go_roundw
      case rel =>
        refine ⟨j + 1, by omega, by go_num, ?_, ?_, HBj.out.setCell (Nat.le_refl _) _⟩
        · rw [HY.out, Int.ediv_ediv_of_nonneg (Int.pow_nonneg (by decide)), ← Int.pow_succ]
        · have h := row_set HGj.out (n + k - 1 - j) (y % 256)
          have h2 := putRow_set xs k j x hlt
          rw [HN.out, ← HY.out] at h2
          rw [show n + k - 1 - j = n + (k - (j + 1)) by omega, h2] at h
          rw [show n + k - 1 - j = n + (k - (j + 1)) by omega]
          exact h
      case measure => simp [intOf]; omega
    · go_wp2
      go_ret
      refine ⟨rfl, ?_, HBj.out⟩
      have h := HGj.out
      rw [show j = k by omega] at h
      simpa [putRow] using h

end Go.Proofs.Ytngnhieddblnmaa
