/-
  The walks of layer 1's functions (octet), at the seat's numbers: Put16, Put32, Put64, Equal.
-/
import Derived.Test.YtngnhieddblnmaaSeven
import Derived.BigQuiet
import Derived.Deep.QuietTactic
namespace Go.Proofs.Ytngnhieddblnmaa
open Go.ChangeShapes Go.WideShapes Go.ChangeAt Go.RowKit

theorem put16_any (a : Option Addr) (n c : Nat) (x : Int) (xs : List Int) (w : World) (hn : xs.length = n) (hs : Seen w a xs) (hreach : n ≤ 140737488351232) (h0 : 0 ≤ x) (h1 : x < 65536) :
    Calls Try.prog 13 #[.slice a n c, .int .u16 x] w fun e w' => e = .returned (.slice (some ⟨w.heap.size, 0, none⟩) (n + 2) (n + 2)) ∧
      w'.heap[w.heap.size]? = some (.cells (By (xs ++ be 2 x)).toArray 5 (0, 0)) ∧ Below w.heap.size w w' := by
  have HN := Lib.hid hn; clear hn
  have HS := Lib.hid hs; clear hs
  go_enter Try.func13, Try.ntmps13
  go_wp2_with (go_at_call 31; refine (put_any _ _ _ 2 _ xs _ HN.out HS.out hreach (by decide) h0 (by omega)).mono ?_; rintro e w1 ⟨rfl, hg, hb⟩; have HG := Lib.hid hg; clear hg)
  go_ret
  exact ⟨rfl, HG.out, hb⟩
theorem put32_any (a : Option Addr) (n c : Nat) (x : Int) (xs : List Int) (w : World) (hn : xs.length = n) (hs : Seen w a xs) (hreach : n ≤ 140737488351232) (h0 : 0 ≤ x) (h1 : x < 4294967296) :
    Calls Try.prog 14 #[.slice a n c, .int .u32 x] w fun e w' => e = .returned (.slice (some ⟨w.heap.size, 0, none⟩) (n + 4) (n + 4)) ∧
      w'.heap[w.heap.size]? = some (.cells (By (xs ++ be 4 x)).toArray 5 (0, 0)) ∧ Below w.heap.size w w' := by
  have HN := Lib.hid hn; clear hn
  have HS := Lib.hid hs; clear hs
  go_enter Try.func14, Try.ntmps14
  go_wp2_with (go_at_call 31; refine (put_any _ _ _ 4 _ xs _ HN.out HS.out hreach (by decide) h0 (by omega)).mono ?_; rintro e w1 ⟨rfl, hg, hb⟩; have HG := Lib.hid hg; clear hg)
  go_ret
  exact ⟨rfl, HG.out, hb⟩
theorem put64_any (a : Option Addr) (n c : Nat) (x : Int) (xs : List Int) (w : World) (hn : xs.length = n) (hs : Seen w a xs) (hreach : n ≤ 140737488351232) (h0 : 0 ≤ x) (h1 : x < 18446744073709551616) :
    Calls Try.prog 15 #[.slice a n c, .int .u64 x] w fun e w' => e = .returned (.slice (some ⟨w.heap.size, 0, none⟩) (n + 8) (n + 8)) ∧
      w'.heap[w.heap.size]? = some (.cells (By (xs ++ be 8 x)).toArray 5 (0, 0)) ∧ Below w.heap.size w w' := by
  have HN := Lib.hid hn; clear hn
  have HS := Lib.hid hs; clear hs
  go_enter Try.func15, Try.ntmps15
  go_wp2_with (go_at_call 31; refine (put_any _ _ _ 8 _ xs _ HN.out HS.out hreach (by decide) h0 h1).mono ?_; rintro e w1 ⟨rfl, hg, hb⟩; have HG := Lib.hid hg; clear hg)
  go_ret
  exact ⟨rfl, HG.out, hb⟩

/-- The place where the bytes lie, where there are any. -/
theorem Seen.place {w : World} {a : Option Addr} {xs : List Int} (h : Seen w a xs) (h0 : 0 < xs.length) :
    ∃ b o, a = some ⟨b, o, none⟩ ∧ b < w.heap.size ∧ ∀ j, j < xs.length → w.cell? ⟨b, o + j, none⟩ = some (.int .u8 (xs[j]?.getD 0)) := by
  obtain ⟨ad, rfl, hcs⟩ := h h0
  have hc0 := hcs 0 (.int .u8 (xs[0])) (by simp [By, List.getElem?_eq_getElem h0])
  have hs := World.cell?_spot hc0
  have hblt := World.block_lt_of_cell? _ _ hc0
  obtain ⟨b, o, sp⟩ := ad
  simp [Addr.add] at hs hblt
  subst hs
  refine ⟨b, o, rfl, hblt, fun j hj => ?_⟩
  have := hcs j (.int .u8 (xs[j])) (by simp [By, List.getElem?_eq_getElem hj])
  rw [List.getElem?_eq_getElem hj]
  cases j <;> simpa [Addr.add] using this

def same (xs ys : List Int) : Bool := decide (xs = ys)

theorem same_not {xs ys : List Int} {k : Nat} (h : (xs[k]?.getD 0 != ys[k]?.getD 0) = true) : same xs ys = false := by
  simp only [same, decide_eq_false_iff_not]
  rintro rfl
  simp at h
theorem drewN_below (B : Nat) (w : World) (n : Nat) : Below B w (w.drewN n) := ⟨rfl, rfl, rfl, Nat.le_refl _, fun _ _ => rfl⟩

theorem equal_len (a b : Option Addr) (n m c d : Nat) (w : World) (h : ((n : Int) == (m : Int)) = false) :
    Calls Try.prog 10 #[.slice a n c, .slice b m d] w fun e w' => e = .returned (.bool false) ∧ Below w.heap.size w w' := by
  go_enter Try.func10, Try.ntmps10
  go_wp2
  go_ret
  exact ⟨rfl, Below.refl _ _⟩

theorem equal_none (a b : Option Addr) (c d : Nat) (w : World) :
    Calls Try.prog 10 #[.slice a 0 c, .slice b 0 d] w fun e w' => e = .returned (.bool true) ∧ Below w.heap.size w w' := by
  go_enter Try.func10, Try.ntmps10
  go_wp2
  refine wp_loop_rounds 1 ?_
  rw [rounds_succ]
  go_wp2
  go_ret
  exact ⟨rfl, Below.refl _ _⟩

theorem equal_some (b1 o1 b2 o2 n c d : Nat) (xs ys : List Int) (w : World) (hm : n ≤ 140737488351232) (hx : xs.length = n) (hy : ys.length = n) (l1 : b1 < w.heap.size) (l2 : b2 < w.heap.size)
    (h1 : ∀ j, j < n → w.cell? ⟨b1, o1 + j, none⟩ = some (.int .u8 (xs[j]?.getD 0))) (h2 : ∀ j, j < n → w.cell? ⟨b2, o2 + j, none⟩ = some (.int .u8 (ys[j]?.getD 0))) :
    Calls Try.prog 10 #[.slice (some ⟨b1, o1, none⟩) n c, .slice (some ⟨b2, o2, none⟩) n d] w fun e w' => e = .returned (.bool (same xs ys)) ∧ Below w.heap.size w w' := by
  have H1 := Lib.hid h1; have H2 := Lib.hid h2; have HX := Lib.hid hx; have HY := Lib.hid hy
  clear h1 h2 hx hy
  go_enter Try.func10, Try.ntmps10
  go_wp2
  go_loopw [13] (fun i wr => ∃ k : Nat, k ≤ n ∧ i = .int .i64 k ∧ xs.take k = ys.take k ∧ Below w.heap.size w wr) (fun i _ => n - (intOf i).toNat)
  case atStart => exact ⟨0, Nat.zero_le _, rfl, rfl, Below.refl _ _⟩
  case round =>
    obtain ⟨k, hk, rfl, he, hb⟩ := hrel
    have HE := Lib.hid he; clear he
    have HB := Lib.hid hb; clear hb
    by_cases hlt : k < n
    · have k1 := (HB.out.cell (p := ⟨b1, o1 + k, none⟩) l1).trans (H1.out k hlt)
      have k2 := (HB.out.cell (p := ⟨b2, o2 + k, none⟩) l2).trans (H2.out k hlt)
      go_wp2
      go_quiet (fail)
      go_wp2
      · have hne : (xs[k]?.getD 0 != ys[k]?.getD 0) = true := by assumption
        go_ret
        refine ⟨?_, HB.out.trans (drewN_below _ _ _)⟩
        rw [same_not hne]
        rfl
      · have heq : (xs[k]?.getD 0 != ys[k]?.getD 0) = false := by assumption
        go_roundw
        case rel => exact ⟨k + 1, by omega, by go_num, by rw [take_snoc xs k (by rw [HX.out]; exact hlt), take_snoc ys k (by rw [HY.out]; exact hlt), HE.out]; simp at heq; rw [heq], HB.out.trans (drewN_below _ _ _)⟩
        case measure => simp [intOf]; omega
    · go_wp2
      go_ret
      refine ⟨?_, HB.out⟩
      have h := HE.out
      rw [show k = n by omega, List.take_of_length_le (by rw [HX.out]; exact Nat.le_refl _), List.take_of_length_le (by rw [HY.out]; exact Nat.le_refl _)] at h
      simp [same, h]

theorem equal_any (a b : Option Addr) (n m c d : Nat) (xs ys : List Int) (w : World) (hx : xs.length = n) (hy : ys.length = m) (hm : n ≤ 140737488351232) (h1 : Seen w a xs) (h2 : Seen w b ys) :
    Calls Try.prog 10 #[.slice a n c, .slice b m d] w fun e w' => e = .returned (.bool (same xs ys)) ∧ Below w.heap.size w w' := by
  by_cases hnm : n = m
  · subst hnm
    by_cases h0 : n = 0
    · subst h0
      obtain rfl : xs = [] := List.eq_nil_of_length_eq_zero hx
      obtain rfl : ys = [] := List.eq_nil_of_length_eq_zero hy
      exact equal_none a b c d w
    · obtain ⟨b1, o1, rfl, l1, k1⟩ := h1.place (by omega)
      obtain ⟨b2, o2, rfl, l2, k2⟩ := h2.place (by omega)
      exact equal_some b1 o1 b2 o2 n c d xs ys w hm hx hy l1 l2 (by rw [← hx]; exact k1) (by rw [← hy]; exact k2)
  · have hs : same xs ys = false := by
      simp only [same, decide_eq_false_iff_not]
      intro h
      exact hnm (by rw [← hx, ← hy, h])
    rw [hs]
    exact equal_len a b n m c d w (by simp; omega)

end Go.Proofs.Ytngnhieddblnmaa
