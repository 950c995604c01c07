/-
  The walks of layer 3's functions (sum), at the seat's numbers: Sum32, Parts.
-/
import Derived.Test.YtfidmbccboggoaaPure
import Derived.Test.YtfidmbccboggoaaOctNine
namespace Go.Proofs.Ytfidmbccboggoaa
open Go.ChangeShapes Go.WideShapes Go.ChangeAt Go.RowKit

theorem keep {B b : Nat} {w w1 : World} {o : Obj} (hb : Below B w w1) (hB : b < B) (h : w.heap[b]? = some o) : w1.heap[b]? = some o := (hb.block b hB).trans h
theorem keep_alloc {b : Nat} {w : World} {o : Obj} (o' : Obj) (h : w.heap[b]? = some o) : (w.alloc o').heap[b]? = some o := (Below.heap_alloc _ _ _ (lt_of_block h)).trans h
theorem new_second (w : World) (o o' : Obj) : ((w.alloc o).alloc o').heap[w.heap.size + 1]? = some o' := by
  have := heap_alloc_new (w.alloc o) o'
  rwa [show (w.alloc o).heap.size = w.heap.size + 1 from by simp] at this
theorem new_first (w : World) (o o' : Obj) : ((w.alloc o).alloc o').heap[w.heap.size]? = some o := keep_alloc _ (heap_alloc_new _ _)
theorem set_other {w : World} {b k o : Nat} {v : Value} {x : Obj} (h : w.heap[k]? = some x) (hb : k ≠ b) : (w.setCell ⟨b, o, none⟩ v).heap[k]? = some x := (Below.heap_setCell _ _ _ _ hb).trans h
theorem step_sums (xs : List Int) (k : Nat) (hk : k < xs.length) : lo (xs.take (k + 1)) = (lo (xs.take k) + xs[k]?.getD 0) % 65521 ∧ hi (xs.take (k + 1)) = (hi (xs.take k) + (lo (xs.take k) + xs[k]?.getD 0)) % 65521 := by
  rw [take_snoc xs k hk]
  refine ⟨lo_snoc _ _, ?_⟩
  rw [hi_snoc, lo_snoc]; omega

theorem sum1_any (bl bh : Nat) (l h b : Int) (w : World) (hl : w.heap[bl]? = some (.cells #[.int .u32 l] 23 (0, 0))) (hh : w.heap[bh]? = some (.cells #[.int .u32 h] 23 (0, 0))) (hne : bl ≠ bh)
    (l0 : 0 ≤ l) (l1 : l < 65521) (h0 : 0 ≤ h) (h1 : h < 65521) (b0 : 0 ≤ b) (b1 : b ≤ 255) :
    Calls Try.prog 20 #[.int .u8 b, .pointer (some ⟨bl, 0, none⟩), .pointer (some ⟨bh, 0, none⟩)] w fun e w' => e = .returned (.tuple #[]) ∧
      w' = (w.setCell ⟨bl, 0, none⟩ (.int .u32 ((l + b) % 65521))).setCell ⟨bh, 0, none⟩ (.int .u32 ((h + (l + b)) % 65521)) := by
  have cl := cell_of_one hl
  have ch := cell_of_one hh
  have fl := free_of_one hl
  have fh := free_of_one hh
  have hne' : bh ≠ bl := fun h => hne h.symm
  have y0 : 0 ≤ (l + b) % 65521 := by omega
  have y1 : (l + b) % 65521 < 65521 := by omega
  clear hl hh
  go_enter Try.func20, Try.ntmps20
  go_wp2
  go_end0
  exact ⟨rfl, rfl⟩

theorem mask16 (x : Int) (h0 : 0 ≤ x) (h1 : x < 4294967296) : bits .and .u32 x 65535 = x % 65536 := by
  rw [u32_and x 65535 h0 h1 (by decide) (by decide)]
  have h := Nat.and_two_pow_sub_one_eq_mod x.toNat 16
  have e : (65535 : Int).toNat = 2 ^ 16 - 1 := by decide
  rw [e, h]
  omega
theorem parts_any (xs : List Int) (w : World) :
    Calls Try.prog 10 #[.int .u32 (adl xs)] w fun e w' => e = .returned (.tuple #[.int .u32 (hi xs), .int .u32 (lo xs)]) ∧ w = w' := by
  obtain ⟨y0, y1⟩ := adl_bd xs
  have e1 := Lib.hid (adl_hi xs)
  have e2 := Lib.hid ((mask16 _ y0 y1).trans (adl_lo xs))
  obtain ⟨y, hy⟩ : ∃ y, y = adl xs := ⟨_, rfl⟩
  rw [← hy] at y0 y1 e1 e2
  rw [← hy]
  clear hy
  go_enter Try.func10, Try.ntmps10
  go_wp2
  go_ret2
  exact ⟨by rw [← e1.out, ← e2.out]; rfl, rfl⟩

theorem sum32_any (a : Option Addr) (n c : Nat) (xs : List Int) (w : World) (hn : xs.length = n) (hs : Seen w a xs) (hm : n ≤ 140737488351232) (hb : bytesOk xs) :
    Calls Try.prog 11 #[.slice a n c] w fun e w' => e = .returned (.int .u32 (adl xs)) ∧ Below w.heap.size w w' := by
  have HN := Lib.hid hn; clear hn
  have HS := Lib.hid hs; clear hs
  have HB := Lib.hid hb; clear hb
  by_cases h0 : n = 0
  · subst h0
    obtain rfl : xs = [] := List.eq_nil_of_length_eq_zero HN.out
    go_enter Try.func11, Try.ntmps11
    go_wp2
    refine wp_loop_rounds 1 ?_
    rw [rounds_succ]
    go_wp2
    go_ret
    exact ⟨rfl, (((Below.refl _ _).alloc (Nat.le_refl _) _).alloc (by simp) _)⟩
  · obtain ⟨b, o, rfl, hbl, hcs⟩ := HS.out.place (by rw [HN.out]; omega)
    have HC := Lib.hid hcs; clear hcs
    have HL0 := Lib.hid (new_first w (.cells #[.int .u32 1] 23) (.cells #[.int .u32 0] 23))
    have HH0 := Lib.hid (new_second w (.cells #[.int .u32 1] 23) (.cells #[.int .u32 0] 23))
    go_enter Try.func11, Try.ntmps11
    go_wp2
    go_loopw [10] (fun i wr => ∃ k : Nat, k ≤ n ∧ i = .int .i64 k ∧ wr.heap[w.heap.size]? = some (.cells #[.int .u32 (lo (xs.take k))] 23 (0, 0)) ∧ wr.heap[w.heap.size + 1]? = some (.cells #[.int .u32 (hi (xs.take k))] 23 (0, 0)) ∧ Below w.heap.size w wr) (fun i _ => n - (intOf i).toNat)
    case atStart => exact ⟨0, Nat.zero_le _, rfl, HL0.out, HH0.out, alloc_alloc _ _ _⟩
    case round =>
      obtain ⟨k, hk, rfl, hl, hh, hbw⟩ := hrel
      have HLk := Lib.hid hl; clear hl
      have HHk := Lib.hid hh; clear hh
      have HBk := Lib.hid hbw; clear hbw
      by_cases hlt : k < n
      · have hc := (HBk.out.cell (p := ⟨b, o + k, none⟩) hbl).trans (HC.out k (by rw [HN.out]; exact hlt))
        obtain ⟨b0, b1⟩ := HB.out k (by rw [HN.out]; exact hlt)
        have HT := Lib.hid (step_sums xs k (by rw [HN.out]; exact hlt))
        go_wp2_with (go_at_call 20; refine (sum1_any _ _ _ _ _ _ HLk.out HHk.out (by omega) (lo_bd _).1 (lo_bd _).2 (hi_bd _).1 (hi_bd _).2 b0 b1).mono ?_; rintro e1 w1 ⟨rfl, rfl⟩)
        go_roundw
        case rel =>
          refine ⟨k + 1, by omega, by go_num, ?_, ?_, (HBk.out.setCell (by simp) _).setCell (by simp) _⟩
          · rw [HT.out.1]
            exact set_other (one_setCell HLk.out) (by omega)
          · rw [HT.out.2]
            exact one_setCell (set_other HHk.out (by omega))
        case measure => simp [intOf]; omega
      · have cl := cell_of_one HLk.out
        have ch := cell_of_one HHk.out
        have ek : xs.take k = xs := by rw [show k = n by omega, ← HN.out, List.take_length]
        rw [ek] at cl ch
        have HJ := Lib.hid (join16 (hi xs) (lo xs) (hi_bd _).1 (hi_bd _).2 (lo_bd _).1 (lo_bd _).2)
        clear ek
        go_wp2
        go_ret
        exact ⟨by rw [adl, ← HJ.out]; rfl, HBk.out⟩

end Go.Proofs.Ytfidmbccboggoaa
