/-
  The walks of layer 3's document's answers (headraceref03), at the seat's numbers: low, Sum32; the parts of any number.
-/
import Derived.Test.YtfidmbccboggoaaRef
namespace Go.Proofs.Ytfidmbccboggoaa
open Go.ChangeShapes Go.WideShapes Go.ChangeAt Go.RowKit

theorem tot_bound (xs : List Int) (h : bytesOk xs) : ∀ k, k ≤ xs.length → 0 ≤ tot (xs.take k) ∧ tot (xs.take k) ≤ 255 * (k : Int) := by
  intro k
  induction k with
  | zero => intro _; simp [tot]
  | succ k ih =>
    intro hk
    obtain ⟨a, b⟩ := ih (by omega)
    obtain ⟨c, d⟩ := h k (by omega)
    rw [take_snoc xs k (by omega), tot_snoc]
    omega
theorem tot_step (xs : List Int) (k : Nat) (hk : k < xs.length) : tot (xs.take (k + 1)) = tot (xs.take k) + xs[k]?.getD 0 := by
  rw [take_snoc xs k hk, tot_snoc]

set_option maxHeartbeats 400000 in
theorem rlow_any (a : Option Addr) (n c : Nat) (xs : List Int) (w : World) (hn : xs.length = n) (hs : Seen w a xs) (hm : n ≤ 140737488351232) (hb : bytesOk xs) :
    Calls Try.prog 21 #[.slice a n c] w fun e w' => e = .returned (.int .u64 (lo xs)) ∧ w = w' := by
  have HN := Lib.hid hn; clear hn
  have HS := Lib.hid hs; clear hs
  have HB := Lib.hid hb; clear hb
  go_enter Try.func21, Try.ntmps21
  go_wp2
  go_loopw [3, 4] (fun v i wr => ∃ k : Nat, k ≤ n ∧ i = .int .i64 k ∧ v = .int .u64 (1 + tot (xs.take k)) ∧ w = wr) (fun _ i _ => n - (intOf i).toNat)
  case atStart => exact ⟨0, Nat.zero_le _, rfl, rfl, rfl⟩
  case round =>
    obtain ⟨k, hk, rfl, rfl, rfl⟩ := hrel
    obtain ⟨t0, t1⟩ := tot_bound xs HB.out k (by rw [HN.out]; exact hk)
    by_cases hlt : k < n
    · obtain ⟨b1, o1, rfl, l1, g1⟩ := HS.out.place (by rw [HN.out]; omega)
      have hc := g1 k (by rw [HN.out]; exact hlt)
      clear g1 l1
      obtain ⟨b0, b1'⟩ := HB.out k (by rw [HN.out]; exact hlt)
      have HT := Lib.hid (tot_step xs k (by rw [HN.out]; exact hlt))
      obtain ⟨t, ht⟩ : ∃ t, t = tot (xs.take k) := ⟨_, rfl⟩
      rw [← ht] at t0 t1 HT
      rw [← ht]
      clear ht
      obtain ⟨x, hx⟩ : ∃ x, x = xs[k]?.getD 0 := ⟨_, rfl⟩
      rw [← hx] at b0 b1' hc HT
      clear hx
      go_wp2
      go_roundw
      case rel =>
        refine ⟨k + 1, by omega, by go_num, ?_, trivial⟩
        rw [HT.out, show (1 : Int) + (t + x) = 1 + t + x by omega]
      case measure => simp [intOf]; omega
    · have ek : xs.take k = xs := by rw [show k = n by omega, ← HN.out, List.take_length]
      rw [ek] at t0 t1
      rw [ek]
      clear ek
      have HL : Hid ((1 + tot xs) % 65521 = lo xs) := Lib.hid rfl
      obtain ⟨t, ht⟩ : ∃ t, t = tot xs := ⟨_, rfl⟩
      rw [← ht] at t0 t1 HL
      rw [← ht]
      clear ht
      go_wp2
      go_ret
      exact ⟨by rw [← HL.out]; rfl, rfl⟩

/-- The sum of the low sums of the first beginnings. -/
def los (xs : List Int) : Nat → Int
  | 0 => 0
  | k + 1 => los xs k + lo (xs.take (k + 1))
theorem los_bound (xs : List Int) : ∀ k : Nat, 0 ≤ los xs k ∧ los xs k ≤ 65521 * (k : Int) := by
  intro k
  induction k with
  | zero => simp [los]
  | succ k ih => have := lo_bd (xs.take (k + 1)); rw [los]; omega
theorem los_hi (xs : List Int) : ∀ k, k ≤ xs.length → los xs k % 65521 = hi (xs.take k) := by
  intro k
  induction k with
  | zero => intro _; rfl
  | succ k ih =>
    intro hk
    have h := ih (by omega)
    rw [los, take_snoc xs k (by omega), hi_snoc, ← h, ← take_snoc xs k (by omega)]
    omega

set_option maxHeartbeats 800000 in
theorem rsum_any (a : Option Addr) (n c : Nat) (xs : List Int) (w : World) (hn : xs.length = n) (hs : Seen w a xs) (hm : n ≤ 5000) (hc : n ≤ c) (hb : bytesOk xs) :
    Calls Try.prog 12 #[.slice a n c] w fun e w' => e = .returned (.int .u32 (adl xs)) ∧ w = w' := by
  have HN := Lib.hid hn; clear hn
  have HS := Lib.hid hs; clear hs
  have HB := Lib.hid hb; clear hb
  have HM : Hid (n ≤ 140737488351232) := Lib.hid (by omega)
  go_enter Try.func12, Try.ntmps12
  go_wp2
  go_loopw [3, 4] (fun v i wr => ∃ k : Nat, k ≤ n ∧ i = .int .i64 ((k + 1 : Nat) : Int) ∧ v = .int .u64 (los xs k) ∧ w = wr) (fun _ i _ => n + 1 - (intOf i).toNat)
  case atStart => exact ⟨0, Nat.zero_le _, rfl, rfl, rfl⟩
  case round =>
    obtain ⟨k, hk, rfl, rfl, rfl⟩ := hrel
    obtain ⟨t0, t1⟩ := los_bound xs k
    by_cases hlt : k < n
    · obtain ⟨b1, o1, rfl, l1, g1⟩ := HS.out.place (by rw [HN.out]; omega)
      clear g1 l1
      obtain ⟨v0, v1⟩ := lo_bd (xs.take (k + 1))
      have HT : Hid (los xs (k + 1) = los xs k + lo (xs.take (k + 1))) := Lib.hid rfl
      have HL : Hid ((xs.take (k + 1)).length = k + 1) := Lib.hid (by rw [List.length_take, HN.out]; omega)
      have HS2 := Lib.hid (HS.out.take (k + 1))
      have HB2 := Lib.hid (bytesOk_take HB.out (k + 1))
      have HM2 : Hid (k + 1 ≤ 140737488351232) := Lib.hid (by omega)
      obtain ⟨y, hy⟩ : ∃ y, y = lo (xs.take (k + 1)) := ⟨_, rfl⟩
      have HY := Lib.hid hy
      rw [← hy] at v0 v1 HT
      clear hy
      obtain ⟨t, ht⟩ : ∃ t, t = los xs k := ⟨_, rfl⟩
      rw [← ht] at t0 t1 HT
      rw [← ht]
      clear ht
      go_wp2_with (go_at_call 21; refine (rlow_any (some ⟨b1, o1, none⟩) (k + 1) c (xs.take (k + 1)) w HL.out HS2.out HM2.out HB2.out).mono ?_; rw [← HY.out]; rintro e w1 ⟨rfl, rfl⟩)
      go_roundw
      case rel =>
        refine ⟨k + 1, by omega, by go_num, ?_, trivial⟩
        rw [HT.out]
      case measure => simp [intOf]; omega
    · obtain ⟨v0, v1⟩ := lo_bd xs
      have HK : Hid (los xs k % 65521 = hi xs) := Lib.hid (by rw [los_hi xs k (by rw [HN.out]; exact hk), show k = n by omega, ← HN.out, List.take_length])
      obtain ⟨t, ht⟩ : ∃ t, t = los xs k := ⟨_, rfl⟩
      rw [← ht] at t0 t1 HK
      rw [← ht]
      clear ht
      have HJ : Hid (adl xs = t % 65521 * 65536 + lo xs) := Lib.hid (by rw [HK.out]; rfl)
      obtain ⟨y, hy⟩ : ∃ y, y = lo xs := ⟨_, rfl⟩
      have HY := Lib.hid hy
      rw [← hy] at v0 v1 HJ
      clear hy
      go_wp2_with (go_at_call 21; refine (rlow_any a n c xs w HN.out HS.out HM.out HB.out).mono ?_; rw [← HY.out]; rintro e w1 ⟨rfl, rfl⟩)
      go_ret
      refine ⟨?_, rfl⟩
      rw [HJ.out]
      rfl

theorem mask16n (x : Int) (h0 : 0 ≤ x) (h1 : x < 4294967296) : bits .and .u32 x 65535 = x % 65536 := mask16 x h0 h1
theorem parts_num (x : Int) (w : World) (h0 : 0 ≤ x) (h1 : x < 4294967296) :
    Calls Try.prog 10 #[.int .u32 x] w fun e w' => e = .returned (.tuple #[.int .u32 (x / 65536), .int .u32 (x % 65536)]) ∧ w = w' := by
  have e2 := Lib.hid (mask16 _ h0 h1)
  go_enter Try.func10, Try.ntmps10
  go_wp2
  go_ret2
  exact ⟨by rw [← e2.out]; rfl, rfl⟩

end Go.Proofs.Ytfidmbccboggoaa
