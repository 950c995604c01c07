/-
  The walks of layer 1's document's answers (headraceref01), at the seat's numbers: Both, Same, High.
-/
import Derived.Test.YtngnhieddblnmaaBytes
namespace Go.Proofs.Ytngnhieddblnmaa
open Go.ChangeShapes Go.WideShapes Go.ChangeAt Go.RowKit

/-- A SLICE OF THE CALL's OWN THAT HOLDS THESE BYTES: it is nil, or lies at the head of a row. -/
def Own (B n : Nat) (xs : List Int) (f : Ending) (w' : World) : Prop := ∃ v, f = .returned v ∧ w'.ownsRow B 5 1 v n (By xs)
theorem own_view {B n : Nat} {w : World} {v : Value} {xs : List Int} (h : w.ownsRow B 5 1 v n (By xs)) : ∃ a c, v = .slice a n c ∧ Seen w a xs ∧ xs.length = n ∧ (a = none → n = 0) ∧ (∀ ad, a = some ad → B ≤ ad.block) ∧ n ≤ c := by
  obtain ⟨hl, h⟩ := h
  rw [By_length, Nat.mul_one] at hl
  rcases h with ⟨rfl, rfl⟩ | ⟨g, cap, cur, rfl, hB, hg, hn, hc, hs, ht⟩
  · exact ⟨none, 0, rfl, fun h => by omega, hl, fun _ => rfl, (fun _ h => by cases h), by omega⟩
  · refine ⟨some ⟨g, 0, none⟩, cap, rfl, fun _ => ⟨_, rfl, fun j v hj => ?_⟩, hl, (fun h => by cases h), (fun ad h => by cases h; exact hB), hn⟩
    have e : (⟨g, 0, none⟩ : Addr).add j = ⟨g, j, none⟩ := by cases j <;> simp [Addr.add]
    rw [e]
    have hcell : w.cell? ⟨g, j, none⟩ = cur[j]? := by simp [World.cell?, hg]
    rw [hcell, ← hj, ← ht, Nat.mul_one]
    have hj' : j < n := by
      rcases Nat.lt_or_ge j (By xs).length with h' | h'
      · rw [By_length] at h'; omega
      · rw [List.getElem?_eq_none h'] at hj; cases hj
    rw [List.getElem?_take_of_lt hj', Array.getElem?_toList]
theorem one_adds (w : World) (x : Int) : ∀ j u, (By [x])[j]? = some u → (w.alloc (.cells #[.int .u8 x] 5)).cell? ((⟨w.heap.size, 0, none⟩ : Addr).add j) = some u := by
  intro j u hj
  match j, hj with
  | 0, hj => simp [By] at hj; subst hj; simp [Addr.add, go_sem]
theorem By_snoc (xs : List Int) (k : Nat) (h : k < xs.length) : By (xs.take k) ++ By [xs[k]?.getD 0] = By (xs.take (k + 1)) := by
  rw [take_snoc xs k h]; simp [By]
theorem By_snoc2 (xs ys : List Int) (k : Nat) (h : k < ys.length) : By (xs ++ ys.take k) ++ By [ys[k]?.getD 0] = By (xs ++ ys.take (k + 1)) := by
  rw [take_snoc ys k h]; simp [By]
/-- One more behind what is owned: what the law of append leaves. -/
theorem more {B k : Nat} {w w1 : World} {v : Value} {xs : List Value} {o : Obj} (hB : B ≤ w.heap.size) (hown : w.ownsRow B 5 1 v k xs) (hgrow : (w.alloc o).grownBy w1 v.ownBlock) : Below B w w1 :=
  ((Below.refl B w).alloc hB o).grown hgrow (by simp; omega) (fun j hj => (hown.lt j hj).1)

set_option maxHeartbeats 800000 in
theorem both_any (a b : Option Addr) (n m c d : Nat) (xs ys : List Int) (w : World) (hx : xs.length = n) (hy : ys.length = m) (hm : n + m ≤ 140737488351232) (h1 : Seen w a xs) (h2 : Seen w b ys) :
    Calls Try.prog 12 #[.slice a n c, .slice b m d] w fun e w' => Own w.heap.size (n + m) (xs ++ ys) e w' ∧ Below w.heap.size w w' := by
  obtain ⟨i0, hi, hz0, hz1, hz2⟩ := info_parts Try.info5
  have HI := Lib.hid hi; clear hi
  have HZ0 := Lib.hid hz0; clear hz0
  have HZ1 := Lib.hid hz1; clear hz1
  have HZ2 := Lib.hid hz2; clear hz2
  have HX := Lib.hid hx; have HY := Lib.hid hy; have H1 := Lib.hid h1; have H2 := Lib.hid h2
  clear hx hy h1 h2
  obtain ⟨B, hB⟩ : ∃ B, B = w.heap.size := ⟨_, rfl⟩
  rw [← hB]
  have HBs := Lib.hid hB; clear hB
  go_enter Try.func12, Try.ntmps12
  go_wp2
  go_loopw [5, 6] (fun v i wr => ∃ k : Nat, k ≤ n ∧ i = .int .i64 k ∧ wr.ownsRow B 5 1 v (k) (By (xs.take k)) ∧ Below B w wr) (fun _ i _ => n - (intOf i).toNat)
  case atStart => exact ⟨0, Nat.zero_le _, rfl, World.ownsRow_nil _ _ _ _, Below.refl _ _⟩
  case round =>
    obtain ⟨k, hk, rfl, hown, hbw⟩ := hrel
    have HOk := Lib.hid hown; clear hown
    have HBk := Lib.hid hbw; clear hbw
    by_cases hlt : k < n
    · obtain ⟨b1, o1, rfl, l1, g1⟩ := H1.out.place (by rw [HX.out]; omega)
      have hc := (HBk.out.cell (p := ⟨b1, o1 + k, none⟩) (by rw [HBs.out]; exact l1)).trans (g1 k (by rw [HX.out]; exact hlt))
      clear g1 l1
      have HBz : Hid (B ≤ wr.heap.size) := Lib.hid (by have := HBk.out.size; rw [HBs.out]; exact this)
      have HL1 : Hid ((By [xs[k]?.getD 0]).length = 1 * 1) := Lib.hid rfl
      have HM1 : Hid (k + 1 ≤ maxLen) := Lib.hid (by unfold maxLen; omega)
      have HM2 : Hid ((k + 1) * 1 ≤ 140737488355328) := Lib.hid (by omega)
      have HBa : Hid (B ≤ (wr.alloc (.cells #[.int .u8 (xs[k]?.getD 0)] 5)).heap.size) := Lib.hid (by simp; have := HBz.out; omega)
      go_wp2_with (at_builtin; refine wpList_append_own _ rfl (.tmp 14) (.tmp 19) 22 rfl B 5 i0 (.int .u8 0) 1 1 Try.underlying22 HI.out HZ0.out HZ1.out HZ2.out rfl (by decide) _ _ _ rfl (HOk.out.alloc _) ⟨wr.heap.size, 0, none⟩ 1 1 (By [xs[k]?.getD 0]) rfl HL1.out (one_adds _ _) (By_one _) HM1.out HM2.out HBa.out ?_; intro v' w1 hown' hgrow _; have HO' := Lib.hid hown'; clear hown'; have HGr := Lib.hid hgrow; clear hgrow)
      go_roundw
      case rel =>
        refine ⟨k + 1, by omega, by go_num, ?_, HBk.out.trans (more HBz.out HOk.out HGr.out)⟩
        have h := HO'.out
        rw [By_snoc xs k (by rw [HX.out]; exact hlt)] at h
        exact h
      case measure => simp [intOf]; omega
    · have ek : xs.take k = xs := by rw [show k = n by omega, ← HX.out, List.take_length]
      have HO1 : Hid (wr.ownsRow B 5 1 _ n (By xs)) := Lib.hid (by have h := HOk.out; rw [ek, show k = n by omega] at h; exact h)
      clear ek HOk
      go_wp2
      go_loopw [5, 7] (fun v i wq => ∃ k : Nat, k ≤ m ∧ i = .int .i64 k ∧ wq.ownsRow B 5 1 v (n + k) (By (xs ++ ys.take k)) ∧ Below B w wq) (fun _ i _ => m - (intOf i).toNat)
      case atStart => exact ⟨0, Nat.zero_le _, rfl, by simpa using HO1.out, HBk.out⟩
      case round =>
        obtain ⟨k2, hk2, rfl, hown, hbw⟩ := hrel
        have HOq := Lib.hid hown; clear hown
        have HBq := Lib.hid hbw; clear hbw
        by_cases hlt2 : k2 < m
        · obtain ⟨b2, o2, rfl, l2, g2⟩ := H2.out.place (by rw [HY.out]; omega)
          have hc := (HBq.out.cell (p := ⟨b2, o2 + k2, none⟩) (by rw [HBs.out]; exact l2)).trans (g2 k2 (by rw [HY.out]; exact hlt2))
          clear g2 l2
          have HBz : Hid (B ≤ wr.heap.size) := Lib.hid (by have := HBq.out.size; rw [HBs.out]; exact this)
          have HL1 : Hid ((By [ys[k2]?.getD 0]).length = 1 * 1) := Lib.hid rfl
          have HM1 : Hid (n + k2 + 1 ≤ maxLen) := Lib.hid (by unfold maxLen; omega)
          have HM2 : Hid ((n + k2 + 1) * 1 ≤ 140737488355328) := Lib.hid (by omega)
          have HBa : Hid (B ≤ (wr.alloc (.cells #[.int .u8 (ys[k2]?.getD 0)] 5)).heap.size) := Lib.hid (by simp; have := HBz.out; omega)
          go_wp2_with (at_builtin; refine wpList_append_own _ rfl (.tmp 27) (.tmp 32) 22 rfl B 5 i0 (.int .u8 0) 1 1 Try.underlying22 HI.out HZ0.out HZ1.out HZ2.out rfl (by decide) _ _ _ rfl (HOq.out.alloc _) ⟨wr.heap.size, 0, none⟩ 1 1 (By [ys[k2]?.getD 0]) rfl HL1.out (one_adds _ _) (By_one _) HM1.out HM2.out HBa.out ?_; intro v' w1 hown' hgrow _; have HO' := Lib.hid hown'; clear hown'; have HGr := Lib.hid hgrow; clear hgrow)
          go_roundw
          case rel =>
            refine ⟨k2 + 1, by omega, by go_num, ?_, HBq.out.trans (more HBz.out HOq.out HGr.out)⟩
            have h := HO'.out
            rw [By_snoc2 xs ys k2 (by rw [HY.out]; exact hlt2)] at h
            exact h
          case measure => simp [intOf]; omega
        · go_wp2
          go_ret
          have h := HOq.out
          rw [show k2 = m by omega, ← HY.out, List.take_length, HY.out] at h
          exact ⟨⟨_, rfl, h⟩, HBq.out⟩

theorem rsame_len (a b : Option Addr) (n m c d : Nat) (w : World) (h : ((n : Int) != (m : Int)) = true) :
    Calls Try.prog 11 #[.slice a n c, .slice b m d] w fun e w' => e = .returned (.bool false) ∧ Below w.heap.size w w' := by
  go_enter Try.func11, Try.ntmps11
  go_wp2
  go_ret
  exact ⟨rfl, Below.refl _ _⟩

theorem rsame_some (a b : Option Addr) (n c d : Nat) (xs ys : List Int) (w : World) (hm : n ≤ 140737488351232) (hx : xs.length = n) (hy : ys.length = n) (h1 : Seen w a xs) (h2 : Seen w b ys) :
    Calls Try.prog 11 #[.slice a n c, .slice b n d] w fun e w' => e = .returned (.bool (same xs ys)) ∧ Below w.heap.size w w' := by
  have H1 := Lib.hid h1; have H2 := Lib.hid h2; have HX := Lib.hid hx; have HY := Lib.hid hy
  clear h1 h2 hx hy
  go_enter Try.func11, Try.ntmps11
  go_wp2
  go_loopw [5] (fun i wr => ∃ k : Nat, k ≤ n ∧ i = .int .i64 k ∧ xs.take k = ys.take k ∧ Below w.heap.size w wr) (fun i _ => n - (intOf i).toNat)
  case atStart => exact ⟨0, Nat.zero_le _, rfl, rfl, Below.refl _ _⟩
  case round =>
    obtain ⟨k, hk, rfl, he, hb⟩ := hrel
    have HE := Lib.hid he; clear he
    have HB := Lib.hid hb; clear hb
    by_cases hlt : k < n
    · obtain ⟨b1, o1, rfl, l1, g1⟩ := H1.out.place (by rw [HX.out]; omega)
      obtain ⟨b2, o2, rfl, l2, g2⟩ := H2.out.place (by rw [HY.out]; omega)
      have k1 := (HB.out.cell (p := ⟨b1, o1 + k, none⟩) l1).trans (g1 k (by rw [HX.out]; exact hlt))
      have k2 := (HB.out.cell (p := ⟨b2, o2 + k, none⟩) l2).trans (g2 k (by rw [HY.out]; exact hlt))
      clear g1 g2
      go_wp2
      go_quiet (fail)
      go_wp2
      · have hne : (xs[k]?.getD 0 != ys[k]?.getD 0) = true := by assumption
        go_ret
        refine ⟨?_, HB.out.trans (drewN_below _ _ _)⟩
        rw [same_not hne]; rfl
      · have heq : (xs[k]?.getD 0 != ys[k]?.getD 0) = false := by assumption
        go_roundw
        case rel => exact ⟨k + 1, by omega, by go_num, by rw [take_snoc xs k (by rw [HX.out]; exact hlt), take_snoc ys k (by rw [HY.out]; exact hlt), HE.out]; simp at heq; rw [heq], HB.out.trans (drewN_below _ _ _)⟩
        case measure => simp [intOf]; omega
    · go_wp2
      go_ret
      refine ⟨?_, HB.out⟩
      have h := HE.out
      rw [show k = n by omega, List.take_of_length_le (by rw [HX.out]; exact Nat.le_refl _), List.take_of_length_le (by rw [HY.out]; exact Nat.le_refl _)] at h
      simp [same, h]

theorem rsame_any (a b : Option Addr) (n m c d : Nat) (xs ys : List Int) (w : World) (hx : xs.length = n) (hy : ys.length = m) (hm : n ≤ 140737488351232) (h1 : Seen w a xs) (h2 : Seen w b ys) :
    Calls Try.prog 11 #[.slice a n c, .slice b m d] w fun e w' => e = .returned (.bool (same xs ys)) ∧ Below w.heap.size w w' := by
  by_cases hnm : n = m
  · subst hnm
    exact rsame_some a b n c d xs ys w hm hx hy h1 h2
  · have hs : same xs ys = false := by
      simp only [same, decide_eq_false_iff_not]
      rintro rfl
      omega
    rw [hs]
    exact rsame_len a b n m c d w (by simp; omega)

theorem low_byte (x : Int) (h0 : 0 ≤ x) (h1 : x < 18446744073709551616) : bits .and .u64 x 255 % 256 = x % 256 := by
  obtain ⟨n, rfl⟩ := Int.eq_ofNat_of_zero_le h0
  have h := Nat.and_two_pow_sub_one_eq_mod n 8
  simp at h
  rw [u64_and _ _ h0 (by omega) (by decide) (by decide)]
  simp
  rw [h]
  omega

set_option maxHeartbeats 400000 in
theorem high_any (n : Nat) : ∀ (x : Int) (w : World), 0 ≤ x → x < 18446744073709551616 → n ≤ 8 →
    Calls Try.prog 16 #[.int .u64 x, .int .i64 (n : Int)] w fun e w' => Own w.heap.size n (be n x) e w' ∧ Below w.heap.size w w' := by
  induction n with
  | zero =>
    intro x w h0 h1 hn
    go_enter Try.func16, Try.ntmps16
    go_wp2
    go_ret
    exact ⟨⟨_, rfl, World.ownsRow_nil _ _ _ _⟩, Below.refl _ _⟩
  | succ n ih =>
    intro x w h0 h1 hn
    obtain ⟨i0, hi, hz0, hz1, hz2⟩ := info_parts Try.info5
    have HI := Lib.hid hi; clear hi
    have HZ0 := Lib.hid hz0; clear hz0
    have HZ1 := Lib.hid hz1; clear hz1
    have HZ2 := Lib.hid hz2; clear hz2
    have HIH := Lib.hid (ih (x / 256) w (by omega) (by omega) (by omega)); clear ih
    have HN1 : Hid ((By [bits .and .u64 x 255 % 256]).length = 1 * 1) := Lib.hid rfl
    have HM1 : Hid (n + 1 ≤ maxLen) := Lib.hid (by unfold maxLen; omega)
    have HM2 : Hid ((n + 1) * 1 ≤ 140737488355328) := Lib.hid (by omega)
    go_enter Try.func16, Try.ntmps16
    go_wp2_with (first
      | (go_at_call 16; ((with_reducible refine HIH.out.mono ?_); rintro e w1 ⟨⟨v, rfl, hown⟩, hb1⟩; have HO1 := Lib.hid hown; clear hown; have HS1 : Hid (w.heap.size ≤ w1.heap.size) := Lib.hid hb1.size))
      | (at_builtin; refine wpList_append_own _ rfl (.tmp 11) (.tmp 15) 22 rfl w.heap.size 5 i0 (.int .u8 0) 1 1 Try.underlying22 HI.out HZ0.out HZ1.out HZ2.out rfl (by decide) _ _ _ rfl (HO1.out.alloc _) ⟨w1.heap.size, 0, none⟩ 1 1 (By [bits .and .u64 x 255 % 256]) rfl HN1.out (one_adds _ _) (By_one _) HM1.out HM2.out (by simp; have := HS1.out; omega) ?_; intro v' w2 hown' hgrow _; have HO' := Lib.hid hown'; clear hown'; have HGr := Lib.hid hgrow; clear hgrow))
    go_ret
    refine ⟨⟨_, rfl, ?_⟩, hb1.trans (more HS1.out HO1.out HGr.out)⟩
    have h := HO'.out
    rw [show By (be n (x / 256)) ++ By [bits .and .u64 x 255 % 256] = By (be (n + 1) x) by rw [low_byte x h0 h1]; simp [By, be]] at h
    exact h

end Go.Proofs.Ytngnhieddblnmaa
