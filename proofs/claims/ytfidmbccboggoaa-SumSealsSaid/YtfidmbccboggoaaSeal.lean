/-
  The walks of layer 3's functions (sum), at the seat's numbers: Seal32, Open32.
-/
import Derived.Test.YtfidmbccboggoaaSum
namespace Go.Proofs.Ytfidmbccboggoaa
open Go.ChangeShapes Go.WideShapes Go.ChangeAt Go.RowKit

theorem be_ok (n : Nat) : ∀ x : Int, bytesOk (be n x) := by
  induction n with
  | zero => intro x j hj; simp [be] at hj
  | succ n ih =>
    intro x j hj
    rw [be_length] at hj
    rw [be]
    by_cases h : j < n
    · rw [List.getElem?_append_left (by rw [be_length]; exact h)]
      exact ih _ j (by rw [be_length]; exact h)
    · have : j = n := by omega
      subst this
      rw [List.getElem?_append_right (by rw [be_length]; exact Nat.le_refl _), be_length]
      simp
      omega
theorem num_be (n : Nat) : ∀ x : Int, 0 ≤ x → x < 256 ^ n → num (be n x) = x := by
  induction n with
  | zero => intro x h0 h1; simp at h1; have : x = 0 := by omega
            subst this; rfl
  | succ n ih =>
    intro x h0 h1
    have h2 : x / 256 < 256 ^ n := Int.ediv_lt_of_lt_mul (by decide) (by rw [← Int.pow_succ]; exact h1)
    rw [be, num_snoc, ih _ (by omega) h2]
    omega
theorem bytesOk_take {xs : List Int} (h : bytesOk xs) (m : Nat) : bytesOk (xs.take m) := by
  intro j hj
  have hj' : j < m ∧ j < xs.length := by simp at hj; omega
  rw [List.getElem?_take_of_lt hj'.1]
  exact h j hj'.2
theorem bytesOk_drop {xs : List Int} (h : bytesOk xs) (m : Nat) : bytesOk (xs.drop m) := by
  intro j hj
  rw [List.getElem?_drop]
  exact h _ (by simp at hj; omega)
theorem bytesOk_append {xs ys : List Int} (h : bytesOk xs) (k : bytesOk ys) : bytesOk (xs ++ ys) := by
  intro j hj
  by_cases hl : j < xs.length
  · rw [List.getElem?_append_left hl]; exact h j hl
  · rw [List.getElem?_append_right (by omega)]; exact k _ (by simp at hj; omega)
theorem Seen.take {w : World} {a : Option Addr} {xs : List Int} (h : Seen w a xs) (m : Nat) : Seen w a (xs.take m) := by
  intro h0
  have hx : 0 < xs.length := by simp at h0; omega
  obtain ⟨ad, rfl, h1⟩ := h hx
  refine ⟨ad, rfl, fun j v hj => h1 j v ?_⟩
  have hjm : j < m := by
    have : j < (By (xs.take m)).length := by
      rcases Nat.lt_or_ge j (By (xs.take m)).length with h' | h'
      · exact h'
      · rw [List.getElem?_eq_none h'] at hj; cases hj
    rw [By_length] at this; simp at this; omega
  simpa [By, List.getElem?_take_of_lt hjm, List.map_take] using hj

theorem seal_any (a : Option Addr) (n c : Nat) (xs : List Int) (w : World) (hn : xs.length = n) (hs : Seen w a xs) (hm : n ≤ 140737488351232) (hb : bytesOk xs) :
    Calls Try.prog 14 #[.slice a n c] w fun e w' => IsRow w.heap.size (xs ++ be 4 (adl xs)) e w' ∧ Below w.heap.size w w' := by
  have HN := Lib.hid hn; clear hn
  have HS := Lib.hid hs; clear hs
  have HB := Lib.hid hb; clear hb
  go_enter Try.func14, Try.ntmps14
  go_wp2_with (first
    | (go_at_call 11; refine (sum32_any _ _ _ xs _ HN.out HS.out hm HB.out).mono ?_; rintro e w1 ⟨rfl, hb1⟩)
    | (go_at_call 22; refine (put32_any _ _ _ _ xs _ HN.out (HS.out.later hb1) hm (adl_bd _).1 (adl_bd _).2).mono ?_; rintro e w2 ⟨rfl, hg, hb2⟩; have HG := Lib.hid hg; clear hg))
  go_ret
  have z := hb1.size
  refine ⟨⟨w1.heap.size, ?_, z, HG.out⟩, hb1.trans (hb2.mono z)⟩
  rw [List.length_append, be_length, HN.out]
  rfl

theorem open_short (a : Option Addr) (n c : Nat) (w : World) (h4 : n < 4) :
    Calls Try.prog 15 #[.slice a n c] w fun e w' => e = .returned (.tuple #[.slice none 0 0, .int .i64 7]) ∧ w = w' := by
  go_enter Try.func15, Try.ntmps15
  go_wp2
  go_ret2
  exact ⟨rfl, rfl⟩

theorem Seen.from {w w1 : World} {a : Option Addr} {xs : List Int} {m c : Nat} (h : Seen w a xs) (hc : xs.length ≤ c) (hcm : ¬ c = m) (hb : Below w.heap.size w w1) : Seen w1 (a.map (fun x => x.add m)) (xs.drop m) := by
  have := h.cut (n := m) hc
  rw [Ytfidmbccboggoaa.cut, if_neg hcm] at this
  exact this.later hb
theorem open_bad (a : Option Addr) (m c : Nat) (xs : List Int) (w : World) (hn : xs.length = m + 4) (hs : Seen w a xs) (hm : m + 4 ≤ 140737488351232) (hb : bytesOk xs) (hmc : m + 4 ≤ c) (hne : (num (xs.drop m) != adl (xs.take m)) = true) :
    Calls Try.prog 15 #[.slice a (m + 4) c] w fun e w' => e = .returned (.tuple #[.slice none 0 0, .int .i64 130]) ∧ Below w.heap.size w w' := by
  have HN := Lib.hid hn; clear hn
  have HS := Lib.hid hs; clear hs
  have HB := Lib.hid hb; clear hb
  have hcm : ¬ c = m := by omega
  have HL : Hid ((xs.drop m).length = 4) := Lib.hid (by rw [List.length_drop, HN.out]; omega)
  have HT : Hid ((xs.take m).length = m) := Lib.hid (by rw [List.length_take, HN.out]; omega)
  have HE : Hid ((xs.drop m).take 4 = xs.drop m) := Lib.hid (List.take_of_length_le (by rw [HL.out]; exact Nat.le_refl _))
  go_enter Try.func15, Try.ntmps15
  go_wp2
  go_quiet (fail)
  go_wp2_with (first
    | (go_at_call 23; refine (read_any _ _ _ (xs.drop m) _ HL.out (HS.out.from (by rw [HN.out]; omega) hcm (drewN_below _ _ _)) (by decide)).mono ?_; rintro e w1 ⟨⟨R, rfl, hR, hrd⟩, hb1⟩; have HR1 := Lib.hid hrd; clear hrd)
    | (go_at_call 24; refine (u32_ok R (xs.drop m) _ HR1.out (by rw [HL.out]; exact Nat.le_refl _) (bytesOk_drop HB.out m)).mono ?_; rw [HE.out]; rintro e w2 ⟨rfl, hb2, hrd⟩; clear hrd)
    | (go_at_call 11; refine (sum32_any _ _ _ (xs.take m) w2 HT.out (((HS.out.take m).later (drewN_below _ _ _)).later (hb1.trans (hb2.below hR hb1.size))) (by omega) (bytesOk_take HB.out m)).mono ?_; rintro e w3 ⟨rfl, hb3⟩))
  go_ret2
  have z1 := hb1.size
  exact ⟨rfl, (((drewN_below _ _ _).trans hb1).trans (hb2.below hR z1)).trans (hb3.mono (by have := hb2.size; omega))⟩

def IsOpened (B : Nat) (xs : List Int) (f : Ending) (w' : World) : Prop := ∃ g, f = .returned (.tuple #[.slice (some ⟨g, 0, none⟩) xs.length xs.length, .int .i64 0]) ∧ B ≤ g ∧ w'.heap[g]? = some (.cells (By xs).toArray 5 (0, 0))
theorem opened {B m g : Nat} {xs : List Int} {w' : World} (hx : xs.length = m) (h1 : B ≤ g) (h2 : w'.heap[g]? = some (.cells (By xs).toArray 5 (0, 0))) : IsOpened B xs (.returned (.tuple #[.slice (some ⟨g, 0, none⟩) m m, .int .i64 0])) w' := ⟨g, by rw [hx], h1, h2⟩
set_option maxHeartbeats 400000 in
theorem open_ok (a : Option Addr) (m c : Nat) (xs : List Int) (w : World) (hn : xs.length = m + 4) (hs : Seen w a xs) (hm : m + 4 ≤ 140737488351232) (hb : bytesOk xs) (hmc : m + 4 ≤ c) (he : num (xs.drop m) = adl (xs.take m)) :
    Calls Try.prog 15 #[.slice a (m + 4) c] w fun e w' => IsOpened w.heap.size (xs.take m) e w' ∧ Below w.heap.size w w' := by
  have HN := Lib.hid hn; clear hn
  have HS := Lib.hid hs; clear hs
  have HB := Lib.hid hb; clear hb
  have HQ := Lib.hid he; clear he
  have hcm : ¬ c = m := by omega
  have HL : Hid ((xs.drop m).length = 4) := Lib.hid (by rw [List.length_drop, HN.out]; omega)
  have HT : Hid ((xs.take m).length = m) := Lib.hid (by rw [List.length_take, HN.out]; omega)
  have HE : Hid ((xs.drop m).take 4 = xs.drop m) := Lib.hid (List.take_of_length_le (by rw [HL.out]; exact Nat.le_refl _))
  have hmk := run_make_row' (P := Try.prog) 22 5 (.int .u8 0) 1 Try.underlying22 Try.info5 rfl .i64 .i64 m (by omega) (by omega)
  have HLm : Hid ((By (xs.take m)).length = Nat.min m m) := Lib.hid (by rw [By_length, HT.out]; simp)
  have HFm : Hid (0 + (By (xs.take m)).length ≤ (List.replicate m (Value.int .u8 0)).length) := Lib.hid (by rw [By_length, HT.out]; simp)
  go_enter Try.func15, Try.ntmps15
  go_wp2
  go_quiet (fail)
  go_wp2_with (first
    | (go_at_call 23; refine (read_any _ _ _ (xs.drop m) _ HL.out (HS.out.from (by rw [HN.out]; omega) hcm (drewN_below _ _ _)) (by decide)).mono ?_; rintro e w1 ⟨⟨R, rfl, hR, hrd⟩, hb1⟩; have HR1 := Lib.hid hrd; clear hrd)
    | (go_at_call 24; refine (u32_ok R (xs.drop m) _ HR1.out (by rw [HL.out]; exact Nat.le_refl _) (bytesOk_drop HB.out m)).mono ?_; rw [HE.out, HQ.out]; rintro e w2 ⟨rfl, hb2, hrd⟩; clear hrd)
    | (go_at_call 11; refine (sum32_any _ _ _ (xs.take m) w2 HT.out (((HS.out.take m).later (drewN_below _ _ _)).later (hb1.trans (hb2.below hR hb1.size))) (by omega) (bytesOk_take HB.out m)).mono ?_; rintro e w3 ⟨rfl, hb3⟩; have HS3 := Lib.hid ((((HS.out.take m).later (drewN_below _ _ _)).later (hb1.trans (hb2.below hR hb1.size))).later hb3); have HG3 := Lib.hid (made_block w3 m (.int .u8 0) 5); have HS4 := Lib.hid (HS3.out.alloc (.cells (madeCells #[.int .u8 0] m) 5)); have HB4 := Lib.hid ((Below.refl w3.heap.size w3).alloc (Nat.le_refl _) (.cells (madeCells #[.int .u8 0] m) 5)))
    | (refine wpList_copy_splice (o := ⟨some 30, _, _, _, _, _⟩) rfl (.tmp 28) (.tmp 29) 22 22 rfl 5 Try.underlying22 Try.size5 _ _ m m m m rfl rfl w3.heap.size 0 (List.replicate m (.int .u8 0)) 5 HG3.out (By (xs.take m)) HLm.out (fun h => ⟨rfl, HS4.out (by simpa [By] using h)⟩) HFm.out (By_one _) w3.heap.size w3 HB4.out (Nat.le_refl _) ?_; intro w5 hg5 hb5))
  have z1 := hb1.size
  have z2 := hb2.size
  have z3 := hb3.size
  have HG6 := hg5.out
  rw [splice_all m _ _ (by rw [By_length, HT.out])] at HG6
  have HG7 := Lib.hid HG6; clear HG6 hg5
  have z0 := (drewN_below w.heap.size w nq).size
  have hB : Below w.heap.size w w5 := ((((drewN_below _ _ _).trans hb1).trans (hb2.below hR z1)).trans (hb3.mono (by omega))).trans (hb5.mono (by omega))
  have hG : w.heap.size ≤ w3.heap.size := by omega
  go_ret2
  exact ⟨opened HT.out hG HG7.out, hB⟩
end Go.Proofs.Ytfidmbccboggoaa
