/-
  The walks of layer 3's document's answers (headraceref03), at the seat's numbers: Seal, Open; what Open32 gives, said in one.
-/
import Derived.Test.YtfidmbccboggoaaRefSum
namespace Go.Proofs.Ytfidmbccboggoaa
open Go.ChangeShapes Go.WideShapes Go.ChangeAt Go.RowKit

theorem high4 (x : Int) (w : World) (h0 : 0 ≤ x) (h1 : x < 4294967296) : Calls Try.prog 25 #[.int .u64 x, .int .i64 4] w fun e w' => OwnN w.heap.size 4 (be 4 x) e w' ∧ Below w.heap.size w w' := high_any 4 x w h0 (by omega) (by decide)

set_option maxHeartbeats 400000 in
theorem rseal_any (a : Option Addr) (n c : Nat) (xs : List Int) (w : World) (hn : xs.length = n) (hs : Seen w a xs) (hm : n ≤ 5000) (hc : n ≤ c) (hb : bytesOk xs) :
    Calls Try.prog 17 #[.slice a n c] w fun e w' => OwnN w.heap.size (n + 4) (xs ++ be 4 (adl xs)) e w' ∧ Below w.heap.size w w' := by
  have HN := Lib.hid hn; clear hn
  have HS := Lib.hid hs; clear hs
  have HB := Lib.hid hb; clear hb
  have HM : Hid (n + 4 ≤ 140737488351232) := Lib.hid (by omega)
  obtain ⟨y0, y1⟩ := adl_bd xs
  have HL4 : Hid ((be 4 (adl xs)).length = 4) := Lib.hid (be_length _ _)
  obtain ⟨y, hy⟩ : ∃ y, adl xs = y := ⟨_, rfl⟩
  have HY := Lib.hid hy
  rw [hy] at y0 y1 HL4
  rw [hy]
  clear hy
  go_enter Try.func17, Try.ntmps17
  go_wp2_with (first
    | (go_at_call 12; refine (rsum_any a n c xs w HN.out HS.out hm hc HB.out).mono ?_; rw [HY.out]; rintro e w1 ⟨rfl, rfl⟩)
    | (go_at_call 25; refine (high4 y w y0 y1).mono ?_; rintro e w2 ⟨⟨v2, rfl, ho2⟩, hb2⟩; obtain ⟨a2, c2, rfl, hs2, hl2, _, _, _⟩ := own_view ho2; clear ho2; have S2 := Lib.hid hs2; clear hs2)
    | (go_at_call 9; refine (both_any a a2 n 4 c c2 xs (be 4 y) w2 HN.out HL4.out HM.out (HS.out.later hb2) S2.out).mono ?_; rintro e w3 ⟨⟨v3, rfl, ho3⟩, hb3⟩; have O3 := Lib.hid ho3; clear ho3))
  go_ret
  have z2 := hb2.size
  obtain ⟨hl, h⟩ := O3.out
  refine ⟨⟨_, rfl, hl, ?_⟩, hb2.trans (hb3.mono z2)⟩
  rcases h with h | ⟨g, cap, cur, hv, hB, r⟩
  · exact .inl h
  · exact .inr ⟨g, cap, cur, hv, by omega, r⟩

/-- What an opened row is, and the error. -/
def opn (xs : List Int) : List Int := if xs.length < 4 then [] else if num (xs.drop (xs.length - 4)) = adl (xs.take (xs.length - 4)) then xs.take (xs.length - 4) else []
def ope (xs : List Int) : Int := if xs.length < 4 then 7 else if num (xs.drop (xs.length - 4)) = adl (xs.take (xs.length - 4)) then 0 else 130
theorem opn_short {xs : List Int} (h : xs.length < 4) : opn xs = [] ∧ ope xs = 7 := by simp [opn, ope, h]
theorem opn_bad {xs : List Int} {m : Nat} (h : xs.length = m + 4) (hne : ¬ num (xs.drop m) = adl (xs.take m)) : opn xs = [] ∧ ope xs = 130 := by
  have h4 : ¬ xs.length < 4 := by omega
  have hm : xs.length - 4 = m := by omega
  simp only [opn, ope, if_neg h4, hm, if_neg hne, and_self]
theorem opn_ok {xs : List Int} {m : Nat} (h : xs.length = m + 4) (he : num (xs.drop m) = adl (xs.take m)) : opn xs = xs.take m ∧ ope xs = 0 := by
  have h4 : ¬ xs.length < 4 := by omega
  have hm : xs.length - 4 = m := by omega
  simp only [opn, ope, if_neg h4, hm, if_pos he, and_self]

/-- A row of bytes, whichever. -/
def Row (w : World) (g n : Nat) : Prop := ∃ xs : List Int, xs.length = n ∧ w.heap[g]? = some (.cells (By xs).toArray 5 (0, 0))
theorem Row.set {w : World} {g n : Nat} (h : Row w g n) (o : Nat) (x : Int) : Row (w.setCell ⟨g, o, none⟩ (.int .u8 x)) g n := by
  obtain ⟨xs, hl, hg⟩ := h
  exact ⟨xs.set o x, by simpa using hl, row_set hg o x⟩
theorem Row.other {w : World} {g n k : Nat} (h : Row w g n) (hk : k ≠ g) (o : Nat) (v : Value) : Row (w.setCell ⟨k, o, none⟩ v) g n := by
  obtain ⟨xs, hl, hg⟩ := h
  exact ⟨xs, hl, by rw [Below.heap_setCell _ _ _ _ (by simpa using hk.symm)]; exact hg⟩
theorem Row.later {w w1 : World} {g n : Nat} (h : Row w g n) (hb : Below w.heap.size w w1) : Row w1 g n := by
  obtain ⟨xs, hl, hg⟩ := h
  exact ⟨xs, hl, (hb.block g (lt_of_block hg)).trans hg⟩

/-- What Open32 gives: nil, or a row of its own. -/
def IsOpen (B k : Nat) (zs : List Int) (ev : Int) (f : Ending) (w' : World) : Prop :=
  ∃ ax cx, f = .returned (.tuple #[.slice ax k cx, .int .i64 ev]) ∧ Seen w' ax zs ∧ (0 < k → ∃ g, ax = some ⟨g, 0, none⟩ ∧ B ≤ g ∧ Row w' g k)
theorem nil_seen (w : World) : Seen w none [] := fun h => absurd h (by decide)
theorem open_any (a : Option Addr) (n c k : Nat) (xs zs : List Int) (ev : Int) (w : World) (hn : xs.length = n) (hs : Seen w a xs) (hm : n ≤ 5000) (hc : n ≤ c) (hb : bytesOk xs) (hz : opn xs = zs) (hk : zs.length = k) (he : ope xs = ev) :
    Calls Try.prog 15 #[.slice a n c] w fun e w' => IsOpen w.heap.size k zs ev e w' ∧ Below w.heap.size w w' := by
  subst hz hk he
  rcases Nat.lt_or_ge n 4 with h4 | h4
  · obtain ⟨e1, e2⟩ := opn_short (xs := xs) (by omega)
    rw [e1, e2]
    refine (open_short a n c w h4).mono ?_
    rintro e w' ⟨rfl, rfl⟩
    exact ⟨⟨none, 0, rfl, nil_seen _, fun h => absurd h (by decide)⟩, Below.refl _ _⟩
  · obtain ⟨m, rfl⟩ : ∃ m, n = m + 4 := ⟨n - 4, by omega⟩
    by_cases hq : num (xs.drop m) = adl (xs.take m)
    · obtain ⟨e1, e2⟩ := opn_ok hn hq
      rw [e1, e2]
      refine (open_ok a m c xs w hn hs (by omega) hb hc hq).mono ?_
      rintro e w' ⟨⟨g, rfl, hg, hh⟩, hb'⟩
      exact ⟨⟨some ⟨g, 0, none⟩, _, rfl, Seen.row hh, fun _ => ⟨g, rfl, hg, _, rfl, hh⟩⟩, hb'⟩
    · obtain ⟨e1, e2⟩ := opn_bad hn hq
      rw [e1, e2]
      refine (open_bad a m c xs w hn hs (by omega) hb hc (by simpa using hq)).mono ?_
      rintro e w' ⟨rfl, hb'⟩
      exact ⟨⟨none, 0, rfl, nil_seen _, fun h => absurd h (by decide)⟩, hb'⟩

theorem same_seal (xs : List Int) (m : Nat) (hn : xs.length = m + 4) (hb : bytesOk xs) : same (xs.take m ++ be 4 (adl (xs.take m))) xs = decide (num (xs.drop m) = adl (xs.take m)) := by
  obtain ⟨y0, y1⟩ := adl_bd (xs.take m)
  simp only [same]
  congr 1
  refine propext ⟨fun h => ?_, fun h => ?_⟩
  · have h2 : xs.drop m = be 4 (adl (xs.take m)) := by
      have := congrArg (List.drop m) h
      rw [List.drop_append_of_le_length (by rw [List.length_take]; omega), List.drop_of_length_le (by rw [List.length_take]; omega), List.nil_append] at this
      exact this.symm
    rw [h2]
    exact num_be 4 _ y0 (by simpa using y1)
  · have h2 : xs.drop m = be 4 (adl (xs.take m)) := num_inj 4 _ _ (by rw [List.length_drop]; omega) (be_length _ _) (bytesOk_drop hb m) (be_ok _ _) (by rw [h, num_be 4 _ y0 (by simpa using y1)])
    rw [← h2, List.take_append_drop]

def IsOpenR (B k : Nat) (zs : List Int) (ev : Int) (f : Ending) (w' : World) : Prop :=
  ∃ ax cx, f = .returned (.tuple #[.slice ax k cx, .int .i64 ev]) ∧ Seen w' ax zs
theorem ropen_short (a : Option Addr) (n c : Nat) (w : World) (h4 : n < 4) :
    Calls Try.prog 16 #[.slice a n c] w fun e w' => e = .returned (.tuple #[.slice none 0 0, .int .i64 7]) ∧ w = w' := by
  go_enter Try.func16, Try.ntmps16
  go_wp2
  go_ret2
  exact ⟨rfl, rfl⟩
set_option maxHeartbeats 400000 in
theorem ropen_long (a : Option Addr) (m c : Nat) (xs : List Int) (w : World) (s : Bool) (hn : xs.length = m + 4) (hs : Seen w a xs) (hm : m + 4 ≤ 5000) (hc : m + 4 ≤ c) (hb : bytesOk xs) (hq : same (xs.take m ++ be 4 (adl (xs.take m))) xs = s) :
    Calls Try.prog 16 #[.slice a (m + 4) c] w fun e w' => IsOpenR w.heap.size (if s then m else 0) (if s then xs.take m else []) (if s then 0 else 130) e w' ∧ Below w.heap.size w w' := by
  obtain ⟨b1, o1, rfl, _, _⟩ := hs.place (by omega)
  have HN := Lib.hid hn; clear hn
  have HS := Lib.hid hs; clear hs
  have HB := Lib.hid hb; clear hb
  have HQ := Lib.hid hq; clear hq
  have HM : Hid (m ≤ 140737488351232) := Lib.hid (by omega)
  have HM4 : Hid (m + 4 ≤ 140737488351232) := Lib.hid (by omega)
  have HM5 : Hid (m ≤ 5000) := Lib.hid (by omega)
  have HC : Hid (m ≤ c) := Lib.hid (by omega)
  have HT : Hid ((xs.take m).length = m) := Lib.hid (by rw [List.length_take, HN.out]; omega)
  cases s with
  | false =>
    go_enter Try.func16, Try.ntmps16
    go_wp2_with (first
      | (go_at_call 17; refine (rseal_any (some ⟨b1, o1, none⟩) m c (xs.take m) w HT.out (HS.out.take m) HM5.out HC.out (bytesOk_take HB.out m)).mono ?_; rintro e w2 ⟨⟨v2, rfl, ho2⟩, hb2⟩; obtain ⟨a2, c2, rfl, hs2, hl2, _, _, _⟩ := own_view ho2; clear ho2; have S2 := Lib.hid hs2; clear hs2; have L2 := Lib.hid hl2; clear hl2)
      | (go_at_call 13; refine (rsame_any a2 (some ⟨b1, o1, none⟩) (m + 4) (m + 4) c2 c _ xs w2 L2.out HN.out HM4.out S2.out (HS.out.later hb2)).mono ?_; rw [HQ.out]; rintro e w3 ⟨rfl, hb3⟩))
    go_ret2
    exact ⟨⟨none, 0, rfl, nil_seen _⟩, hb2.trans (hb3.mono hb2.size)⟩
  | true =>
    go_enter Try.func16, Try.ntmps16
    go_wp2_with (first
      | (go_at_call 17; refine (rseal_any (some ⟨b1, o1, none⟩) m c (xs.take m) w HT.out (HS.out.take m) HM5.out HC.out (bytesOk_take HB.out m)).mono ?_; rintro e w2 ⟨⟨v2, rfl, ho2⟩, hb2⟩; obtain ⟨a2, c2, rfl, hs2, hl2, _, _, _⟩ := own_view ho2; clear ho2; have S2 := Lib.hid hs2; clear hs2; have L2 := Lib.hid hl2; clear hl2)
      | (go_at_call 13; refine (rsame_any a2 (some ⟨b1, o1, none⟩) (m + 4) (m + 4) c2 c _ xs w2 L2.out HN.out HM4.out S2.out (HS.out.later hb2)).mono ?_; rw [HQ.out]; rintro e w3 ⟨rfl, hb3⟩; have HT3 := Lib.hid (((HS.out.take m).later hb2).later hb3))
      | (go_at_call 9; refine (both_any (some ⟨b1, o1, none⟩) none m 0 c 0 (xs.take m) [] w3 HT.out rfl HM.out HT3.out (nil_seen _)).mono ?_; rintro e w4 ⟨⟨v4, rfl, ho4⟩, hb4⟩; obtain ⟨a4, c4, rfl, hs4, hl4, _, _, _⟩ := own_view ho4; clear ho4; have S4 := Lib.hid hs4; clear hs4))
    go_ret2
    have z2 := hb2.size
    have z3 := hb3.size
    refine ⟨⟨a4, c4, rfl, ?_⟩, (hb2.trans (hb3.mono z2)).trans (hb4.mono (by omega))⟩
    have h := S4.out
    rw [List.append_nil] at h
    exact h

theorem ropen_any (a : Option Addr) (n c k : Nat) (xs zs : List Int) (ev : Int) (w : World) (hn : xs.length = n) (hs : Seen w a xs) (hm : n ≤ 5000) (hc : n ≤ c) (hb : bytesOk xs) (hz : opn xs = zs) (hk : zs.length = k) (he : ope xs = ev) :
    Calls Try.prog 16 #[.slice a n c] w fun e w' => IsOpenR w.heap.size k zs ev e w' ∧ Below w.heap.size w w' := by
  subst hz hk he
  rcases Nat.lt_or_ge n 4 with h4 | h4
  · obtain ⟨e1, e2⟩ := opn_short (xs := xs) (by omega)
    rw [e1, e2]
    refine (ropen_short a n c w h4).mono ?_
    rintro e w' ⟨rfl, rfl⟩
    exact ⟨⟨none, 0, rfl, nil_seen _⟩, Below.refl _ _⟩
  · obtain ⟨m, rfl⟩ : ∃ m, n = m + 4 := ⟨n - 4, by omega⟩
    have h := ropen_long a m c xs w _ hn hs hm hc hb rfl
    rw [same_seal xs m hn hb] at h
    by_cases hq : num (xs.drop m) = adl (xs.take m)
    · obtain ⟨e1, e2⟩ := opn_ok hn hq
      rw [e1, e2]
      have hl : (xs.take m).length = m := by rw [List.length_take]; omega
      rw [hl]
      simpa [hq] using h
    · obtain ⟨e1, e2⟩ := opn_bad hn hq
      rw [e1, e2]
      simpa [hq] using h

end Go.Proofs.Ytfidmbccboggoaa
