/-
  The walk of 'OctetLays' (P1.1).
-/
import Derived.Test.YtngnhieddblnmaaRef
import Derived.Test.YtngnhieddblnmaaCasts
namespace Go.Proofs.Ytngnhieddblnmaa
open Go.ChangeShapes Go.WideShapes Go.ChangeAt Go.RowKit
open Go.Proofs.Ytngnhieddblnmaa.octetCasts (nil_seen)
set_option linter.unusedVariables false

theorem be_mod (k : Nat) : ∀ x : Int, be k (x % 256 ^ k) = be k x := by
  induction k with
  | zero => intro x; rfl
  | succ k ih =>
    intro x
    have hp : (0 : Int) < 256 ^ k := Int.pow_pos (by decide)
    have e1 : x % 256 ^ (k + 1) / 256 = (x / 256) % 256 ^ k := by
      have h1 : x % (256 ^ k * 256) = x - 256 ^ k * 256 * (x / (256 ^ k * 256)) := Int.emod_def _ _
      have h2 : (x / 256) % 256 ^ k = x / 256 - 256 ^ k * (x / 256 / 256 ^ k) := Int.emod_def _ _
      have h3 : x / 256 / 256 ^ k = x / (256 ^ k * 256) := by rw [Int.ediv_ediv_of_nonneg (by decide), Int.mul_comm]
      rw [Int.pow_succ, h1, h2, h3, Int.mul_right_comm]
      generalize (256 : Int) ^ k * (x / (256 ^ k * 256)) = t
      omega
    have e2 : x % 256 ^ (k + 1) % 256 = x % 256 := Int.emod_emod_of_dvd x ⟨256 ^ k, by rw [Int.pow_succ, Int.mul_comm]⟩
    rw [be, be, e1, e2, ih]
def threes : List Int := [3, 3, 3, 3, 3, 3, 3, 3]
def lit3 : Obj := .cells #[.int .u8 3, .int .u8 3, .int .u8 3, .int .u8 3, .int .u8 3, .int .u8 3, .int .u8 3, .int .u8 3] 5
theorem threes_seen (w : World) : Seen (w.alloc (.cells #[.int .u8 3, .int .u8 3, .int .u8 3, .int .u8 3, .int .u8 3, .int .u8 3, .int .u8 3, .int .u8 3] 5)) (some ⟨w.heap.size, 0, none⟩) threes :=
  row_seen (heap_alloc_new _ _) rfl
/-- A row of bytes, whichever. -/
def Row (w : World) (g n : Nat) : Prop := ∃ xs : List Int, xs.length = n ∧ w.heap[g]? = some (.cells (By xs).toArray 5 (0, 0))
theorem Row.set {w : World} {g n : Nat} (h : Row w g n) (o : Nat) (x : Int) : Row (w.setCell ⟨g, o, none⟩ (.int .u8 x)) g n := by
  obtain ⟨xs, hl, hg⟩ := h
  exact ⟨xs.set o x, by simpa using hl, row_set hg o x⟩
theorem Row.other {w : World} {g n k : Nat} (h : Row w g n) (hk : k ≠ g) (o : Nat) (v : Value) : Row (w.setCell ⟨k, o, none⟩ v) g n := by
  obtain ⟨xs, hl, hg⟩ := h
  exact ⟨xs, hl, by rw [Below.heap_setCell _ _ _ _ (by simpa using hk.symm)]; exact hg⟩
theorem Row.later {w w1 : World} {g n : Nat} (h : Row w g n) (hb : Below w.heap.size w w1) : Row w1 g n := by
  obtain ⟨xs, hl, hg⟩ := h
  exact ⟨xs, hl, (hb.block g (lt_of_block hg)).trans hg⟩
theorem high2 (x : Int) (w : World) (h0 : 0 ≤ x) (h1 : x < 18446744073709551616) : Calls Try.prog 16 #[.int .u64 x, .int .i64 2] w fun e w' => Own w.heap.size 2 (be 2 x) e w' ∧ Below w.heap.size w w' := high_any 2 x w h0 h1 (by decide)
theorem high4 (x : Int) (w : World) (h0 : 0 ≤ x) (h1 : x < 18446744073709551616) : Calls Try.prog 16 #[.int .u64 x, .int .i64 4] w fun e w' => Own w.heap.size 4 (be 4 x) e w' ∧ Below w.heap.size w w' := high_any 4 x w h0 h1 (by decide)
theorem high8 (x : Int) (w : World) (h0 : 0 ≤ x) (h1 : x < 18446744073709551616) : Calls Try.prog 16 #[.int .u64 x, .int .i64 8] w fun e w' => Own w.heap.size 8 (be 8 x) e w' ∧ Below w.heap.size w w' := high_any 8 x w h0 h1 (by decide)

theorem seen_front {w : World} {a : Option Addr} {xs ys : List Int} (h : Seen w a (xs ++ ys)) : Seen w a xs := by
  intro h0
  obtain ⟨ad, rfl, hc⟩ := h (by simp; omega)
  refine ⟨ad, rfl, fun j v hj => hc j v ?_⟩
  have hlt : j < (By xs).length := by
    rcases Nat.lt_or_ge j (By xs).length with h' | h'
    · exact h'
    · rw [List.getElem?_eq_none h'] at hj; cases hj
  rw [show By (xs ++ ys) = By xs ++ By ys by simp [By], List.getElem?_append_left hlt]
  exact hj
theorem keepB {b : Nat} {w w1 : World} {o : Obj} (hb : Below w.heap.size w w1) (h : w.heap[b]? = some o) : w1.heap[b]? = some o := (hb.block b (lt_of_block h)).trans h

theorem index3 (a b c : Value) (w : World) : (Instr.index 33 (.agg #[a, b, c]) (.int .i64 0)).run Try.prog w = .ok a w ∧ (Instr.index 33 (.agg #[a, b, c]) (.int .i64 1)).run Try.prog w = .ok b w ∧ (Instr.index 33 (.agg #[a, b, c]) (.int .i64 2)).run Try.prog w = .ok c w := by
  refine ⟨?_, ?_, ?_⟩ <;> simp [Instr.index, run_underlying Try.underlying33, asIntOf, go_sem]
theorem heap_size_alloc (w : World) (o : Obj) : (w.alloc o).heap.size = w.heap.size + 1 := by simp
/-- What lay below stays so. -/
theorem seen_low {w6 w18 u : World} {a : Option Addr} {xs : List Int} (h6 : Seen w6 a xs) (h : Seen w18 a xs) (hu : Below w6.heap.size w18 u) : Seen u a xs := by
  intro h0
  obtain ⟨ad, rfl, hc⟩ := h h0
  obtain ⟨b1, o1, he, hl, _⟩ := h6.place h0
  obtain rfl : ad = ⟨b1, o1, none⟩ := by simpa using he
  refine ⟨_, rfl, fun j v hj => ?_⟩
  have hk := hc j v hj
  have e : (⟨b1, o1, none⟩ : Addr).add j = ⟨b1, o1 + j, none⟩ := by cases j <;> simp [Addr.add]
  rw [e] at hk ⊢
  exact (hu.cell hl).trans hk

set_option maxHeartbeats 4000000 in
set_option maxRecDepth 100000 in
theorem lays_main (a b : Option Addr) (n m c d : Nat) (x : Int) (xs ys : List Int) (w : World) (hx : xs.length = n) (hy : ys.length = m) (ha : Seen w a xs) (hb : Seen w b ys) (hn : n ≤ 3000) (hm : m ≤ 3000) (h0 : 0 ≤ x) (h1 : x < 18446744073709551616) :
    Calls Try.prog 3 #[.slice a n c, .slice b m d, .int .u64 x] w fun e w' => e = .returned (.bool true) ∧ Below w.heap.size w w' := by
  have HX := Lib.hid hx; have HY := Lib.hid hy; have HA := Lib.hid ha; have HB := Lib.hid hb
  clear ha hb
  have HM : Hid (n ≤ 140737488351232) := Lib.hid (by omega)
  have HMz : Hid (n + 0 ≤ 140737488351232) := Lib.hid (by omega)
  have HM8 : Hid (n + 8 ≤ 140737488351232) := Lib.hid (by omega)
  have HMb2 : Hid (n + 2 ≤ 140737488351232) := Lib.hid (by omega)
  have HMb4 : Hid (n + 4 ≤ 140737488351232) := Lib.hid (by omega)
  have HMb8 : Hid (n + 8 ≤ 140737488351232) := Lib.hid (by omega)
  have HU0 : Hid (0 ≤ IntKind.u16.wrap x) := Lib.hid (by show 0 ≤ x % 65536; omega)
  have HU1 : Hid (IntKind.u16.wrap x < 65536) := Lib.hid (by show x % 65536 < 65536; omega)
  have HV0 : Hid (0 ≤ x % 4294967296) := Lib.hid (by omega)
  have HV1 : Hid (x % 4294967296 < 4294967296) := Lib.hid (by omega)
  have HSn : Hid (same xs (xs ++ []) = true) := Lib.hid (by simp [same])
  have HE2 : Hid (same (xs ++ be 2 (IntKind.u16.wrap x)) (xs ++ be 2 x) = true) := Lib.hid (by rw [show be 2 (IntKind.u16.wrap x) = be 2 x from be_mod 2 x]; simp [same])
  have HE4 : Hid (same (xs ++ be 4 (x % 4294967296)) (xs ++ be 4 x) = true) := Lib.hid (by rw [show be 4 (x % 4294967296) = be 4 x from be_mod 4 x]; simp [same])
  have HE8 : Hid (same (xs ++ be 8 x) (xs ++ be 8 x) = true) := Lib.hid (by simp [same])
  have HP2 : Hid ((xs ++ be 2 (IntKind.u16.wrap x)).length = n + 2) := Lib.hid (by rw [List.length_append, be_length, hx])
  have HP4 : Hid ((xs ++ be 4 (x % 4294967296)).length = n + 4) := Lib.hid (by rw [List.length_append, be_length, hx])
  have HP8 : Hid ((xs ++ be 8 x).length = n + 8) := Lib.hid (by rw [List.length_append, be_length, hx])
  have HST : Hid (same (xs ++ threes) (xs ++ threes) = true) := Lib.hid (by simp [same])
  obtain ⟨sb, hsb⟩ : ∃ s, same xs ys = s := ⟨_, rfl⟩
  have HS := Lib.hid hsb; clear hsb hx hy
  go_enter Try.func3, Try.ntmps3
  go_wp2_with (first
    | (go_at_call 9; refine (wakes_any _).mono ?_; rintro e w1 ⟨rfl, hb1⟩; have SA1 := Lib.hid (HA.out.later hb1); have SB1 := Lib.hid (HB.out.later hb1))
    | (go_at_call 10; ((with_reducible refine (equal_any a b n m c d xs ys w1 HX.out HY.out HM.out SA1.out SB1.out).mono ?_); rw [HS.out]; rintro e w2 ⟨rfl, hb2⟩; have SA2 := Lib.hid (SA1.out.later hb2); have SB2 := Lib.hid (SB1.out.later hb2)))
    | (go_at_call 11; ((with_reducible refine (rsame_any a b n m c d xs ys w2 HX.out HY.out HM.out SA2.out SB2.out).mono ?_); rw [HS.out]; rintro e w3 ⟨rfl, hb3⟩; have SA3 := Lib.hid (SA2.out.later hb3)))
    | (go_at_call 12; ((with_reducible refine (both_any a none n 0 c 0 xs [] w3 HX.out rfl HMz.out SA3.out (nil_seen _)).mono ?_); rintro e w4 ⟨⟨v4, rfl, ho4⟩, hb4⟩; obtain ⟨a4, c4, rfl, hs4, hl4, _, _, _⟩ := own_view ho4; clear ho4; have SO4 := Lib.hid hs4; clear hs4; have SL4 := Lib.hid hl4; clear hl4; have SA4 := Lib.hid (SA3.out.later hb4)))
    | (go_at_call 10; ((with_reducible refine (equal_any a a4 n n c c4 xs (xs ++ []) w4 HX.out SL4.out HM.out SA4.out SO4.out).mono ?_); rw [HSn.out]; rintro e w5 ⟨rfl, hb5⟩; have SA5 := Lib.hid ((SA4.out.later hb5).alloc (.cells #[.int .u8 3, .int .u8 3, .int .u8 3, .int .u8 3, .int .u8 3, .int .u8 3, .int .u8 3, .int .u8 3] 5))))
    | (go_at_call 12; ((with_reducible refine (both_any a (some ⟨w5.heap.size, 0, none⟩) n 8 c 8 xs threes (w5.alloc (.cells #[.int .u8 3, .int .u8 3, .int .u8 3, .int .u8 3, .int .u8 3, .int .u8 3, .int .u8 3, .int .u8 3] 5)) HX.out rfl HM8.out SA5.out (threes_seen _)).mono ?_); rintro e w6 ⟨⟨v6, rfl, ho6⟩, hb6⟩; obtain ⟨a6, c6, rfl, hs6, hl6, _, _, hc6⟩ := own_view ho6; clear ho6; obtain ⟨gR, oR, rfl, _, _⟩ := hs6.place (by rw [hl6]; omega); have SR6 := Lib.hid hs6; clear hs6; have SL6 := Lib.hid hl6; clear hl6; have SI6 := Lib.hid (seen_front SR6.out); have SA6 := Lib.hid (SA5.out.later hb6)))
    | (go_at_call 13; ((with_reducible refine (put16_any (some ⟨gR, oR, none⟩) n c6 (IntKind.u16.wrap x) xs w6 HX.out SI6.out HM.out HU0.out HU1.out).mono ?_); rintro e w7 ⟨rfl, hg7, hb7⟩; have RP7 := Lib.hid hg7; clear hg7; have SI7 := Lib.hid (SI6.out.later hb7); have SA7 := Lib.hid (SA6.out.later hb7); have SR7 := Lib.hid (SR6.out.later hb7)))
    | (go_at_call 14; ((with_reducible refine (put32_any (some ⟨gR, oR, none⟩) n c6 (x % 4294967296) xs w7 HX.out SI7.out HM.out HV0.out HV1.out).mono ?_); rintro e w8 ⟨rfl, hg8, hb8⟩; have RQ8 := Lib.hid hg8; clear hg8; have SI8 := Lib.hid (SI7.out.later hb8); have SA8 := Lib.hid (SA7.out.later hb8); have SR8 := Lib.hid (SR7.out.later hb8); have RP8 := Lib.hid (keepB hb8 RP7.out)))
    | (go_at_call 15; ((with_reducible refine (put64_any (some ⟨gR, oR, none⟩) n c6 x xs w8 HX.out SI8.out HM.out h0 h1).mono ?_); rintro e w9 ⟨rfl, hg9, hb9⟩; have RS9 := Lib.hid hg9; clear hg9; have SA9 := Lib.hid (SA8.out.later hb9); have SR9 := Lib.hid (SR8.out.later hb9); have RP9 := Lib.hid (keepB hb9 RP8.out); have RQ9 := Lib.hid (keepB hb9 RQ8.out)))
    | (go_at_call 16; ((with_reducible refine (high2 x w9 h0 h1).mono ?_); rintro e w10 ⟨⟨v10, rfl, ho10⟩, hb10⟩; obtain ⟨a10, c10, rfl, hs10, hl10, _, _, _⟩ := own_view ho10; clear ho10; have SO10 := Lib.hid hs10; clear hs10; have SL10 := Lib.hid hl10; clear hl10; have SA10 := Lib.hid (SA9.out.later hb10)))
    | (go_at_call 12; ((with_reducible refine (both_any a a10 n 2 c c10 xs (be 2 x) w10 HX.out SL10.out HMb2.out SA10.out SO10.out).mono ?_); rintro e w11 ⟨⟨v11, rfl, ho11⟩, hb11⟩; obtain ⟨a11, c11, rfl, hs11, hl11, _, _, _⟩ := own_view ho11; clear ho11; have SO11 := Lib.hid hs11; clear hs11; have SL11 := Lib.hid hl11; clear hl11; have SA11 := Lib.hid (SA10.out.later hb11)))
    | (go_at_call 11; ((with_reducible refine (rsame_any (some ⟨w6.heap.size, 0, none⟩) a11 (n + 2) (n + 2) (n + 2) c11 (xs ++ be 2 (IntKind.u16.wrap x)) (xs ++ be 2 x) w11 HP2.out SL11.out HMb2.out (row_seen (keepB hb11 (keepB hb10 RP9.out)) rfl) SO11.out).mono ?_); rw [HE2.out]; rintro e w12 ⟨rfl, hb12⟩; have SA12 := Lib.hid (SA11.out.later hb12); have RP12 := Lib.hid (keepB hb12 (keepB hb11 (keepB hb10 RP9.out))); have RQ12 := Lib.hid (keepB hb12 (keepB hb11 (keepB hb10 RQ9.out))); have RS12 := Lib.hid (keepB hb12 (keepB hb11 (keepB hb10 RS9.out))); have SR12 := Lib.hid (((SR9.out.later hb10).later hb11).later hb12)))
    | (go_at_call 16; ((with_reducible refine (high4 x w12 h0 h1).mono ?_); rintro e w13 ⟨⟨v13, rfl, ho13⟩, hb13⟩; obtain ⟨a13, c13, rfl, hs13, hl13, _, _, _⟩ := own_view ho13; clear ho13; have SO13 := Lib.hid hs13; clear hs13; have SL13 := Lib.hid hl13; clear hl13; have SA13 := Lib.hid (SA12.out.later hb13)))
    | (go_at_call 12; ((with_reducible refine (both_any a a13 n 4 c c13 xs (be 4 x) w13 HX.out SL13.out HMb4.out SA13.out SO13.out).mono ?_); rintro e w14 ⟨⟨v14, rfl, ho14⟩, hb14⟩; obtain ⟨a14, c14, rfl, hs14, hl14, _, _, _⟩ := own_view ho14; clear ho14; have SO14 := Lib.hid hs14; clear hs14; have SL14 := Lib.hid hl14; clear hl14; have SA14 := Lib.hid (SA13.out.later hb14)))
    | (go_at_call 11; ((with_reducible refine (rsame_any (some ⟨w7.heap.size, 0, none⟩) a14 (n + 4) (n + 4) (n + 4) c14 (xs ++ be 4 (x % 4294967296)) (xs ++ be 4 x) w14 HP4.out SL14.out HMb4.out (row_seen (keepB hb14 (keepB hb13 RQ12.out)) rfl) SO14.out).mono ?_); rw [HE4.out]; rintro e w15 ⟨rfl, hb15⟩; have SA15 := Lib.hid (SA14.out.later hb15); have RP15 := Lib.hid (keepB hb15 (keepB hb14 (keepB hb13 RP12.out))); have RQ15 := Lib.hid (keepB hb15 (keepB hb14 (keepB hb13 RQ12.out))); have RS15 := Lib.hid (keepB hb15 (keepB hb14 (keepB hb13 RS12.out))); have SR15 := Lib.hid (((SR12.out.later hb13).later hb14).later hb15)))
    | (go_at_call 16; ((with_reducible refine (high8 x w15 h0 h1).mono ?_); rintro e w16 ⟨⟨v16, rfl, ho16⟩, hb16⟩; obtain ⟨a16, c16, rfl, hs16, hl16, _, _, _⟩ := own_view ho16; clear ho16; have SO16 := Lib.hid hs16; clear hs16; have SL16 := Lib.hid hl16; clear hl16; have SA16 := Lib.hid (SA15.out.later hb16)))
    | (go_at_call 12; ((with_reducible refine (both_any a a16 n 8 c c16 xs (be 8 x) w16 HX.out SL16.out HMb8.out SA16.out SO16.out).mono ?_); rintro e w17 ⟨⟨v17, rfl, ho17⟩, hb17⟩; obtain ⟨a17, c17, rfl, hs17, hl17, _, _, _⟩ := own_view ho17; clear ho17; have SO17 := Lib.hid hs17; clear hs17; have SL17 := Lib.hid hl17; clear hl17; have SA17 := Lib.hid (SA16.out.later hb17)))
    | (go_at_call 11; ((with_reducible refine (rsame_any (some ⟨w8.heap.size, 0, none⟩) a17 (n + 8) (n + 8) (n + 8) c17 (xs ++ be 8 (x)) (xs ++ be 8 x) w17 HP8.out SL17.out HMb8.out (row_seen (keepB hb17 (keepB hb16 RS15.out)) rfl) SO17.out).mono ?_); rw [HE8.out]; rintro e w18 ⟨rfl, hb18⟩; have SA18 := Lib.hid (SA17.out.later hb18); have RP18 := Lib.hid (keepB hb18 (keepB hb17 (keepB hb16 RP15.out))); have RQ18 := Lib.hid (keepB hb18 (keepB hb17 (keepB hb16 RQ15.out))); have RS18 := Lib.hid (keepB hb18 (keepB hb17 (keepB hb16 RS15.out))); have SR18 := Lib.hid (((SR15.out.later hb16).later hb17).later hb18))))
  have l67 : Hid (w6.heap.size < w7.heap.size) := Lib.hid (lt_of_block RP7.out)
  have l78 : Hid (w7.heap.size < w8.heap.size) := Lib.hid (lt_of_block RQ8.out)
  have l89 : Hid (w8.heap.size < w9.heap.size) := Lib.hid (lt_of_block RS9.out)
  have XP : Hid (Row w18 w6.heap.size (n + 2)) := Lib.hid ⟨_, HP2.out, RP18.out⟩
  have XQ : Hid (Row w18 w7.heap.size (n + 4)) := Lib.hid ⟨_, HP4.out, RQ18.out⟩
  have XS : Hid (Row w18 w8.heap.size (n + 8)) := Lib.hid ⟨_, HP8.out, RS18.out⟩
  have z1 := hb1.size
  have z2 := hb2.size
  have z3 := hb3.size
  have z4 := hb4.size
  have z5 := hb5.size
  have z6 := hb6.size
  rw [heap_size_alloc] at z6
  have z9 := hb9.size
  have z10 := hb10.size
  have z11 := hb11.size
  have z12 := hb12.size
  have z13 := hb13.size
  have z14 := hb14.size
  have z15 := hb15.size
  have z16 := hb16.size
  have z17 := hb17.size
  have z18 := hb18.size
  have HW : Hid (Below w.heap.size w w18) := Lib.hid (by
    have q67 := l67.out
    have q78 := l78.out
    have q89 := l89.out
    have y5 : Below w.heap.size w w5 := (((hb1.trans (hb2.mono z1)).trans (hb3.mono (by omega))).trans (hb4.mono (by omega))).trans (hb5.mono (by omega))
    have y6 : Below w.heap.size w w6 := (y5.alloc (by omega) _).trans (hb6.mono (by rw [heap_size_alloc]; omega))
    have y9 : Below w.heap.size w w9 := ((y6.trans (hb7.mono (by omega))).trans (hb8.mono (by omega))).trans (hb9.mono (by omega))
    have y12 : Below w.heap.size w w12 := ((y9.trans (hb10.mono (by omega))).trans (hb11.mono (by omega))).trans (hb12.mono (by omega))
    have y15 : Below w.heap.size w w15 := ((y12.trans (hb13.mono (by omega))).trans (hb14.mono (by omega))).trans (hb15.mono (by omega))
    exact ((y15.trans (hb16.mono (by omega))).trans (hb17.mono (by omega))).trans (hb18.mono (by omega)))
  have HLO : Hid (w.heap.size ≤ w6.heap.size) := Lib.hid (by omega)
  have HL18 : Hid (w6.heap.size ≤ w18.heap.size) := Lib.hid (by have := l67.out; have := l78.out; have := l89.out; omega)
  have SR : Hid (∀ u, Below w6.heap.size w18 u → Seen u (some ⟨gR, oR, none⟩) (xs ++ threes)) := Lib.hid (fun u hu => seen_low SR6.out (SR18.out) hu)
  have SA : Hid (∀ u, Below w6.heap.size w18 u → Seen u a xs) := Lib.hid (fun u hu => seen_low SA6.out (SA18.out) hu)
  clear z1 z2 z3 z4 z5 z6 z9 z10 z11 z12 z13 z14 z15 z16 z17 z18
  clear hb1 hb2 hb3 hb4 hb5 hb6 hb7 hb8 hb9 hb10 hb11 hb12 hb13 hb14 hb15 hb16 hb17 hb18
  clear SA1 SA2 SA3 SA4 SA5 SA6 SA7 SA8 SA9 SA10 SA11 SA12 SA13 SA14 SA15 SA16 SA17 SA18 SB1 SB2 SI6 SI7 SI8 SR6 SR7 SR8 SR9 SR12 SR15 SR18
  clear RP7 RP8 RP9 RP12 RP15 RP18 RQ8 RQ9 RQ12 RQ15 RQ18 RS9 RS12 RS15 RS18
  clear SO4 SO10 SO11 SO13 SO14 SO16 SO17 SL4 SL10 SL11 SL13 SL14 SL16 SL17
  go_loopw [86] (fun i wr => ∃ k : Nat, k ≤ 3 ∧ i = .int .i64 k ∧ Row wr w6.heap.size (n + 2) ∧ Row wr w7.heap.size (n + 4) ∧ Row wr w8.heap.size (n + 8) ∧ Below w6.heap.size w18 wr) (fun i _ => 3 - (intOf i).toNat)
  case atStart => exact ⟨0, by decide, rfl, XP.out, XQ.out, XS.out, Below.refl _ _⟩
  case round =>
    obtain ⟨k, hk, rfl, hp, hq, hs, hbw⟩ := hrel
    have HPk := Lib.hid hp; clear hp
    have HQk := Lib.hid hq; clear hq
    have HSk := Lib.hid hs; clear hs
    have HBk := Lib.hid hbw; clear hbw
    rcases (show k = 0 ∨ k = 1 ∨ k = 2 ∨ k = 3 by omega) with rfl | rfl | rfl | rfl
    · have hix := index3 (.slice (some ⟨w6.heap.size, 0, none⟩) (n + 2) (n + 2)) (.slice (some ⟨w7.heap.size, 0, none⟩) (n + 4) (n + 4)) (.slice (some ⟨w8.heap.size, 0, none⟩) (n + 8) (n + 8)) wr
      have hi := hix.1
      clear hix
      go_wp2
      go_loopw [91] (fun i wr => ∃ j : Nat, j ≤ n + 2 ∧ i = .int .i64 j ∧ Row wr w6.heap.size (n + 2) ∧ Row wr w7.heap.size (n + 4) ∧ Row wr w8.heap.size (n + 8) ∧ Below w6.heap.size w18 wr) (fun i _ => n + 2 - (intOf i).toNat)
      case atStart => exact ⟨0, Nat.zero_le _, rfl, HPk.out, HQk.out, HSk.out, HBk.out⟩
      case round =>
        obtain ⟨j, hj, rfl, hp, hq, hs, hbw⟩ := hrel
        have HPj := Lib.hid hp
        have HQj := Lib.hid hq
        have HSj := Lib.hid hs
        have HBj := Lib.hid hbw; clear hbw
        by_cases hlt : j < n + 2
        · obtain ⟨us, hul, hug⟩ := hp
          have hc := row_cell hug j (by rw [hul]; exact hlt)
          have hf := row_free hug j
          clear hug hul
          obtain ⟨uj, huj⟩ : ∃ u, us[j]?.getD 0 = u := ⟨_, rfl⟩
          rw [huj] at hc
          clear huj
          go_wp2
          go_roundw
          case rel =>
            have hp := HPj.out
            have hq := HQj.out
            have hs := HSj.out
            exact ⟨j + 1, by omega, by go_num, hp.set _ _, hq.other (by have := l67.out; omega) _ _, hs.other (by have := l67.out; have := l78.out; omega) _ _, HBj.out.setCell (Nat.le_refl _) _⟩
          case measure => simp [intOf]; omega
        · go_wp2
          go_roundw
          case rel => exact ⟨0 + 1, by decide, rfl, HPj.out, HQj.out, HSj.out, HBj.out⟩
          case measure => simp [intOf]
    · have hix := index3 (.slice (some ⟨w6.heap.size, 0, none⟩) (n + 2) (n + 2)) (.slice (some ⟨w7.heap.size, 0, none⟩) (n + 4) (n + 4)) (.slice (some ⟨w8.heap.size, 0, none⟩) (n + 8) (n + 8)) wr
      have hi := hix.2.1
      clear hix
      go_wp2
      go_loopw [91] (fun i wr => ∃ j : Nat, j ≤ n + 4 ∧ i = .int .i64 j ∧ Row wr w6.heap.size (n + 2) ∧ Row wr w7.heap.size (n + 4) ∧ Row wr w8.heap.size (n + 8) ∧ Below w6.heap.size w18 wr) (fun i _ => n + 4 - (intOf i).toNat)
      case atStart => exact ⟨0, Nat.zero_le _, rfl, HPk.out, HQk.out, HSk.out, HBk.out⟩
      case round =>
        obtain ⟨j, hj, rfl, hp, hq, hs, hbw⟩ := hrel
        have HPj := Lib.hid hp
        have HQj := Lib.hid hq
        have HSj := Lib.hid hs
        have HBj := Lib.hid hbw; clear hbw
        by_cases hlt : j < n + 4
        · obtain ⟨us, hul, hug⟩ := hq
          have hc := row_cell hug j (by rw [hul]; exact hlt)
          have hf := row_free hug j
          clear hug hul
          obtain ⟨uj, huj⟩ : ∃ u, us[j]?.getD 0 = u := ⟨_, rfl⟩
          rw [huj] at hc
          clear huj
          go_wp2
          go_roundw
          case rel =>
            have hp := HPj.out
            have hq := HQj.out
            have hs := HSj.out
            exact ⟨j + 1, by omega, by go_num, hp.other (by have := l67.out; omega) _ _, hq.set _ _, hs.other (by have := l78.out; omega) _ _, HBj.out.setCell (Nat.le_of_lt l67.out) _⟩
          case measure => simp [intOf]; omega
        · go_wp2
          go_roundw
          case rel => exact ⟨1 + 1, by decide, rfl, HPj.out, HQj.out, HSj.out, HBj.out⟩
          case measure => simp [intOf]
    · have hix := index3 (.slice (some ⟨w6.heap.size, 0, none⟩) (n + 2) (n + 2)) (.slice (some ⟨w7.heap.size, 0, none⟩) (n + 4) (n + 4)) (.slice (some ⟨w8.heap.size, 0, none⟩) (n + 8) (n + 8)) wr
      have hi := hix.2.2
      clear hix
      go_wp2
      go_loopw [91] (fun i wr => ∃ j : Nat, j ≤ n + 8 ∧ i = .int .i64 j ∧ Row wr w6.heap.size (n + 2) ∧ Row wr w7.heap.size (n + 4) ∧ Row wr w8.heap.size (n + 8) ∧ Below w6.heap.size w18 wr) (fun i _ => n + 8 - (intOf i).toNat)
      case atStart => exact ⟨0, Nat.zero_le _, rfl, HPk.out, HQk.out, HSk.out, HBk.out⟩
      case round =>
        obtain ⟨j, hj, rfl, hp, hq, hs, hbw⟩ := hrel
        have HPj := Lib.hid hp
        have HQj := Lib.hid hq
        have HSj := Lib.hid hs
        have HBj := Lib.hid hbw; clear hbw
        by_cases hlt : j < n + 8
        · obtain ⟨us, hul, hug⟩ := hs
          have hc := row_cell hug j (by rw [hul]; exact hlt)
          have hf := row_free hug j
          clear hug hul
          obtain ⟨uj, huj⟩ : ∃ u, us[j]?.getD 0 = u := ⟨_, rfl⟩
          rw [huj] at hc
          clear huj
          go_wp2
          go_roundw
          case rel =>
            have hp := HPj.out
            have hq := HQj.out
            have hs := HSj.out
            exact ⟨j + 1, by omega, by go_num, hp.other (by have := l67.out; have := l78.out; omega) _ _, hq.other (by have := l78.out; omega) _ _, hs.set _ _, HBj.out.setCell (Nat.le_of_lt (Nat.lt_trans l67.out l78.out)) _⟩
          case measure => simp [intOf]; omega
        · go_wp2
          go_roundw
          case rel => exact ⟨2 + 1, by decide, rfl, HPj.out, HQj.out, HSj.out, HBj.out⟩
          case measure => simp [intOf]
    · have HSz : Hid (w18.heap.size ≤ wr.heap.size) := Lib.hid HBk.out.size
      have SAe := Lib.hid (SA.out wr HBk.out)
      have SRe := Lib.hid (SR.out wr HBk.out)
      have SAz := Lib.hid (SAe.out.alloc (.cells #[.int .u8 3, .int .u8 3, .int .u8 3, .int .u8 3, .int .u8 3, .int .u8 3, .int .u8 3, .int .u8 3] 5))
      have SRz := Lib.hid (SRe.out.alloc (.cells #[.int .u8 3, .int .u8 3, .int .u8 3, .int .u8 3, .int .u8 3, .int .u8 3, .int .u8 3, .int .u8 3] 5))
      go_wp2_with (first
        | (go_at_call 12; ((with_reducible refine (both_any a (some ⟨wr.heap.size, 0, none⟩) n 8 c 8 xs threes (wr.alloc (.cells #[.int .u8 3, .int .u8 3, .int .u8 3, .int .u8 3, .int .u8 3, .int .u8 3, .int .u8 3, .int .u8 3] 5)) HX.out rfl HM8.out SAz.out (threes_seen _)).mono ?_); rintro e w19 ⟨⟨v19, rfl, ho19⟩, hb19⟩; obtain ⟨a19, c19, rfl, hs19, hl19, _, _, _⟩ := own_view ho19; clear ho19; have SO19 := Lib.hid hs19; clear hs19; have SL19 := Lib.hid hl19; clear hl19))
        | (go_at_call 11; ((with_reducible refine (rsame_any (some ⟨gR, oR, none⟩) a19 (n + 8) (n + 8) c6 c19 (xs ++ threes) (xs ++ threes) w19 SL19.out SL19.out HM8.out (SRz.out.later hb19) SO19.out).mono ?_); rw [HST.out]; rintro e w20 ⟨rfl, hb20⟩)))
      go_ret
      have z19 := hb19.size
      rw [heap_size_alloc] at z19
      have z20 := hb20.size
      have q0 := HLO.out
      have q1 := HL18.out
      have q2 := HSz.out
      refine ⟨rfl, ?_⟩
      have y := HW.out.trans (HBk.out.mono q0)
      exact ((y.alloc (by omega) _).trans (hb19.mono (by rw [heap_size_alloc]; omega))).trans (hb20.mono (by omega))

end Go.Proofs.Ytngnhieddblnmaa
