/-
  Proved: 'SumJoins' (P3.1, P3.3) returns true for all two rows of bytes, and leaves them as they were. Conditions: none but those of the given row.
-/
import Derived.Test.YtfidmbccboggoaaClone
import Derived.ChangeOld
import Derived.ShutString
namespace Go.Proofs.Ytfidmbccboggoaa.sumJoins
open Go.ChangeShapes Go.WideShapes Go.ChangeAt Go.RowKit
set_option linter.unusedVariables false

/-- What is known of a slice of bytes that came in. -/
structure InB (w : World) (a : Option Addr) (n c : Nat) (xs : List Int) : Prop where
  len : xs.length = n
  seen : Seen w a xs
  cap : n ≤ c
  ok : bytesOk xs
  nil : a = none → n = 0 ∧ c = 0

theorem ret_bool {a b : Bool} (h : a = b) : Ending.returned (.bool a) = .returned (.bool b) := by rw [h]
theorem InB.later {w w1 : World} {a : Option Addr} {n c : Nat} {xs : List Int} (h : InB w a n c xs) (hb : Below w.heap.size w w1) : InB w1 a n c xs :=
  ⟨h.len, h.seen.later hb, h.cap, h.ok, h.nil⟩
theorem InB.adds {w w1 : World} {ad : Addr} {n c : Nat} {xs : List Int} (h : InB w (some ad) n c xs) (hb : Below w.heap.size w w1) : ∀ j u, (By xs)[j]? = some u → w1.cell? (ad.add j) = some u := by
  intro j u hj
  have h0 : 0 < xs.length := by
    rcases Nat.eq_zero_or_pos xs.length with h | h
    · rw [List.eq_nil_of_length_eq_zero h] at hj; simp [By] at hj
    · exact h
  obtain ⟨ad', he, hc⟩ := (h.seen.later hb) h0
  obtain rfl : ad = ad' := by simpa using he
  exact hc j u hj

theorem clone_any (a : Option Addr) (n c : Nat) (xs : List Int) (w : World) (h : InB w a n c xs) (hm : n ≤ 140737488351232) :
    Calls Try.prog 18 #[.slice a n c] w fun e w' => Own w.heap.size xs e w' ∧ Below w.heap.size w w' := by
  cases a with
  | none =>
    obtain ⟨rfl, rfl⟩ := h.nil rfl
    obtain rfl : xs = [] := List.eq_nil_of_length_eq_zero h.len
    refine (clone_none w).mono ?_
    rintro e w' ⟨rfl, rfl⟩
    exact ⟨⟨_, rfl, World.ownsRow_nil _ _ _ _⟩, Below.refl _ _⟩
  | some ad => exact clone_some ad n c xs w h.len h.seen hm

theorem long_any (a b : Option Addr) (n c m d : Nat) (xs ys : List Int) (w : World) (ha : InB w a n c xs) (hb : InB w b m d ys) (hl : 5000 < n ∨ 5000 < m) :
    Calls Try.prog 6 #[.slice a n c, .slice b m d] w fun e w' => e = .returned (.bool true) ∧ Below w.heap.size w w' := by
  clear ha hb
  by_cases h1 : 5000 < n
  · clear hl
    go_enter Try.func6, Try.ntmps6
    go_wp2_with (go_at_call 8; refine (wakes_any _).mono ?_; rintro e w1 ⟨rfl, hb1⟩)
    go_ret
    exact ⟨rfl, hb1⟩
  · have h2 : 5000 < m := by omega
    clear hl
    go_enter Try.func6, Try.ntmps6
    go_wp2_with (go_at_call 8; refine (wakes_any _).mono ?_; rintro e w1 ⟨rfl, hb1⟩)
    go_ret
    exact ⟨rfl, hb1⟩

theorem By_append (xs ys : List Int) : By xs ++ By ys = By (xs ++ ys) := by simp [By]
theorem parts_of (xs : List Int) (s : Int) (w : World) (hs : s = adl xs) : Calls Try.prog 10 #[.int .u32 s] w fun e w' => e = .returned (.tuple #[.int .u32 (hi xs), .int .u32 (lo xs)]) ∧ w = w' := by
  subst hs; exact parts_any xs w

set_option maxHeartbeats 400000 in
theorem short_some (a : Option Addr) (bd : Addr) (n c m d : Nat) (xs ys : List Int) (w : World) (ha : InB w a n c xs) (hb : InB w (some bd) m d ys) (h1 : n ≤ 5000) (h2 : m ≤ 5000) :
    Calls Try.prog 6 #[.slice a n c, .slice (some bd) m d] w fun e w' => e = .returned (.bool true) ∧ Below w.heap.size w w' := by
  have HA := Lib.hid ha; have HB := Lib.hid hb
  clear ha hb
  obtain ⟨i0, hi, hz0, hz1, hz2⟩ := info_parts Try.info5
  have HI := Lib.hid hi; clear hi
  have HZ0 := Lib.hid hz0; clear hz0
  have HZ1 := Lib.hid hz1; clear hz1
  have HZ2 := Lib.hid hz2; clear hz2
  have HLy : Hid ((By ys).length = m * 1) := Lib.hid (by rw [By_length, HB.out.len, Nat.mul_one])
  have HM : Hid (xs.length + m ≤ maxLen) := Lib.hid (by rw [HA.out.len]; unfold maxLen; omega)
  have HM2 : Hid ((xs.length + m) * 1 ≤ 140737488355328) := Lib.hid (by rw [HA.out.len]; omega)
  have HM3 : Hid (xs.length + m ≤ 140737488351232) := Lib.hid (by rw [HA.out.len]; omega)
  have HLs : Hid ((xs ++ ys).length = xs.length + m) := Lib.hid (by rw [List.length_append, HB.out.len])
  have HOk : Hid (bytesOk (xs ++ ys)) := Lib.hid (bytesOk_append HA.out.ok HB.out.ok)
  obtain ⟨lx0, lx1⟩ := lo_bd xs
  obtain ⟨ly0, ly1⟩ := lo_bd ys
  obtain ⟨lz0, lz1⟩ := lo_bd (xs ++ ys)
  obtain ⟨hx0, hx1⟩ := hi_bd xs
  obtain ⟨hy0, hy1⟩ := hi_bd ys
  obtain ⟨hz0, hz1⟩ := hi_bd (xs ++ ys)
  have HJ1 : Hid (lo (xs ++ ys) = (lo xs + lo ys + 65521 - 1) % 65521) := Lib.hid (lo_join xs ys)
  have HJ2 : Hid (hi (xs ++ ys) = (hi xs + hi ys + (m : Int) * (lo xs + 65521 - 1)) % 65521) := Lib.hid (by
    rw [hi_join xs ys, HB.out.len]
    generalize (m : Int) * (lo xs + 65521 - 1) = z
    omega)
  have pm0 : 0 ≤ (m : Int) * (lo xs + 65521 - 1) := Int.mul_nonneg (by omega) (by omega)
  have pm1 : (m : Int) * (lo xs + 65521 - 1) ≤ 5000 * 131040 := Int.mul_le_mul (by omega) (by omega) (by omega) (by omega)
  go_enter Try.func6, Try.ntmps6
  go_wp2_with (first
    | (go_at_call 8; refine (wakes_any _).mono ?_; rintro e w1 ⟨rfl, hb1⟩)
    | (go_at_call 11; ((with_reducible refine (sum32_any a n c xs w1 HA.out.len (HA.out.seen.later hb1) (by omega) HA.out.ok).mono ?_); rintro e w2 ⟨rfl, hb2⟩))
    | (go_at_call 10; ((with_reducible refine (parts_any xs w2).mono ?_); rintro e w' ⟨rfl, rfl⟩))
    | (go_at_call 11; ((with_reducible refine (sum32_any (some bd) m d ys w2 HB.out.len ((HB.out.seen.later hb1).later hb2) (by omega) HB.out.ok).mono ?_); rintro e w3 ⟨rfl, hb3⟩))
    | (go_at_call 10; ((with_reducible refine (parts_any ys w3).mono ?_); rintro e w' ⟨rfl, rfl⟩))
    | (go_at_call 18; ((with_reducible refine (clone_any a n c xs w3 (HA.out.later ((hb1.trans (hb2.mono hb1.size)).trans (hb3.mono (Nat.le_trans hb1.size hb2.size)))) (by omega)).mono ?_); rintro e w4 ⟨⟨v4, rfl, hown⟩, hb4⟩; have HO4 := Lib.hid hown; clear hown; have hx4 := HB.out.adds (hb1.trans ((hb2.mono hb1.size).trans ((hb3.mono (Nat.le_trans hb1.size hb2.size)).trans (hb4.mono (Nat.le_trans hb1.size (Nat.le_trans hb2.size hb3.size)))))); have HX4 := Lib.hid hx4; clear hx4))
    | (at_builtin; refine wpList_append_own _ rfl (.tmp 36) (.tmp 37) 22 rfl w3.heap.size 5 i0 (.int .u8 0) 1 1 Try.underlying22 HI.out HZ0.out HZ1.out HZ2.out rfl (by decide) v4 xs.length (By xs) rfl HO4.out bd m d (By ys) rfl HLy.out HX4.out (By_one _) HM.out HM2.out hb4.size ?_; intro v5 w5 hown5 hgrow _; rw [By_append] at hown5; obtain ⟨a5, c5, hv5, hs5, _, _⟩ := own_seen hown5; subst hv5; have HS5 := Lib.hid hs5; clear hs5 hown5; have HG5 := Lib.hid hgrow; clear hgrow)
    | (go_at_call 11; ((with_reducible refine (sum32_any a5 (xs.length + m) c5 (xs ++ ys) w5 HLs.out HS5.out HM3.out HOk.out).mono ?_); rintro e w6 ⟨rfl, hb6⟩))
    | (go_at_call 10; ((with_reducible refine (parts_any (xs ++ ys) w6).mono ?_); rintro e w' ⟨rfl, rfl⟩)))
  all_goals
    have z1 := hb1.size
    have z2 := hb2.size
    have z3 := hb3.size
    have z4 := hb4.size
    have y4 : Below w.heap.size w w4 := ((hb1.trans (hb2.mono z1)).trans (hb3.mono (by omega))).trans (hb4.mono (by omega))
    have y5 : Below w.heap.size w w5 := y4.grown HG5.out (by omega) (fun k hk => by have := (HO4.out.lt k hk).1; omega)
    have y6 : Below w.heap.size w w6 := y5.trans (hb6.mono (by have := y5.size; omega))
    first
    | exact absurd HJ1.out (by assumption)
    | exact absurd HJ2.out (by assumption)
    | (go_ret; exact ⟨ret_bool (by simp; omega), y6⟩)

set_option maxHeartbeats 400000 in
set_option maxRecDepth 100000 in
theorem short_none (a : Option Addr) (n c : Nat) (xs ys : List Int) (hys : ys = []) (w : World) (ha : InB w a n c xs) (h1 : n ≤ 5000) :
    Calls Try.prog 6 #[.slice a n c, .slice none 0 0] w fun e w' => e = .returned (.bool true) ∧ Below w.heap.size w w' := by
  have HA := Lib.hid ha; have HB : Hid (InB w none 0 0 ys) := Lib.hid (by subst hys; exact ⟨rfl, fun h => absurd h (by decide), Nat.le_refl _, fun j hj => absurd hj (by simp), fun _ => ⟨rfl, rfl⟩⟩)
  have e1 : Hid (lo ys = 1) := Lib.hid (by subst hys; rfl)
  have e2 : Hid (hi ys = 0) := Lib.hid (by subst hys; rfl)
  clear ha hys
  obtain ⟨zs, hzs⟩ : ∃ zs, zs = xs := ⟨_, rfl⟩
  have HZ := Lib.hid hzs; clear hzs
  have HZl : Hid (zs.length = xs.length) := Lib.hid (by rw [HZ.out])
  have HJ1 : Hid (lo zs = (lo xs + lo ys + 65521 - 1) % 65521) := Lib.hid (by rw [HZ.out, e1.out]; have := lo_bd xs; omega)
  have HJ2 : Hid (hi zs = (hi xs + hi ys) % 65521) := Lib.hid (by rw [HZ.out, e2.out]; have := hi_bd xs; omega)
  have HZo : Hid (bytesOk zs) := Lib.hid (by rw [HZ.out]; exact HA.out.ok)
  obtain ⟨lz0, lz1⟩ := lo_bd zs
  obtain ⟨hz0, hz1⟩ := hi_bd zs
  obtain ⟨ly0, ly1⟩ := lo_bd ys
  obtain ⟨hy0, hy1⟩ := hi_bd ys
  obtain ⟨i0, hi, hz0, hz1, hz2⟩ := info_parts Try.info5
  have HI := Lib.hid hi; clear hi
  have HZ0 := Lib.hid hz0; clear hz0
  have HZ1 := Lib.hid hz1; clear hz1
  have HZ2 := Lib.hid hz2; clear hz2
  have HM3 : Hid (xs.length ≤ 140737488351232) := Lib.hid (by rw [HA.out.len]; omega)
  obtain ⟨lx0, lx1⟩ := lo_bd xs
  obtain ⟨hx0, hx1⟩ := hi_bd xs
  go_enter Try.func6, Try.ntmps6
  go_wp2_with (first
    | (go_at_call 8; refine (wakes_any _).mono ?_; rintro e w1 ⟨rfl, hb1⟩)
    | (go_at_call 11; ((with_reducible refine (sum32_any a n c xs w1 HA.out.len (HA.out.seen.later hb1) (by omega) HA.out.ok).mono ?_); rintro e w2 ⟨rfl, hb2⟩))
    | (go_at_call 10; ((with_reducible refine (parts_any xs w2).mono ?_); rintro e w' ⟨rfl, rfl⟩))
    | (go_at_call 11; ((with_reducible refine (sum32_any none 0 0 ys w2 HB.out.len ((HB.out.seen.later hb1).later hb2) (by omega) HB.out.ok).mono ?_); rintro e w3 ⟨rfl, hb3⟩))
    | (go_at_call 10; ((with_reducible refine (parts_any ys w3).mono ?_); rintro e w' ⟨rfl, rfl⟩))
    | (go_at_call 18; ((with_reducible refine (clone_any a n c xs w3 (HA.out.later ((hb1.trans (hb2.mono hb1.size)).trans (hb3.mono (Nat.le_trans hb1.size hb2.size)))) (by omega)).mono ?_); rintro e w4 ⟨⟨v4, rfl, hown⟩, hb4⟩; have HO4 := Lib.hid hown; clear hown))
    | (at_builtin; refine wpList_append_own_none rfl (.tmp 36) (.tmp 37) 22 rfl w3.heap.size 5 i0 1 Try.underlying22 HI.out v4 xs.length (By xs) rfl HO4.out rfl ?_; obtain ⟨a5, c5, hv5, hs5, _, _⟩ := own_seen HO4.out; subst hv5; rw [← HZ.out] at hs5; have HS5 := Lib.hid hs5; clear hs5)
    | (go_at_call 11; ((with_reducible refine (sum32_any a5 xs.length c5 zs w4 HZl.out HS5.out HM3.out HZo.out).mono ?_); rintro e w6 ⟨rfl, hb6⟩))
    | (go_at_call 10; ((with_reducible refine (parts_any zs w6).mono ?_); rintro e w' ⟨rfl, rfl⟩)))
  all_goals
    have z1 := hb1.size
    have z2 := hb2.size
    have z3 := hb3.size
    have z4 := hb4.size
    have y4 : Below w.heap.size w w4 := ((hb1.trans (hb2.mono z1)).trans (hb3.mono (by omega))).trans (hb4.mono (by omega))
    have y6 : Below w.heap.size w w6 := y4.trans (hb6.mono (by omega))
    first
    | exact absurd HJ1.out (by assumption)
    | exact absurd HJ2.out (by assumption)
    | (go_ret; exact ⟨ret_bool (by simp; omega), y6⟩)

theorem own : ownKnob Try.prog.godebug = none := by kernel_rfl
theorem laidOut : laidOutB Try.prog = true := by kernel_rfl

/-- WHAT THE WALK IS TOLD OF A SLICE OF INTEGERS THAT CAME IN: it is nil; or it leads to a row of 'cap' cells, the numbers 'zs' (the first 'len' are its elements, the rest its spare room), each fitting its kind. -/
def Came (k : IntKind) (w : World) (a : Option Addr) (len cap : Nat) (zs : List Int) : Prop :=
  (a = none ∧ len = 0 ∧ cap = 0 ∧ zs = []) ∨
  ∃ x, a = some x ∧ len ≤ cap ∧ cap ≤ maxLen ∧ zs.length = cap ∧ (∀ i, i < zs.length → w.cell? (x.add i) = some (.int k (zs.getD i 0))) ∧ ∀ n ∈ zs, (Lit.int k n).wf = true

theorem came_in {w : World} {a : Option Addr} {n c : Nat} {zs : List Int} (h : Came .u8 w a n c zs) : InB w a n c (zs.take n) := by
  rcases h with ⟨rfl, rfl, rfl, rfl⟩ | ⟨x, rfl, hl, hm, hz, hcell, hwz⟩
  · exact ⟨rfl, fun h => absurd h (by decide), Nat.le_refl _, fun j hj => absurd hj (by simp), fun _ => ⟨rfl, rfl⟩⟩
  · have hlen : (zs.take n).length = n := by rw [List.length_take]; omega
    refine ⟨hlen, fun _ => ⟨x, rfl, fun j v hj => ?_⟩, hl, fun j hj => ?_, fun h => by cases h⟩
    · have hj' : j < n := by
        rcases Nat.lt_or_ge j (By (zs.take n)).length with h' | h'
        · rw [By_length, hlen] at h'; exact h'
        · rw [List.getElem?_eq_none h'] at hj; cases hj
      rw [hcell j (by omega), ← hj]
      simp [By, List.getElem?_take_of_lt hj', List.getElem?_eq_getElem (show j < zs.length by omega), List.map_take, List.getD]
    · rw [hlen] at hj
      rw [List.getElem?_take_of_lt hj, List.getElem?_eq_getElem (show j < zs.length by omega)]
      have := bounds_u8 (hwz (zs[j]'(by omega)) (List.getElem_mem _))
      simpa using this

/-! ### STEP 1: THE WALK: the Go text returns true, AND WRITES NOTHING THAT WAS THERE: 'Below w.heap.size w w'' (Derived/Below.lean: '.refl', '.alloc', '.drew', '.setCell' at a new block, '.trans'). Open each 'IsRow' by 'rcases' AHEAD of 'go_enter'; part every test ahead of the walk. -/
theorem walk (a0 : Option Addr) (len0 cap0 : Nat) (z0 : List Int) (a1 : Option Addr) (len1 cap1 : Nat) (z1 : List Int) (w : World) (w0 : Came .u8 w a0 len0 cap0 z0) (w1 : Came .u8 w a1 len1 cap1 z1) :
    Calls Try.prog 6 #[.slice a0 len0 cap0, .slice a1 len1 cap1] w fun e w' => e = .returned (.bool true) ∧ Below w.heap.size w w' := by
  have h0 := came_in w0
  have h1 := came_in w1
  by_cases hn : len0 ≤ 5000
  · by_cases hm : len1 ≤ 5000
    · cases a1 with
      | some bd => exact short_some a0 bd len0 cap0 len1 cap1 _ _ w h0 h1 hn hm
      | none =>
        obtain ⟨rfl, rfl⟩ := h1.nil rfl
        exact short_none a0 len0 cap0 _ [] rfl w h0 hn
    · exact long_any a0 a1 len0 cap0 len1 cap1 _ _ w h0 h1 (by omega)
  · exact long_any a0 a1 len0 cap0 len1 cap1 _ _ w h0 h1 (by omega)

/-! ### THE ROW's STEP: WRITTEN OUT: LEAVE IT -/
set_option maxRecDepth 100000 in
theorem lifted (os : Os) (started : os.Started) (H : Type) (enc : TypeId × Value → H) :
    ReturnsInHanded {} Try.checked os 6 .any (Rows.sumJoinsSpec.pre6 enc Try.prog Try.f6 Rows.sumJoinsRow.domain false) (Rows.sumJoinsSpec.post enc Try.prog Try.f6 false true false false) := by
  refine returnsInHanded_of_change (C := Try.checked) own started (by kernel_rfl) Try.func6
    (ChangeSpec.witness6 (enc := enc) (C := Try.checked) false ⟨#[], #[.slice none 0 0, .slice none 0 0], []⟩ 8 (by kernel_rfl) (by kernel_rfl) (by kernel_rfl) (by kernel_rfl)) ?_
  intro W base args ds gs before hval0 hW hcnd _
  have hval : ∀ (j : Nat) t v, Try.f6.params[j]? = some t → args[j]? = some v → Value.okWide Try.prog W .any base t v := hval0
  have hW' := hW
  obtain ⟨p, q, hA0, hV, rfl, hfz, hnd⟩ := hW
  have hA : DataW.TrodAll enc Try.prog W 0 (fun _ => true) true Try.f6.params.toList args.toList ds p := hA0
  rw [Try.params6] at hA hval
  obtain ⟨v0, vs0, d0, ds0, p0, q0, hargs, rfl, rfl, h0, r0⟩ := trodAll_cons hA
  obtain ⟨v1, vs1, d1, ds1, p1, q1, rfl, rfl, rfl, h1, r1⟩ := trodAll_cons r0
  obtain ⟨rfl, rfl, rfl⟩ := trodAll_nil r1
  obtain rfl : args = #[v0, v1] := by cases args; simp_all
  obtain ⟨rfl, rfl⟩ := trodVars_none hV
  obtain ⟨a0, len0, cap0, rfl⟩ := okWide_slice Try.underlying22 (hval 0 22 v0 rfl rfl)
  have k0 := h0
  have lt0 : ∀ x ∈ p0, x.block < W.heap.size := by obtain ⟨m, hm⟩ := k0; exact DataW.trod_lt m _ _ _ hm
  obtain ⟨z0, w0⟩ : ∃ zs, Came .u8 W a0 len0 cap0 zs := by
    obtain ⟨fuel, hf⟩ := h0
    rcases open_ints Try.underlying22 Try.underlying5 (by kernel_rfl) hf with ⟨hcs, _⟩ | ⟨x, l, c, zs, hcs, _, hl, hm, hz, _, hcell, hwz⟩
    · simp [Value.cells] at hcs
      obtain ⟨rfl, rfl, rfl⟩ := hcs
      exact ⟨[], .inl ⟨rfl, rfl, rfl, rfl⟩⟩
    · simp [Value.cells] at hcs
      obtain ⟨rfl, rfl, rfl⟩ := hcs
      exact ⟨zs, .inr ⟨_, rfl, hl, hm, by simpa using hz, hcell, hwz⟩⟩
  obtain ⟨a1, len1, cap1, rfl⟩ := okWide_slice Try.underlying22 (hval 1 22 v1 rfl rfl)
  have k1 := h1
  have lt1 : ∀ x ∈ p1, x.block < W.heap.size := by obtain ⟨m, hm⟩ := k1; exact DataW.trod_lt m _ _ _ hm
  obtain ⟨z1, w1⟩ : ∃ zs, Came .u8 W a1 len1 cap1 zs := by
    obtain ⟨fuel, hf⟩ := h1
    rcases open_ints Try.underlying22 Try.underlying5 (by kernel_rfl) hf with ⟨hcs, _⟩ | ⟨x, l, c, zs, hcs, _, hl, hm, hz, _, hcell, hwz⟩
    · simp [Value.cells] at hcs
      obtain ⟨rfl, rfl, rfl⟩ := hcs
      exact ⟨[], .inl ⟨rfl, rfl, rfl, rfl⟩⟩
    · simp [Value.cells] at hcs
      obtain ⟨rfl, rfl, rfl⟩ := hcs
      exact ⟨zs, .inr ⟨_, rfl, hl, hm, by simpa using hz, hcell, hwz⟩⟩
  clear hA0 hval0
  refine (walk a0 len0 cap0 z0 a1 len1 cap1 z1 W w0 w1).mono fun e W' ⟨he, bel⟩ => ?_
  subst he
  exact ⟨_, rfl, _, _, _, [], _, [], hW', trodAll_mk1 (shut_bool Try.underlying4 _), (trodAll_cons_mk (Below.trod laidOut (by kernel_rfl) (of_decide_eq_true (by kernel_rfl)) k0 bel lt0) (trodAll_cons_mk (Below.trod laidOut (by kernel_rfl) (of_decide_eq_true (by kernel_rfl)) k1 bel lt1) trodAll_mk0)), rfl, bel.frame _, fun h => by cases h⟩

theorem over : Rows.sumJoinsRow.holds Try.pinned (OpenSpec.ofChange Rows.sumJoinsSpec) :=
  OpenClaim.holds_of_wide 6 Try.f6 rfl rfl rfl rfl rfl rfl rfl ⟨rfl, rfl, rfl, rfl, rfl⟩ rfl rfl rfl rfl rfl (by kernel_rfl) Try.func6 (by kernel_rfl)
    (of_decide_eq_true (by kernel_rfl)) (by unfold Func.isWrapper; first | (rw [if_pos (by decide +kernel)]; kernel_rfl) | (rw [if_neg (by decide +kernel)]; exact ⟨rfl, rfl⟩))
    (fun os started H enc _ => lifted os started H enc)

end Go.Proofs.Ytfidmbccboggoaa.sumJoins
namespace Go.Proofs.Ytfidmbccboggoaa
theorem sumJoins_holds : Rows.SumJoinsSaid := sumJoins.over
#print axioms sumJoins_holds
end Go.Proofs.Ytfidmbccboggoaa
