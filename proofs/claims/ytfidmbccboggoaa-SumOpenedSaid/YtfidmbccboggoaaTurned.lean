/-
  Proved: 'SumTurned' (P3.1, P3.3) returns true for all bytes, place and byte, and leaves them as they were. Conditions: none but those of the given row.
-/
import Derived.Test.YtfidmbccboggoaaTurn
import Derived.ChangeOld
import Derived.ShutString
import Derived.BigRegion
import Derived.RegionTactic
import Derived.Deep.RegionHeld3
namespace Go.Proofs.Ytfidmbccboggoaa.sumTurned
open Go.ChangeShapes Go.WideShapes Go.ChangeAt Go.RowKit
open Go.Proofs.Ytfidmbccboggoaa.sumJoins (InB clone_any ret_bool Came came_in)
set_option linter.unusedVariables false

theorem easy (a : Option Addr) (n c : Nat) (at' by' : Int) (w : World) (h : n = 0 ∨ 5000 < n) :
    Calls Try.prog 5 #[.slice a n c, .int .i64 at', .int .u8 by'] w fun e w' => e = .returned (.bool true) ∧ Below w.heap.size w w' := by
  rcases h with rfl | h
  · go_enter Try.func5, Try.ntmps5
    go_wp2_with (go_at_call 8; refine (wakes_any _).mono ?_; rintro e w1 ⟨rfl, hb1⟩)
    go_ret
    exact ⟨rfl, hb1⟩
  · have hne : ((n : Int) == 0) = false := by simp; omega
    go_enter Try.func5, Try.ntmps5
    go_wp2_with (go_at_call 8; refine (wakes_any _).mono ?_; rintro e w1 ⟨rfl, hb1⟩)
    go_ret
    exact ⟨rfl, hb1⟩

theorem place (at' : Int) (n : Nat) (h0 : 0 < n) : ∃ k : Nat, (IntKind.u64.wrap at').tmod (n : Int) = (k : Int) ∧ k < n := by
  have h : 0 ≤ IntKind.u64.wrap at' := by show 0 ≤ at' % 18446744073709551616; omega
  have e : (IntKind.u64.wrap at').tmod (n : Int) = (IntKind.u64.wrap at') % (n : Int) := Int.tmod_eq_emod_of_nonneg h
  have p0 := Int.emod_nonneg (IntKind.u64.wrap at') (b := (n : Int)) (by omega)
  have p1 := Int.emod_lt_of_pos (IntKind.u64.wrap at') (b := (n : Int)) (by omega)
  exact ⟨((IntKind.u64.wrap at') % (n : Int)).toNat, by rw [e]; omega, by omega⟩
theorem own_head {B n : Nat} {w : World} {v : Value} {xs : List Int} (h : w.ownsRow B 5 1 v n (By xs)) (h0 : 0 < n) : ∃ g cap, v = .slice (some ⟨g, 0, none⟩) n cap ∧ B ≤ g ∧ n ≤ cap := by
  obtain ⟨hl, h⟩ := h
  rcases h with ⟨rfl, rfl⟩ | ⟨g, cap, cur, rfl, hB, hg, hn, hc, hs, ht⟩
  · omega
  · exact ⟨g, cap, rfl, hB, hn⟩
theorem By_set (xs : List Int) (k : Nat) (v : Int) : (By xs).set k (.int .u8 v) = By (xs.set k v) := by simp [By, List.map_set]
theorem own_cell {B n g cap : Nat} {w : World} {xs : List Int} (h : w.ownsRow B 5 1 (.slice (some ⟨g, 0, none⟩) n cap) n (By xs)) (k : Nat) (hk : k < n) : w.cell? ⟨g, k, none⟩ = some (.int .u8 (xs[k]?.getD 0)) := by
  have hl : xs.length = n := by have := h.1; rw [By_length] at this; omega
  rw [h.cellAt k (by omega)]
  simp [By, List.getElem?_eq_getElem (show k < xs.length by omega)]
theorem own_set {B n g cap : Nat} {w : World} {xs : List Int} (h : w.ownsRow B 5 1 (.slice (some ⟨g, 0, none⟩) n cap) n (By xs)) (k : Nat) (v : Int) : (w.setCell ⟨g, k, none⟩ (.int .u8 v)).ownsRow B 5 1 (.slice (some ⟨g, 0, none⟩) n cap) n (By (xs.set k v)) := by
  have := (h.stored k (.int .u8 v)).1
  rwa [By_set] at this
theorem own_sees {B n g cap : Nat} {w : World} {xs : List Int} (h : w.ownsRow B 5 1 (.slice (some ⟨g, 0, none⟩) n cap) n (By xs)) : Seen w (some ⟨g, 0, none⟩) xs := by
  obtain ⟨a, c, he, hs, _⟩ := own_seen h
  simp at he
  obtain ⟨rfl, rfl⟩ := he
  exact hs
theorem own_len {B n g cap : Nat} {w : World} {xs : List Int} (h : w.ownsRow B 5 1 (.slice (some ⟨g, 0, none⟩) n cap) n (By xs)) : xs.length = n := by
  have := h.1; rw [By_length] at this; omega

theorem keep2 {w w1 : World} {p q : Addr} {u v : Value} (hb : Below w.heap.size w w1) (hs : w.cell? p = some u ∧ w.cell? q = some v) : w1.cell? p = some u ∧ w1.cell? q = some v :=
  ⟨cell_later hb hs.1, cell_later hb hs.2⟩

theorem main (bb o n c : Nat) (xs : List Int) (at' by' : Int) (w : World) (hx : InB w (some ⟨bb, o, none⟩) n c xs) (h0 : 0 < n) (h1 : n ≤ 5000) (b0 : 0 ≤ by') (b1 : by' ≤ 255) :
    Calls Try.prog 5 #[.slice (some ⟨bb, o, none⟩) n c, .int .i64 at', .int .u8 by'] w fun e w' => e = .returned (.bool true) ∧ Below w.heap.size w w' := by
  have HX := Lib.hid hx; clear hx
  have hne : ((n : Int) == 0) = false := by simp; omega
  obtain ⟨k, hkq, hkn⟩ := place at' n h0
  have HK := Lib.hid (HX.out.ok k (by rw [HX.out.len]; exact hkn))
  have HXor := Lib.hid (xor_bd (xs[k]?.getD 0) by' HK.out.1 HK.out.2 b0 b1)
  obtain ⟨ys, hys⟩ : ∃ ys, ys = xs.set k (bits .xor .u8 (xs[k]?.getD 0) by') := ⟨_, rfl⟩
  have HYl : Hid (ys.length = n) := Lib.hid (by rw [hys, List.length_set, HX.out.len])
  have HYo : Hid (bytesOk ys) := Lib.hid (by rw [hys]; exact bytesOk_set HX.out.ok _ _ HXor.out.1 HXor.out.2.1)
  have HYq : Hid (adl ys = adl xs ↔ by' = 0) := Lib.hid (by
    rw [hys, adl_set xs k _ (by rw [HX.out.len]; exact hkn) HX.out.ok HXor.out.1 HXor.out.2.1]
    exact HXor.out.2.2)
  have HYs := Lib.hid hys; clear hys
  obtain ⟨q, hq1, hq2⟩ : ∃ q : Bool, (adl ys == adl xs) = q ∧ (by' == 0) = q := ⟨by' == 0, by
    rw [Bool.eq_iff_iff]; simp only [beq_iff_eq]; exact HYq.out, rfl⟩
  obtain ⟨bb', o', he, hbb, hcs⟩ := HX.out.seen.place (by rw [HX.out.len]; exact h0)
  simp at he
  obtain ⟨rfl, rfl⟩ := he
  have HC := Lib.hid hcs; clear hcs
  by_cases hl : k + 1 = n
  · have hl' : ((k : Int) + 1 == (n : Int)) = true := by simp; omega
    clear hl
    go_enter Try.func5, Try.ntmps5
    go_wp2_with (first
      | (go_at_call 8; refine (wakes_any _).mono ?_; rintro e w1 ⟨rfl, hb1⟩)
      | (go_at_call 18; ((with_reducible refine (clone_any (some ⟨bb, o, none⟩) n c xs w1 (HX.out.later hb1) (by omega)).mono ?_); rintro e w2 ⟨⟨v2, rfl, hown⟩, hb2⟩; rw [HX.out.len] at hown; obtain ⟨g, cap, hv, hB, hcap⟩ := own_head hown h0; subst hv; have HO2 := Lib.hid hown; clear hown; have hck := own_cell HO2.out k hkn; have hfk := HO2.out.frozenAt k; have HS3 : Hid (Seen (w2.setCell ⟨g, k, none⟩ (.int .u8 (bits .xor .u8 (xs[k]?.getD 0) by'))) (some ⟨g, 0, none⟩) ys) := Lib.hid (by rw [HYs.out]; exact own_sees (own_set HO2.out k _)); have HB3 : Hid (Below w.heap.size w (w2.setCell ⟨g, k, none⟩ (.int .u8 (bits .xor .u8 (xs[k]?.getD 0) by')))) := Lib.hid ((hb1.trans (hb2.mono hb1.size)).setCell (Nat.le_trans hb1.size hB) _)))
      | (go_at_call 11; ((with_reducible refine (sum32_any (some ⟨g, 0, none⟩) n cap ys (w2.setCell ⟨g, k, none⟩ (.int .u8 (bits .xor .u8 (xs[k]?.getD 0) by'))) HYl.out HS3.out (by omega) HYo.out).mono ?_); rintro e w4 ⟨rfl, hb4⟩; have HB4 : Hid (Below w.heap.size w w4) := Lib.hid (HB3.out.trans (hb4.mono HB3.out.size))))
      | (go_at_call 11; ((with_reducible refine (sum32_any (some ⟨bb, o, none⟩) n c xs w4 HX.out.len (HX.out.seen.later HB4.out) (by omega) HX.out.ok).mono ?_); rintro e w5 ⟨rfl, hb5⟩; have HB5 : Hid (Below w.heap.size w w5) := Lib.hid (HB4.out.trans (hb5.mono HB4.out.size)))))
    go_ret
    exact ⟨rfl, HB5.out⟩
  · have hl' : ((k : Int) + 1 == (n : Int)) = false := by simp; omega
    have hk1 : k + 1 < n := by omega
    clear hl
    obtain ⟨zs, hzs⟩ : ∃ zs, zs = (xs.set k (xs[k + 1]?.getD 0)).set (k + 1) (xs[k]?.getD 0) := ⟨_, rfl⟩
    have HK1 := Lib.hid (HX.out.ok (k + 1) (by rw [HX.out.len]; exact hk1))
    have HZl : Hid (zs.length = n) := Lib.hid (by rw [hzs, List.length_set, List.length_set, HX.out.len])
    have HZo : Hid (bytesOk zs) := Lib.hid (by rw [hzs]; exact bytesOk_set (bytesOk_set HX.out.ok _ _ HK1.out.1 HK1.out.2) _ _ HK.out.1 HK.out.2)
    obtain ⟨r, hr1, hr2⟩ : ∃ r : Bool, (adl zs == adl xs) = r ∧ (xs[k]?.getD 0 == xs[k + 1]?.getD 0) = r := ⟨(xs[k]?.getD 0 == xs[k + 1]?.getD 0), by
      rw [Bool.eq_iff_iff]; simp only [beq_iff_eq]; rw [hzs]; exact adl_swap xs k (by rw [HX.out.len]; exact hk1) HX.out.ok, rfl⟩
    have HZ := Lib.hid hzs; clear hzs
    go_enter Try.func5, Try.ntmps5
    go_wp2_with (first
      | (go_at_call 8; refine (wakes_any _).mono ?_; rintro e w1 ⟨rfl, hb1⟩)
      | (go_at_call 18; ((with_reducible refine (clone_any (some ⟨bb, o, none⟩) n c xs w1 (HX.out.later hb1) (by omega)).mono ?_); rintro e w2 ⟨⟨v2, rfl, hown⟩, hb2⟩; rw [HX.out.len] at hown; obtain ⟨g, cap, hv, hB, hcap⟩ := own_head hown h0; subst hv; have HO2 := Lib.hid hown; clear hown; have hck := own_cell HO2.out k hkn; have hfk := HO2.out.frozenAt k; have HS3 : Hid (Seen (w2.setCell ⟨g, k, none⟩ (.int .u8 (bits .xor .u8 (xs[k]?.getD 0) by'))) (some ⟨g, 0, none⟩) ys) := Lib.hid (by rw [HYs.out]; exact own_sees (own_set HO2.out k _)); have HB3 : Hid (Below w.heap.size w (w2.setCell ⟨g, k, none⟩ (.int .u8 (bits .xor .u8 (xs[k]?.getD 0) by')))) := Lib.hid ((hb1.trans (hb2.mono hb1.size)).setCell (Nat.le_trans hb1.size hB) _)))
      | (go_at_call 11; ((with_reducible refine (sum32_any (some ⟨g, 0, none⟩) n cap ys (w2.setCell ⟨g, k, none⟩ (.int .u8 (bits .xor .u8 (xs[k]?.getD 0) by'))) HYl.out HS3.out (by omega) HYo.out).mono ?_); rintro e w4 ⟨rfl, hb4⟩; have HB4 : Hid (Below w.heap.size w w4) := Lib.hid (HB3.out.trans (hb4.mono HB3.out.size))))
      | (go_at_call 11; ((with_reducible refine (sum32_any (some ⟨bb, o, none⟩) n c xs w4 HX.out.len (HX.out.seen.later HB4.out) (by omega) HX.out.ok).mono ?_); rintro e w5 ⟨rfl, hb5⟩; have HB5 : Hid (Below w.heap.size w w5) := Lib.hid (HB4.out.trans (hb5.mono HB4.out.size))))
      | (go_at_call 18; ((with_reducible refine (clone_any (some ⟨bb, o, none⟩) n c xs w5 (HX.out.later HB5.out) (by omega)).mono ?_); rintro e w6 ⟨⟨v6, rfl, hown⟩, hb6⟩; rw [HX.out.len] at hown; obtain ⟨g6, cap6, hv, hB6, hcap6⟩ := own_head hown h0; subst hv; have HO6 := Lib.hid hown; clear hown; have d0 := own_cell HO6.out k hkn; have d1 := own_cell HO6.out (k + 1) hk1; have f0 := HO6.out.frozenAt k; have f1 := HO6.out.frozenAt (k + 1))))
    go_region
    obtain ⟨W, hW⟩ : ∃ W, W = (((w6.setCell ⟨g6, k, none⟩ (.int .u8 (xs[k + 1]?.getD 0))).setCell ⟨g6, k + 1, none⟩ (.int .u8 (xs[k]?.getD 0))).drew) := ⟨_, rfl⟩
    have HSz : Hid (Seen W.drew (some ⟨g6, 0, none⟩) zs) := Lib.hid (by
      have h := own_sees (own_set (own_set HO6.out k (xs[k + 1]?.getD 0)) (k + 1) (xs[k]?.getD 0))
      rw [← HZ.out] at h
      rw [hW]
      exact h)
    have HB6 : Hid (Below w.heap.size w w6) := Lib.hid (HB5.out.trans (hb6.mono HB5.out.size))
    have HBW : Hid (Below w.heap.size w W) := Lib.hid (by
      rw [hW]
      exact ((HB6.out.setCell (Nat.le_trans HB5.out.size hB6) _).setCell (Nat.le_trans HB5.out.size hB6) _).drew)
    have c0 := (HBW.out.cell (p := ⟨bb, o + k, none⟩) hbb).trans (HC.out k (by rw [HX.out.len]; exact hkn))
    have c1 := (HBW.out.cell (p := ⟨bb, o + (k + 1), none⟩) hbb).trans (HC.out (k + 1) (by rw [HX.out.len]; exact hk1))
    have hS : W.cell? ⟨bb, o + k, none⟩ = some (.int .u8 (xs[k]?.getD 0)) ∧ W.cell? ⟨bb, o + (k + 1), none⟩ = some (.int .u8 (xs[k + 1]?.getD 0)) := ⟨c0, c1⟩
    rw [← hW]
    clear hW d0 d1 f0 f1 hck hfk c0 c1
    have HM1 : Hid (n ≤ 140737488351232) := Lib.hid (by omega)
    have HWs : Hid (w.heap.size ≤ W.drew.heap.size) := Lib.hid HBW.out.size
    have x1 : (k : Int) + 1 < (n : Int) := by omega
    have x0 : (k : Int) < (n : Int) := by omega
    have x2 : (0 : Int) ≤ (k : Int) + 1 := by omega
    have x4 : ((k : Int) + 1).toNat = k + 1 := by omega
    have x3 : IntKind.i64.wrap ((k : Int) + 1) = (k : Int) + 1 := IntWalk.i64_in _ (by omega)
    go_wp2
    go_region_held3 (fun w' => w'.cell? ⟨bb, o + k, none⟩ = some (.int .u8 (xs[k]?.getD 0)) ∧ w'.cell? ⟨bb, o + (k + 1), none⟩ = some (.int .u8 (xs[k + 1]?.getD 0))) (assumption) (first | (go_at_call 11; ((with_reducible refine (sum32_any (some ⟨g6, 0, none⟩) n cap6 zs W.drew HZl.out HSz.out HM1.out HZo.out).mono ?_); rintro e w8 ⟨rfl, hb8⟩; have s8 := keep2 hb8 (by assumption))) | (go_at_call 11; ((with_reducible refine (sum32_any (some ⟨bb, o, none⟩) n c xs w8 HX.out.len (HX.out.seen.later ((HBW.out.drew).trans (hb8.mono HWs.out))) HM1.out HX.out.ok).mono ?_); rintro e w9 ⟨rfl, hb9⟩; have s9 := keep2 hb9 (by assumption))))
    go_wp2
    go_ret
    exact ⟨rfl, (HBW.out.drew.trans (hb8.mono HWs.out)).trans (hb9.mono (Nat.le_trans HWs.out hb8.size))⟩

theorem own : ownKnob Try.prog.godebug = none := by kernel_rfl
theorem laidOut : laidOutB Try.prog = true := by kernel_rfl

/-! ### STEP 1: THE WALK: the Go text returns true, AND WRITES NOTHING THAT WAS THERE: 'Below w.heap.size w w'' (Derived/Below.lean: '.refl', '.alloc', '.drew', '.setCell' at a new block, '.trans'). Open each 'IsRow' by 'rcases' AHEAD of 'go_enter'; part every test ahead of the walk. -/
theorem walk (a0 : Option Addr) (len0 cap0 : Nat) (z0 : List Int) (a1 : Int) (a2 : Int) (w : World) (w0 : Came .u8 w a0 len0 cap0 z0) (w1 : (Lit.int .i64 a1).wf = true) (w2 : (Lit.int .u8 a2).wf = true) :
    Calls Try.prog 5 #[.slice a0 len0 cap0, .int .i64 a1, .int .u8 a2] w fun e w' => e = .returned (.bool true) ∧ Below w.heap.size w w' := by
  have hx := came_in w0
  by_cases h0 : len0 = 0
  · exact easy a0 len0 cap0 a1 a2 w (.inl h0)
  · by_cases h1 : len0 ≤ 5000
    · have hb := bounds_u8 w2
      obtain ⟨b, o, rfl, _, _⟩ := hx.seen.place (by rw [hx.len]; omega)
      exact main b o len0 cap0 _ a1 a2 w hx (by omega) h1 hb.1 hb.2
    · exact easy a0 len0 cap0 a1 a2 w (.inr (by omega))

/-! ### THE ROW's STEP: WRITTEN OUT: LEAVE IT -/
set_option maxRecDepth 100000 in
theorem lifted (os : Os) (started : os.Started) (H : Type) (enc : TypeId × Value → H) :
    ReturnsInHanded {} Try.checked os 5 .any (Rows.sumTurnedSpec.pre6 enc Try.prog Try.f5 Rows.sumTurnedRow.domain false) (Rows.sumTurnedSpec.post enc Try.prog Try.f5 false true false false) := by
  refine returnsInHanded_of_change (C := Try.checked) own started (by kernel_rfl) Try.func5
    (ChangeSpec.witness6 (enc := enc) (C := Try.checked) false ⟨#[], #[.slice none 0 0, .int .i64 0, .int .u8 0], []⟩ 8 (by kernel_rfl) (by kernel_rfl) (by kernel_rfl) (by kernel_rfl)) ?_
  intro W base args ds gs before hval0 hW hcnd _
  have hval : ∀ (j : Nat) t v, Try.f5.params[j]? = some t → args[j]? = some v → Value.okWide Try.prog W .any base t v := hval0
  have hW' := hW
  obtain ⟨p, q, hA0, hV, rfl, hfz, hnd⟩ := hW
  have hA : DataW.TrodAll enc Try.prog W 0 (fun _ => true) true Try.f5.params.toList args.toList ds p := hA0
  rw [Try.params5] at hA hval
  obtain ⟨v0, vs0, d0, ds0, p0, q0, hargs, rfl, rfl, h0, r0⟩ := trodAll_cons hA
  obtain ⟨v1, vs1, d1, ds1, p1, q1, rfl, rfl, rfl, h1, r1⟩ := trodAll_cons r0
  obtain ⟨v2, vs2, d2, ds2, p2, q2, rfl, rfl, rfl, h2, r2⟩ := trodAll_cons r1
  obtain ⟨rfl, rfl, rfl⟩ := trodAll_nil r2
  obtain rfl : args = #[v0, v1, v2] := by cases args; simp_all
  obtain ⟨rfl, rfl⟩ := trodVars_none hV
  obtain ⟨a0, len0, cap0, rfl⟩ := okWide_slice Try.underlying22 (hval 0 22 v0 rfl rfl)
  have k0 := h0
  have lt0 : ∀ x ∈ p0, x.block < W.heap.size := by obtain ⟨m, hm⟩ := k0; exact DataW.trod_lt m _ _ _ hm
  obtain ⟨z0, w0⟩ : ∃ zs, Came .u8 W a0 len0 cap0 zs := by
    obtain ⟨fuel, hf⟩ := h0
    rcases open_ints Try.underlying22 Try.underlying5 (by kernel_rfl) hf with ⟨hcs, _⟩ | ⟨x, l, c, zs, hcs, _, hl, hm, hz, _, hcell, hwz⟩
    · simp [Value.cells] at hcs
      obtain ⟨rfl, rfl, rfl⟩ := hcs
      exact ⟨[], .inl ⟨rfl, rfl, rfl, rfl⟩⟩
    · simp [Value.cells] at hcs
      obtain ⟨rfl, rfl, rfl⟩ := hcs
      exact ⟨zs, .inr ⟨_, rfl, hl, hm, by simpa using hz, hcell, hwz⟩⟩
  obtain ⟨a1, rfl, rfl, rfl, w1⟩ := open_int Try.underlying3 (hval 1 3 v1 rfl rfl) h1
  obtain ⟨a2, rfl, rfl, rfl, w2⟩ := open_int Try.underlying5 (hval 2 5 v2 rfl rfl) h2
  clear hA0 hval0
  refine (walk a0 len0 cap0 z0 a1 a2 W w0 w1 w2).mono fun e W' ⟨he, bel⟩ => ?_
  subst he
  exact ⟨_, rfl, _, _, _, [], _, [], hW', trodAll_mk1 (shut_bool Try.underlying4 _), (trodAll_cons_mk (Below.trod laidOut (by kernel_rfl) (of_decide_eq_true (by kernel_rfl)) k0 bel lt0) (trodAll_cons_mk (shut_int Try.underlying3 w1) (trodAll_cons_mk (shut_int Try.underlying5 w2) trodAll_mk0))), rfl, bel.frame _, fun h => by cases h⟩

theorem over : Rows.sumTurnedRow.holds Try.pinned (OpenSpec.ofChange Rows.sumTurnedSpec) :=
  OpenClaim.holds_of_wide 5 Try.f5 rfl rfl rfl rfl rfl rfl rfl ⟨rfl, rfl, rfl, rfl, rfl⟩ rfl rfl rfl rfl rfl (by kernel_rfl) Try.func5 (by kernel_rfl)
    (of_decide_eq_true (by kernel_rfl)) (by unfold Func.isWrapper; first | (rw [if_pos (by decide +kernel)]; kernel_rfl) | (rw [if_neg (by decide +kernel)]; exact ⟨rfl, rfl⟩))
    (fun os started H enc _ => lifted os started H enc)

end Go.Proofs.Ytfidmbccboggoaa.sumTurned
namespace Go.Proofs.Ytfidmbccboggoaa
theorem sumTurned_holds : Rows.SumTurnedSaid := sumTurned.over
#print axioms sumTurned_holds
end Go.Proofs.Ytfidmbccboggoaa
