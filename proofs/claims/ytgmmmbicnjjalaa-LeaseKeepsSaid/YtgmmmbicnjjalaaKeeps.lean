/-
  Proved: 'LeaseKeeps' (P21.2, P21.3) returns true for every lease, manager, epoch, tick and span, and leaves its arguments as they were. Conditions: none but those of the given row.
-/
import Derived.Test.YtgmmmbicnjjalaaEleven
import Derived.Deep.RegionHeld3
import Derived.Test.YtgmmmbicnjjalaaNine
import Derived.ChangeOld
import Derived.Lib.SmallJoins
namespace Go.Proofs.Ytgmmmbicnjjalaa.leaseKeeps
open Go.ChangeShapes Go.WideShapes Go.ChangeAt Go.RowKit Go.Joins
set_option linter.unusedVariables false

theorem keepW {b : Nat} {w w1 : World} {o : Obj} (hb : Below w.heap.size w w1) (h : w.heap[b]? = some o) : w1.heap[b]? = some o := (hb.block b (lt_of_block h)).trans h
theorem keepS {w w1 : World} {b0 b1 b2 : Nat} {e h u e' h' v now span : Int} (hb : Below w.heap.size w w1)
    (hs : w.cell? ⟨b0, 0, none⟩ = some (.int .u64 e) ∧ w.cell? ⟨b0, 1, none⟩ = some (.int .i64 h) ∧ w.cell? ⟨b0, 2, none⟩ = some (.int .i64 u) ∧ w.cell? ⟨b1, 0, none⟩ = some (.int .u64 e') ∧ w.cell? ⟨b1, 1, none⟩ = some (.int .i64 h') ∧ w.cell? ⟨b1, 2, none⟩ = some (.int .i64 v) ∧ w.cell? ⟨b2, 0, none⟩ = some (.int .i64 now) ∧ w.cell? ⟨b2, 1, none⟩ = some (.int .i64 span)) :
    w1.cell? ⟨b0, 0, none⟩ = some (.int .u64 e) ∧ w1.cell? ⟨b0, 1, none⟩ = some (.int .i64 h) ∧ w1.cell? ⟨b0, 2, none⟩ = some (.int .i64 u) ∧ w1.cell? ⟨b1, 0, none⟩ = some (.int .u64 e') ∧ w1.cell? ⟨b1, 1, none⟩ = some (.int .i64 h') ∧ w1.cell? ⟨b1, 2, none⟩ = some (.int .i64 v) ∧ w1.cell? ⟨b2, 0, none⟩ = some (.int .i64 now) ∧ w1.cell? ⟨b2, 1, none⟩ = some (.int .i64 span) := by
  obtain ⟨p0, p1, p2, p3, p4, p5, p6, p7⟩ := hs
  exact ⟨cell_later hb p0, cell_later hb p1, cell_later hb p2, cell_later hb p3, cell_later hb p4, cell_later hb p5, cell_later hb p6, cell_later hb p7⟩

set_option maxHeartbeats 400000 in
theorem walk_no (e h u who ep now span : Int) (w : World) (he : 0 ≤ e) (hr : ¬ renE e h u who ep now span = 0) :
    Calls Try.prog 6 #[.agg #[.int .u64 e, .int .i64 h, .int .i64 u], .agg #[.int .i64 who, .int .u64 ep], .agg #[.int .i64 now, .int .i64 span]] w fun e' w' => e' = .returned (.bool true) ∧ Below w.heap.size w w' := by
  have hr' : (renE e h u who ep now span != 0) = true := by simpa using hr
  have HE := Lib.hid he; have HR := Lib.hid hr
  clear he hr
  go_enter Try.func6, Try.ntmps6
  go_wp2_with (first | (go_at_call 7; refine (wakes_any _).mono ?_; rintro e1 w1 ⟨rfl, hb1⟩; have HA1 : Hid (w1.heap[w.heap.size]? = some (L3 e h u)) := Lib.hid (keep hb1 (by simp <;> omega) (keep_alloc _ (new_first _ _ _))); have HP1 : Hid (w1.heap[w.heap.size + 1]? = some (WP who ep)) := Lib.hid (keep hb1 (by simp <;> omega) (keep_alloc _ (new_second _ _ _))); have HN1 : Hid (w1.heap[w.heap.size + 1 + 1]? = some (N2 now span)) := Lib.hid (keep hb1 (by simp) (new_third _ _ _ _)); obtain ⟨a10, a11, a12⟩ := l3_cell HA1.out; obtain ⟨p10, p11⟩ := wp_cell HP1.out; obtain ⟨n10, n11⟩ := n2_cell HN1.out; have lt1 := l3_lt HN1.out) | (go_at_call 12; refine (renew_no _ _ _ _ _ _ _ _ HE.out HR.out).mono ?_; rintro e1 w2 ⟨rfl, hb2⟩))
  go_ret
  have s1 : w.heap.size ≤ w1.heap.size := by omega
  have s2 : w.heap.size ≤ w2.heap.size := by have := hb2.size; omega
  exact ⟨rfl, ((below_three hb1 (by simp <;> omega)).trans (hb2.mono s1)).alloc s2 _⟩

set_option maxHeartbeats 1000000 in
theorem walk_full_a (e ho u now span : Int) (w : World) (g : Goes e ho u now span) (hr : renE e ho u ho e now span = 0) (hx : e = 2147483647) (hsp : u - now < span) :
    Calls Try.prog 6 #[.agg #[.int .u64 e, .int .i64 ho, .int .i64 u], .agg #[.int .i64 ho, .int .u64 e], .agg #[.int .i64 now, .int .i64 span]] w fun e' w' => e' = .returned (.bool true) ∧ Below w.heap.size w w' := by
  have HR := Lib.hid hr
  have HXM := Lib.hid hx
  have hx' : (e == 2147483647) = true := by simpa using hx
  clear hr hx
  have g1 := g.n0; have g2 := g.n1; have g3 := g.s1; have g4 := g.s2; have g5 := g.nu; have g6 := g.u1
  obtain ⟨v, hv⟩ : ∃ v, v = later u (now + span) := ⟨_, rfl⟩
  have HV := Lib.hid hv
  have hv1 : now < v := by rw [hv]; exact g.later.1
  have hv2 : v ≤ 1099511627776 := by rw [hv]; exact g.later.2
  have hv3 : u ≤ v := by rw [hv]; unfold later; split <;> omega
  have hv4 : now + span ≤ v := by rw [hv]; unfold later; split <;> omega
  clear hv
  have hm1 : mayB e ho v = true := g.may (by omega) hv2
  have hh1 : heldB e v now = true := held_true.2 ⟨by have := g.e1; omega, hv1⟩
  have hm2 : mayB e ho u = true := g.may (by omega) g6
  have hh2 : heldB e u now = true := held_true.2 ⟨by have := g.e1; omega, g5⟩
  have hw1 : 1 ≤ ho % 3 + 1 := by omega
  have hw3 : ho % 3 + 1 ≤ 3 := by omega
  have gh1 := g.h1
  have gh3 := g.h3
  have ge1 := g.e1
  have ge2 := g.e2
  have hm3 : mayB e ho now = true := g.may g1 (by omega)
  have hh3 : heldB e now now = false := by simp [heldB]
  go_enter Try.func6, Try.ntmps6
  go_wp2_with (first | (go_at_call 7; refine (wakes_any _).mono ?_; rintro e1 w1 ⟨rfl, hb1⟩; have HA1 : Hid (w1.heap[w.heap.size]? = some (L3 e ho u)) := Lib.hid (keep hb1 (by simp <;> omega) (keep_alloc _ (new_first _ _ _))); have HP1 : Hid (w1.heap[w.heap.size + 1]? = some (WP ho e)) := Lib.hid (keep hb1 (by simp <;> omega) (keep_alloc _ (new_second _ _ _))); have HN1 : Hid (w1.heap[w.heap.size + 1 + 1]? = some (N2 now span)) := Lib.hid (keep hb1 (by simp) (new_third _ _ _ _)); obtain ⟨a10, a11, a12⟩ := l3_cell HA1.out; obtain ⟨p10, p11⟩ := wp_cell HP1.out; obtain ⟨n10, n11⟩ := n2_cell HN1.out; have lt1 := l3_lt HN1.out) | (go_at_call 12; refine (renew_yes _ _ _ _ _ _ g HR.out).mono ?_; rw [← HV.out]; rintro e1 w2 ⟨rfl, hb2⟩; have HA2 : Hid (w2.heap[w.heap.size]? = some (L3 e ho u)) := Lib.hid (keep hb2 (by omega) HA1.out); have HP2 : Hid (w2.heap[w.heap.size + 1]? = some (WP ho e)) := Lib.hid (keep hb2 (by omega) HP1.out); have HN2 : Hid (w2.heap[w.heap.size + 1 + 1]? = some (N2 now span)) := Lib.hid (keep hb2 lt1 HN1.out)))
  obtain ⟨W, hW⟩ : ∃ W, W = w2.alloc (.cells #[.int .u64 e, .int .i64 ho, .int .i64 v] 24) := ⟨_, rfl⟩
  have HX : Hid (W.heap[w2.heap.size]? = some (L3 e ho v)) := Lib.hid (by rw [hW]; exact heap_alloc_new _ _)
  have HA : Hid (W.heap[w.heap.size]? = some (L3 e ho u)) := Lib.hid (by rw [hW]; exact keep_alloc _ HA2.out)
  have HP : Hid (W.heap[w.heap.size + 1]? = some (WP ho e)) := Lib.hid (by rw [hW]; exact keep_alloc _ HP2.out)
  have HN : Hid (W.heap[w.heap.size + 1 + 1]? = some (N2 now span)) := Lib.hid (by rw [hW]; exact keep_alloc _ HN2.out)
  have HB : Hid (Below w.heap.size w W) := Lib.hid (by rw [hW]; exact ((below_three hb1 (by simp <;> omega)).trans (hb2.mono (by omega))).alloc (by have := hb2.size; omega) _)
  rw [← hW]
  clear hW HA1 HP1 HN1 HA2 HP2 HN2 hb1 hb2 a10 a11 a12 p10 p11 n10 n11 lt1
  obtain ⟨a0, a1, a2⟩ := l3_cell HA.out
  obtain ⟨x0, x1, x2⟩ := l3_cell HX.out
  obtain ⟨n0, n1⟩ := n2_cell HN.out
  have hS : W.cell? ⟨w.heap.size, 0, none⟩ = some (.int .u64 e) ∧ W.cell? ⟨w.heap.size, 1, none⟩ = some (.int .i64 ho) ∧ W.cell? ⟨w.heap.size, 2, none⟩ = some (.int .i64 u) ∧ W.cell? ⟨w2.heap.size, 0, none⟩ = some (.int .u64 e) ∧ W.cell? ⟨w2.heap.size, 1, none⟩ = some (.int .i64 ho) ∧ W.cell? ⟨w2.heap.size, 2, none⟩ = some (.int .i64 v) ∧ W.cell? ⟨w.heap.size + 1 + 1, 0, none⟩ = some (.int .i64 now) ∧ W.cell? ⟨w.heap.size + 1 + 1, 1, none⟩ = some (.int .i64 span) := ⟨a0, a1, a2, x0, x1, x2, n0, n1⟩
  go_region_held3 (fun w' => w'.cell? ⟨w.heap.size, 0, none⟩ = some (.int .u64 e) ∧ w'.cell? ⟨w.heap.size, 1, none⟩ = some (.int .i64 ho) ∧ w'.cell? ⟨w.heap.size, 2, none⟩ = some (.int .i64 u) ∧ w'.cell? ⟨w2.heap.size, 0, none⟩ = some (.int .u64 e) ∧ w'.cell? ⟨w2.heap.size, 1, none⟩ = some (.int .i64 ho) ∧ w'.cell? ⟨w2.heap.size, 2, none⟩ = some (.int .i64 v) ∧ w'.cell? ⟨w.heap.size + 1 + 1, 0, none⟩ = some (.int .i64 now) ∧ w'.cell? ⟨w.heap.size + 1 + 1, 1, none⟩ = some (.int .i64 span)) (assumption) (first | (go_at_call 17; ((with_reducible refine (left_held e ho v now _ hm1 hh1 g1 hv1 hv2).mono ?_); rintro e1 w3 ⟨rfl, hb3⟩; have s3 := keepS hb3 (by assumption))) | (go_at_call 17; ((with_reducible refine (left_held e ho u now _ hm2 hh2 g1 g5 g6).mono ?_); rintro e1 w4 ⟨rfl, hb4⟩; have s4 := keepS hb4 (by assumption))))
  have HW : Hid (Below W.heap.size W w4) := Lib.hid ((below_drew hb3).trans (hb4.mono (below_drew hb3).size))
  have HA4 : Hid (w4.heap[w.heap.size]? = some (L3 e ho u)) := Lib.hid (keepW HW.out HA.out)
  have HX4 : Hid (w4.heap[w2.heap.size]? = some (L3 e ho v)) := Lib.hid (keepW HW.out HX.out)
  have HP4 : Hid (w4.heap[w.heap.size + 1]? = some (WP ho e)) := Lib.hid (keepW HW.out HP.out)
  have HN4 : Hid (w4.heap[w.heap.size + 1 + 1]? = some (N2 now span)) := Lib.hid (keepW HW.out HN.out)
  have HB4 : Hid (Below w.heap.size w w4) := Lib.hid (HB.out.trans (HW.out.mono HB.out.size))
  clear hS s3 s4 hb3 hb4
  clear a0 a1 a2 x0 x1 x2 n0 n1
  obtain ⟨a0, a1, a2⟩ := l3_cell HA4.out
  obtain ⟨x0, x1, x2⟩ := l3_cell HX4.out
  obtain ⟨p0, p1⟩ := wp_cell HP4.out
  obtain ⟨n0, n1⟩ := n2_cell HN4.out
  go_wp2_with (first | (go_at_call 14; ((with_reducible refine (yield_yes e ho u v now span _ g hv1 hv2).mono ?_); rintro e1 w5 ⟨rfl, hb5⟩; have HA5 : Hid (w5.heap[w.heap.size]? = some (L3 e ho u)) := Lib.hid (keepW hb5 HA4.out); have HP5 : Hid (w5.heap[w.heap.size + 1]? = some (WP ho e)) := Lib.hid (keepW hb5 HP4.out); have HN5 : Hid (w5.heap[w.heap.size + 1 + 1]? = some (N2 now span)) := Lib.hid (keepW hb5 HN4.out); obtain ⟨a50, a51, a52⟩ := l3_cell HA5.out; obtain ⟨p50, p51⟩ := wp_cell HP5.out; obtain ⟨n50, n51⟩ := n2_cell HN5.out; have lt5 := lt_of_block HN5.out; have lt5b := Nat.lt_of_succ_lt lt5; have lt5a := Nat.lt_of_succ_lt lt5b)) | (go_at_call 16; ((with_reducible refine (holds_no e ho now ho e now _ hm3 hh3).mono ?_); rintro e1 w6 ⟨rfl, hb6⟩; have HA6 : Hid (w6.heap[w.heap.size]? = some (L3 e ho u)) := Lib.hid (keepW hb6 (keep_alloc _ HA5.out)); have HP6 : Hid (w6.heap[w.heap.size + 1]? = some (WP ho e)) := Lib.hid (keepW hb6 (keep_alloc _ HP5.out)); have HN6 : Hid (w6.heap[w.heap.size + 1 + 1]? = some (N2 now span)) := Lib.hid (keepW hb6 (keep_alloc _ HN5.out)); have HY6 : Hid (w6.heap[w5.heap.size]? = some (L3 e ho now)) := Lib.hid (keepW hb6 (heap_alloc_new _ _)); obtain ⟨a60, a61, a62⟩ := l3_cell HA6.out; obtain ⟨p60, p61⟩ := wp_cell HP6.out; obtain ⟨n60, n61⟩ := n2_cell HN6.out; obtain ⟨y60, y61, y62⟩ := l3_cell HY6.out)) | (go_at_call 8; ((with_reducible refine (acquire_full e ho u now span _ _ g hw1 hw3 HXM.out).mono ?_); rintro e1 w7 ⟨rfl, hb7⟩; have HA7 : Hid (w7.heap[w.heap.size]? = some (L3 e ho u)) := Lib.hid (keepW hb7 HA6.out); have HP7 : Hid (w7.heap[w.heap.size + 1]? = some (WP ho e)) := Lib.hid (keepW hb7 HP6.out); obtain ⟨a70, a71, a72⟩ := l3_cell HA7.out; obtain ⟨p70, p71⟩ := wp_cell HP7.out; have lt7 := lt_of_block HP7.out; have lt7a := Nat.lt_of_succ_lt lt7)))
  go_ret
  exact ⟨rfl, by
    have z5 := HB4.out.size
    have z6 := hb5.size
    have z7 := hb6.size
    simp at z7
    have z8 := hb7.size
    exact (((HB4.out.trans (hb5.mono z5)).trans (((Below.refl _ _).alloc (by omega) _).trans (hb6.mono (by simp; omega)))).trans (hb7.mono (by omega))).alloc (by omega) _⟩

set_option maxHeartbeats 1000000 in
theorem walk_full_b (e ho u now span : Int) (w : World) (g : Goes e ho u now span) (hr : renE e ho u ho e now span = 0) (hx : e = 2147483647) (hsp : ¬ u - now < span) :
    Calls Try.prog 6 #[.agg #[.int .u64 e, .int .i64 ho, .int .i64 u], .agg #[.int .i64 ho, .int .u64 e], .agg #[.int .i64 now, .int .i64 span]] w fun e' w' => e' = .returned (.bool true) ∧ Below w.heap.size w w' := by
  have HR := Lib.hid hr
  have HXM := Lib.hid hx
  have hx' : (e == 2147483647) = true := by simpa using hx
  clear hr hx
  have g1 := g.n0; have g2 := g.n1; have g3 := g.s1; have g4 := g.s2; have g5 := g.nu; have g6 := g.u1
  obtain ⟨v, hv⟩ : ∃ v, v = later u (now + span) := ⟨_, rfl⟩
  have HV := Lib.hid hv
  have hv1 : now < v := by rw [hv]; exact g.later.1
  have hv2 : v ≤ 1099511627776 := by rw [hv]; exact g.later.2
  have hv3 : u ≤ v := by rw [hv]; unfold later; split <;> omega
  have hv4 : now + span ≤ v := by rw [hv]; unfold later; split <;> omega
  clear hv
  have hm1 : mayB e ho v = true := g.may (by omega) hv2
  have hh1 : heldB e v now = true := held_true.2 ⟨by have := g.e1; omega, hv1⟩
  have hm2 : mayB e ho u = true := g.may (by omega) g6
  have hh2 : heldB e u now = true := held_true.2 ⟨by have := g.e1; omega, g5⟩
  have hw1 : 1 ≤ ho % 3 + 1 := by omega
  have hw3 : ho % 3 + 1 ≤ 3 := by omega
  have gh1 := g.h1
  have gh3 := g.h3
  have ge1 := g.e1
  have ge2 := g.e2
  have hm3 : mayB e ho now = true := g.may g1 (by omega)
  have hh3 : heldB e now now = false := by simp [heldB]
  go_enter Try.func6, Try.ntmps6
  go_wp2_with (first | (go_at_call 7; refine (wakes_any _).mono ?_; rintro e1 w1 ⟨rfl, hb1⟩; have HA1 : Hid (w1.heap[w.heap.size]? = some (L3 e ho u)) := Lib.hid (keep hb1 (by simp <;> omega) (keep_alloc _ (new_first _ _ _))); have HP1 : Hid (w1.heap[w.heap.size + 1]? = some (WP ho e)) := Lib.hid (keep hb1 (by simp <;> omega) (keep_alloc _ (new_second _ _ _))); have HN1 : Hid (w1.heap[w.heap.size + 1 + 1]? = some (N2 now span)) := Lib.hid (keep hb1 (by simp) (new_third _ _ _ _)); obtain ⟨a10, a11, a12⟩ := l3_cell HA1.out; obtain ⟨p10, p11⟩ := wp_cell HP1.out; obtain ⟨n10, n11⟩ := n2_cell HN1.out; have lt1 := l3_lt HN1.out) | (go_at_call 12; refine (renew_yes _ _ _ _ _ _ g HR.out).mono ?_; rw [← HV.out]; rintro e1 w2 ⟨rfl, hb2⟩; have HA2 : Hid (w2.heap[w.heap.size]? = some (L3 e ho u)) := Lib.hid (keep hb2 (by omega) HA1.out); have HP2 : Hid (w2.heap[w.heap.size + 1]? = some (WP ho e)) := Lib.hid (keep hb2 (by omega) HP1.out); have HN2 : Hid (w2.heap[w.heap.size + 1 + 1]? = some (N2 now span)) := Lib.hid (keep hb2 lt1 HN1.out)))
  obtain ⟨W, hW⟩ : ∃ W, W = w2.alloc (.cells #[.int .u64 e, .int .i64 ho, .int .i64 v] 24) := ⟨_, rfl⟩
  have HX : Hid (W.heap[w2.heap.size]? = some (L3 e ho v)) := Lib.hid (by rw [hW]; exact heap_alloc_new _ _)
  have HA : Hid (W.heap[w.heap.size]? = some (L3 e ho u)) := Lib.hid (by rw [hW]; exact keep_alloc _ HA2.out)
  have HP : Hid (W.heap[w.heap.size + 1]? = some (WP ho e)) := Lib.hid (by rw [hW]; exact keep_alloc _ HP2.out)
  have HN : Hid (W.heap[w.heap.size + 1 + 1]? = some (N2 now span)) := Lib.hid (by rw [hW]; exact keep_alloc _ HN2.out)
  have HB : Hid (Below w.heap.size w W) := Lib.hid (by rw [hW]; exact ((below_three hb1 (by simp <;> omega)).trans (hb2.mono (by omega))).alloc (by have := hb2.size; omega) _)
  rw [← hW]
  clear hW HA1 HP1 HN1 HA2 HP2 HN2 hb1 hb2 a10 a11 a12 p10 p11 n10 n11 lt1
  obtain ⟨a0, a1, a2⟩ := l3_cell HA.out
  obtain ⟨x0, x1, x2⟩ := l3_cell HX.out
  obtain ⟨n0, n1⟩ := n2_cell HN.out
  have hS : W.cell? ⟨w.heap.size, 0, none⟩ = some (.int .u64 e) ∧ W.cell? ⟨w.heap.size, 1, none⟩ = some (.int .i64 ho) ∧ W.cell? ⟨w.heap.size, 2, none⟩ = some (.int .i64 u) ∧ W.cell? ⟨w2.heap.size, 0, none⟩ = some (.int .u64 e) ∧ W.cell? ⟨w2.heap.size, 1, none⟩ = some (.int .i64 ho) ∧ W.cell? ⟨w2.heap.size, 2, none⟩ = some (.int .i64 v) ∧ W.cell? ⟨w.heap.size + 1 + 1, 0, none⟩ = some (.int .i64 now) ∧ W.cell? ⟨w.heap.size + 1 + 1, 1, none⟩ = some (.int .i64 span) := ⟨a0, a1, a2, x0, x1, x2, n0, n1⟩
  go_region_held3 (fun w' => w'.cell? ⟨w.heap.size, 0, none⟩ = some (.int .u64 e) ∧ w'.cell? ⟨w.heap.size, 1, none⟩ = some (.int .i64 ho) ∧ w'.cell? ⟨w.heap.size, 2, none⟩ = some (.int .i64 u) ∧ w'.cell? ⟨w2.heap.size, 0, none⟩ = some (.int .u64 e) ∧ w'.cell? ⟨w2.heap.size, 1, none⟩ = some (.int .i64 ho) ∧ w'.cell? ⟨w2.heap.size, 2, none⟩ = some (.int .i64 v) ∧ w'.cell? ⟨w.heap.size + 1 + 1, 0, none⟩ = some (.int .i64 now) ∧ w'.cell? ⟨w.heap.size + 1 + 1, 1, none⟩ = some (.int .i64 span)) (assumption) (first | (go_at_call 17; ((with_reducible refine (left_held e ho v now _ hm1 hh1 g1 hv1 hv2).mono ?_); rintro e1 w3 ⟨rfl, hb3⟩; have s3 := keepS hb3 (by assumption))) | (go_at_call 17; ((with_reducible refine (left_held e ho u now _ hm2 hh2 g1 g5 g6).mono ?_); rintro e1 w4 ⟨rfl, hb4⟩; have s4 := keepS hb4 (by assumption))))
  have HW : Hid (Below W.heap.size W w4) := Lib.hid ((below_drew hb3).trans (hb4.mono (below_drew hb3).size))
  have HA4 : Hid (w4.heap[w.heap.size]? = some (L3 e ho u)) := Lib.hid (keepW HW.out HA.out)
  have HX4 : Hid (w4.heap[w2.heap.size]? = some (L3 e ho v)) := Lib.hid (keepW HW.out HX.out)
  have HP4 : Hid (w4.heap[w.heap.size + 1]? = some (WP ho e)) := Lib.hid (keepW HW.out HP.out)
  have HN4 : Hid (w4.heap[w.heap.size + 1 + 1]? = some (N2 now span)) := Lib.hid (keepW HW.out HN.out)
  have HB4 : Hid (Below w.heap.size w w4) := Lib.hid (HB.out.trans (HW.out.mono HB.out.size))
  clear hS s3 s4 hb3 hb4
  clear a0 a1 a2 x0 x1 x2 n0 n1
  obtain ⟨a0, a1, a2⟩ := l3_cell HA4.out
  obtain ⟨x0, x1, x2⟩ := l3_cell HX4.out
  obtain ⟨p0, p1⟩ := wp_cell HP4.out
  obtain ⟨n0, n1⟩ := n2_cell HN4.out
  go_wp2_with (first | (go_at_call 14; ((with_reducible refine (yield_yes e ho u v now span _ g hv1 hv2).mono ?_); rintro e1 w5 ⟨rfl, hb5⟩; have HA5 : Hid (w5.heap[w.heap.size]? = some (L3 e ho u)) := Lib.hid (keepW hb5 HA4.out); have HP5 : Hid (w5.heap[w.heap.size + 1]? = some (WP ho e)) := Lib.hid (keepW hb5 HP4.out); have HN5 : Hid (w5.heap[w.heap.size + 1 + 1]? = some (N2 now span)) := Lib.hid (keepW hb5 HN4.out); obtain ⟨a50, a51, a52⟩ := l3_cell HA5.out; obtain ⟨p50, p51⟩ := wp_cell HP5.out; obtain ⟨n50, n51⟩ := n2_cell HN5.out; have lt5 := lt_of_block HN5.out; have lt5b := Nat.lt_of_succ_lt lt5; have lt5a := Nat.lt_of_succ_lt lt5b)) | (go_at_call 16; ((with_reducible refine (holds_no e ho now ho e now _ hm3 hh3).mono ?_); rintro e1 w6 ⟨rfl, hb6⟩; have HA6 : Hid (w6.heap[w.heap.size]? = some (L3 e ho u)) := Lib.hid (keepW hb6 (keep_alloc _ HA5.out)); have HP6 : Hid (w6.heap[w.heap.size + 1]? = some (WP ho e)) := Lib.hid (keepW hb6 (keep_alloc _ HP5.out)); have HN6 : Hid (w6.heap[w.heap.size + 1 + 1]? = some (N2 now span)) := Lib.hid (keepW hb6 (keep_alloc _ HN5.out)); have HY6 : Hid (w6.heap[w5.heap.size]? = some (L3 e ho now)) := Lib.hid (keepW hb6 (heap_alloc_new _ _)); obtain ⟨a60, a61, a62⟩ := l3_cell HA6.out; obtain ⟨p60, p61⟩ := wp_cell HP6.out; obtain ⟨n60, n61⟩ := n2_cell HN6.out; obtain ⟨y60, y61, y62⟩ := l3_cell HY6.out)) | (go_at_call 8; ((with_reducible refine (acquire_full e ho u now span _ _ g hw1 hw3 HXM.out).mono ?_); rintro e1 w7 ⟨rfl, hb7⟩; have HA7 : Hid (w7.heap[w.heap.size]? = some (L3 e ho u)) := Lib.hid (keepW hb7 HA6.out); have HP7 : Hid (w7.heap[w.heap.size + 1]? = some (WP ho e)) := Lib.hid (keepW hb7 HP6.out); obtain ⟨a70, a71, a72⟩ := l3_cell HA7.out; obtain ⟨p70, p71⟩ := wp_cell HP7.out; have lt7 := lt_of_block HP7.out; have lt7a := Nat.lt_of_succ_lt lt7)))
  go_ret
  exact ⟨rfl, by
    have z5 := HB4.out.size
    have z6 := hb5.size
    have z7 := hb6.size
    simp at z7
    have z8 := hb7.size
    exact (((HB4.out.trans (hb5.mono z5)).trans (((Below.refl _ _).alloc (by omega) _).trans (hb6.mono (by simp; omega)))).trans (hb7.mono (by omega))).alloc (by omega) _⟩

set_option maxHeartbeats 1000000 in
theorem walk_next_a (e ho u now span : Int) (w : World) (g : Goes e ho u now span) (hr : renE e ho u ho e now span = 0) (hx : ¬ e = 2147483647) (hsp : u - now < span) :
    Calls Try.prog 6 #[.agg #[.int .u64 e, .int .i64 ho, .int .i64 u], .agg #[.int .i64 ho, .int .u64 e], .agg #[.int .i64 now, .int .i64 span]] w fun e' w' => e' = .returned (.bool true) ∧ Below w.heap.size w w' := by
  have HR := Lib.hid hr
  have HXM := Lib.hid hx
  have hx' : (e == 2147483647) = false := by simpa using hx
  have hm4 : mayB (e + 1) (ho % 3 + 1) (now + span) = true := by
    have := g.e1; have := g.e2; have := g.n0; have := g.n1; have := g.s1; have := g.s2
    unfold mayB; rw [if_neg (by omega)]; simp; omega
  clear hr hx
  have g1 := g.n0; have g2 := g.n1; have g3 := g.s1; have g4 := g.s2; have g5 := g.nu; have g6 := g.u1
  obtain ⟨v, hv⟩ : ∃ v, v = later u (now + span) := ⟨_, rfl⟩
  have HV := Lib.hid hv
  have hv1 : now < v := by rw [hv]; exact g.later.1
  have hv2 : v ≤ 1099511627776 := by rw [hv]; exact g.later.2
  have hv3 : u ≤ v := by rw [hv]; unfold later; split <;> omega
  have hv4 : now + span ≤ v := by rw [hv]; unfold later; split <;> omega
  clear hv
  have hm1 : mayB e ho v = true := g.may (by omega) hv2
  have hh1 : heldB e v now = true := held_true.2 ⟨by have := g.e1; omega, hv1⟩
  have hm2 : mayB e ho u = true := g.may (by omega) g6
  have hh2 : heldB e u now = true := held_true.2 ⟨by have := g.e1; omega, g5⟩
  have hw1 : 1 ≤ ho % 3 + 1 := by omega
  have hw3 : ho % 3 + 1 ≤ 3 := by omega
  have gh1 := g.h1
  have gh3 := g.h3
  have ge1 := g.e1
  have ge2 := g.e2
  have hm3 : mayB e ho now = true := g.may g1 (by omega)
  have hh3 : heldB e now now = false := by simp [heldB]
  go_enter Try.func6, Try.ntmps6
  go_wp2_with (first | (go_at_call 7; refine (wakes_any _).mono ?_; rintro e1 w1 ⟨rfl, hb1⟩; have HA1 : Hid (w1.heap[w.heap.size]? = some (L3 e ho u)) := Lib.hid (keep hb1 (by simp <;> omega) (keep_alloc _ (new_first _ _ _))); have HP1 : Hid (w1.heap[w.heap.size + 1]? = some (WP ho e)) := Lib.hid (keep hb1 (by simp <;> omega) (keep_alloc _ (new_second _ _ _))); have HN1 : Hid (w1.heap[w.heap.size + 1 + 1]? = some (N2 now span)) := Lib.hid (keep hb1 (by simp) (new_third _ _ _ _)); obtain ⟨a10, a11, a12⟩ := l3_cell HA1.out; obtain ⟨p10, p11⟩ := wp_cell HP1.out; obtain ⟨n10, n11⟩ := n2_cell HN1.out; have lt1 := l3_lt HN1.out) | (go_at_call 12; refine (renew_yes _ _ _ _ _ _ g HR.out).mono ?_; rw [← HV.out]; rintro e1 w2 ⟨rfl, hb2⟩; have HA2 : Hid (w2.heap[w.heap.size]? = some (L3 e ho u)) := Lib.hid (keep hb2 (by omega) HA1.out); have HP2 : Hid (w2.heap[w.heap.size + 1]? = some (WP ho e)) := Lib.hid (keep hb2 (by omega) HP1.out); have HN2 : Hid (w2.heap[w.heap.size + 1 + 1]? = some (N2 now span)) := Lib.hid (keep hb2 lt1 HN1.out)))
  obtain ⟨W, hW⟩ : ∃ W, W = w2.alloc (.cells #[.int .u64 e, .int .i64 ho, .int .i64 v] 24) := ⟨_, rfl⟩
  have HX : Hid (W.heap[w2.heap.size]? = some (L3 e ho v)) := Lib.hid (by rw [hW]; exact heap_alloc_new _ _)
  have HA : Hid (W.heap[w.heap.size]? = some (L3 e ho u)) := Lib.hid (by rw [hW]; exact keep_alloc _ HA2.out)
  have HP : Hid (W.heap[w.heap.size + 1]? = some (WP ho e)) := Lib.hid (by rw [hW]; exact keep_alloc _ HP2.out)
  have HN : Hid (W.heap[w.heap.size + 1 + 1]? = some (N2 now span)) := Lib.hid (by rw [hW]; exact keep_alloc _ HN2.out)
  have HB : Hid (Below w.heap.size w W) := Lib.hid (by rw [hW]; exact ((below_three hb1 (by simp <;> omega)).trans (hb2.mono (by omega))).alloc (by have := hb2.size; omega) _)
  rw [← hW]
  clear hW HA1 HP1 HN1 HA2 HP2 HN2 hb1 hb2 a10 a11 a12 p10 p11 n10 n11 lt1
  obtain ⟨a0, a1, a2⟩ := l3_cell HA.out
  obtain ⟨x0, x1, x2⟩ := l3_cell HX.out
  obtain ⟨n0, n1⟩ := n2_cell HN.out
  have hS : W.cell? ⟨w.heap.size, 0, none⟩ = some (.int .u64 e) ∧ W.cell? ⟨w.heap.size, 1, none⟩ = some (.int .i64 ho) ∧ W.cell? ⟨w.heap.size, 2, none⟩ = some (.int .i64 u) ∧ W.cell? ⟨w2.heap.size, 0, none⟩ = some (.int .u64 e) ∧ W.cell? ⟨w2.heap.size, 1, none⟩ = some (.int .i64 ho) ∧ W.cell? ⟨w2.heap.size, 2, none⟩ = some (.int .i64 v) ∧ W.cell? ⟨w.heap.size + 1 + 1, 0, none⟩ = some (.int .i64 now) ∧ W.cell? ⟨w.heap.size + 1 + 1, 1, none⟩ = some (.int .i64 span) := ⟨a0, a1, a2, x0, x1, x2, n0, n1⟩
  go_region_held3 (fun w' => w'.cell? ⟨w.heap.size, 0, none⟩ = some (.int .u64 e) ∧ w'.cell? ⟨w.heap.size, 1, none⟩ = some (.int .i64 ho) ∧ w'.cell? ⟨w.heap.size, 2, none⟩ = some (.int .i64 u) ∧ w'.cell? ⟨w2.heap.size, 0, none⟩ = some (.int .u64 e) ∧ w'.cell? ⟨w2.heap.size, 1, none⟩ = some (.int .i64 ho) ∧ w'.cell? ⟨w2.heap.size, 2, none⟩ = some (.int .i64 v) ∧ w'.cell? ⟨w.heap.size + 1 + 1, 0, none⟩ = some (.int .i64 now) ∧ w'.cell? ⟨w.heap.size + 1 + 1, 1, none⟩ = some (.int .i64 span)) (assumption) (first | (go_at_call 17; ((with_reducible refine (left_held e ho v now _ hm1 hh1 g1 hv1 hv2).mono ?_); rintro e1 w3 ⟨rfl, hb3⟩; have s3 := keepS hb3 (by assumption))) | (go_at_call 17; ((with_reducible refine (left_held e ho u now _ hm2 hh2 g1 g5 g6).mono ?_); rintro e1 w4 ⟨rfl, hb4⟩; have s4 := keepS hb4 (by assumption))))
  have HW : Hid (Below W.heap.size W w4) := Lib.hid ((below_drew hb3).trans (hb4.mono (below_drew hb3).size))
  have HA4 : Hid (w4.heap[w.heap.size]? = some (L3 e ho u)) := Lib.hid (keepW HW.out HA.out)
  have HX4 : Hid (w4.heap[w2.heap.size]? = some (L3 e ho v)) := Lib.hid (keepW HW.out HX.out)
  have HP4 : Hid (w4.heap[w.heap.size + 1]? = some (WP ho e)) := Lib.hid (keepW HW.out HP.out)
  have HN4 : Hid (w4.heap[w.heap.size + 1 + 1]? = some (N2 now span)) := Lib.hid (keepW HW.out HN.out)
  have HB4 : Hid (Below w.heap.size w w4) := Lib.hid (HB.out.trans (HW.out.mono HB.out.size))
  clear hS s3 s4 hb3 hb4
  clear a0 a1 a2 x0 x1 x2 n0 n1
  obtain ⟨a0, a1, a2⟩ := l3_cell HA4.out
  obtain ⟨x0, x1, x2⟩ := l3_cell HX4.out
  obtain ⟨p0, p1⟩ := wp_cell HP4.out
  obtain ⟨n0, n1⟩ := n2_cell HN4.out
  go_wp2_with (first | (go_at_call 14; ((with_reducible refine (yield_yes e ho u v now span _ g hv1 hv2).mono ?_); rintro e1 w5 ⟨rfl, hb5⟩; have HA5 : Hid (w5.heap[w.heap.size]? = some (L3 e ho u)) := Lib.hid (keepW hb5 HA4.out); have HP5 : Hid (w5.heap[w.heap.size + 1]? = some (WP ho e)) := Lib.hid (keepW hb5 HP4.out); have HN5 : Hid (w5.heap[w.heap.size + 1 + 1]? = some (N2 now span)) := Lib.hid (keepW hb5 HN4.out); obtain ⟨a50, a51, a52⟩ := l3_cell HA5.out; obtain ⟨p50, p51⟩ := wp_cell HP5.out; obtain ⟨n50, n51⟩ := n2_cell HN5.out; have lt5 := lt_of_block HN5.out; have lt5b := Nat.lt_of_succ_lt lt5; have lt5a := Nat.lt_of_succ_lt lt5b)) | (go_at_call 16; ((with_reducible refine (holds_no e ho now ho e now _ hm3 hh3).mono ?_); rintro e1 w6 ⟨rfl, hb6⟩; have HA6 : Hid (w6.heap[w.heap.size]? = some (L3 e ho u)) := Lib.hid (keepW hb6 (keep_alloc _ HA5.out)); have HP6 : Hid (w6.heap[w.heap.size + 1]? = some (WP ho e)) := Lib.hid (keepW hb6 (keep_alloc _ HP5.out)); have HN6 : Hid (w6.heap[w.heap.size + 1 + 1]? = some (N2 now span)) := Lib.hid (keepW hb6 (keep_alloc _ HN5.out)); have HY6 : Hid (w6.heap[w5.heap.size]? = some (L3 e ho now)) := Lib.hid (keepW hb6 (heap_alloc_new _ _)); obtain ⟨a60, a61, a62⟩ := l3_cell HA6.out; obtain ⟨p60, p61⟩ := wp_cell HP6.out; obtain ⟨n60, n61⟩ := n2_cell HN6.out; obtain ⟨y60, y61, y62⟩ := l3_cell HY6.out)) | (go_at_call 8; ((with_reducible refine (acquire_next e ho u now span _ _ g hw1 hw3 HXM.out).mono ?_); rintro e1 w7 ⟨rfl, hb7⟩; have HA7 : Hid (w7.heap[w.heap.size]? = some (L3 e ho u)) := Lib.hid (keepW hb7 HA6.out); have HP7 : Hid (w7.heap[w.heap.size + 1]? = some (WP ho e)) := Lib.hid (keepW hb7 HP6.out); obtain ⟨a70, a71, a72⟩ := l3_cell HA7.out; obtain ⟨p70, p71⟩ := wp_cell HP7.out; have lt7 := lt_of_block HP7.out; have lt7a := Nat.lt_of_succ_lt lt7)) | (go_at_call 18; ((with_reducible refine (stale_any (e + 1) (ho % 3 + 1) (now + span) e _ hm4).mono ?_); rintro e1 w8 ⟨rfl, hb8⟩)))
  go_ret
  refine ⟨ret_bool (by simp; omega), ?_⟩
  have z5 := HB4.out.size
  have z6 := hb5.size
  have z7 := hb6.size
  simp at z7
  have z8 := hb7.size
  exact ((((HB4.out.trans (hb5.mono z5)).trans (((Below.refl _ _).alloc (by omega) _).trans (hb6.mono (by simp; omega)))).trans (hb7.mono (by omega))).alloc (by omega) _).trans (hb8.mono (by simp; omega))

set_option maxHeartbeats 1000000 in
theorem walk_next_b (e ho u now span : Int) (w : World) (g : Goes e ho u now span) (hr : renE e ho u ho e now span = 0) (hx : ¬ e = 2147483647) (hsp : ¬ u - now < span) :
    Calls Try.prog 6 #[.agg #[.int .u64 e, .int .i64 ho, .int .i64 u], .agg #[.int .i64 ho, .int .u64 e], .agg #[.int .i64 now, .int .i64 span]] w fun e' w' => e' = .returned (.bool true) ∧ Below w.heap.size w w' := by
  have HR := Lib.hid hr
  have HXM := Lib.hid hx
  have hx' : (e == 2147483647) = false := by simpa using hx
  have hm4 : mayB (e + 1) (ho % 3 + 1) (now + span) = true := by
    have := g.e1; have := g.e2; have := g.n0; have := g.n1; have := g.s1; have := g.s2
    unfold mayB; rw [if_neg (by omega)]; simp; omega
  clear hr hx
  have g1 := g.n0; have g2 := g.n1; have g3 := g.s1; have g4 := g.s2; have g5 := g.nu; have g6 := g.u1
  obtain ⟨v, hv⟩ : ∃ v, v = later u (now + span) := ⟨_, rfl⟩
  have HV := Lib.hid hv
  have hv1 : now < v := by rw [hv]; exact g.later.1
  have hv2 : v ≤ 1099511627776 := by rw [hv]; exact g.later.2
  have hv3 : u ≤ v := by rw [hv]; unfold later; split <;> omega
  have hv4 : now + span ≤ v := by rw [hv]; unfold later; split <;> omega
  clear hv
  have hm1 : mayB e ho v = true := g.may (by omega) hv2
  have hh1 : heldB e v now = true := held_true.2 ⟨by have := g.e1; omega, hv1⟩
  have hm2 : mayB e ho u = true := g.may (by omega) g6
  have hh2 : heldB e u now = true := held_true.2 ⟨by have := g.e1; omega, g5⟩
  have hw1 : 1 ≤ ho % 3 + 1 := by omega
  have hw3 : ho % 3 + 1 ≤ 3 := by omega
  have gh1 := g.h1
  have gh3 := g.h3
  have ge1 := g.e1
  have ge2 := g.e2
  have hm3 : mayB e ho now = true := g.may g1 (by omega)
  have hh3 : heldB e now now = false := by simp [heldB]
  go_enter Try.func6, Try.ntmps6
  go_wp2_with (first | (go_at_call 7; refine (wakes_any _).mono ?_; rintro e1 w1 ⟨rfl, hb1⟩; have HA1 : Hid (w1.heap[w.heap.size]? = some (L3 e ho u)) := Lib.hid (keep hb1 (by simp <;> omega) (keep_alloc _ (new_first _ _ _))); have HP1 : Hid (w1.heap[w.heap.size + 1]? = some (WP ho e)) := Lib.hid (keep hb1 (by simp <;> omega) (keep_alloc _ (new_second _ _ _))); have HN1 : Hid (w1.heap[w.heap.size + 1 + 1]? = some (N2 now span)) := Lib.hid (keep hb1 (by simp) (new_third _ _ _ _)); obtain ⟨a10, a11, a12⟩ := l3_cell HA1.out; obtain ⟨p10, p11⟩ := wp_cell HP1.out; obtain ⟨n10, n11⟩ := n2_cell HN1.out; have lt1 := l3_lt HN1.out) | (go_at_call 12; refine (renew_yes _ _ _ _ _ _ g HR.out).mono ?_; rw [← HV.out]; rintro e1 w2 ⟨rfl, hb2⟩; have HA2 : Hid (w2.heap[w.heap.size]? = some (L3 e ho u)) := Lib.hid (keep hb2 (by omega) HA1.out); have HP2 : Hid (w2.heap[w.heap.size + 1]? = some (WP ho e)) := Lib.hid (keep hb2 (by omega) HP1.out); have HN2 : Hid (w2.heap[w.heap.size + 1 + 1]? = some (N2 now span)) := Lib.hid (keep hb2 lt1 HN1.out)))
  obtain ⟨W, hW⟩ : ∃ W, W = w2.alloc (.cells #[.int .u64 e, .int .i64 ho, .int .i64 v] 24) := ⟨_, rfl⟩
  have HX : Hid (W.heap[w2.heap.size]? = some (L3 e ho v)) := Lib.hid (by rw [hW]; exact heap_alloc_new _ _)
  have HA : Hid (W.heap[w.heap.size]? = some (L3 e ho u)) := Lib.hid (by rw [hW]; exact keep_alloc _ HA2.out)
  have HP : Hid (W.heap[w.heap.size + 1]? = some (WP ho e)) := Lib.hid (by rw [hW]; exact keep_alloc _ HP2.out)
  have HN : Hid (W.heap[w.heap.size + 1 + 1]? = some (N2 now span)) := Lib.hid (by rw [hW]; exact keep_alloc _ HN2.out)
  have HB : Hid (Below w.heap.size w W) := Lib.hid (by rw [hW]; exact ((below_three hb1 (by simp <;> omega)).trans (hb2.mono (by omega))).alloc (by have := hb2.size; omega) _)
  rw [← hW]
  clear hW HA1 HP1 HN1 HA2 HP2 HN2 hb1 hb2 a10 a11 a12 p10 p11 n10 n11 lt1
  obtain ⟨a0, a1, a2⟩ := l3_cell HA.out
  obtain ⟨x0, x1, x2⟩ := l3_cell HX.out
  obtain ⟨n0, n1⟩ := n2_cell HN.out
  have hS : W.cell? ⟨w.heap.size, 0, none⟩ = some (.int .u64 e) ∧ W.cell? ⟨w.heap.size, 1, none⟩ = some (.int .i64 ho) ∧ W.cell? ⟨w.heap.size, 2, none⟩ = some (.int .i64 u) ∧ W.cell? ⟨w2.heap.size, 0, none⟩ = some (.int .u64 e) ∧ W.cell? ⟨w2.heap.size, 1, none⟩ = some (.int .i64 ho) ∧ W.cell? ⟨w2.heap.size, 2, none⟩ = some (.int .i64 v) ∧ W.cell? ⟨w.heap.size + 1 + 1, 0, none⟩ = some (.int .i64 now) ∧ W.cell? ⟨w.heap.size + 1 + 1, 1, none⟩ = some (.int .i64 span) := ⟨a0, a1, a2, x0, x1, x2, n0, n1⟩
  go_region_held3 (fun w' => w'.cell? ⟨w.heap.size, 0, none⟩ = some (.int .u64 e) ∧ w'.cell? ⟨w.heap.size, 1, none⟩ = some (.int .i64 ho) ∧ w'.cell? ⟨w.heap.size, 2, none⟩ = some (.int .i64 u) ∧ w'.cell? ⟨w2.heap.size, 0, none⟩ = some (.int .u64 e) ∧ w'.cell? ⟨w2.heap.size, 1, none⟩ = some (.int .i64 ho) ∧ w'.cell? ⟨w2.heap.size, 2, none⟩ = some (.int .i64 v) ∧ w'.cell? ⟨w.heap.size + 1 + 1, 0, none⟩ = some (.int .i64 now) ∧ w'.cell? ⟨w.heap.size + 1 + 1, 1, none⟩ = some (.int .i64 span)) (assumption) (first | (go_at_call 17; ((with_reducible refine (left_held e ho v now _ hm1 hh1 g1 hv1 hv2).mono ?_); rintro e1 w3 ⟨rfl, hb3⟩; have s3 := keepS hb3 (by assumption))) | (go_at_call 17; ((with_reducible refine (left_held e ho u now _ hm2 hh2 g1 g5 g6).mono ?_); rintro e1 w4 ⟨rfl, hb4⟩; have s4 := keepS hb4 (by assumption))))
  have HW : Hid (Below W.heap.size W w4) := Lib.hid ((below_drew hb3).trans (hb4.mono (below_drew hb3).size))
  have HA4 : Hid (w4.heap[w.heap.size]? = some (L3 e ho u)) := Lib.hid (keepW HW.out HA.out)
  have HX4 : Hid (w4.heap[w2.heap.size]? = some (L3 e ho v)) := Lib.hid (keepW HW.out HX.out)
  have HP4 : Hid (w4.heap[w.heap.size + 1]? = some (WP ho e)) := Lib.hid (keepW HW.out HP.out)
  have HN4 : Hid (w4.heap[w.heap.size + 1 + 1]? = some (N2 now span)) := Lib.hid (keepW HW.out HN.out)
  have HB4 : Hid (Below w.heap.size w w4) := Lib.hid (HB.out.trans (HW.out.mono HB.out.size))
  clear hS s3 s4 hb3 hb4
  clear a0 a1 a2 x0 x1 x2 n0 n1
  obtain ⟨a0, a1, a2⟩ := l3_cell HA4.out
  obtain ⟨x0, x1, x2⟩ := l3_cell HX4.out
  obtain ⟨p0, p1⟩ := wp_cell HP4.out
  obtain ⟨n0, n1⟩ := n2_cell HN4.out
  go_wp2_with (first | (go_at_call 14; ((with_reducible refine (yield_yes e ho u v now span _ g hv1 hv2).mono ?_); rintro e1 w5 ⟨rfl, hb5⟩; have HA5 : Hid (w5.heap[w.heap.size]? = some (L3 e ho u)) := Lib.hid (keepW hb5 HA4.out); have HP5 : Hid (w5.heap[w.heap.size + 1]? = some (WP ho e)) := Lib.hid (keepW hb5 HP4.out); have HN5 : Hid (w5.heap[w.heap.size + 1 + 1]? = some (N2 now span)) := Lib.hid (keepW hb5 HN4.out); obtain ⟨a50, a51, a52⟩ := l3_cell HA5.out; obtain ⟨p50, p51⟩ := wp_cell HP5.out; obtain ⟨n50, n51⟩ := n2_cell HN5.out; have lt5 := lt_of_block HN5.out; have lt5b := Nat.lt_of_succ_lt lt5; have lt5a := Nat.lt_of_succ_lt lt5b)) | (go_at_call 16; ((with_reducible refine (holds_no e ho now ho e now _ hm3 hh3).mono ?_); rintro e1 w6 ⟨rfl, hb6⟩; have HA6 : Hid (w6.heap[w.heap.size]? = some (L3 e ho u)) := Lib.hid (keepW hb6 (keep_alloc _ HA5.out)); have HP6 : Hid (w6.heap[w.heap.size + 1]? = some (WP ho e)) := Lib.hid (keepW hb6 (keep_alloc _ HP5.out)); have HN6 : Hid (w6.heap[w.heap.size + 1 + 1]? = some (N2 now span)) := Lib.hid (keepW hb6 (keep_alloc _ HN5.out)); have HY6 : Hid (w6.heap[w5.heap.size]? = some (L3 e ho now)) := Lib.hid (keepW hb6 (heap_alloc_new _ _)); obtain ⟨a60, a61, a62⟩ := l3_cell HA6.out; obtain ⟨p60, p61⟩ := wp_cell HP6.out; obtain ⟨n60, n61⟩ := n2_cell HN6.out; obtain ⟨y60, y61, y62⟩ := l3_cell HY6.out)) | (go_at_call 8; ((with_reducible refine (acquire_next e ho u now span _ _ g hw1 hw3 HXM.out).mono ?_); rintro e1 w7 ⟨rfl, hb7⟩; have HA7 : Hid (w7.heap[w.heap.size]? = some (L3 e ho u)) := Lib.hid (keepW hb7 HA6.out); have HP7 : Hid (w7.heap[w.heap.size + 1]? = some (WP ho e)) := Lib.hid (keepW hb7 HP6.out); obtain ⟨a70, a71, a72⟩ := l3_cell HA7.out; obtain ⟨p70, p71⟩ := wp_cell HP7.out; have lt7 := lt_of_block HP7.out; have lt7a := Nat.lt_of_succ_lt lt7)) | (go_at_call 18; ((with_reducible refine (stale_any (e + 1) (ho % 3 + 1) (now + span) e _ hm4).mono ?_); rintro e1 w8 ⟨rfl, hb8⟩)))
  go_ret
  refine ⟨ret_bool (by simp; omega), ?_⟩
  have z5 := HB4.out.size
  have z6 := hb5.size
  have z7 := hb6.size
  simp at z7
  have z8 := hb7.size
  exact ((((HB4.out.trans (hb5.mono z5)).trans (((Below.refl _ _).alloc (by omega) _).trans (hb6.mono (by simp; omega)))).trans (hb7.mono (by omega))).alloc (by omega) _).trans (hb8.mono (by simp; omega))

theorem walk (e h u who ep now span : Int) (w : World) (he : 0 ≤ e) :
    Calls Try.prog 6 #[.agg #[.int .u64 e, .int .i64 h, .int .i64 u], .agg #[.int .i64 who, .int .u64 ep], .agg #[.int .i64 now, .int .i64 span]] w fun e' w' => e' = .returned (.bool true) ∧ Below w.heap.size w w' := by
  by_cases hr : renE e h u who ep now span = 0
  · obtain ⟨rfl, rfl, g⟩ := ren_goes he hr
    by_cases hx : ep = 2147483647
    · by_cases hsp : u - now < span
      · exact walk_full_a ep who u now span w g hr hx hsp
      · exact walk_full_b ep who u now span w g hr hx hsp
    · by_cases hsp : u - now < span
      · exact walk_next_a ep who u now span w g hr hx hsp
      · exact walk_next_b ep who u now span w g hr hx hsp
  · exact walk_no e h u who ep now span w he hr

theorem own : ownKnob Try.prog.godebug = none := by kernel_rfl
theorem laidOut : laidOutB Try.prog = true := by kernel_rfl
theorem cells24 : Try.prog.cellsOf 24 = 3 := by kernel_rfl
theorem cells35 : Try.prog.cellsOf 35 = 2 := by kernel_rfl
theorem cells26 : Try.prog.cellsOf 26 = 2 := by kernel_rfl

set_option maxRecDepth 100000 in
theorem lifted (os : Os) (started : os.Started) (H : Type) (enc : TypeId × Value → H) :
    ReturnsInHanded {} Try.checked os 6 .any (Rows.leaseKeepsSpec.pre6 enc Try.prog Try.f6 Rows.leaseKeepsRow.domain false) (Rows.leaseKeepsSpec.post enc Try.prog Try.f6 false true false false) := by
  refine returnsInHanded_of_change (C := Try.checked) own started (by kernel_rfl) Try.func6
    (ChangeSpec.witness6 (enc := enc) (C := Try.checked) false ⟨#[], #[.agg #[.int .u64 0, .int .i64 0, .int .i64 0], .agg #[.int .i64 0, .int .u64 0], .agg #[.int .i64 0, .int .i64 0]], []⟩ 8 (by kernel_rfl) (by kernel_rfl) (by kernel_rfl) (by kernel_rfl)) ?_
  intro W base args ds gs before hval0 hW hcnd _
  have hval : ∀ (j : Nat) t v, Try.f6.params[j]? = some t → args[j]? = some v → Value.okWide Try.prog W .any base t v := hval0
  have hW' := hW
  obtain ⟨p, q, hA0, hV, rfl, hfz, hnd⟩ := hW
  have hA : DataW.TrodAll enc Try.prog W 0 (fun _ => true) true Try.f6.params.toList args.toList ds p := hA0
  rw [Try.params6] at hA hval
  obtain ⟨v0, vs0, d0, ds0, p0, q0, hargs, rfl, rfl, h0, r0⟩ := trodAll_cons hA
  obtain ⟨v1, vs1, d1, ds1, p1, q1, rfl, rfl, rfl, h1, r1⟩ := trodAll_cons r0
  obtain ⟨v2, vs2, d2, ds2, p2, q2, rfl, rfl, rfl, h2, r2⟩ := trodAll_cons r1
  obtain ⟨rfl, rfl, rfl⟩ := trodAll_nil r2
  obtain rfl : args = #[v0, v1, v2] := by cases args; simp_all
  obtain ⟨rfl, rfl⟩ := trodVars_none hV
  have k0 := h0
  have k1 := h1
  have k2 := h2
  have lt0 : ∀ x ∈ p0, x.block < W.heap.size := by obtain ⟨m, hm⟩ := k0; exact DataW.trod_lt m _ _ _ hm
  have lt1 : ∀ x ∈ p1, x.block < W.heap.size := by obtain ⟨m, hm⟩ := k1; exact DataW.trod_lt m _ _ _ hm
  have lt2 : ∀ x ∈ p2, x.block < W.heap.size := by obtain ⟨m, hm⟩ := k2; exact DataW.trod_lt m _ _ _ hm
  obtain ⟨a0, e0⟩ : ∃ a0 : Int × Int × Int, v0 = .agg #[.int .u64 a0.1, .int .i64 a0.2.1, .int .i64 a0.2.2] ∧ 0 ≤ a0.1 := by
    obtain ⟨c0, c1, c2, y0, y1, y2, m, rfl, _, _, hy0, hy1, hy2⟩ := open_agg3 Try.underlying24 (by kernel_rfl) cells24 (hval 0 24 v0 rfl rfl) h0
    obtain ⟨a, ea, _, wa⟩ := DataW.trod_int Try.underlying22 hy0
    obtain ⟨b, eb, _, wb⟩ := DataW.trod_int Try.underlying3 hy1
    obtain ⟨c, ec, _, wc⟩ := DataW.trod_int Try.underlying2 hy2
    simp at ea eb ec
    subst ea eb ec
    exact ⟨(a, b, c), rfl, (bounds_u64 wa).1⟩
  obtain ⟨a1, e1⟩ : ∃ a1 : Int × Int, v1 = .agg #[.int .i64 a1.1, .int .u64 a1.2] ∧ -9223372036854775808 ≤ a1.1 ∧ a1.1 ≤ 9223372036854775807 := by
    obtain ⟨c0, c1, y0, y1, m, rfl, _, _, hy0, hy1⟩ := open_agg2 Try.underlying35 (by kernel_rfl) cells35 (hval 1 35 v1 rfl rfl) h1
    obtain ⟨a, ea, _, wa⟩ := DataW.trod_int Try.underlying3 hy0
    obtain ⟨b, eb, _, wb⟩ := DataW.trod_int Try.underlying22 hy1
    simp at ea eb
    subst ea eb
    exact ⟨(a, b), rfl, bounds_i64 wa⟩
  obtain ⟨a2, e2⟩ : ∃ a2 : Int × Int, v2 = .agg #[.int .i64 a2.1, .int .i64 a2.2] := by
    obtain ⟨c0, c1, y0, y1, m, rfl, _, _, hy0, hy1⟩ := open_agg2 Try.underlying26 (by kernel_rfl) cells26 (hval 2 26 v2 rfl rfl) h2
    obtain ⟨a, ea, _, wa⟩ := DataW.trod_int Try.underlying2 hy0
    obtain ⟨b, eb, _, wb⟩ := DataW.trod_int Try.underlying2 hy1
    simp at ea eb
    subst ea eb
    exact ⟨(a, b), rfl⟩
  obtain ⟨rfl, he⟩ := e0
  obtain ⟨rfl, hlo, hhi⟩ := e1
  subst e2
  clear hA0 hval0
  refine (walk a0.1 a0.2.1 a0.2.2 a1.1 a1.2 a2.1 a2.2 W he).mono fun e W' ⟨he, bel⟩ => ?_
  subst he
  exact ⟨_, rfl, _, _, _, [], _, [], hW', trodAll_mk1 (shut_bool Try.underlying4 _), (trodAll_cons_mk (Below.trod laidOut (by kernel_rfl) (of_decide_eq_true (by kernel_rfl)) k0 bel lt0) (trodAll_cons_mk (Below.trod laidOut (by kernel_rfl) (of_decide_eq_true (by kernel_rfl)) k1 bel lt1) (trodAll_cons_mk (Below.trod laidOut (by kernel_rfl) (of_decide_eq_true (by kernel_rfl)) k2 bel lt2) trodAll_mk0))), rfl, bel.frame _, fun h => by cases h⟩

theorem over : Rows.leaseKeepsRow.holds Try.pinned (OpenSpec.ofChange Rows.leaseKeepsSpec) :=
  OpenClaim.holds_of_wide 6 Try.f6 rfl rfl rfl rfl rfl rfl rfl ⟨rfl, rfl, rfl, rfl, rfl⟩ rfl rfl rfl rfl rfl (by kernel_rfl) Try.func6 (by kernel_rfl)
    (of_decide_eq_true (by kernel_rfl)) (by unfold Func.isWrapper; first | (rw [if_pos (by decide +kernel)]; kernel_rfl) | (rw [if_neg (by decide +kernel)]; exact ⟨rfl, rfl⟩))
    (fun os started H enc _ => lifted os started H enc)

end Go.Proofs.Ytgmmmbicnjjalaa.leaseKeeps
namespace Go.Proofs.Ytgmmmbicnjjalaa
theorem leaseKeeps_holds : Rows.LeaseKeepsSaid := leaseKeeps.over
#print axioms leaseKeeps_holds
end Go.Proofs.Ytgmmmbicnjjalaa
