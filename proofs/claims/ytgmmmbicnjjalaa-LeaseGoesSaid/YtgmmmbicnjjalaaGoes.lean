/-
  Proved: 'LeaseGoes' (P21.3) returns true for every lease, manager, epoch, tick and span, and leaves its arguments as they were. Conditions: none but those of the given row.
-/
import Derived.Test.YtgmmmbicnjjalaaEight
import Derived.Test.YtgmmmbicnjjalaaNine
import Derived.ChangeOld
import Derived.Lib.SmallJoins
namespace Go.Proofs.Ytgmmmbicnjjalaa.leaseGoes
open Go.ChangeShapes Go.WideShapes Go.ChangeAt Go.RowKit Go.Joins
set_option linter.unusedVariables false

set_option maxHeartbeats 800000 in
theorem walk (e h u who ep now span : Int) (w : World) (he : 0 ≤ e) :
    Calls Try.prog 4 #[.agg #[.int .u64 e, .int .i64 h, .int .i64 u], .agg #[.int .i64 who, .int .u64 ep], .agg #[.int .i64 now, .int .i64 span]] w fun e' w' => e' = .returned (.bool true) ∧ Below w.heap.size w w' := by
  have HE := Lib.hid he
  clear he
  go_enter Try.func4, Try.ntmps4
  go_wp2_with (first | (go_at_call 7; refine (wakes_any _).mono ?_; rintro e1 w1 ⟨rfl, hb1⟩; have HA1 : Hid (w1.heap[w.heap.size]? = some (L3 e h u)) := Lib.hid (keep hb1 (by simp <;> omega) (keep_alloc _ (new_first _ _ _))); have HP1 : Hid (w1.heap[w.heap.size + 1]? = some (WP who ep)) := Lib.hid (keep hb1 (by simp <;> omega) (keep_alloc _ (new_second _ _ _))); have HN1 : Hid (w1.heap[w.heap.size + 1 + 1]? = some (N2 now span)) := Lib.hid (keep hb1 (by simp) (new_third _ _ _ _)); obtain ⟨a10, a11, a12⟩ := l3_cell HA1.out; obtain ⟨p10, p11⟩ := wp_cell HP1.out; obtain ⟨n10, n11⟩ := n2_cell HN1.out; have lt1 := l3_lt HN1.out) | (go_at_call 12; refine (renew_any _ _ _ _ _ _ _ _ HE.out).mono ?_; rintro e1 w2 ⟨rfl, hb2⟩; have HA2 : Hid (w2.heap[w.heap.size]? = some (L3 e h u)) := Lib.hid (keep hb2 (by omega) HA1.out); have HP2 : Hid (w2.heap[w.heap.size + 1]? = some (WP who ep)) := Lib.hid (keep hb2 (by omega) HP1.out); have HN2 : Hid (w2.heap[w.heap.size + 1 + 1]? = some (N2 now span)) := Lib.hid (keep hb2 (by omega) HN1.out); obtain ⟨a20, a21, a22⟩ := l3_cell HA2.out; obtain ⟨p20, p21⟩ := wp_cell HP2.out; obtain ⟨n20, n21⟩ := n2_cell HN2.out; have lt2 := l3_lt HN2.out; have lt2b := Nat.lt_of_succ_lt lt2; have lt2a := Nat.lt_of_succ_lt lt2b) | (go_at_call 13; refine (rrenew_any _ _ _ _ _ _ _ _).mono ?_; rintro e1 w3 ⟨rfl, hb3⟩; have HA3 : Hid (w3.heap[w.heap.size]? = some (L3 e h u)) := Lib.hid (keep hb3 (by simp <;> omega) (keep_alloc _ HA2.out)); have HP3 : Hid (w3.heap[w.heap.size + 1]? = some (WP who ep)) := Lib.hid (keep hb3 (by simp <;> omega) (keep_alloc _ HP2.out)); have HN3 : Hid (w3.heap[w.heap.size + 1 + 1]? = some (N2 now span)) := Lib.hid (keep hb3 (by simp <;> omega) (keep_alloc _ HN2.out)); have HX3 : Hid (w3.heap[w2.heap.size]? = some (L3 (rnE e h u who ep now span) (rnH e h u who ep now span) (rnU e h u who ep now span))) := Lib.hid (keep hb3 (by simp) (heap_alloc_new _ _)); obtain ⟨a30, a31, a32⟩ := l3_cell HA3.out; obtain ⟨p30, p31⟩ := wp_cell HP3.out; obtain ⟨n30, n31⟩ := n2_cell HN3.out; have lt3 := l3_lt HN3.out; have lt3b := Nat.lt_of_succ_lt lt3; have lt3a := Nat.lt_of_succ_lt lt3b; have lx3 := l3_lt HX3.out) | (go_at_call 14; refine (yield_any _ _ _ _ _ _ _ HE.out).mono ?_; rintro e1 w4 ⟨rfl, hb4⟩; have HA4 : Hid (w4.heap[w.heap.size]? = some (L3 e h u)) := Lib.hid (keep hb4 (by simp <;> omega) (keep_alloc _ HA3.out)); have HP4 : Hid (w4.heap[w.heap.size + 1]? = some (WP who ep)) := Lib.hid (keep hb4 (by simp <;> omega) (keep_alloc _ HP3.out)); have HN4 : Hid (w4.heap[w.heap.size + 1 + 1]? = some (N2 now span)) := Lib.hid (keep hb4 (by simp <;> omega) (keep_alloc _ HN3.out)); have HX4 : Hid (w4.heap[w2.heap.size]? = some (L3 (rnE e h u who ep now span) (rnH e h u who ep now span) (rnU e h u who ep now span))) := Lib.hid (keep hb4 (by simp <;> omega) (keep_alloc _ HX3.out)); have HY4 : Hid (w4.heap[w3.heap.size]? = some (L3 (rnE e h u who ep now span) (rnH e h u who ep now span) (rnU e h u who ep now span))) := Lib.hid (keep hb4 (by simp) (heap_alloc_new _ _)); obtain ⟨a40, a41, a42⟩ := l3_cell HA4.out; obtain ⟨p40, p41⟩ := wp_cell HP4.out; obtain ⟨n40, n41⟩ := n2_cell HN4.out; have lt4 := l3_lt HN4.out; have lt4b := Nat.lt_of_succ_lt lt4; have lt4a := Nat.lt_of_succ_lt lt4b; have lx4 := l3_lt HX4.out; have ly4 := l3_lt HY4.out) | (go_at_call 15; refine (ryield_any _ _ _ _ _ _ _).mono ?_; rintro e1 w5 ⟨rfl, hb5⟩; have HX5 : Hid (w5.heap[w2.heap.size]? = some (L3 (rnE e h u who ep now span) (rnH e h u who ep now span) (rnU e h u who ep now span))) := Lib.hid (keep hb5 (by simp <;> omega) (keep_alloc _ HX4.out)); have HY5 : Hid (w5.heap[w3.heap.size]? = some (L3 (rnE e h u who ep now span) (rnH e h u who ep now span) (rnU e h u who ep now span))) := Lib.hid (keep hb5 (by simp <;> omega) (keep_alloc _ HY4.out)); have HV5 : Hid (w5.heap[w4.heap.size]? = some (L3 (ylE e h u who ep now) (ylH e h u who ep now) (ylU e h u who ep now))) := Lib.hid (keep hb5 (by simp) (heap_alloc_new _ _)); obtain ⟨x50, x51, x52⟩ := l3_cell HX5.out; obtain ⟨y50, y51, y52⟩ := l3_cell HY5.out; obtain ⟨v50, v51, v52⟩ := l3_cell HV5.out; have lx5 := l3_lt HX5.out; have ly5 := l3_lt HY5.out; have lv5 := l3_lt HV5.out))
  go_ret
  have s1 : w.heap.size ≤ w1.heap.size := by omega
  have s2 : w.heap.size ≤ w2.heap.size := by omega
  have s3 : w.heap.size ≤ w3.heap.size := by omega
  have s4 : w.heap.size ≤ w4.heap.size := by omega
  have s5 : w.heap.size ≤ w5.heap.size := by have := hb5.size; simp at this; omega
  exact ⟨rfl, (((((below_three hb1 (by simp <;> omega)).trans (hb2.mono s1)).trans (((Below.refl _ _).alloc s2 _).trans (hb3.mono (by simp <;> omega)))).trans (((Below.refl _ _).alloc s3 _).trans (hb4.mono (by simp <;> omega)))).trans (((Below.refl _ _).alloc s4 _).trans (hb5.mono (by simp <;> omega)))).alloc s5 _⟩

theorem own : ownKnob Try.prog.godebug = none := by kernel_rfl
theorem laidOut : laidOutB Try.prog = true := by kernel_rfl
theorem cells24 : Try.prog.cellsOf 24 = 3 := by kernel_rfl
theorem cells35 : Try.prog.cellsOf 35 = 2 := by kernel_rfl
theorem cells26 : Try.prog.cellsOf 26 = 2 := by kernel_rfl

set_option maxRecDepth 100000 in
theorem lifted (os : Os) (started : os.Started) (H : Type) (enc : TypeId × Value → H) :
    ReturnsInHanded {} Try.checked os 4 .any (Rows.leaseGoesSpec.pre6 enc Try.prog Try.f4 Rows.leaseGoesRow.domain false) (Rows.leaseGoesSpec.post enc Try.prog Try.f4 false true false false) := by
  refine returnsInHanded_of_change (C := Try.checked) own started (by kernel_rfl) Try.func4
    (ChangeSpec.witness6 (enc := enc) (C := Try.checked) false ⟨#[], #[.agg #[.int .u64 0, .int .i64 0, .int .i64 0], .agg #[.int .i64 0, .int .u64 0], .agg #[.int .i64 0, .int .i64 0]], []⟩ 8 (by kernel_rfl) (by kernel_rfl) (by kernel_rfl) (by kernel_rfl)) ?_
  intro W base args ds gs before hval0 hW hcnd _
  have hval : ∀ (j : Nat) t v, Try.f4.params[j]? = some t → args[j]? = some v → Value.okWide Try.prog W .any base t v := hval0
  have hW' := hW
  obtain ⟨p, q, hA0, hV, rfl, hfz, hnd⟩ := hW
  have hA : DataW.TrodAll enc Try.prog W 0 (fun _ => true) true Try.f4.params.toList args.toList ds p := hA0
  rw [Try.params4] at hA hval
  obtain ⟨v0, vs0, d0, ds0, p0, q0, hargs, rfl, rfl, h0, r0⟩ := trodAll_cons hA
  obtain ⟨v1, vs1, d1, ds1, p1, q1, rfl, rfl, rfl, h1, r1⟩ := trodAll_cons r0
  obtain ⟨v2, vs2, d2, ds2, p2, q2, rfl, rfl, rfl, h2, r2⟩ := trodAll_cons r1
  obtain ⟨rfl, rfl, rfl⟩ := trodAll_nil r2
  obtain rfl : args = #[v0, v1, v2] := by cases args; simp_all
  obtain ⟨rfl, rfl⟩ := trodVars_none hV
  have k0 := h0
  have k1 := h1
  have k2 := h2
  have lt0 : ∀ x ∈ p0, x.block < W.heap.size := by obtain ⟨m, hm⟩ := k0; exact DataW.trod_lt m _ _ _ hm
  have lt1 : ∀ x ∈ p1, x.block < W.heap.size := by obtain ⟨m, hm⟩ := k1; exact DataW.trod_lt m _ _ _ hm
  have lt2 : ∀ x ∈ p2, x.block < W.heap.size := by obtain ⟨m, hm⟩ := k2; exact DataW.trod_lt m _ _ _ hm
  obtain ⟨a0, e0⟩ : ∃ a0 : Int × Int × Int, v0 = .agg #[.int .u64 a0.1, .int .i64 a0.2.1, .int .i64 a0.2.2] ∧ 0 ≤ a0.1 := by
    obtain ⟨c0, c1, c2, y0, y1, y2, m, rfl, _, _, hy0, hy1, hy2⟩ := open_agg3 Try.underlying24 (by kernel_rfl) cells24 (hval 0 24 v0 rfl rfl) h0
    obtain ⟨a, ea, _, wa⟩ := DataW.trod_int Try.underlying22 hy0
    obtain ⟨b, eb, _, wb⟩ := DataW.trod_int Try.underlying3 hy1
    obtain ⟨c, ec, _, wc⟩ := DataW.trod_int Try.underlying2 hy2
    simp at ea eb ec
    subst ea eb ec
    exact ⟨(a, b, c), rfl, (bounds_u64 wa).1⟩
  obtain ⟨a1, e1⟩ : ∃ a1 : Int × Int, v1 = .agg #[.int .i64 a1.1, .int .u64 a1.2] ∧ -9223372036854775808 ≤ a1.1 ∧ a1.1 ≤ 9223372036854775807 := by
    obtain ⟨c0, c1, y0, y1, m, rfl, _, _, hy0, hy1⟩ := open_agg2 Try.underlying35 (by kernel_rfl) cells35 (hval 1 35 v1 rfl rfl) h1
    obtain ⟨a, ea, _, wa⟩ := DataW.trod_int Try.underlying3 hy0
    obtain ⟨b, eb, _, wb⟩ := DataW.trod_int Try.underlying22 hy1
    simp at ea eb
    subst ea eb
    exact ⟨(a, b), rfl, bounds_i64 wa⟩
  obtain ⟨a2, e2⟩ : ∃ a2 : Int × Int, v2 = .agg #[.int .i64 a2.1, .int .i64 a2.2] := by
    obtain ⟨c0, c1, y0, y1, m, rfl, _, _, hy0, hy1⟩ := open_agg2 Try.underlying26 (by kernel_rfl) cells26 (hval 2 26 v2 rfl rfl) h2
    obtain ⟨a, ea, _, wa⟩ := DataW.trod_int Try.underlying2 hy0
    obtain ⟨b, eb, _, wb⟩ := DataW.trod_int Try.underlying2 hy1
    simp at ea eb
    subst ea eb
    exact ⟨(a, b), rfl⟩
  obtain ⟨rfl, he⟩ := e0
  obtain ⟨rfl, hlo, hhi⟩ := e1
  subst e2
  clear hA0 hval0
  refine (walk a0.1 a0.2.1 a0.2.2 a1.1 a1.2 a2.1 a2.2 W he).mono fun e W' ⟨he, bel⟩ => ?_
  subst he
  exact ⟨_, rfl, _, _, _, [], _, [], hW', trodAll_mk1 (shut_bool Try.underlying4 _), (trodAll_cons_mk (Below.trod laidOut (by kernel_rfl) (of_decide_eq_true (by kernel_rfl)) k0 bel lt0) (trodAll_cons_mk (Below.trod laidOut (by kernel_rfl) (of_decide_eq_true (by kernel_rfl)) k1 bel lt1) (trodAll_cons_mk (Below.trod laidOut (by kernel_rfl) (of_decide_eq_true (by kernel_rfl)) k2 bel lt2) trodAll_mk0))), rfl, bel.frame _, fun h => by cases h⟩

theorem over : Rows.leaseGoesRow.holds Try.pinned (OpenSpec.ofChange Rows.leaseGoesSpec) :=
  OpenClaim.holds_of_wide 4 Try.f4 rfl rfl rfl rfl rfl rfl rfl ⟨rfl, rfl, rfl, rfl, rfl⟩ rfl rfl rfl rfl rfl (by kernel_rfl) Try.func4 (by kernel_rfl)
    (of_decide_eq_true (by kernel_rfl)) (by unfold Func.isWrapper; first | (rw [if_pos (by decide +kernel)]; kernel_rfl) | (rw [if_neg (by decide +kernel)]; exact ⟨rfl, rfl⟩))
    (fun os started H enc _ => lifted os started H enc)

end Go.Proofs.Ytgmmmbicnjjalaa.leaseGoes
namespace Go.Proofs.Ytgmmmbicnjjalaa
theorem leaseGoes_holds : Rows.LeaseGoesSaid := leaseGoes.over
#print axioms leaseGoes_holds
end Go.Proofs.Ytgmmmbicnjjalaa
