/-
  The walks of layer 21's functions (lease), at the seat's numbers: a change of a lease, by whatever closure.
-/
import Derived.Test.YtgmmmbicnjjalaaThree
namespace Go.Proofs.Ytgmmmbicnjjalaa
open Go.ChangeShapes Go.WideShapes Go.ChangeAt Go.RowKit

def Z3 : Obj := .cells #[.int .u64 0, .int .i64 0, .int .i64 0] 24 (0, 0)
theorem two_new (w : World) (e h u : Int) : ((w.alloc (.cells #[.int .u64 e, .int .i64 h, .int .i64 u] 24)).alloc (.cells #[.int .u64 0, .int .i64 0, .int .i64 0] 24)).heap[w.heap.size]? = some (L3 e h u) := by
  rw [Below.heap_alloc _ _ _ (by simp)]; exact heap_alloc_new _ _
theorem below_two {w w1 : World} {o1 o2 : Obj} {B : Nat} (hb : Below B ((w.alloc o1).alloc o2) w1) (hB : w.heap.size ≤ B) : Below w.heap.size w w1 :=
  (((Below.refl _ _).alloc (Nat.le_refl _) _).alloc (by simp) _).trans (hb.mono hB)

theorem z3_after {w w1 w2 : World} {e h u : Int} {B : Nat} (hb : Below B ((w.alloc (.cells #[.int .u64 e, .int .i64 h, .int .i64 u] 24)).alloc (.cells #[.int .u64 0, .int .i64 0, .int .i64 0] 24)) w1) (hB : B = w.heap.size + 1 + 1) (ho : Only w.heap.size w1 w2) :
    w2.heap[w.heap.size + 1]? = some (L3 0 0 0) := by
  have h1 := hb.size
  simp at h1
  rw [ho.block _ (by omega) (by omega), hb.block _ (by omega)]
  have := heap_alloc_new (w.alloc (.cells #[.int .u64 e, .int .i64 h, .int .i64 u] 24)) (.cells #[.int .u64 0, .int .i64 0, .int .i64 0] 24)
  rwa [show (w.alloc (.cells #[.int .u64 e, .int .i64 h, .int .i64 u] 24)).heap.size = w.heap.size + 1 from by simp] at this

theorem change_no (e h u who now span : Int) (F : Value) (w : World) (hm : mayB e h u = false) :
    Calls Try.prog 19 #[.agg #[.int .u64 e, .int .i64 h, .int .i64 u], .int .i64 who, .int .i64 now, .int .i64 span, F] w fun e' w' =>
      e' = .returned (.tuple #[.agg #[.int .u64 0, .int .i64 0, .int .i64 0], .int .i64 310]) ∧ Below w.heap.size w w' := by
  go_enter Try.func19, Try.ntmps19
  go_wp2_with (go_at_call 23; refine (mayBe_any _ _ _ _).mono ?_; rintro e1 w1 ⟨rfl, hb1⟩; obtain ⟨hc1, hf1⟩ := bcell hb1)
  refine bodyPost_ret (v := .tuple #[.agg #[.int .u64 0, .int .i64 0, .int .i64 0], .int .i64 310]) ?_ rfl ⟨rfl, ?_⟩
  · go_light
    simp [results, Try.results19, go_sem, *]
  · have hB := below_two hb1 (by simp; omega)
    go_light
    repeat (first | exact hB | refine Below.setCell ?_ (by simp) _)

theorem change_arg (e h u who now span : Int) (F : Value) (w : World) (hm : mayB e h u = true) (ha : argB who now span = false) :
    Calls Try.prog 19 #[.agg #[.int .u64 e, .int .i64 h, .int .i64 u], .int .i64 who, .int .i64 now, .int .i64 span, F] w fun e' w' =>
      e' = .returned (.tuple #[.agg #[.int .u64 0, .int .i64 0, .int .i64 0], .int .i64 2]) ∧ Below w.heap.size w w' := by
  rcases arg_false ha with q | ⟨q1, q⟩ | ⟨q1, q2, q⟩ | ⟨q1, q2, q3, q⟩ | ⟨q1, q2, q3, q4, q⟩ | ⟨q1, q2, q3, q4, q5, q⟩
  all_goals
    clear ha
    go_enter Try.func19, Try.ntmps19
    go_wp2_with (first | (go_at_call 23; refine (mayBe_any _ _ _ _).mono ?_; rintro e1 w1 ⟨rfl, hb1⟩; obtain ⟨hc1, hf1⟩ := bcell hb1) | (go_at_call 27; go_in))
    refine bodyPost_ret (v := .tuple #[.agg #[.int .u64 0, .int .i64 0, .int .i64 0], .int .i64 2]) ?_ rfl ⟨rfl, ?_⟩
    · go_light
      simp [results, Try.results19, go_sem, *]
    · have hB := below_two hb1 (by simp; omega)
      go_light
      repeat (first | exact hB | refine Below.setCell ?_ (by simp) _)

theorem change20_err (e h u who now span k : Int) (c0 c1 c2 : Value) (w : World) (hm : mayB e h u = true) (ha : argB who now span = true) (hk : ¬ k = 0)
    (hF : ∀ (w1 : World), Below w.heap.size w w1 → w1.heap[w.heap.size]? = some (L3 e h u) → Calls Try.prog 20 #[.pointer (some ⟨w.heap.size, 0, none⟩), c0, c1, c2] w1 fun e' w' => e' = .returned (.int .i64 k) ∧ Below w1.heap.size w1 w') :
    Calls Try.prog 19 #[.agg #[.int .u64 e, .int .i64 h, .int .i64 u], .int .i64 who, .int .i64 now, .int .i64 span, .func (.func 20) #[] #[c0, c1, c2]] w fun e' w' =>
      e' = .returned (.tuple #[.agg #[.int .u64 0, .int .i64 0, .int .i64 0], .int .i64 k]) ∧ Below w.heap.size w w' := by
  obtain ⟨q1, q2, q3, q4, q5, q6⟩ := arg_true ha
  have hk' : (k != 0) = true := by simpa using hk
  have HF := Lib.hid hF
  clear hk ha hF
  go_enter Try.func19, Try.ntmps19
  go_wp2_with (first | (go_at_call 23; refine (mayBe_any _ _ _ _).mono ?_; rintro e1 w1 ⟨rfl, hb1⟩) | (go_at_call 27; go_in) | (go_at_call 20; refine (HF.out w1 (below_two hb1 (by simp; omega)) ((hb1.block _ (by simp; omega)).trans (two_new _ _ _ _))).mono ?_; rintro e2 w2 ⟨rfl, hb2⟩; obtain ⟨hc2, hf2⟩ := bcell (hb1.trans (hb2.mono hb1.size))))
  refine bodyPost_ret (v := .tuple #[.agg #[.int .u64 0, .int .i64 0, .int .i64 0], .int .i64 k]) ?_ rfl ⟨rfl, ?_⟩
  · go_light
    simp [results, Try.results19, go_sem, *]
  · have hB := below_two (hb1.trans (hb2.mono hb1.size)) (by simp; omega)
    go_light
    repeat (first | exact hB | refine Below.setCell ?_ (by simp) _)

theorem change20_ok (e h u who now span a b c : Int) (c0 c1 c2 : Value) (w : World) (hm : mayB e h u = true) (ha : argB who now span = true)
    (hF : ∀ (w1 : World), Below w.heap.size w w1 → w1.heap[w.heap.size]? = some (L3 e h u) → Calls Try.prog 20 #[.pointer (some ⟨w.heap.size, 0, none⟩), c0, c1, c2] w1 fun e' w' => e' = .returned (.int .i64 0) ∧ Only w.heap.size w1 w' ∧ w'.heap[w.heap.size]? = some (L3 a b c)) :
    Calls Try.prog 19 #[.agg #[.int .u64 e, .int .i64 h, .int .i64 u], .int .i64 who, .int .i64 now, .int .i64 span, .func (.func 20) #[] #[c0, c1, c2]] w fun e' w' =>
      e' = .returned (.tuple #[.agg #[.int .u64 a, .int .i64 b, .int .i64 c], .int .i64 0]) ∧ Below w.heap.size w w' := by
  obtain ⟨q1, q2, q3, q4, q5, q6⟩ := arg_true ha
  have HF := Lib.hid hF
  clear ha hF
  go_enter Try.func19, Try.ntmps19
  go_wp2_with (first | (go_at_call 23; refine (mayBe_any _ _ _ _).mono ?_; rintro e1 w1 ⟨rfl, hb1⟩) | (go_at_call 27; go_in) | (go_at_call 20; refine (HF.out w1 (below_two hb1 (by simp; omega)) ((hb1.block _ (by simp; omega)).trans (two_new _ _ _ _))).mono ?_; rintro e2 w2 ⟨rfl, hb2, hl2⟩; obtain ⟨k0, k1, k2⟩ := l3_cell hl2; have hz := z3_after hb1 (by simp) hb2; obtain ⟨z0, z1, z2⟩ := l3_cell hz; obtain ⟨f0, f1, f2⟩ := l3_free hz; clear hl2 hz))
  refine bodyPost_ret (v := .tuple #[.agg #[.int .u64 a, .int .i64 b, .int .i64 c], .int .i64 0]) ?_ rfl ⟨rfl, ?_⟩
  · go_light
    simp [results, Try.results19, go_sem, *]
  · have hB := (below_two hb1 (by simp; omega)).trans (hb2.below (Nat.le_refl _) (by have := hb1.size; simp at this; omega))
    go_light
    repeat (first | exact hB | refine Below.setCell ?_ (by simp) _)

theorem change24_err (e h u who now span k : Int) (c0 c1 c2 c3 : Value) (w : World) (hm : mayB e h u = true) (ha : argB who now span = true) (hk : ¬ k = 0)
    (hF : ∀ (w1 : World), Below w.heap.size w w1 → w1.heap[w.heap.size]? = some (L3 e h u) → Calls Try.prog 24 #[.pointer (some ⟨w.heap.size, 0, none⟩), c0, c1, c2, c3] w1 fun e' w' => e' = .returned (.int .i64 k) ∧ Below w1.heap.size w1 w') :
    Calls Try.prog 19 #[.agg #[.int .u64 e, .int .i64 h, .int .i64 u], .int .i64 who, .int .i64 now, .int .i64 span, .func (.func 24) #[] #[c0, c1, c2, c3]] w fun e' w' =>
      e' = .returned (.tuple #[.agg #[.int .u64 0, .int .i64 0, .int .i64 0], .int .i64 k]) ∧ Below w.heap.size w w' := by
  obtain ⟨q1, q2, q3, q4, q5, q6⟩ := arg_true ha
  have hk' : (k != 0) = true := by simpa using hk
  have HF := Lib.hid hF
  clear hk ha hF
  go_enter Try.func19, Try.ntmps19
  go_wp2_with (first | (go_at_call 23; refine (mayBe_any _ _ _ _).mono ?_; rintro e1 w1 ⟨rfl, hb1⟩) | (go_at_call 27; go_in) | (go_at_call 24; refine (HF.out w1 (below_two hb1 (by simp; omega)) ((hb1.block _ (by simp; omega)).trans (two_new _ _ _ _))).mono ?_; rintro e2 w2 ⟨rfl, hb2⟩; obtain ⟨hc2, hf2⟩ := bcell (hb1.trans (hb2.mono hb1.size))))
  refine bodyPost_ret (v := .tuple #[.agg #[.int .u64 0, .int .i64 0, .int .i64 0], .int .i64 k]) ?_ rfl ⟨rfl, ?_⟩
  · go_light
    simp [results, Try.results19, go_sem, *]
  · have hB := below_two (hb1.trans (hb2.mono hb1.size)) (by simp; omega)
    go_light
    repeat (first | exact hB | refine Below.setCell ?_ (by simp) _)

theorem change24_ok (e h u who now span a b c : Int) (c0 c1 c2 c3 : Value) (w : World) (hm : mayB e h u = true) (ha : argB who now span = true)
    (hF : ∀ (w1 : World), Below w.heap.size w w1 → w1.heap[w.heap.size]? = some (L3 e h u) → Calls Try.prog 24 #[.pointer (some ⟨w.heap.size, 0, none⟩), c0, c1, c2, c3] w1 fun e' w' => e' = .returned (.int .i64 0) ∧ Only w.heap.size w1 w' ∧ w'.heap[w.heap.size]? = some (L3 a b c)) :
    Calls Try.prog 19 #[.agg #[.int .u64 e, .int .i64 h, .int .i64 u], .int .i64 who, .int .i64 now, .int .i64 span, .func (.func 24) #[] #[c0, c1, c2, c3]] w fun e' w' =>
      e' = .returned (.tuple #[.agg #[.int .u64 a, .int .i64 b, .int .i64 c], .int .i64 0]) ∧ Below w.heap.size w w' := by
  obtain ⟨q1, q2, q3, q4, q5, q6⟩ := arg_true ha
  have HF := Lib.hid hF
  clear ha hF
  go_enter Try.func19, Try.ntmps19
  go_wp2_with (first | (go_at_call 23; refine (mayBe_any _ _ _ _).mono ?_; rintro e1 w1 ⟨rfl, hb1⟩) | (go_at_call 27; go_in) | (go_at_call 24; refine (HF.out w1 (below_two hb1 (by simp; omega)) ((hb1.block _ (by simp; omega)).trans (two_new _ _ _ _))).mono ?_; rintro e2 w2 ⟨rfl, hb2, hl2⟩; obtain ⟨k0, k1, k2⟩ := l3_cell hl2; have hz := z3_after hb1 (by simp) hb2; obtain ⟨z0, z1, z2⟩ := l3_cell hz; obtain ⟨f0, f1, f2⟩ := l3_free hz; clear hl2 hz))
  refine bodyPost_ret (v := .tuple #[.agg #[.int .u64 a, .int .i64 b, .int .i64 c], .int .i64 0]) ?_ rfl ⟨rfl, ?_⟩
  · go_light
    simp [results, Try.results19, go_sem, *]
  · have hB := (below_two hb1 (by simp; omega)).trans (hb2.below (Nat.le_refl _) (by have := hb1.size; simp at this; omega))
    go_light
    repeat (first | exact hB | refine Below.setCell ?_ (by simp) _)

theorem change26_err (e h u who now span k : Int) (c0 c1 c2 : Value) (w : World) (hm : mayB e h u = true) (ha : argB who now span = true) (hk : ¬ k = 0)
    (hF : ∀ (w1 : World), Below w.heap.size w w1 → w1.heap[w.heap.size]? = some (L3 e h u) → Calls Try.prog 26 #[.pointer (some ⟨w.heap.size, 0, none⟩), c0, c1, c2] w1 fun e' w' => e' = .returned (.int .i64 k) ∧ Below w1.heap.size w1 w') :
    Calls Try.prog 19 #[.agg #[.int .u64 e, .int .i64 h, .int .i64 u], .int .i64 who, .int .i64 now, .int .i64 span, .func (.func 26) #[] #[c0, c1, c2]] w fun e' w' =>
      e' = .returned (.tuple #[.agg #[.int .u64 0, .int .i64 0, .int .i64 0], .int .i64 k]) ∧ Below w.heap.size w w' := by
  obtain ⟨q1, q2, q3, q4, q5, q6⟩ := arg_true ha
  have hk' : (k != 0) = true := by simpa using hk
  have HF := Lib.hid hF
  clear hk ha hF
  go_enter Try.func19, Try.ntmps19
  go_wp2_with (first | (go_at_call 23; refine (mayBe_any _ _ _ _).mono ?_; rintro e1 w1 ⟨rfl, hb1⟩) | (go_at_call 27; go_in) | (go_at_call 26; refine (HF.out w1 (below_two hb1 (by simp; omega)) ((hb1.block _ (by simp; omega)).trans (two_new _ _ _ _))).mono ?_; rintro e2 w2 ⟨rfl, hb2⟩; obtain ⟨hc2, hf2⟩ := bcell (hb1.trans (hb2.mono hb1.size))))
  refine bodyPost_ret (v := .tuple #[.agg #[.int .u64 0, .int .i64 0, .int .i64 0], .int .i64 k]) ?_ rfl ⟨rfl, ?_⟩
  · go_light
    simp [results, Try.results19, go_sem, *]
  · have hB := below_two (hb1.trans (hb2.mono hb1.size)) (by simp; omega)
    go_light
    repeat (first | exact hB | refine Below.setCell ?_ (by simp) _)

theorem change26_ok (e h u who now span a b c : Int) (c0 c1 c2 : Value) (w : World) (hm : mayB e h u = true) (ha : argB who now span = true)
    (hF : ∀ (w1 : World), Below w.heap.size w w1 → w1.heap[w.heap.size]? = some (L3 e h u) → Calls Try.prog 26 #[.pointer (some ⟨w.heap.size, 0, none⟩), c0, c1, c2] w1 fun e' w' => e' = .returned (.int .i64 0) ∧ Only w.heap.size w1 w' ∧ w'.heap[w.heap.size]? = some (L3 a b c)) :
    Calls Try.prog 19 #[.agg #[.int .u64 e, .int .i64 h, .int .i64 u], .int .i64 who, .int .i64 now, .int .i64 span, .func (.func 26) #[] #[c0, c1, c2]] w fun e' w' =>
      e' = .returned (.tuple #[.agg #[.int .u64 a, .int .i64 b, .int .i64 c], .int .i64 0]) ∧ Below w.heap.size w w' := by
  obtain ⟨q1, q2, q3, q4, q5, q6⟩ := arg_true ha
  have HF := Lib.hid hF
  clear ha hF
  go_enter Try.func19, Try.ntmps19
  go_wp2_with (first | (go_at_call 23; refine (mayBe_any _ _ _ _).mono ?_; rintro e1 w1 ⟨rfl, hb1⟩) | (go_at_call 27; go_in) | (go_at_call 26; refine (HF.out w1 (below_two hb1 (by simp; omega)) ((hb1.block _ (by simp; omega)).trans (two_new _ _ _ _))).mono ?_; rintro e2 w2 ⟨rfl, hb2, hl2⟩; obtain ⟨k0, k1, k2⟩ := l3_cell hl2; have hz := z3_after hb1 (by simp) hb2; obtain ⟨z0, z1, z2⟩ := l3_cell hz; obtain ⟨f0, f1, f2⟩ := l3_free hz; clear hl2 hz))
  refine bodyPost_ret (v := .tuple #[.agg #[.int .u64 a, .int .i64 b, .int .i64 c], .int .i64 0]) ?_ rfl ⟨rfl, ?_⟩
  · go_light
    simp [results, Try.results19, go_sem, *]
  · have hB := (below_two hb1 (by simp; omega)).trans (hb2.below (Nat.le_refl _) (by have := hb1.size; simp at this; omega))
    go_light
    repeat (first | exact hB | refine Below.setCell ?_ (by simp) _)

end Go.Proofs.Ytgmmmbicnjjalaa
