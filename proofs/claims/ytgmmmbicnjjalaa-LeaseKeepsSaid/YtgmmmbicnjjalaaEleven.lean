/-
  The walks of layer 21's functions (lease), at the seat's numbers: Left, Holds, Stale, where they are asked behind a Renew.
-/
import Derived.Test.YtgmmmbicnjjalaaEight
import Derived.Test.YtgmmmbicnjjalaaNine
namespace Go.Proofs.Ytgmmmbicnjjalaa
open Go.ChangeShapes Go.WideShapes Go.ChangeAt Go.RowKit

theorem left_held (e h u now : Int) (w : World) (hm : mayB e h u = true) (hh : heldB e u now = true) (h0 : 0 ≤ now) (h1 : now < u) (h2 : u ≤ 1099511627776) :
    Calls Try.prog 17 #[.agg #[.int .u64 e, .int .i64 h, .int .i64 u], .int .i64 now] w fun f w' => f = .returned (.int .i64 (u - now)) ∧ Below w.heap.size w w' := by
  go_enter Try.func17, Try.ntmps17
  go_wp2_with (first
    | (go_at_call 23; refine (mayBe_any _ _ _ _).mono ?_; rintro e1 w1 ⟨rfl, hb1⟩; have HA1 : Hid (w1.heap[w.heap.size]? = some (L3 e h u)) := Lib.hid (keep hb1 (by simp) (heap_alloc_new _ _)); obtain ⟨a0, a1, a2⟩ := l3_cell HA1.out; have lt1 := l3_lt HA1.out)
    | (go_at_call 21; refine (held_any _ _ _ _ _).mono ?_; rintro e1 w2 ⟨rfl, hb2⟩; have HA2 : Hid (w2.heap[w.heap.size]? = some (L3 e h u)) := Lib.hid (keep hb2 lt1 HA1.out); obtain ⟨c0, c1, c2⟩ := l3_cell HA2.out))
  all_goals
    go_ret
    exact ⟨rfl, (((Below.refl _ _).alloc (Nat.le_refl _) _).trans (hb1.mono (by simp))).trans (hb2.mono (by omega))⟩

theorem holds_no (e h u who ep now : Int) (w : World) (hm : mayB e h u = true) (hh : heldB e u now = false) :
    Calls Try.prog 16 #[.agg #[.int .u64 e, .int .i64 h, .int .i64 u], .int .i64 who, .int .u64 ep, .int .i64 now] w fun f w' => f = .returned (.bool false) ∧ Below w.heap.size w w' := by
  go_enter Try.func16, Try.ntmps16
  go_wp2_with (first
    | (go_at_call 23; refine (mayBe_any _ _ _ _).mono ?_; rintro e1 w1 ⟨rfl, hb1⟩; have HA1 : Hid (w1.heap[w.heap.size]? = some (L3 e h u)) := Lib.hid (keep hb1 (by simp) (heap_alloc_new _ _)); obtain ⟨a0, a1, a2⟩ := l3_cell HA1.out; have lt1 := l3_lt HA1.out)
    | (go_at_call 21; refine (held_any _ _ _ _ _).mono ?_; rintro e1 w2 ⟨rfl, hb2⟩))
  go_ret
  exact ⟨rfl, (((Below.refl _ _).alloc (Nat.le_refl _) _).trans (hb1.mono (by simp))).trans (hb2.mono (by omega))⟩

theorem stale_any (e h u ep : Int) (w : World) (hm : mayB e h u = true) :
    Calls Try.prog 18 #[.agg #[.int .u64 e, .int .i64 h, .int .i64 u], .int .u64 ep] w fun f w' => f = .returned (.bool (decide (ep < e))) ∧ Below w.heap.size w w' := by
  go_enter Try.func18, Try.ntmps18
  go_wp2_with (go_at_call 23; refine (mayBe_any _ _ _ _).mono ?_; rintro e1 w1 ⟨rfl, hb1⟩; have HA1 : Hid (w1.heap[w.heap.size]? = some (L3 e h u)) := Lib.hid (keep hb1 (by simp) (heap_alloc_new _ _)); obtain ⟨a0, a1, a2⟩ := l3_cell HA1.out)
  go_ret
  exact ⟨rfl, ((Below.refl _ _).alloc (Nat.le_refl _) _).trans (hb1.mono (by simp))⟩

/-- What is known where a lease goes on. -/
structure Goes (e h u now span : Int) : Prop where
  e1 : 1 ≤ e
  e2 : e ≤ 2147483647
  h1 : 1 ≤ h
  h3 : h ≤ 3
  n0 : 0 ≤ now
  n1 : now ≤ 1099511627676
  s1 : 1 ≤ span
  s2 : span ≤ 100
  nu : now < u
  u1 : u ≤ 1099511627776
theorem ren_goes {e h u who ep now span : Int} (he : 0 ≤ e) (hr : renE e h u who ep now span = 0) : ep = e ∧ who = h ∧ Goes e h u now span := by
  have h0 : askedI e h u who now span = 0 := by
    by_cases h0 : askedI e h u who now span = 0
    · exact h0
    · rw [ren_not h0] at hr; exact absurd hr h0
  obtain ⟨hm, ha⟩ := asked_zero h0
  have p := may_true hm
  have q := arg_true ha
  rcases ref_cases e h u who ep now with ⟨r1, hr'⟩ | ⟨r1, r2, hr'⟩ | ⟨r1, r2, r3, hr'⟩ | ⟨r1, r2, r3, hr'⟩
  · rw [ren_err hm ha (by rw [hr']; decide), hr'] at hr; exact absurd hr (by decide)
  · rw [ren_err hm ha (by rw [hr']; decide), hr'] at hr; exact absurd hr (by decide)
  · rw [ren_err hm ha (by rw [hr']; decide), hr'] at hr; exact absurd hr (by decide)
  · have := may_who he hm q.1 r2
    exact ⟨r1, r2, by omega, by omega, by omega, by omega, by omega, by omega, by omega, by omega, r3, by omega⟩
theorem Goes.later {e h u now span : Int} (g : Goes e h u now span) : now < later u (now + span) ∧ later u (now + span) ≤ 1099511627776 := by
  have := g.n0; have := g.n1; have := g.s1; have := g.s2; have := g.nu; have := g.u1
  unfold Ytgmmmbicnjjalaa.later; split <;> omega
theorem Goes.may {e h u now span v : Int} (g : Goes e h u now span) (h0 : 0 ≤ v) (h1 : v ≤ 1099511627776) : mayB e h v = true := by
  have := g.e1; have := g.e2; have := g.h1; have := g.h3
  unfold mayB; rw [if_neg (by omega)]; simp; omega
theorem Goes.arg {e h u now span who v : Int} (g : Goes e h u now span) (h0 : 1 ≤ who) (h1 : who ≤ 3) (h2 : 1 ≤ v) (h3 : v ≤ 100) : argB who now v = true := by
  have := g.n0; have := g.n1
  simp [argB]; omega

theorem renew_yes (e h u now span : Int) (w : World) (g : Goes e h u now span) (hr : renE e h u h e now span = 0) :
    Calls Try.prog 12 #[.agg #[.int .u64 e, .int .i64 h, .int .i64 u], .int .i64 h, .int .u64 e, .int .i64 now, .int .i64 span] w fun e' w' =>
      e' = .returned (.tuple #[.agg #[.int .u64 e, .int .i64 h, .int .i64 (later u (now + span))], .int .i64 0]) ∧ Below w.heap.size w w' := by
  refine (renew_any e h u h e now span w (by have := g.e1; omega)).mono ?_
  rintro f w' ⟨rfl, hb⟩
  exact ⟨by simp [rnE, rnH, rnU, hr, later], hb⟩
theorem renew_no (e h u who ep now span : Int) (w : World) (he : 0 ≤ e) (hr : ¬ renE e h u who ep now span = 0) :
    Calls Try.prog 12 #[.agg #[.int .u64 e, .int .i64 h, .int .i64 u], .int .i64 who, .int .u64 ep, .int .i64 now, .int .i64 span] w fun e' w' =>
      e' = .returned (.tuple #[.agg #[.int .u64 0, .int .i64 0, .int .i64 0], .int .i64 (renE e h u who ep now span)]) ∧ Below w.heap.size w w' := by
  refine (renew_any e h u who ep now span w he).mono ?_
  rintro f w' ⟨rfl, hb⟩
  exact ⟨by simp [rnE, rnH, rnU, hr], hb⟩
theorem yield_yes (e h u v now span : Int) (w : World) (g : Goes e h u now span) (h1 : now < v) (h2 : v ≤ 1099511627776) :
    Calls Try.prog 14 #[.agg #[.int .u64 e, .int .i64 h, .int .i64 v], .int .i64 h, .int .u64 e, .int .i64 now] w fun e' w' =>
      e' = .returned (.tuple #[.agg #[.int .u64 e, .int .i64 h, .int .i64 now], .int .i64 0]) ∧ Below w.heap.size w w' := by
  have hy : yieE e h v h e now = 0 := yie_ok (g.may (by have := g.n0; omega) h2) (g.arg g.h1 g.h3 (by decide) (by decide)) (ref_zero rfl rfl h1)
  refine (yield_any e h v h e now w (by have := g.e1; omega)).mono ?_
  rintro f w' ⟨rfl, hb⟩
  exact ⟨by simp [ylE, ylH, ylU, hy], hb⟩
theorem acquire_full (e h u now span who : Int) (w : World) (g : Goes e h u now span) (h1 : 1 ≤ who) (h3 : who ≤ 3) (hx : e = 2147483647) :
    Calls Try.prog 8 #[.agg #[.int .u64 e, .int .i64 h, .int .i64 now], .int .i64 who, .int .i64 now, .int .i64 span] w fun e' w' =>
      e' = .returned (.tuple #[.agg #[.int .u64 0, .int .i64 0, .int .i64 0], .int .i64 6]) ∧ Below w.heap.size w w' := by
  have hq : acqE e h now who now span = 6 := acq_full (g.may g.n0 (by have := g.n1; omega)) (g.arg h1 h3 g.s1 g.s2) (by omega) hx
  refine (acquire_any e h now who now span w (by have := g.e1; omega)).mono ?_
  rintro f w' ⟨rfl, hb⟩
  exact ⟨by simp [aqE, aqH, aqU, hq], hb⟩
theorem acquire_next (e h u now span who : Int) (w : World) (g : Goes e h u now span) (h1 : 1 ≤ who) (h3 : who ≤ 3) (hx : ¬ e = 2147483647) :
    Calls Try.prog 8 #[.agg #[.int .u64 e, .int .i64 h, .int .i64 now], .int .i64 who, .int .i64 now, .int .i64 span] w fun e' w' =>
      e' = .returned (.tuple #[.agg #[.int .u64 (e + 1), .int .i64 who, .int .i64 (now + span)], .int .i64 0]) ∧ Below w.heap.size w w' := by
  have hq : acqE e h now who now span = 0 := acq_ok (g.may g.n0 (by have := g.n1; omega)) (g.arg h1 h3 g.s1 g.s2) (by omega) hx
  refine (acquire_any e h now who now span w (by have := g.e1; omega)).mono ?_
  rintro f w' ⟨rfl, hb⟩
  exact ⟨by simp [aqE, aqH, aqU, hq], hb⟩

end Go.Proofs.Ytgmmmbicnjjalaa
