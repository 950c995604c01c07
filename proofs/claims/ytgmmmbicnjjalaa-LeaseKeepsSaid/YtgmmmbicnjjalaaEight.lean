/-
  The walks of layer 21's document's answers (headraceref21), at the seat's numbers: Renew, Yield.
-/
import Derived.Test.YtgmmmbicnjjalaaSeven
namespace Go.Proofs.Ytgmmmbicnjjalaa
open Go.ChangeShapes Go.WideShapes Go.ChangeAt Go.RowKit

theorem rrenew_any (e h u who ep now span : Int) (w : World) :
    Calls Try.prog 13 #[.agg #[.int .u64 e, .int .i64 h, .int .i64 u], .int .i64 who, .int .u64 ep, .int .i64 now, .int .i64 span] w fun e' w' =>
      e' = .returned (.tuple #[.agg #[.int .u64 (rnE e h u who ep now span), .int .i64 (rnH e h u who ep now span), .int .i64 (rnU e h u who ep now span)], .int .i64 (renE e h u who ep now span)]) ∧ Below w.heap.size w w' := by
  by_cases h0 : askedI e h u who now span = 0
  · obtain ⟨hm, ha⟩ := asked_zero h0
    obtain ⟨q1, q2, q3, q4, q5, q6⟩ := arg_true ha
    rcases ref_cases e h u who ep now with ⟨r1, hr⟩ | ⟨r1, r2, hr⟩ | ⟨r1, r2, r3, hr⟩ | ⟨r1, r2, r3, hr⟩
    · have HQ := Lib.hid (ren_err hm ha (by rw [hr]; decide))
      rw [hr] at HQ
      have r1' : (ep == e) = false := by simpa using r1
      have H := Lib.hid r1
      clear hr hm ha r1
      go_enter Try.func13, Try.ntmps13
      go_wp2_with (go_at_call 22; refine (asked_any _ _ _ _ _ _ _).mono ?_; rintro e1 w1 ⟨rfl, hb1⟩; obtain ⟨hc1, hf1⟩ := bcell hb1)
      refine bodyPost_ret (v := .tuple #[.agg #[.int .u64 0, .int .i64 0, .int .i64 0], .int .i64 312]) ?_ rfl ⟨by simp [rnE, rnH, rnU, HQ.out], ?_⟩
      · go_light
        simp [results, Try.results13, go_sem, *]
      · have hB := below_two hb1 (by simp; omega)
        go_light
        repeat (first | exact hB | refine Below.setCell ?_ (by simp; try omega) _)
    · have HQ := Lib.hid (ren_err hm ha (by rw [hr]; decide))
      rw [hr] at HQ
      have r2' : (who == h) = false := by simpa using r2
      clear hr hm ha r2
      subst r1
      go_enter Try.func13, Try.ntmps13
      go_wp2_with (go_at_call 22; refine (asked_any _ _ _ _ _ _ _).mono ?_; rintro e1 w1 ⟨rfl, hb1⟩; obtain ⟨hc1, hf1⟩ := bcell hb1)
      refine bodyPost_ret (v := .tuple #[.agg #[.int .u64 0, .int .i64 0, .int .i64 0], .int .i64 312]) ?_ rfl ⟨by simp [rnE, rnH, rnU, HQ.out], ?_⟩
      · go_light
        simp [results, Try.results13, go_sem, *]
      · have hB := below_two hb1 (by simp; omega)
        go_light
        repeat (first | exact hB | refine Below.setCell ?_ (by simp; try omega) _)
    · have HQ := Lib.hid (ren_err hm ha (by rw [hr]; decide))
      rw [hr] at HQ
      clear hr hm ha
      subst r1 r2
      go_enter Try.func13, Try.ntmps13
      go_wp2_with (go_at_call 22; refine (asked_any _ _ _ _ _ _ _).mono ?_; rintro e1 w1 ⟨rfl, hb1⟩; obtain ⟨hc1, hf1⟩ := bcell hb1)
      refine bodyPost_ret (v := .tuple #[.agg #[.int .u64 0, .int .i64 0, .int .i64 0], .int .i64 313]) ?_ rfl ⟨by simp [rnE, rnH, rnU, HQ.out], ?_⟩
      · go_light
        simp [results, Try.results13, go_sem, *]
      · have hB := below_two hb1 (by simp; omega)
        go_light
        repeat (first | exact hB | refine Below.setCell ?_ (by simp; try omega) _)
    · have HQ := Lib.hid (ren_ok hm ha hr)
      clear hr hm ha
      subst r1 r2
      by_cases hl : u < now + span
      · have HU : Hid (later u (now + span) = now + span) := Lib.hid (by simp [later, hl])
        go_enter Try.func13, Try.ntmps13
        go_wp2_with (go_at_call 22; refine (asked_any _ _ _ _ _ _ _).mono ?_; rintro e1 w1 ⟨rfl, hb1⟩; have HA := Lib.hid (keep hb1 (by simp; omega) (two_new w ep who u)); obtain ⟨a0, a1, a2⟩ := l3_cell HA.out; obtain ⟨f0, f1, f2⟩ := l3_free HA.out; have HZ : Hid (w1.heap[w.heap.size + 1]? = some (L3 0 0 0)) := Lib.hid (keep hb1 (by simp) (new_second _ _ _)); obtain ⟨z0, z1, z2⟩ := l3_cell HZ.out; obtain ⟨g0, g1, g2⟩ := l3_free HZ.out)
        refine bodyPost_ret (v := .tuple #[.agg #[.int .u64 ep, .int .i64 who, .int .i64 (now + span)], .int .i64 0]) ?_ rfl ⟨by simp [rnE, rnH, rnU, HQ.out, hl], ?_⟩
        · go_light
          simp [results, Try.results13, go_sem, *]
        · have hB := below_two hb1 (by simp; omega)
          go_light
          repeat (first | exact hB | refine Below.setCell ?_ (by simp; try omega) _)
      · have HU : Hid (later u (now + span) = u) := Lib.hid (by simp [later, hl])
        go_enter Try.func13, Try.ntmps13
        go_wp2_with (go_at_call 22; refine (asked_any _ _ _ _ _ _ _).mono ?_; rintro e1 w1 ⟨rfl, hb1⟩; obtain ⟨hc1, hf1⟩ := bcell hb1)
        refine bodyPost_ret (v := .tuple #[.agg #[.int .u64 ep, .int .i64 who, .int .i64 u], .int .i64 0]) ?_ rfl ⟨by simp [rnE, rnH, rnU, HQ.out]; omega, ?_⟩
        · go_light
          simp [results, Try.results13, go_sem, *]
        · have hB := below_two hb1 (by simp; omega)
          go_light
          repeat (first | exact hB | refine Below.setCell ?_ (by simp; try omega) _)
  · have HQ := Lib.hid (ren_not (ep := ep) h0)
    have h0' : (askedI e h u who now span != 0) = true := by simpa using h0
    have H0 := Lib.hid h0
    clear h0
    go_enter Try.func13, Try.ntmps13
    go_wp2_with (go_at_call 22; refine (asked_any _ _ _ _ _ _ _).mono ?_; rintro e1 w1 ⟨rfl, hb1⟩; obtain ⟨hc1, hf1⟩ := bcell hb1)
    refine bodyPost_ret (v := .tuple #[.agg #[.int .u64 0, .int .i64 0, .int .i64 0], .int .i64 (askedI e h u who now span)]) ?_ rfl ⟨by simp [rnE, rnH, rnU, HQ.out, H0.out], ?_⟩
    · go_light
      simp [results, Try.results13, go_sem, *]
    · have hB := below_two hb1 (by simp; omega)
      go_light
      repeat (first | exact hB | refine Below.setCell ?_ (by simp; try omega) _)

theorem ryield_any (e h u who ep now : Int) (w : World) :
    Calls Try.prog 15 #[.agg #[.int .u64 e, .int .i64 h, .int .i64 u], .int .i64 who, .int .u64 ep, .int .i64 now] w fun e' w' =>
      e' = .returned (.tuple #[.agg #[.int .u64 (ylE e h u who ep now), .int .i64 (ylH e h u who ep now), .int .i64 (ylU e h u who ep now)], .int .i64 (yieE e h u who ep now)]) ∧ Below w.heap.size w w' := by
  by_cases h0 : askedI e h u who now 1 = 0
  · obtain ⟨hm, ha⟩ := asked_zero h0
    obtain ⟨q1, q2, q3, q4, q5, q6⟩ := arg_true ha
    rcases ref_cases e h u who ep now with ⟨r1, hr⟩ | ⟨r1, r2, hr⟩ | ⟨r1, r2, r3, hr⟩ | ⟨r1, r2, r3, hr⟩
    · have HQ := Lib.hid (yie_err hm ha (by rw [hr]; decide))
      rw [hr] at HQ
      have r1' : (ep == e) = false := by simpa using r1
      have H := Lib.hid r1
      clear hr hm ha r1
      go_enter Try.func15, Try.ntmps15
      go_wp2_with (go_at_call 22; refine (asked_any _ _ _ _ _ _ _).mono ?_; rintro e1 w1 ⟨rfl, hb1⟩; obtain ⟨hc1, hf1⟩ := bcell hb1)
      refine bodyPost_ret (v := .tuple #[.agg #[.int .u64 0, .int .i64 0, .int .i64 0], .int .i64 312]) ?_ rfl ⟨by simp [ylE, ylH, ylU, HQ.out], ?_⟩
      · go_light
        simp [results, Try.results15, go_sem, *]
      · have hB := below_two hb1 (by simp; omega)
        go_light
        repeat (first | exact hB | refine Below.setCell ?_ (by simp; try omega) _)
    · have HQ := Lib.hid (yie_err hm ha (by rw [hr]; decide))
      rw [hr] at HQ
      have r2' : (who == h) = false := by simpa using r2
      clear hr hm ha r2
      subst r1
      go_enter Try.func15, Try.ntmps15
      go_wp2_with (go_at_call 22; refine (asked_any _ _ _ _ _ _ _).mono ?_; rintro e1 w1 ⟨rfl, hb1⟩; obtain ⟨hc1, hf1⟩ := bcell hb1)
      refine bodyPost_ret (v := .tuple #[.agg #[.int .u64 0, .int .i64 0, .int .i64 0], .int .i64 312]) ?_ rfl ⟨by simp [ylE, ylH, ylU, HQ.out], ?_⟩
      · go_light
        simp [results, Try.results15, go_sem, *]
      · have hB := below_two hb1 (by simp; omega)
        go_light
        repeat (first | exact hB | refine Below.setCell ?_ (by simp; try omega) _)
    · have HQ := Lib.hid (yie_err hm ha (by rw [hr]; decide))
      rw [hr] at HQ
      clear hr hm ha
      subst r1 r2
      go_enter Try.func15, Try.ntmps15
      go_wp2_with (go_at_call 22; refine (asked_any _ _ _ _ _ _ _).mono ?_; rintro e1 w1 ⟨rfl, hb1⟩; obtain ⟨hc1, hf1⟩ := bcell hb1)
      refine bodyPost_ret (v := .tuple #[.agg #[.int .u64 0, .int .i64 0, .int .i64 0], .int .i64 313]) ?_ rfl ⟨by simp [ylE, ylH, ylU, HQ.out], ?_⟩
      · go_light
        simp [results, Try.results15, go_sem, *]
      · have hB := below_two hb1 (by simp; omega)
        go_light
        repeat (first | exact hB | refine Below.setCell ?_ (by simp; try omega) _)
    · have HQ := Lib.hid (yie_ok hm ha hr)
      clear hr hm ha
      subst r1 r2
      go_enter Try.func15, Try.ntmps15
      go_wp2_with (go_at_call 22; refine (asked_any _ _ _ _ _ _ _).mono ?_; rintro e1 w1 ⟨rfl, hb1⟩; obtain ⟨hc1, hf1⟩ := bcell hb1)
      refine bodyPost_ret (v := .tuple #[.agg #[.int .u64 ep, .int .i64 who, .int .i64 now], .int .i64 0]) ?_ rfl ⟨by simp [ylE, ylH, ylU, HQ.out], ?_⟩
      · go_light
        simp [results, Try.results15, go_sem, *]
      · have hB := below_two hb1 (by simp; omega)
        go_light
        repeat (first | exact hB | refine Below.setCell ?_ (by simp; try omega) _)
  · have HQ := Lib.hid (yie_not (ep := ep) h0)
    have h0' : (askedI e h u who now 1 != 0) = true := by simpa using h0
    have H0 := Lib.hid h0
    clear h0
    go_enter Try.func15, Try.ntmps15
    go_wp2_with (go_at_call 22; refine (asked_any _ _ _ _ _ _ _).mono ?_; rintro e1 w1 ⟨rfl, hb1⟩; obtain ⟨hc1, hf1⟩ := bcell hb1)
    refine bodyPost_ret (v := .tuple #[.agg #[.int .u64 0, .int .i64 0, .int .i64 0], .int .i64 (askedI e h u who now 1)]) ?_ rfl ⟨by simp [ylE, ylH, ylU, HQ.out, H0.out], ?_⟩
    · go_light
      simp [results, Try.results15, go_sem, *]
    · have hB := below_two hb1 (by simp; omega)
      go_light
      repeat (first | exact hB | refine Below.setCell ?_ (by simp; try omega) _)

end Go.Proofs.Ytgmmmbicnjjalaa
