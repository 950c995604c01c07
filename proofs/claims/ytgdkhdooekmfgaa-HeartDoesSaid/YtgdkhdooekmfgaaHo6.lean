import Derived.Test.YtgdkhdooekmfgaaHo5
import Derived.Test.YtgdkhdooekmfgaaHo1
namespace Go.Proofs.Ytgdkhdooekmfgaa
open Go Go.RowKit Wx
set_option linter.unusedVariables false
set_option linter.unusedSimpArgs false
set_option maxHeartbeats 4000000
theorem run_cases (kd w tick : Int) (far : Bool) (now span : Int) (l : List Pu) : (∃ e, e ≠ 0 ∧ runR kd w tick far now span l = bad e) ∨ (runR kd w tick far now span l).err = 0 := by
  unfold runR hearR dropR passR
  cases decide (kd % 18446744073709551616 % 5 = 0 ∨ kd % 18446744073709551616 % 5 = 1) with
  | true =>
    simp only [cond_true]
    cases decide (1 ≤ w ∧ w ≤ 4) with
    | false => exact .inl ⟨2, by decide, rfl⟩
    | true =>
      simp only [cond_true]
      cases l[srch w l]? with
      | none => exact .inr rfl
      | some x => right; cases hx : (x.wk == w) <;> simp [hx]
  | false =>
    simp only [cond_false]
    cases decide (kd % 18446744073709551616 % 5 = 2 ∨ kd % 18446744073709551616 % 5 = 3) with
    | true =>
      simp only [cond_true]
      cases decide (now ≤ toT now tick far ∧ toT now tick far ≤ 1099511627776) with
      | true => exact .inr rfl
      | false => exact .inl ⟨2, by decide, rfl⟩
    | false =>
      simp only [cond_false]
      cases thereW w l with
      | true => exact .inr rfl
      | false => exact .inl ⟨4, by decide, rfl⟩
theorem want_cases (kd w tick : Int) (far : Bool) (now span : Int) (l : List Pu) : (∃ e, e ≠ 0 ∧ wantR kd w tick far now span l = bad e) ∨ (okH now span l = true ∧ wantR kd w tick far now span l = runR kd w tick far now span l ∧ (runR kd w tick far now span l).err = 0) := by
  unfold wantR
  cases okH now span l with
  | false => exact .inl ⟨360, by decide, rfl⟩
  | true =>
    simp only [cond_true]
    rcases run_cases kd w tick far now span l with h | h
    · exact .inl h
    · exact .inr ⟨trivial, trivial, h⟩
theorem run_err (kd w tick : Int) (far : Bool) (now span : Int) (l : List Pu) (hl : l.length ≤ 9223372036854775807) (e : Int) (h : wantR kd w tick far now span l = bad e) : Con Try.prog 11 [.agg [.v (.int .i64 kd), .v (.int .i64 w), .v (.int .i64 tick), .v (.bool far)], .agg [.v (.int .i64 now), .v (.int .i64 span), .ro false 3 ((l).map eP)]] (fun rx rK rt => rx = .tup [.agg [.v (.int .i64 (bad e).now), .v (.int .i64 (bad e).span), .ro true 3 ((bad e).rows.map eP)], .one (.v (.bool (bad e).came)), .one (.ro true 1 ((bad e).gone.map eI)), .one (.v (.int .i64 (bad e).err))] ∧ rK = [] ∧ rt = 0) := by
  revert h
  unfold wantR
  cases hk : okH now span l with
  | false =>
    intro h
    rw [show bad e = bad 360 from h.symm]
    exact run_bad kd w tick far now span l hl hk
  | true =>
    intro h
    rw [show bad e = runR kd w tick far now span l from h.symm]
    exact run_con kd w tick far now span l hk
theorem run_ok (kd w tick : Int) (far : Bool) (now span : Int) (l : List Pu) (hk : okH now span l = true) (R : Hr) (hR : R = runR kd w tick far now span l) (he : R.err = 0) : ∃ (cap : Option Nat) (tl : List Pu) (gc : Ce), ((gc = .v (.slice none 0 0) ∧ R.gone = []) ∨ gc = .ro true 1 (R.gone.map eI)) ∧ Con Try.prog 11 [.agg [.v (.int .i64 kd), .v (.int .i64 w), .v (.int .i64 tick), .v (.bool far)], .agg [.v (.int .i64 now), .v (.int .i64 span), .ro false 3 ((l).map eP)]] (fun rx rK rt => rx = .tup [.agg [.v (.int .i64 R.now), .v (.int .i64 R.span), .osl 0 0 R.rows.length cap], .one (.v (.bool R.came)), .one gc, .one (.v (.int .i64 R.err))] ∧ rK = [(0, some ⟨(R.rows ++ tl).map cP, 3, 37, false⟩)] ∧ rt = 1) := by
  subst hR
  revert he
  unfold runR
  by_cases h0 : kd % 18446744073709551616 % 5 = 0 ∨ kd % 18446744073709551616 % 5 = 1
  · rw [decide_eq_true h0]; simp only [cond_true]; intro he
    obtain ⟨cap, tl, h⟩ := run_oh kd w tick far now span l _ rfl hk he h0
    exact ⟨cap, tl, _, .inl ⟨rfl, by unfold hearR; cases decide (1 ≤ w ∧ w ≤ 4) <;> simp only [cond_true, cond_false, bad] <;> cases l[srch w l]? <;> simp only [] <;> (first | rfl | (rename_i x; cases (x.wk == w) <;> rfl))⟩, h⟩
  · rw [decide_eq_false h0]; simp only [cond_false]
    by_cases h2 : kd % 18446744073709551616 % 5 = 2 ∨ kd % 18446744073709551616 % 5 = 3
    · rw [decide_eq_true h2]; simp only [cond_true]; intro he
      have hc : (passR now span (toT now tick far) l).came = false := by unfold passR; cases decide (now ≤ toT now tick far ∧ toT now tick far ≤ 1099511627776) <;> rfl
      rw [hc]
      cases far
      · obtain ⟨cap, tl, h⟩ := run_opf kd w tick now span l _ rfl hk he h2
        exact ⟨cap, tl, _, .inr rfl, h⟩
      · obtain ⟨cap, tl, h⟩ := run_opt kd w tick now span l _ rfl hk he h2
        exact ⟨cap, tl, _, .inr rfl, h⟩
    · rw [decide_eq_false h2]; simp only [cond_false]; intro he
      have hc : (dropR now span w l).came = false ∧ (dropR now span w l).gone = [] := by unfold dropR; cases thereW w l <;> exact ⟨rfl, rfl⟩
      rw [hc.1]
      obtain ⟨cap, tl, h⟩ := run_od kd w tick far now span l _ rfl hk he h0 h2
      exact ⟨cap, tl, _, .inl ⟨rfl, hc.2⟩, h⟩
end Go.Proofs.Ytgdkhdooekmfgaa
