/-
  Layer 21 (lease), said plainly: what renewing and yielding come to, case by case.
-/
import Derived.Test.YtgmmmbicnjjalaaPure
namespace Go.Proofs.Ytgmmmbicnjjalaa
/-- The later of two ticks. -/
def later (u t : Int) : Int := if u < t then t else u
theorem ren_no {e h u who ep now span : Int} (hm : mayB e h u = false) : renE e h u who ep now span = 310 := by simp [renE, asked_no hm]
theorem ren_arg {e h u who ep now span : Int} (hm : mayB e h u = true) (ha : argB who now span = false) : renE e h u who ep now span = 2 := by simp [renE, asked_arg hm ha]
theorem ren_err {e h u who ep now span : Int} (hm : mayB e h u = true) (ha : argB who now span = true) (_ : ¬ refI e h u who ep now = 0) : renE e h u who ep now span = refI e h u who ep now := by simp [renE, asked_ok hm ha]
theorem ren_ok {e h u who ep now span : Int} (hm : mayB e h u = true) (ha : argB who now span = true) (hr : refI e h u who ep now = 0) : renE e h u who ep now span = 0 := by simp [renE, asked_ok hm ha, hr]
theorem yie_no {e h u who ep now : Int} (hm : mayB e h u = false) : yieE e h u who ep now = 310 := by simp [yieE, asked_no hm]
theorem yie_arg {e h u who ep now : Int} (hm : mayB e h u = true) (ha : argB who now 1 = false) : yieE e h u who ep now = 2 := by simp [yieE, asked_arg hm ha]
theorem yie_err {e h u who ep now : Int} (hm : mayB e h u = true) (ha : argB who now 1 = true) (_ : ¬ refI e h u who ep now = 0) : yieE e h u who ep now = refI e h u who ep now := by simp [yieE, asked_ok hm ha]
theorem yie_ok {e h u who ep now : Int} (hm : mayB e h u = true) (ha : argB who now 1 = true) (hr : refI e h u who ep now = 0) : yieE e h u who ep now = 0 := by simp [yieE, asked_ok hm ha, hr]
theorem ren_not {e h u who ep now span : Int} (h0 : ¬ askedI e h u who now span = 0) : renE e h u who ep now span = askedI e h u who now span := by simp [renE, h0]
theorem yie_not {e h u who ep now : Int} (h0 : ¬ askedI e h u who now 1 = 0) : yieE e h u who ep now = askedI e h u who now 1 := by simp [yieE, h0]
theorem ref_cases (e h u who ep now : Int) : (¬ ep = e ∧ refI e h u who ep now = 312) ∨ (ep = e ∧ ¬ who = h ∧ refI e h u who ep now = 312) ∨ (ep = e ∧ who = h ∧ ¬ now < u ∧ refI e h u who ep now = 313) ∨ (ep = e ∧ who = h ∧ now < u ∧ refI e h u who ep now = 0) := by
  unfold refI
  by_cases h1 : ep = e <;> by_cases h2 : who = h <;> by_cases h3 : now < u <;> simp [h1, h2, h3]
end Go.Proofs.Ytgmmmbicnjjalaa
