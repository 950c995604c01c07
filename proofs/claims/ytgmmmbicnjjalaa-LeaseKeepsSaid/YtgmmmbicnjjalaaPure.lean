/-
  Layer 21 (lease), said plainly: which lease may be, why something is refused, and what comes of it, as functions on numbers.
-/
import Derived.WalkKit
namespace Go.Proofs.Ytgmmmbicnjjalaa

/-- May a lease be? -/
def mayB (e h u : Int) : Bool := if e = 0 then decide (h = 0 ∧ u = 0) else decide (e ≤ 2147483647 ∧ 1 ≤ h ∧ h ≤ 3 ∧ 0 ≤ u ∧ u ≤ 1099511627776)
/-- May this be asked? -/
def argB (who now span : Int) : Bool := decide (1 ≤ who ∧ who ≤ 3 ∧ 0 ≤ now ∧ now ≤ 1099511627676 ∧ 1 ≤ span ∧ span ≤ 100)
/-- Why nothing is asked of a lease so (0: it may be). -/
def askedI (e h u who now span : Int) : Int := if mayB e h u = true then (if argB who now span = true then 0 else 2) else 310
/-- Why it is not taken. -/
def acqE (e h u who now span : Int) : Int := if askedI e h u who now span ≠ 0 then askedI e h u who now span else if now < u then 311 else if e = 2147483647 then 6 else 0
/-- Why somebody does not lead. -/
def refI (e h u who ep now : Int) : Int := if ep = e ∧ who = h then (if now < u then 0 else 313) else 312
/-- Why it does not go on. -/
def renE (e h u who ep now span : Int) : Int := if askedI e h u who now span ≠ 0 then askedI e h u who now span else refI e h u who ep now

/-- Is it held? -/
def heldB (e u now : Int) : Bool := decide (0 < e ∧ now < u)
/-- What is wrong with a lease (0: nothing). -/
def chkI (e h u : Int) : Int := if mayB e h u = true then 0 else 310
/-- The lease that was taken. -/
def aqE (e h u who now span : Int) : Int := if acqE e h u who now span = 0 then e + 1 else 0
def aqH (e h u who now span : Int) : Int := if acqE e h u who now span = 0 then who else 0
def aqU (e h u who now span : Int) : Int := if acqE e h u who now span = 0 then now + span else 0

theorem may_true {e h u : Int} (hm : mayB e h u = true) : (e = 0 → h = 0 ∧ u = 0) ∧ e ≤ 2147483647 ∧ 0 ≤ h ∧ h ≤ 3 ∧ 0 ≤ u ∧ u ≤ 1099511627776 := by
  unfold mayB at hm
  split at hm <;> simp at hm <;> omega
theorem arg_true {who now span : Int} (ha : argB who now span = true) : 1 ≤ who ∧ who ≤ 3 ∧ 0 ≤ now ∧ now ≤ 1099511627676 ∧ 1 ≤ span ∧ span ≤ 100 := by
  simpa [argB] using ha
theorem arg_false {who now span : Int} (ha : argB who now span = false) : who < 1 ∨ (1 ≤ who ∧ 3 < who) ∨ (1 ≤ who ∧ who ≤ 3 ∧ now < 0) ∨ (1 ≤ who ∧ who ≤ 3 ∧ 0 ≤ now ∧ 1099511627676 < now) ∨
    (1 ≤ who ∧ who ≤ 3 ∧ 0 ≤ now ∧ now ≤ 1099511627676 ∧ span < 1) ∨ (1 ≤ who ∧ who ≤ 3 ∧ 0 ≤ now ∧ now ≤ 1099511627676 ∧ 1 ≤ span ∧ 100 < span) := by
  simp [argB] at ha; omega

theorem asked_no {e h u who now span : Int} (hm : mayB e h u = false) : askedI e h u who now span = 310 := by simp [askedI, hm]
theorem asked_arg {e h u who now span : Int} (hm : mayB e h u = true) (ha : argB who now span = false) : askedI e h u who now span = 2 := by simp [askedI, hm, ha]
theorem asked_ok {e h u who now span : Int} (hm : mayB e h u = true) (ha : argB who now span = true) : askedI e h u who now span = 0 := by simp [askedI, hm, ha]
theorem asked_zero {e h u who now span : Int} (h0 : askedI e h u who now span = 0) : mayB e h u = true ∧ argB who now span = true := by
  unfold askedI at h0; split at h0 <;> simp_all
theorem acq_not {e h u who now span : Int} (h0 : ¬ askedI e h u who now span = 0) : acqE e h u who now span = askedI e h u who now span := by simp [acqE, h0]
theorem acq_no {e h u who now span : Int} (hm : mayB e h u = false) : acqE e h u who now span = 310 := by simp [acqE, asked_no hm]
theorem acq_arg {e h u who now span : Int} (hm : mayB e h u = true) (ha : argB who now span = false) : acqE e h u who now span = 2 := by simp [acqE, asked_arg hm ha]
theorem acq_held {e h u who now span : Int} (hm : mayB e h u = true) (ha : argB who now span = true) (h1 : now < u) : acqE e h u who now span = 311 := by simp [acqE, asked_ok hm ha, h1]
theorem acq_full {e h u who now span : Int} (hm : mayB e h u = true) (ha : argB who now span = true) (h1 : ¬ now < u) (h2 : e = 2147483647) : acqE e h u who now span = 6 := by subst h2; simp [acqE, asked_ok hm ha, h1]
theorem acq_ok {e h u who now span : Int} (hm : mayB e h u = true) (ha : argB who now span = true) (h1 : ¬ now < u) (h2 : ¬ e = 2147483647) : acqE e h u who now span = 0 := by simp [acqE, asked_ok hm ha, h1, h2]
/-- Why a lease is not given up. -/
def yieE (e h u who ep now : Int) : Int := if askedI e h u who now 1 ≠ 0 then askedI e h u who now 1 else refI e h u who ep now
/-- The lease that goes on, and the one that is given up. -/
def rnE (e h u who ep now span : Int) : Int := if renE e h u who ep now span = 0 then e else 0
def rnH (e h u who ep now span : Int) : Int := if renE e h u who ep now span = 0 then h else 0
def rnU (e h u who ep now span : Int) : Int := if renE e h u who ep now span = 0 then (if u < now + span then now + span else u) else 0
def ylE (e h u who ep now : Int) : Int := if yieE e h u who ep now = 0 then e else 0
def ylH (e h u who ep now : Int) : Int := if yieE e h u who ep now = 0 then h else 0
def ylU (e h u who ep now : Int) : Int := if yieE e h u who ep now = 0 then now else 0
theorem held_true {e u now : Int} : heldB e u now = true ↔ 0 < e ∧ now < u := by simp [heldB]
theorem held_false {e u now : Int} (h0 : 0 < e) : heldB e u now = false ↔ ¬ now < u := by simp [heldB]; omega
theorem ref_zero {e h u who ep now : Int} (h1 : ep = e) (h2 : who = h) (h3 : now < u) : refI e h u who ep now = 0 := by simp [refI, h1, h2, h3]
theorem ref_late {e h u who ep now : Int} (h1 : ep = e) (h2 : who = h) (h3 : ¬ now < u) : refI e h u who ep now = 313 := by simp [refI, h1, h2, h3]
theorem ref_stale {e h u who ep now : Int} (h1 : ¬ (ep = e ∧ who = h)) : refI e h u who ep now = 312 := by simp [refI, h1]
theorem may_held {e h u now : Int} (he : 0 ≤ e) (hm : mayB e h u = true) (h0 : 0 ≤ now) (h1 : now < u) : 0 < e := by
  have := may_true hm; by_cases e = 0 <;> omega
theorem may_who {e h u who : Int} (he : 0 ≤ e) (hm : mayB e h u = true) (hw : 1 ≤ who) (h1 : who = h) : 0 < e := by
  have := may_true hm; by_cases e = 0 <;> omega
end Go.Proofs.Ytgmmmbicnjjalaa
