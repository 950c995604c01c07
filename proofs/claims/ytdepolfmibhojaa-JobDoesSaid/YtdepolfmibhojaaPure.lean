/-
  Layer 25 (job), said plainly: which job may be, and what comes of a happening, as functions on numbers.
-/
import Derived.WalkKit
namespace Go.Proofs.Ytdepolfmibhojaa

/-- May a job be? -/
def rightB (s f m : Int) : Bool := decide (0 ≤ s ∧ s ≤ 7 ∧ 0 ≤ m ∧ m ≤ 8 ∧ 0 ≤ f ∧ f ≤ m ∧ (s = 0 → f = 0))
def chkI (s f m : Int) : Int := if rightB s f m = true then 0 else 350
def overB (s f m : Int) : Bool := rightB s f m && decide (4 ≤ s)
def livesB (s f m : Int) : Bool := rightB s f m && decide (1 ≤ s ∧ s ≤ 3)
def leftI (s f m : Int) : Int := if rightB s f m = true ∧ s < 4 then m - f else 0
/-- Why a happening is refused (0: it is not), of a job that may be. -/
def stepE (s h : Int) : Int :=
  if h = 1 then (if s = 0 then 0 else 5) else if s = 0 then 4 else if 4 ≤ s then 351 else if h = 2 then 0 else if h = 3 then 0 else if h = 4 then (if s = 2 then 0 else 352)
  else if h = 5 then (if s = 1 then 0 else if s = 2 then 353 else 5) else if h = 6 then (if s = 3 then 0 else 352) else if h = 7 then (if s = 3 then 0 else 352) else if h = 8 then (if s = 2 then 352 else 0) else 0
/-- The state behind it, the falls. -/
def st0 (h : Int) : Int := if h = 1 then 1 else if h = 2 then 6 else if h = 4 then 1 else if h = 5 then 3 else if h = 6 then 5 else if h = 7 then 1 else if h = 8 then 4 else 7
def stepS (f m h : Int) : Int := if h = 3 then (if f = m then 7 else 2) else st0 h
def stepF (f m h : Int) : Int := if h = 3 ∧ ¬ f = m then f + 1 else f
/-- What Do tells. -/
def doE (s f m h : Int) : Int := if rightB s f m = true then (if 1 ≤ h ∧ h ≤ 9 then stepE s h else 2) else 350
def doS (s f m h : Int) : Int := if doE s f m h = 0 then stepS f m h else 0
def doF (s f m h : Int) : Int := if doE s f m h = 0 then stepF f m h else 0
def doM (s f m h : Int) : Int := if doE s f m h = 0 then m else 0

/-- The program's table: of each happening and column the state, the error, whether it is begun anew. -/
def tabT : List (List (Int × Int × Bool)) :=
  [[(0, 0, false), (0, 0, false), (0, 0, false), (0, 0, false), (0, 0, false)],
   [(1, 0, false), (0, 5, false), (0, 5, false), (0, 5, false), (0, 5, false)],
   [(0, 4, false), (6, 0, false), (6, 0, false), (6, 0, false), (0, 351, false)],
   [(0, 4, false), (0, 0, true), (0, 0, true), (0, 0, true), (0, 351, false)],
   [(0, 4, false), (0, 352, false), (1, 0, false), (0, 352, false), (0, 351, false)],
   [(0, 4, false), (3, 0, false), (0, 353, false), (0, 5, false), (0, 351, false)],
   [(0, 4, false), (0, 352, false), (0, 352, false), (5, 0, false), (0, 351, false)],
   [(0, 4, false), (0, 352, false), (0, 352, false), (1, 0, false), (0, 351, false)],
   [(0, 4, false), (4, 0, false), (0, 352, false), (4, 0, false), (0, 351, false)],
   [(0, 4, false), (7, 0, false), (7, 0, false), (7, 0, false), (0, 351, false)]]
def tab (h c : Nat) : Int × Int × Bool := (tabT.getD h []).getD c (0, 0, false)
theorem tab_step : ∀ h : Fin 10, ∀ s : Fin 8, 1 ≤ h.val → (tab h.val (min s.val 4)).2.1 = stepE (s.val : Int) (h.val : Int) ∧
    (stepE (s.val : Int) (h.val : Int) = 0 → (tab h.val (min s.val 4)).2.2 = decide (h.val = 3) ∧ (h.val ≠ 3 → (tab h.val (min s.val 4)).1 = st0 (h.val : Int))) := by decide +kernel

theorem tab_err : ∀ h : Fin 10, ∀ s : Fin 8, 1 ≤ h.val → (tab h.val (min s.val 4)).2.1 ≠ 0 → (tab h.val (min s.val 4)).2.2 = false := by decide +kernel

theorem right_true {s f m : Int} (h : rightB s f m = true) : 0 ≤ s ∧ s ≤ 7 ∧ 0 ≤ m ∧ m ≤ 8 ∧ 0 ≤ f ∧ f ≤ m ∧ (s = 0 → f = 0) := by unfold rightB at h; exact of_decide_eq_true h
end Go.Proofs.Ytdepolfmibhojaa
