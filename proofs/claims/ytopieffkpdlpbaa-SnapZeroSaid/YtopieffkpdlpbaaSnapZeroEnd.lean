/-
  Snapshots of nothing: SnapZero is true for every row of operators and shares.
-/
import Derived.Test.YtopieffkpdlpbaaOwn5
import Derived.WalkKit
import Derived.ProofKit
import Derived.OpenShut
import Derived.ShutString
import Derived.ChangeOld
import Derived.Below
namespace Go.Proofs.Ytopieffkpdlpbaa.snapZero
open Go.ChangeShapes Go.WideShapes Go.ChangeAt Go.RowKit Wx
set_option linter.unusedVariables false

theorem own : ownKnob Try.prog.godebug = none := by kernel_rfl
theorem laidOut : laidOutB Try.prog = true := by kernel_rfl
theorem shapes : All2 (fun td t => tdOk Try.prog td false t [] 0 = true) [(.sl (.st (.cons 3 1 (.int .i64) (.cons 3 1 (.int .i64) (.cons 3 1 (.int .i64) .nil)))) 25 3)] Try.f3.params.toList := by
  rw [Try.params3]
  exact ⟨(show tdOk Try.prog (.sl (.st (.cons 3 1 (.int .i64) (.cons 3 1 (.int .i64) (.cons 3 1 (.int .i64) .nil)))) 25 3) false 22 [] 0 = true by kernel_rfl), trivial⟩

set_option maxRecDepth 100000 in
theorem lifted (os : Os) (started : os.Started) (H : Type) (enc : TypeId × Value → H) :
    ReturnsInHanded {} Try.checked os 3 .any (Rows.snapZeroSpec.pre6 enc Try.prog Try.f3 Rows.snapZeroRow.domain false) (Rows.snapZeroSpec.post enc Try.prog Try.f3 false true false false) := by
  refine returnsInHanded_of_change (C := Try.checked) own started (by kernel_rfl) Try.func3
    (ChangeSpec.witness6 (enc := enc) (C := Try.checked) false ⟨#[], #[.slice none 0 0], []⟩ 8 (by kernel_rfl) (by kernel_rfl) (by kernel_rfl) (by kernel_rfl)) ?_
  intro W base args ds gs before hval0 hW hcnd _
  have hval : ∀ (j : Nat) t v, Try.f3.params[j]? = some t → args[j]? = some v → Value.okWide Try.prog W .any base t v := hval0
  have hW' := hW
  obtain ⟨p, q, hA0, hV, rfl, hfz, hnd⟩ := hW
  have hA : DataW.TrodAll enc Try.prog W 0 (fun _ => true) true Try.f3.params.toList args.toList ds p := hA0
  obtain ⟨rfl, rfl⟩ := trodVars_none hV
  obtain ⟨avs, fa, fr⟩ := fits_of (P := Try.prog) shapes hA (fun j t v h1 h2 => hval j t v (by simpa using h1) (by simpa using h2))
  have run := (main avs fa).run W args.toList fr
  rw [show args.toList.toArray = args by simp] at run
  have kept := fun W' hb => kept_of (enc := enc) (P := Try.prog) (W := W) (W' := W') laidOut hb (by kernel_rfl) hA
  rw [Try.params3] at hA kept
  obtain ⟨v0, vs0, d0, ds0, p0, q0, hargs, rfl, rfl, h0, r0⟩ := trodAll_cons hA
  obtain ⟨rfl, rfl, rfl⟩ := trodAll_nil r0
  refine run.mono fun e W' ⟨v, x, Kc, tc, I, Rf, he, hwd, _, _, hx, hpost⟩ => ?_
  obtain ⟨rfl, rfl, rfl⟩ := hpost
  have bel : Below W.heap.size W W' := hwd.below.below.toBelow
  have hv : v = .bool true := hx
  subst hv
  subst he
  have kk := kept W' bel
  exact ⟨_, rfl, _, _, _, [], _, [], hW', trodAll_mk1 (shut_bool (t := 4) (by kernel_rfl) _), kk, rfl, bel.frame _, fun h => by cases h⟩

theorem over : Rows.snapZeroRow.holds Try.pinned (OpenSpec.ofChange Rows.snapZeroSpec) :=
  OpenClaim.holds_of_wide 3 Try.f3 rfl rfl rfl rfl rfl rfl rfl ⟨rfl, rfl, rfl, rfl, rfl⟩ rfl rfl rfl rfl rfl (by kernel_rfl) Try.func3 (by kernel_rfl)
    (of_decide_eq_true (by kernel_rfl)) (by unfold Func.isWrapper; first | (rw [if_pos (by decide +kernel)]; kernel_rfl) | (rw [if_neg (by decide +kernel)]; exact ⟨rfl, rfl⟩))
    (fun os started H enc _ => lifted os started H enc)

end Go.Proofs.Ytopieffkpdlpbaa.snapZero
namespace Go.Proofs.Ytopieffkpdlpbaa
theorem snapZero_holds : Rows.SnapZeroSaid := snapZero.over
#print axioms snapZero_holds
end Go.Proofs.Ytopieffkpdlpbaa
