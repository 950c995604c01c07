/-
  Rescaling leaves each record with the share that its key asks for: SnapKeys is true for every row of snapshots, width and records.
-/
import Derived.Test.YtopieffkpdlpbaaOwn8
import Derived.WalkKit
import Derived.ProofKit
import Derived.OpenShut
import Derived.ShutString
import Derived.ChangeOld
import Derived.Below
namespace Go.Proofs.Ytopieffkpdlpbaa.snapKeys
open Go.ChangeShapes Go.WideShapes Go.ChangeAt Go.RowKit Wx
set_option linter.unusedVariables false

theorem own : ownKnob Try.prog.godebug = none := by kernel_rfl
theorem laidOut : laidOutB Try.prog = true := by kernel_rfl
theorem shapes : All2 (fun td t => tdOk Try.prog td false t [] 0 = true) [(.sl (.st (.cons 3 1 (.int .i64) (.cons 3 1 (.int .i64) (.cons 3 1 (.int .i64) (.cons 4 1 .bool (.cons 28 1 (.st (.cons 26 1 (.sl (.st (.cons 3 1 (.int .i64) (.cons 3 1 (.int .i64) (.cons 65 2 (.st (.cons 2 1 (.int .i64) (.cons 2 1 (.int .i64) .nil))) .nil)))) 70 4) .nil)) (.cons 30 8 (.arr 8 (.int .i64) 3 1) (.cons 31 1 (.sl (.st (.cons 3 1 (.int .i64) (.cons 3 1 (.int .i64) (.cons 3 1 (.int .i64) .nil)))) 90 3) .nil)))))))) 33 14), (.int .i64), (.st (.cons 3 1 (.int .i64) (.cons 3 1 (.int .i64) (.cons 2 1 (.int .i64) .nil))))] Try.f8.params.toList := by
  rw [Try.params8]
  exact ⟨(show tdOk Try.prog (.sl (.st (.cons 3 1 (.int .i64) (.cons 3 1 (.int .i64) (.cons 3 1 (.int .i64) (.cons 4 1 .bool (.cons 28 1 (.st (.cons 26 1 (.sl (.st (.cons 3 1 (.int .i64) (.cons 3 1 (.int .i64) (.cons 65 2 (.st (.cons 2 1 (.int .i64) (.cons 2 1 (.int .i64) .nil))) .nil)))) 70 4) .nil)) (.cons 30 8 (.arr 8 (.int .i64) 3 1) (.cons 31 1 (.sl (.st (.cons 3 1 (.int .i64) (.cons 3 1 (.int .i64) (.cons 3 1 (.int .i64) .nil)))) 90 3) .nil)))))))) 33 14) false 40 [] 0 = true by kernel_rfl), (show tdOk Try.prog (.int .i64) false 3 [] 0 = true by kernel_rfl), (show tdOk Try.prog (.st (.cons 3 1 (.int .i64) (.cons 3 1 (.int .i64) (.cons 2 1 (.int .i64) .nil)))) false 61 [] 0 = true by kernel_rfl), trivial⟩

set_option maxRecDepth 100000 in
theorem lifted (os : Os) (started : os.Started) (H : Type) (enc : TypeId × Value → H) :
    ReturnsInHanded {} Try.checked os 8 .any (Rows.snapKeysSpec.pre6 enc Try.prog Try.f8 Rows.snapKeysRow.domain false) (Rows.snapKeysSpec.post enc Try.prog Try.f8 false true false false) := by
  refine returnsInHanded_of_change (C := Try.checked) own started (by kernel_rfl) Try.func8
    (ChangeSpec.witness6 (enc := enc) (C := Try.checked) false ⟨#[], #[.slice none 0 0, .int .i64 0, .agg #[.int .i64 0, .int .i64 0, .int .i64 0]], []⟩ 8 (by kernel_rfl) (by kernel_rfl) (by kernel_rfl) (by kernel_rfl)) ?_
  intro W base args ds gs before hval0 hW hcnd _
  have hval : ∀ (j : Nat) t v, Try.f8.params[j]? = some t → args[j]? = some v → Value.okWide Try.prog W .any base t v := hval0
  have hW' := hW
  obtain ⟨p, q, hA0, hV, rfl, hfz, hnd⟩ := hW
  have hA : DataW.TrodAll enc Try.prog W 0 (fun _ => true) true Try.f8.params.toList args.toList ds p := hA0
  obtain ⟨rfl, rfl⟩ := trodVars_none hV
  obtain ⟨avs, fa, fr⟩ := fits_of (P := Try.prog) shapes hA (fun j t v h1 h2 => hval j t v (by simpa using h1) (by simpa using h2))
  have run := (main avs fa).run W args.toList fr
  rw [show args.toList.toArray = args by simp] at run
  have kept := fun W' hb => kept_of (enc := enc) (P := Try.prog) (W := W) (W' := W') laidOut hb (by kernel_rfl) hA
  rw [Try.params8] at hA kept
  obtain ⟨v0, vs0, d0, ds0, p0, q0, hargs, rfl, rfl, h0, r0⟩ := trodAll_cons hA
  obtain ⟨v1, vs1, d1, ds1, p1, q1, rfl, rfl, rfl, h1, r1⟩ := trodAll_cons r0
  obtain ⟨v2, vs2, d2, ds2, p2, q2, rfl, rfl, rfl, h2, r2⟩ := trodAll_cons r1
  obtain ⟨rfl, rfl, rfl⟩ := trodAll_nil r2
  refine run.mono fun e W' ⟨v, x, Kc, tc, I, Rf, he, hwd, _, _, hx, hpost⟩ => ?_
  obtain ⟨rfl, rfl, rfl⟩ := hpost
  have bel : Below W.heap.size W W' := hwd.below.below.toBelow
  have hv : v = .bool true := hx
  subst hv
  subst he
  have kk := kept W' bel
  exact ⟨_, rfl, _, _, _, [], _, [], hW', trodAll_mk1 (shut_bool (t := 4) (by kernel_rfl) _), kk, rfl, bel.frame _, fun h => by cases h⟩

theorem over : Rows.snapKeysRow.holds Try.pinned (OpenSpec.ofChange Rows.snapKeysSpec) :=
  OpenClaim.holds_of_wide 8 Try.f8 rfl rfl rfl rfl rfl rfl rfl ⟨rfl, rfl, rfl, rfl, rfl⟩ rfl rfl rfl rfl rfl (by kernel_rfl) Try.func8 (by kernel_rfl)
    (of_decide_eq_true (by kernel_rfl)) (by unfold Func.isWrapper; first | (rw [if_pos (by decide +kernel)]; kernel_rfl) | (rw [if_neg (by decide +kernel)]; exact ⟨rfl, rfl⟩))
    (fun os started H enc _ => lifted os started H enc)

end Go.Proofs.Ytopieffkpdlpbaa.snapKeys
namespace Go.Proofs.Ytopieffkpdlpbaa
theorem snapKeys_holds : Rows.SnapKeysSaid := snapKeys.over
#print axioms snapKeys_holds
end Go.Proofs.Ytopieffkpdlpbaa
