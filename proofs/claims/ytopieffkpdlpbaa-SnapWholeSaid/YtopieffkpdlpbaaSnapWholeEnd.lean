/-
  The whole of parts, and it at other widths: SnapWhole is true for every row of snapshots and widths.
-/
import Derived.Test.YtopieffkpdlpbaaOwn9
import Derived.WalkKit
import Derived.ProofKit
import Derived.OpenShut
import Derived.ShutString
import Derived.ChangeOld
import Derived.Below
set_option linter.unusedVariables false
set_option linter.unusedSimpArgs false
namespace Go.Proofs.Ytopieffkpdlpbaa.snapWhole
open Go.ChangeShapes Go.WideShapes Go.ChangeAt Go.RowKit Wx
theorem own : ownKnob Try.prog.godebug = none := by kernel_rfl
theorem laidOut : laidOutB Try.prog = true := by kernel_rfl
theorem shapes : All2 (fun td t => tdOk Try.prog td false t [] 0 = true) [(.sl (.st (.cons 3 1 (.int .i64) (.cons 3 1 (.int .i64) (.cons 3 1 (.int .i64) (.cons 4 1 .bool (.cons 28 1 (.st (.cons 26 1 (.sl (.st (.cons 3 1 (.int .i64) (.cons 3 1 (.int .i64) (.cons 65 2 (.st (.cons 2 1 (.int .i64) (.cons 2 1 (.int .i64) .nil))) .nil)))) 70 4) .nil)) (.cons 30 8 (.arr 8 (.int .i64) 3 1) (.cons 31 1 (.sl (.st (.cons 3 1 (.int .i64) (.cons 3 1 (.int .i64) (.cons 3 1 (.int .i64) .nil)))) 90 3) .nil)))))))) 33 14), (.sl (.int .i64) 3 1)] Try.f4.params.toList := by
 rw [Try.params4]
 exact ⟨(show tdOk Try.prog (.sl (.st (.cons 3 1 (.int .i64) (.cons 3 1 (.int .i64) (.cons 3 1 (.int .i64) (.cons 4 1 .bool (.cons 28 1 (.st (.cons 26 1 (.sl (.st (.cons 3 1 (.int .i64) (.cons 3 1 (.int .i64) (.cons 65 2 (.st (.cons 2 1 (.int .i64) (.cons 2 1 (.int .i64) .nil))) .nil)))) 70 4) .nil)) (.cons 30 8 (.arr 8 (.int .i64) 3 1) (.cons 31 1 (.sl (.st (.cons 3 1 (.int .i64) (.cons 3 1 (.int .i64) (.cons 3 1 (.int .i64) .nil)))) 90 3) .nil)))))))) 33 14) false 40 [] 0 = true by kernel_rfl), (show tdOk Try.prog (.sl (.int .i64) 3 1) false 41 [] 0 = true by kernel_rfl), trivial⟩
set_option maxRecDepth 100000 in
theorem lifted (os : Os) (started : os.Started) (H : Type) (enc : TypeId × Value → H) :
  ReturnsInHanded {} Try.checked os 4 .any (Rows.snapWholeSpec.pre6 enc Try.prog Try.f4 Rows.snapWholeRow.domain false) (Rows.snapWholeSpec.post enc Try.prog Try.f4 false true false false) := by
 refine returnsInHanded_of_change (C := Try.checked) own started (by kernel_rfl) Try.func4
  (ChangeSpec.witness6 (enc := enc) (C := Try.checked) false ⟨#[], #[.slice none 0 0, .slice none 0 0], []⟩ 8 (by kernel_rfl) (by kernel_rfl) (by kernel_rfl) (by kernel_rfl)) ?_
 intro W base args ds gs before hval0 hW hcnd _
 have hval : ∀ (j : Nat) t v, Try.f4.params[j]? = some t → args[j]? = some v → Value.okWide Try.prog W .any base t v := hval0
 have hW' := hW
 obtain ⟨p, q, hA0, hV, rfl, hfz, hnd⟩ := hW
 have hA : DataW.TrodAll enc Try.prog W 0 (fun _ => true) true Try.f4.params.toList args.toList ds p := hA0
 obtain ⟨rfl, rfl⟩ := trodVars_none hV
 obtain ⟨avs, fa, fr⟩ := fits_of (P := Try.prog) shapes hA (fun j t v h1 h2 => hval j t v (by simpa using h1) (by simpa using h2))
 have run := (main avs fa).run W args.toList fr
 rw [show args.toList.toArray = args by simp] at run
 have kept := fun W' hb => kept_of (enc := enc) (P := Try.prog) (W := W) (W' := W') laidOut hb (by kernel_rfl) hA
 rw [Try.params4] at hA kept
 obtain ⟨v0, vs0, d0, ds0, p0, q0, hargs, rfl, rfl, h0, r0⟩ := trodAll_cons hA
 obtain ⟨v1, vs1, d1, ds1, p1, q1, rfl, rfl, rfl, h1, r1⟩ := trodAll_cons r0
 obtain ⟨rfl, rfl, rfl⟩ := trodAll_nil r1
 refine run.mono fun e W' ⟨v, x, Kc, tc, I, Rf, he, hwd, _, _, hx, hpost⟩ => ?_
 obtain ⟨rfl, rfl, rfl⟩ := hpost
 have bel : Below W.heap.size W W' := hwd.below.below.toBelow
 have hv : v = .bool true := hx
 subst hv
 subst he
 have kk := kept W' bel
 exact ⟨_, rfl, _, _, _, [], _, [], hW', trodAll_mk1 (shut_bool (t := 4) (by kernel_rfl) _), kk, rfl, bel.frame _, fun h => by cases h⟩
theorem over : Rows.snapWholeRow.holds Try.pinned (OpenSpec.ofChange Rows.snapWholeSpec) :=
 OpenClaim.holds_of_wide 4 Try.f4 rfl rfl rfl rfl rfl rfl rfl ⟨rfl, rfl, rfl, rfl, rfl⟩ rfl rfl rfl rfl rfl (by kernel_rfl) Try.func4 (by kernel_rfl)
  (of_decide_eq_true (by kernel_rfl)) (by unfold Func.isWrapper; first | (rw [if_pos (by decide +kernel)]; kernel_rfl) | (rw [if_neg (by decide +kernel)]; exact ⟨rfl, rfl⟩))
  (fun os started H enc _ => lifted os started H enc)
end Go.Proofs.Ytopieffkpdlpbaa.snapWhole
namespace Go.Proofs.Ytopieffkpdlpbaa
theorem snapWhole_holds : Rows.SnapWholeSaid := snapWhole.over
#print axioms snapWhole_holds
end Go.Proofs.Ytopieffkpdlpbaa
