/-
  More operations: arrays built, an element of an array.
-/
import Derived.Test.YtnlcmncfbiognaaWs
namespace Go.Proofs.Ytnlcmncfbiognaa.Wx
open Go Go.RowKit
set_option linter.unusedVariables false
/-- More operations. -/
def opX (T : Tab) (o : Oper) (F : Nat → Option AV) (K : Nat → Option Blk) (top : Nat) : Option Eff :=
  match o.op with
  | .build t ps => match tyGet T t with
    | some ti => match ti.arr, evb F ps.toList with
      | some (m, s, r), some avs => match fillC ((List.range m).map fun i => (i * s, s, r)) (ti.zero.map .v) avs with
        | some out => some ⟨.pl (.agg out), [], [], top⟩
        | none => none
      | _, _ => none
    | none => none
  | .index t x y => match tyGet T t, evf F x, evf F y with
    | some ti, some (.pl (.agg cs)), some (.pl (.one (.v (.int k j)))) => match ti.arr, natOf j with
      | some (m, s, r), some j' => match Nat.blt j' m, cut r (j' * s) s cs with
        | true, some v => some ⟨.pl v, [], [], top⟩
        | _, _ => none
      | _, _ => none
    | _, _, _ => none
  | _ => none
theorem opX_sound {P : Program} {T : Tab} {o : Oper} {F : Nat → Option AV} {K : Nat → Option Blk} {top : Nat} {e : Eff} (hT : TabOk P T) (h : opX T o F K top = some e) : OpEff P o F K top e ∧ ∀ c, o.op ≠ .defer c := by
  obtain ⟨dst, op, ty, pos, after, guard⟩ := o
  unfold opX at h
  dsimp only at h
  split at h
  · refine ⟨?_, fun c hc => by cases hc⟩
    split at h
    · rename_i ti ht
      split at h
      · rename_i m s r avs hel hx
        split at h
        · rename_i out hout; cases h; exact (y_builda _ _ rfl ti (hT _ _ ht) m s r hel avs hx out hout).eff
        · cases h
      · cases h
    · cases h
  · refine ⟨?_, fun c hc => by cases hc⟩
    split at h
    · rename_i ti cs k j ht hx hy
      split at h
      · rename_i m s r j' hel hj
        split at h
        · rename_i v hlt hv; cases h; exact (y_indexv _ _ _ rfl ti (hT _ _ ht) m s r hel cs hx k j hy j' (natOf_spec hj) (by simpa [Nat.blt_eq] using hlt) v hv).eff
        · cases h
      · cases h
    · cases h
  · cases h
end Go.Proofs.Ytnlcmncfbiognaa.Wx
