/-
  No cell of these rows narrows 'for every input' (looked for: loops, veiled, ifaces, maps, wideKeys, modest, calm, conditions, laid).
  DERIVED. THE GIVEN ROWS OF THIS SEAT. 6 by the template 'for every input the law returns true; each argument reads behind the call as it read before'; 0 by the template 'total and deterministic' (their statements: YtopieffkpdlpbaaTotals.lean).
  GIVEN WITH THE SEED: the statements are not yours to turn. If you find one false, say at which input.
  Laid BY PROGRAM, IN A SANDBOX (cutbox-rows.mjs): the forced cells as the released guide's own fill.sh prints them over the translation 41f1f88149be88e5… (all of the seat's roots in one cut). By AI agents, Wed Nov 11 2026. No macro, syntax, notation, axiom, sorry.
-/
import Derived.Test.YtopieffkpdlpbaaChecked
import GoSem.Claim
import GoSem.ClaimJoined
import GoSem.ClaimMapViews
import Derived.JoinedTies
import Derived.KernelRfl
namespace Go.Proofs.Ytopieffkpdlpbaa
/- THE CELL 'sum', in the pinned program and in every row, IS THE sha256 OF THE DUMP (.gsa) THAT YtopieffkpdlpbaaProg.lean LOADS. Nothing in Lean hashes anything: it is a label: what it is worth is what the hold of that sum in a sandbox is worth. -/
noncomputable def Try.pinned : Pinned := { name := "ytopieffkpdlpbaa", sum := "41f1f88149be88e58e2c8aa5e6956c6b8e2dcd3d4cb2c57f1be43b9389d2a425", checked := Try.checked }
namespace Rows
def none {H : Type} : Left H := { results := [], args := [] }

/-- 'headracelaw18.SnapZero': WHATEVER THE INPUT: true; the input reads as it did. -/
def snapZeroSpec : ChangeSpec := { name := "snapZero", fn := fun _ => fun
  | [d] => { results := [.lit (.bool true)], args := [d] }
  | _ => none }
def snapZeroRow : OpenClaim := { program := "ytopieffkpdlpbaa", sum := "41f1f88149be88e58e2c8aa5e6956c6b8e2dcd3d4cb2c57f1be43b9389d2a425", func := "headrace/headracelaw18.SnapZero", spec := "snapZero", unfollowed := true, recurses := true, apart := false }
def SnapZeroSaid : Prop := snapZeroRow.holds Try.pinned (OpenSpec.ofChange snapZeroSpec)

/-- ITS FALSE NEIGHBOUR: 'it returns false'. Refute it at one input. -/
def snapZeroWrong : ChangeSpec := { name := "snapZero", fn := fun _ => fun
  | [d] => { results := [.lit (.bool false)], args := [d] }
  | _ => none }
def SnapZeroWrongFalsely : Prop := snapZeroRow.holds Try.pinned (OpenSpec.ofChange snapZeroWrong)

/-- 'headracelaw18.SnapWhole': WHATEVER THE INPUT: true; the input reads as it did. -/
def snapWholeSpec : ChangeSpec := { name := "snapWhole", fn := fun _ => fun
  | [d1, d2] => { results := [.lit (.bool true)], args := [d1, d2] }
  | _ => none }
def snapWholeRow : OpenClaim := { program := "ytopieffkpdlpbaa", sum := "41f1f88149be88e58e2c8aa5e6956c6b8e2dcd3d4cb2c57f1be43b9389d2a425", func := "headrace/headracelaw18.SnapWhole", spec := "snapWhole", unfollowed := true, recurses := true, apart := false }
def SnapWholeSaid : Prop := snapWholeRow.holds Try.pinned (OpenSpec.ofChange snapWholeSpec)

/-- ITS FALSE NEIGHBOUR: 'it returns false'. Refute it at one input. -/
def snapWholeWrong : ChangeSpec := { name := "snapWhole", fn := fun _ => fun
  | [d1, d2] => { results := [.lit (.bool false)], args := [d1, d2] }
  | _ => none }
def SnapWholeWrongFalsely : Prop := snapWholeRow.holds Try.pinned (OpenSpec.ofChange snapWholeWrong)

/-- 'headracelaw18.SnapPart': WHATEVER THE INPUT: true; the input reads as it did. -/
def snapPartSpec : ChangeSpec := { name := "snapPart", fn := fun _ => fun
  | [d1, d2] => { results := [.lit (.bool true)], args := [d1, d2] }
  | _ => none }
def snapPartRow : OpenClaim := { program := "ytopieffkpdlpbaa", sum := "41f1f88149be88e58e2c8aa5e6956c6b8e2dcd3d4cb2c57f1be43b9389d2a425", func := "headrace/headracelaw18.SnapPart", spec := "snapPart", unfollowed := true, recurses := true, apart := false }
def SnapPartSaid : Prop := snapPartRow.holds Try.pinned (OpenSpec.ofChange snapPartSpec)

/-- ITS FALSE NEIGHBOUR: 'it returns false'. Refute it at one input. -/
def snapPartWrong : ChangeSpec := { name := "snapPart", fn := fun _ => fun
  | [d1, d2] => { results := [.lit (.bool false)], args := [d1, d2] }
  | _ => none }
def SnapPartWrongFalsely : Prop := snapPartRow.holds Try.pinned (OpenSpec.ofChange snapPartWrong)

/-- 'headracelaw18.SnapBack': WHATEVER THE INPUT: true; the input reads as it did. -/
def snapBackSpec : ChangeSpec := { name := "snapBack", fn := fun _ => fun
  | [d1, d2] => { results := [.lit (.bool true)], args := [d1, d2] }
  | _ => none }
def snapBackRow : OpenClaim := { program := "ytopieffkpdlpbaa", sum := "41f1f88149be88e58e2c8aa5e6956c6b8e2dcd3d4cb2c57f1be43b9389d2a425", func := "headrace/headracelaw18.SnapBack", spec := "snapBack", unfollowed := true, recurses := true, apart := false }
def SnapBackSaid : Prop := snapBackRow.holds Try.pinned (OpenSpec.ofChange snapBackSpec)

/-- ITS FALSE NEIGHBOUR: 'it returns false'. Refute it at one input. -/
def snapBackWrong : ChangeSpec := { name := "snapBack", fn := fun _ => fun
  | [d1, d2] => { results := [.lit (.bool false)], args := [d1, d2] }
  | _ => none }
def SnapBackWrongFalsely : Prop := snapBackRow.holds Try.pinned (OpenSpec.ofChange snapBackWrong)

/-- 'headracelaw18.SnapAgain': WHATEVER THE INPUT: true; the input reads as it did. -/
def snapAgainSpec : ChangeSpec := { name := "snapAgain", fn := fun _ => fun
  | [d1, d2] => { results := [.lit (.bool true)], args := [d1, d2] }
  | _ => none }
def snapAgainRow : OpenClaim := { program := "ytopieffkpdlpbaa", sum := "41f1f88149be88e58e2c8aa5e6956c6b8e2dcd3d4cb2c57f1be43b9389d2a425", func := "headrace/headracelaw18.SnapAgain", spec := "snapAgain", unfollowed := true, recurses := true, apart := false }
def SnapAgainSaid : Prop := snapAgainRow.holds Try.pinned (OpenSpec.ofChange snapAgainSpec)

/-- ITS FALSE NEIGHBOUR: 'it returns false'. Refute it at one input. -/
def snapAgainWrong : ChangeSpec := { name := "snapAgain", fn := fun _ => fun
  | [d1, d2] => { results := [.lit (.bool false)], args := [d1, d2] }
  | _ => none }
def SnapAgainWrongFalsely : Prop := snapAgainRow.holds Try.pinned (OpenSpec.ofChange snapAgainWrong)

/-- 'headracelaw18.SnapKeys': WHATEVER THE INPUT: true; the input reads as it did. -/
def snapKeysSpec : ChangeSpec := { name := "snapKeys", fn := fun _ => fun
  | [d1, d2, d3] => { results := [.lit (.bool true)], args := [d1, d2, d3] }
  | _ => none }
def snapKeysRow : OpenClaim := { program := "ytopieffkpdlpbaa", sum := "41f1f88149be88e58e2c8aa5e6956c6b8e2dcd3d4cb2c57f1be43b9389d2a425", func := "headrace/headracelaw18.SnapKeys", spec := "snapKeys", unfollowed := true, recurses := true, apart := false }
def SnapKeysSaid : Prop := snapKeysRow.holds Try.pinned (OpenSpec.ofChange snapKeysSpec)

/-- ITS FALSE NEIGHBOUR: 'it returns false'. Refute it at one input. -/
def snapKeysWrong : ChangeSpec := { name := "snapKeys", fn := fun _ => fun
  | [d1, d2, d3] => { results := [.lit (.bool false)], args := [d1, d2, d3] }
  | _ => none }
def SnapKeysWrongFalsely : Prop := snapKeysRow.holds Try.pinned (OpenSpec.ofChange snapKeysWrong)

/- THE SECOND FORM. 'bulk': how many values and letters a reading holds, each counted each time it is reached (what is shared counts as often as it is met; a slice's spare places count too). A statement '..UptoSaid' is the law's where the arguments, and the package variables that the reading takes, are together of bulk at most 1048576: NARROWER than '..Said'. Prove '..Said' where nothing that the law and all that it calls make is longer than what came in: it says more and counts as full. Else prove '..UptoSaid'. A law counts once. -/
mutual
def uptoBulk {H : Type} : DataW H → Nat
  | .lit (.string bytes) => bytes.length + 1
  | .lit _ => 1
  | .nil => 1
  | .ptr d => uptoBulk d + 1
  | .slice elems spare => uptoBulkAll elems + uptoBulkAll spare + 1
  | .agg parts => uptoBulkAll parts + 1
  | .iface _ d => uptoBulk d + 1
  | .map entries => uptoBulkEntries entries + 1
  | .held _ => 1
def uptoBulkAll {H : Type} : List (DataW H) → Nat
  | [] => 0
  | d :: r => uptoBulk d + uptoBulkAll r
def uptoBulkEntries {H : Type} : List (Lit × DataW H) → Nat
  | [] => 0
  | x :: r => uptoBulkEntry x + uptoBulkEntries r
def uptoBulkEntry {H : Type} : Lit × DataW H → Nat
  | (.string bytes, d) => bytes.length + uptoBulk d + 1
  | (_, d) => uptoBulk d + 1
 end
def uptoSmall : (H : Type) → List (DataW H) → Bool := fun _ ds => decide (uptoBulkAll ds ≤ 1048576)
def OpenSpec.upto (s : _root_.Go.ChangeSpec) : _root_.Go.OpenSpec := { _root_.Go.OpenSpec.ofChange s with cond := some uptoSmall }

/-- 'headracelaw18.SnapZero', WHERE WHAT IT READS IS OF BULK AT MOST 1048576: true; the input reads as it did. -/
def snapZeroUptoRow : OpenClaim := { program := "ytopieffkpdlpbaa", sum := "41f1f88149be88e58e2c8aa5e6956c6b8e2dcd3d4cb2c57f1be43b9389d2a425", func := "headrace/headracelaw18.SnapZero", spec := "snapZero", unfollowed := true, recurses := true, apart := false, narrowed := true }
def SnapZeroUptoSaid : Prop := snapZeroUptoRow.holds Try.pinned (OpenSpec.upto snapZeroSpec)

/-- 'headracelaw18.SnapWhole', WHERE WHAT IT READS IS OF BULK AT MOST 1048576: true; the input reads as it did. -/
def snapWholeUptoRow : OpenClaim := { program := "ytopieffkpdlpbaa", sum := "41f1f88149be88e58e2c8aa5e6956c6b8e2dcd3d4cb2c57f1be43b9389d2a425", func := "headrace/headracelaw18.SnapWhole", spec := "snapWhole", unfollowed := true, recurses := true, apart := false, narrowed := true }
def SnapWholeUptoSaid : Prop := snapWholeUptoRow.holds Try.pinned (OpenSpec.upto snapWholeSpec)

/-- 'headracelaw18.SnapPart', WHERE WHAT IT READS IS OF BULK AT MOST 1048576: true; the input reads as it did. -/
def snapPartUptoRow : OpenClaim := { program := "ytopieffkpdlpbaa", sum := "41f1f88149be88e58e2c8aa5e6956c6b8e2dcd3d4cb2c57f1be43b9389d2a425", func := "headrace/headracelaw18.SnapPart", spec := "snapPart", unfollowed := true, recurses := true, apart := false, narrowed := true }
def SnapPartUptoSaid : Prop := snapPartUptoRow.holds Try.pinned (OpenSpec.upto snapPartSpec)

/-- 'headracelaw18.SnapBack', WHERE WHAT IT READS IS OF BULK AT MOST 1048576: true; the input reads as it did. -/
def snapBackUptoRow : OpenClaim := { program := "ytopieffkpdlpbaa", sum := "41f1f88149be88e58e2c8aa5e6956c6b8e2dcd3d4cb2c57f1be43b9389d2a425", func := "headrace/headracelaw18.SnapBack", spec := "snapBack", unfollowed := true, recurses := true, apart := false, narrowed := true }
def SnapBackUptoSaid : Prop := snapBackUptoRow.holds Try.pinned (OpenSpec.upto snapBackSpec)

/-- 'headracelaw18.SnapAgain', WHERE WHAT IT READS IS OF BULK AT MOST 1048576: true; the input reads as it did. -/
def snapAgainUptoRow : OpenClaim := { program := "ytopieffkpdlpbaa", sum := "41f1f88149be88e58e2c8aa5e6956c6b8e2dcd3d4cb2c57f1be43b9389d2a425", func := "headrace/headracelaw18.SnapAgain", spec := "snapAgain", unfollowed := true, recurses := true, apart := false, narrowed := true }
def SnapAgainUptoSaid : Prop := snapAgainUptoRow.holds Try.pinned (OpenSpec.upto snapAgainSpec)

/-- 'headracelaw18.SnapKeys', WHERE WHAT IT READS IS OF BULK AT MOST 1048576: true; the input reads as it did. -/
def snapKeysUptoRow : OpenClaim := { program := "ytopieffkpdlpbaa", sum := "41f1f88149be88e58e2c8aa5e6956c6b8e2dcd3d4cb2c57f1be43b9389d2a425", func := "headrace/headracelaw18.SnapKeys", spec := "snapKeys", unfollowed := true, recurses := true, apart := false, narrowed := true }
def SnapKeysUptoSaid : Prop := snapKeysUptoRow.holds Try.pinned (OpenSpec.upto snapKeysSpec)

end Rows
end Go.Proofs.Ytopieffkpdlpbaa
