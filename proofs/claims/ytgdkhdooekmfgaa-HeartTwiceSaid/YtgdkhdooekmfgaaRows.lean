/-
  No cell of these rows narrows 'for every input' (looked for: loops, veiled, ifaces, maps, wideKeys, modest, calm, conditions, laid).
  DERIVED. THE GIVEN ROWS OF THIS SEAT. 6 by the template 'for every input the law returns true; each argument reads behind the call as it read before'; 0 by the template 'total and deterministic' (their statements: YtgdkhdooekmfgaaTotals.lean).
  GIVEN WITH THE SEED: the statements are not yours to turn. If you find one false, say at which input.
  Laid BY PROGRAM, IN A SANDBOX (cutbox-rows.mjs): the forced cells as the released guide's own fill.sh prints them over the translation 963b7a6ccd382073… (all of the seat's roots in one cut). By AI agents, Wed Nov 11 2026. No macro, syntax, notation, axiom, sorry.
-/
import Derived.Test.YtgdkhdooekmfgaaChecked
import GoSem.Claim
import GoSem.ClaimJoined
import GoSem.ClaimMapViews
import Derived.JoinedTies
import Derived.KernelRfl
namespace Go.Proofs.Ytgdkhdooekmfgaa
/- THE CELL 'sum', in the pinned program and in every row, IS THE sha256 OF THE DUMP (.gsa) THAT YtgdkhdooekmfgaaProg.lean LOADS. Nothing in Lean hashes anything: it is a label: what it is worth is what the hold of that sum in a sandbox is worth. -/
noncomputable def Try.pinned : Pinned := { name := "ytgdkhdooekmfgaa", sum := "963b7a6ccd3820739be47dbd9b739916a2f92eb759b86d60aabaad640db82064", checked := Try.checked }
namespace Rows
def none {H : Type} : Left H := { results := [], args := [] }

/-- 'headracelaw26.HeartDoes': WHATEVER THE INPUT: true; the input reads as it did. -/
def heartDoesSpec : ChangeSpec := { name := "heartDoes", fn := fun _ => fun
  | [d1, d2] => { results := [.lit (.bool true)], args := [d1, d2] }
  | _ => none }
def heartDoesRow : OpenClaim := { program := "ytgdkhdooekmfgaa", sum := "963b7a6ccd3820739be47dbd9b739916a2f92eb759b86d60aabaad640db82064", func := "headrace/headracelaw26.HeartDoes", spec := "heartDoes", inPlace := ["slices.overlaps[headrace/api.Pulse]"], unfollowed := true, recurses := true, apart := false }
def HeartDoesSaid : Prop := heartDoesRow.holds Try.pinned (OpenSpec.ofChange heartDoesSpec)

/-- ITS FALSE NEIGHBOUR: 'it returns false'. Refute it at one input. -/
def heartDoesWrong : ChangeSpec := { name := "heartDoes", fn := fun _ => fun
  | [d1, d2] => { results := [.lit (.bool false)], args := [d1, d2] }
  | _ => none }
def HeartDoesWrongFalsely : Prop := heartDoesRow.holds Try.pinned (OpenSpec.ofChange heartDoesWrong)

/-- 'headracelaw26.HeartTells': WHATEVER THE INPUT: true; the input reads as it did. -/
def heartTellsSpec : ChangeSpec := { name := "heartTells", fn := fun _ => fun
  | [d] => { results := [.lit (.bool true)], args := [d] }
  | _ => none }
def heartTellsRow : OpenClaim := { program := "ytgdkhdooekmfgaa", sum := "963b7a6ccd3820739be47dbd9b739916a2f92eb759b86d60aabaad640db82064", func := "headrace/headracelaw26.HeartTells", spec := "heartTells", inPlace := ["slices.overlaps[headrace/api.Pulse]"], unfollowed := true, recurses := true, apart := false }
def HeartTellsSaid : Prop := heartTellsRow.holds Try.pinned (OpenSpec.ofChange heartTellsSpec)

/-- ITS FALSE NEIGHBOUR: 'it returns false'. Refute it at one input. -/
def heartTellsWrong : ChangeSpec := { name := "heartTells", fn := fun _ => fun
  | [d] => { results := [.lit (.bool false)], args := [d] }
  | _ => none }
def HeartTellsWrongFalsely : Prop := heartTellsRow.holds Try.pinned (OpenSpec.ofChange heartTellsWrong)

/-- 'headracelaw26.HeartNews': WHATEVER THE INPUT: true; the input reads as it did. -/
def heartNewsSpec : ChangeSpec := { name := "heartNews", fn := fun _ => fun
  | [d] => { results := [.lit (.bool true)], args := [d] }
  | _ => none }
def heartNewsRow : OpenClaim := { program := "ytgdkhdooekmfgaa", sum := "963b7a6ccd3820739be47dbd9b739916a2f92eb759b86d60aabaad640db82064", func := "headrace/headracelaw26.HeartNews", spec := "heartNews", inPlace := ["slices.overlaps[headrace/api.Pulse]"], unfollowed := true, recurses := true, apart := false }
def HeartNewsSaid : Prop := heartNewsRow.holds Try.pinned (OpenSpec.ofChange heartNewsSpec)

/-- ITS FALSE NEIGHBOUR: 'it returns false'. Refute it at one input. -/
def heartNewsWrong : ChangeSpec := { name := "heartNews", fn := fun _ => fun
  | [d] => { results := [.lit (.bool false)], args := [d] }
  | _ => none }
def HeartNewsWrongFalsely : Prop := heartNewsRow.holds Try.pinned (OpenSpec.ofChange heartNewsWrong)

/-- 'headracelaw26.HeartSteady': WHATEVER THE INPUT: true; the input reads as it did. -/
def heartSteadySpec : ChangeSpec := { name := "heartSteady", fn := fun _ => fun
  | [d1, d2, d3] => { results := [.lit (.bool true)], args := [d1, d2, d3] }
  | _ => none }
def heartSteadyRow : OpenClaim := { program := "ytgdkhdooekmfgaa", sum := "963b7a6ccd3820739be47dbd9b739916a2f92eb759b86d60aabaad640db82064", func := "headrace/headracelaw26.HeartSteady", spec := "heartSteady", inPlace := ["slices.overlaps[headrace/api.Pulse]"], unfollowed := true, recurses := true, apart := false }
def HeartSteadySaid : Prop := heartSteadyRow.holds Try.pinned (OpenSpec.ofChange heartSteadySpec)

/-- ITS FALSE NEIGHBOUR: 'it returns false'. Refute it at one input. -/
def heartSteadyWrong : ChangeSpec := { name := "heartSteady", fn := fun _ => fun
  | [d1, d2, d3] => { results := [.lit (.bool false)], args := [d1, d2, d3] }
  | _ => none }
def HeartSteadyWrongFalsely : Prop := heartSteadyRow.holds Try.pinned (OpenSpec.ofChange heartSteadyWrong)

/-- 'headracelaw26.HeartTwice': WHATEVER THE INPUT: true; the input reads as it did. -/
def heartTwiceSpec : ChangeSpec := { name := "heartTwice", fn := fun _ => fun
  | [d1, d2, d3] => { results := [.lit (.bool true)], args := [d1, d2, d3] }
  | _ => none }
def heartTwiceRow : OpenClaim := { program := "ytgdkhdooekmfgaa", sum := "963b7a6ccd3820739be47dbd9b739916a2f92eb759b86d60aabaad640db82064", func := "headrace/headracelaw26.HeartTwice", spec := "heartTwice", inPlace := ["slices.overlaps[headrace/api.Pulse]"], unfollowed := true, recurses := true, apart := false }
def HeartTwiceSaid : Prop := heartTwiceRow.holds Try.pinned (OpenSpec.ofChange heartTwiceSpec)

/-- ITS FALSE NEIGHBOUR: 'it returns false'. Refute it at one input. -/
def heartTwiceWrong : ChangeSpec := { name := "heartTwice", fn := fun _ => fun
  | [d1, d2, d3] => { results := [.lit (.bool false)], args := [d1, d2, d3] }
  | _ => none }
def HeartTwiceWrongFalsely : Prop := heartTwiceRow.holds Try.pinned (OpenSpec.ofChange heartTwiceWrong)

/-- 'headracelaw26.HeartGoes': WHATEVER THE INPUT: true; the input reads as it did. -/
def heartGoesSpec : ChangeSpec := { name := "heartGoes", fn := fun _ => fun
  | [d1, d2] => { results := [.lit (.bool true)], args := [d1, d2] }
  | _ => none }
def heartGoesRow : OpenClaim := { program := "ytgdkhdooekmfgaa", sum := "963b7a6ccd3820739be47dbd9b739916a2f92eb759b86d60aabaad640db82064", func := "headrace/headracelaw26.HeartGoes", spec := "heartGoes", inPlace := ["slices.overlaps[headrace/api.Pulse]"], unfollowed := true, recurses := true, apart := false }
def HeartGoesSaid : Prop := heartGoesRow.holds Try.pinned (OpenSpec.ofChange heartGoesSpec)

/-- ITS FALSE NEIGHBOUR: 'it returns false'. Refute it at one input. -/
def heartGoesWrong : ChangeSpec := { name := "heartGoes", fn := fun _ => fun
  | [d1, d2] => { results := [.lit (.bool false)], args := [d1, d2] }
  | _ => none }
def HeartGoesWrongFalsely : Prop := heartGoesRow.holds Try.pinned (OpenSpec.ofChange heartGoesWrong)

/- THE SECOND FORM. 'bulk': how many values and letters a reading holds, each counted each time it is reached (what is shared counts as often as it is met; a slice's spare places count too). A statement '..UptoSaid' is the law's where the arguments, and the package variables that the reading takes, are together of bulk at most 1048576: NARROWER than '..Said'. Prove '..Said' where nothing that the law and all that it calls make is longer than what came in: it says more and counts as full. Else prove '..UptoSaid'. A law counts once. -/
mutual
def uptoBulk {H : Type} : DataW H → Nat
  | .lit (.string bytes) => bytes.length + 1
  | .lit _ => 1
  | .nil => 1
  | .ptr d => uptoBulk d + 1
  | .slice elems spare => uptoBulkAll elems + uptoBulkAll spare + 1
  | .agg parts => uptoBulkAll parts + 1
  | .iface _ d => uptoBulk d + 1
  | .map entries => uptoBulkEntries entries + 1
  | .held _ => 1
def uptoBulkAll {H : Type} : List (DataW H) → Nat
  | [] => 0
  | d :: r => uptoBulk d + uptoBulkAll r
def uptoBulkEntries {H : Type} : List (Lit × DataW H) → Nat
  | [] => 0
  | x :: r => uptoBulkEntry x + uptoBulkEntries r
def uptoBulkEntry {H : Type} : Lit × DataW H → Nat
  | (.string bytes, d) => bytes.length + uptoBulk d + 1
  | (_, d) => uptoBulk d + 1
 end
def uptoSmall : (H : Type) → List (DataW H) → Bool := fun _ ds => decide (uptoBulkAll ds ≤ 1048576)
def OpenSpec.upto (s : _root_.Go.ChangeSpec) : _root_.Go.OpenSpec := { _root_.Go.OpenSpec.ofChange s with cond := some uptoSmall }

/-- 'headracelaw26.HeartDoes', WHERE WHAT IT READS IS OF BULK AT MOST 1048576: true; the input reads as it did. -/
def heartDoesUptoRow : OpenClaim := { program := "ytgdkhdooekmfgaa", sum := "963b7a6ccd3820739be47dbd9b739916a2f92eb759b86d60aabaad640db82064", func := "headrace/headracelaw26.HeartDoes", spec := "heartDoes", inPlace := ["slices.overlaps[headrace/api.Pulse]"], unfollowed := true, recurses := true, apart := false, narrowed := true }
def HeartDoesUptoSaid : Prop := heartDoesUptoRow.holds Try.pinned (OpenSpec.upto heartDoesSpec)

/-- 'headracelaw26.HeartTells', WHERE WHAT IT READS IS OF BULK AT MOST 1048576: true; the input reads as it did. -/
def heartTellsUptoRow : OpenClaim := { program := "ytgdkhdooekmfgaa", sum := "963b7a6ccd3820739be47dbd9b739916a2f92eb759b86d60aabaad640db82064", func := "headrace/headracelaw26.HeartTells", spec := "heartTells", inPlace := ["slices.overlaps[headrace/api.Pulse]"], unfollowed := true, recurses := true, apart := false, narrowed := true }
def HeartTellsUptoSaid : Prop := heartTellsUptoRow.holds Try.pinned (OpenSpec.upto heartTellsSpec)

/-- 'headracelaw26.HeartNews', WHERE WHAT IT READS IS OF BULK AT MOST 1048576: true; the input reads as it did. -/
def heartNewsUptoRow : OpenClaim := { program := "ytgdkhdooekmfgaa", sum := "963b7a6ccd3820739be47dbd9b739916a2f92eb759b86d60aabaad640db82064", func := "headrace/headracelaw26.HeartNews", spec := "heartNews", inPlace := ["slices.overlaps[headrace/api.Pulse]"], unfollowed := true, recurses := true, apart := false, narrowed := true }
def HeartNewsUptoSaid : Prop := heartNewsUptoRow.holds Try.pinned (OpenSpec.upto heartNewsSpec)

/-- 'headracelaw26.HeartSteady', WHERE WHAT IT READS IS OF BULK AT MOST 1048576: true; the input reads as it did. -/
def heartSteadyUptoRow : OpenClaim := { program := "ytgdkhdooekmfgaa", sum := "963b7a6ccd3820739be47dbd9b739916a2f92eb759b86d60aabaad640db82064", func := "headrace/headracelaw26.HeartSteady", spec := "heartSteady", inPlace := ["slices.overlaps[headrace/api.Pulse]"], unfollowed := true, recurses := true, apart := false, narrowed := true }
def HeartSteadyUptoSaid : Prop := heartSteadyUptoRow.holds Try.pinned (OpenSpec.upto heartSteadySpec)

/-- 'headracelaw26.HeartTwice', WHERE WHAT IT READS IS OF BULK AT MOST 1048576: true; the input reads as it did. -/
def heartTwiceUptoRow : OpenClaim := { program := "ytgdkhdooekmfgaa", sum := "963b7a6ccd3820739be47dbd9b739916a2f92eb759b86d60aabaad640db82064", func := "headrace/headracelaw26.HeartTwice", spec := "heartTwice", inPlace := ["slices.overlaps[headrace/api.Pulse]"], unfollowed := true, recurses := true, apart := false, narrowed := true }
def HeartTwiceUptoSaid : Prop := heartTwiceUptoRow.holds Try.pinned (OpenSpec.upto heartTwiceSpec)

/-- 'headracelaw26.HeartGoes', WHERE WHAT IT READS IS OF BULK AT MOST 1048576: true; the input reads as it did. -/
def heartGoesUptoRow : OpenClaim := { program := "ytgdkhdooekmfgaa", sum := "963b7a6ccd3820739be47dbd9b739916a2f92eb759b86d60aabaad640db82064", func := "headrace/headracelaw26.HeartGoes", spec := "heartGoes", inPlace := ["slices.overlaps[headrace/api.Pulse]"], unfollowed := true, recurses := true, apart := false, narrowed := true }
def HeartGoesUptoSaid : Prop := heartGoesUptoRow.holds Try.pinned (OpenSpec.upto heartGoesSpec)

end Rows
end Go.Proofs.Ytgdkhdooekmfgaa
