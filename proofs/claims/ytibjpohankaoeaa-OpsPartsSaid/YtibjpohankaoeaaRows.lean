/-
  No cell of these rows narrows 'for every input' (looked for: loops, veiled, ifaces, maps, wideKeys, modest, calm, conditions, laid).
  DERIVED. THE GIVEN ROWS OF THIS SEAT. 7 by the template 'for every input the law returns true; each argument reads behind the call as it read before'; 0 by the template 'total and deterministic' (their statements: YtibjpohankaoeaaTotals.lean).
  GIVEN WITH THE SEED: the statements are not yours to turn. If you find one false, say at which input.
  Laid BY PROGRAM, IN A SANDBOX (cutbox-rows.mjs): the forced cells as the released guide's own fill.sh prints them over the translation 1150b39d8a5c8097… (all of the seat's roots in one cut). By AI agents, Wed Nov 11 2026. No macro, syntax, notation, axiom, sorry.
-/
import Derived.Test.YtibjpohankaoeaaChecked
import GoSem.Claim
import GoSem.ClaimJoined
import GoSem.ClaimMapViews
import Derived.JoinedTies
import Derived.KernelRfl
namespace Go.Proofs.Ytibjpohankaoeaa
/- THE CELL 'sum', in the pinned program and in every row, IS THE sha256 OF THE DUMP (.gsa) THAT YtibjpohankaoeaaProg.lean LOADS. Nothing in Lean hashes anything: it is a label: what it is worth is what the hold of that sum in a sandbox is worth. -/
noncomputable def Try.pinned : Pinned := { name := "ytibjpohankaoeaa", sum := "1150b39d8a5c80973ed7f13a2fab0bed08912481a3d44a92983f4584e378716b", checked := Try.checked }
namespace Rows
def none {H : Type} : Left H := { results := [], args := [] }

/-- 'headracelaw08.OpsDo': WHATEVER THE INPUT: true; the input reads as it did. -/
def opsDoSpec : ChangeSpec := { name := "opsDo", fn := fun _ => fun
  | [d1, d2] => { results := [.lit (.bool true)], args := [d1, d2] }
  | _ => none }
def opsDoRow : OpenClaim := { program := "ytibjpohankaoeaa", sum := "1150b39d8a5c80973ed7f13a2fab0bed08912481a3d44a92983f4584e378716b", func := "headrace/headracelaw08.OpsDo", spec := "opsDo", unfollowed := true, recurses := true, apart := false }
def OpsDoSaid : Prop := opsDoRow.holds Try.pinned (OpenSpec.ofChange opsDoSpec)

/-- ITS FALSE NEIGHBOUR: 'it returns false'. Refute it at one input. -/
def opsDoWrong : ChangeSpec := { name := "opsDo", fn := fun _ => fun
  | [d1, d2] => { results := [.lit (.bool false)], args := [d1, d2] }
  | _ => none }
def OpsDoWrongFalsely : Prop := opsDoRow.holds Try.pinned (OpenSpec.ofChange opsDoWrong)

/-- 'headracelaw08.OpsRun': WHATEVER THE INPUT: true; the input reads as it did. -/
def opsRunSpec : ChangeSpec := { name := "opsRun", fn := fun _ => fun
  | [d1, d2] => { results := [.lit (.bool true)], args := [d1, d2] }
  | _ => none }
def opsRunRow : OpenClaim := { program := "ytibjpohankaoeaa", sum := "1150b39d8a5c80973ed7f13a2fab0bed08912481a3d44a92983f4584e378716b", func := "headrace/headracelaw08.OpsRun", spec := "opsRun", unfollowed := true, recurses := true, apart := false }
def OpsRunSaid : Prop := opsRunRow.holds Try.pinned (OpenSpec.ofChange opsRunSpec)

/-- ITS FALSE NEIGHBOUR: 'it returns false'. Refute it at one input. -/
def opsRunWrong : ChangeSpec := { name := "opsRun", fn := fun _ => fun
  | [d1, d2] => { results := [.lit (.bool false)], args := [d1, d2] }
  | _ => none }
def OpsRunWrongFalsely : Prop := opsRunRow.holds Try.pinned (OpenSpec.ofChange opsRunWrong)

/-- 'headracelaw08.OpsRow': WHATEVER THE INPUT: true; the input reads as it did. -/
def opsRowSpec : ChangeSpec := { name := "opsRow", fn := fun _ => fun
  | [d1, d2] => { results := [.lit (.bool true)], args := [d1, d2] }
  | _ => none }
def opsRowRow : OpenClaim := { program := "ytibjpohankaoeaa", sum := "1150b39d8a5c80973ed7f13a2fab0bed08912481a3d44a92983f4584e378716b", func := "headrace/headracelaw08.OpsRow", spec := "opsRow", unfollowed := true, recurses := true, apart := false }
def OpsRowSaid : Prop := opsRowRow.holds Try.pinned (OpenSpec.ofChange opsRowSpec)

/-- ITS FALSE NEIGHBOUR: 'it returns false'. Refute it at one input. -/
def opsRowWrong : ChangeSpec := { name := "opsRow", fn := fun _ => fun
  | [d1, d2] => { results := [.lit (.bool false)], args := [d1, d2] }
  | _ => none }
def OpsRowWrongFalsely : Prop := opsRowRow.holds Try.pinned (OpenSpec.ofChange opsRowWrong)

/-- 'headracelaw08.OpsMod': WHATEVER THE INPUT: true; the input reads as it did. -/
def opsModSpec : ChangeSpec := { name := "opsMod", fn := fun _ => fun
  | [d1, d2] => { results := [.lit (.bool true)], args := [d1, d2] }
  | _ => none }
def opsModRow : OpenClaim := { program := "ytibjpohankaoeaa", sum := "1150b39d8a5c80973ed7f13a2fab0bed08912481a3d44a92983f4584e378716b", func := "headrace/headracelaw08.OpsMod", spec := "opsMod", unfollowed := true, recurses := true, apart := false }
def OpsModSaid : Prop := opsModRow.holds Try.pinned (OpenSpec.ofChange opsModSpec)

/-- ITS FALSE NEIGHBOUR: 'it returns false'. Refute it at one input. -/
def opsModWrong : ChangeSpec := { name := "opsMod", fn := fun _ => fun
  | [d1, d2] => { results := [.lit (.bool false)], args := [d1, d2] }
  | _ => none }
def OpsModWrongFalsely : Prop := opsModRow.holds Try.pinned (OpenSpec.ofChange opsModWrong)

/-- 'headracelaw08.OpsParts': WHATEVER THE INPUT: true; the input reads as it did. -/
def opsPartsSpec : ChangeSpec := { name := "opsParts", fn := fun _ => fun
  | [d1, d2, d3] => { results := [.lit (.bool true)], args := [d1, d2, d3] }
  | _ => none }
def opsPartsRow : OpenClaim := { program := "ytibjpohankaoeaa", sum := "1150b39d8a5c80973ed7f13a2fab0bed08912481a3d44a92983f4584e378716b", func := "headrace/headracelaw08.OpsParts", spec := "opsParts", unfollowed := true, recurses := true, apart := false }
def OpsPartsSaid : Prop := opsPartsRow.holds Try.pinned (OpenSpec.ofChange opsPartsSpec)

/-- ITS FALSE NEIGHBOUR: 'it returns false'. Refute it at one input. -/
def opsPartsWrong : ChangeSpec := { name := "opsParts", fn := fun _ => fun
  | [d1, d2, d3] => { results := [.lit (.bool false)], args := [d1, d2, d3] }
  | _ => none }
def OpsPartsWrongFalsely : Prop := opsPartsRow.holds Try.pinned (OpenSpec.ofChange opsPartsWrong)

/-- 'headracelaw08.OpsFewer': WHATEVER THE INPUT: true; the input reads as it did. -/
def opsFewerSpec : ChangeSpec := { name := "opsFewer", fn := fun _ => fun
  | [d1, d2] => { results := [.lit (.bool true)], args := [d1, d2] }
  | _ => none }
def opsFewerRow : OpenClaim := { program := "ytibjpohankaoeaa", sum := "1150b39d8a5c80973ed7f13a2fab0bed08912481a3d44a92983f4584e378716b", func := "headrace/headracelaw08.OpsFewer", spec := "opsFewer", unfollowed := true, recurses := true, apart := false }
def OpsFewerSaid : Prop := opsFewerRow.holds Try.pinned (OpenSpec.ofChange opsFewerSpec)

/-- ITS FALSE NEIGHBOUR: 'it returns false'. Refute it at one input. -/
def opsFewerWrong : ChangeSpec := { name := "opsFewer", fn := fun _ => fun
  | [d1, d2] => { results := [.lit (.bool false)], args := [d1, d2] }
  | _ => none }
def OpsFewerWrongFalsely : Prop := opsFewerRow.holds Try.pinned (OpenSpec.ofChange opsFewerWrong)

/-- 'headracelaw08.OpsSums': WHATEVER THE INPUT: true; the input reads as it did. -/
def opsSumsSpec : ChangeSpec := { name := "opsSums", fn := fun _ => fun
  | [d1, d2] => { results := [.lit (.bool true)], args := [d1, d2] }
  | _ => none }
def opsSumsRow : OpenClaim := { program := "ytibjpohankaoeaa", sum := "1150b39d8a5c80973ed7f13a2fab0bed08912481a3d44a92983f4584e378716b", func := "headrace/headracelaw08.OpsSums", spec := "opsSums", unfollowed := true, recurses := true, apart := false }
def OpsSumsSaid : Prop := opsSumsRow.holds Try.pinned (OpenSpec.ofChange opsSumsSpec)

/-- ITS FALSE NEIGHBOUR: 'it returns false'. Refute it at one input. -/
def opsSumsWrong : ChangeSpec := { name := "opsSums", fn := fun _ => fun
  | [d1, d2] => { results := [.lit (.bool false)], args := [d1, d2] }
  | _ => none }
def OpsSumsWrongFalsely : Prop := opsSumsRow.holds Try.pinned (OpenSpec.ofChange opsSumsWrong)

/- THE SECOND FORM. 'bulk': how many values and letters a reading holds, each counted each time it is reached (what is shared counts as often as it is met; a slice's spare places count too). A statement '..UptoSaid' is the law's where the arguments, and the package variables that the reading takes, are together of bulk at most 1048576: NARROWER than '..Said'. Prove '..Said' where nothing that the law and all that it calls make is longer than what came in: it says more and counts as full. Else prove '..UptoSaid'. A law counts once. -/
mutual
def uptoBulk {H : Type} : DataW H → Nat
  | .lit (.string bytes) => bytes.length + 1
  | .lit _ => 1
  | .nil => 1
  | .ptr d => uptoBulk d + 1
  | .slice elems spare => uptoBulkAll elems + uptoBulkAll spare + 1
  | .agg parts => uptoBulkAll parts + 1
  | .iface _ d => uptoBulk d + 1
  | .map entries => uptoBulkEntries entries + 1
  | .held _ => 1
def uptoBulkAll {H : Type} : List (DataW H) → Nat
  | [] => 0
  | d :: r => uptoBulk d + uptoBulkAll r
def uptoBulkEntries {H : Type} : List (Lit × DataW H) → Nat
  | [] => 0
  | x :: r => uptoBulkEntry x + uptoBulkEntries r
def uptoBulkEntry {H : Type} : Lit × DataW H → Nat
  | (.string bytes, d) => bytes.length + uptoBulk d + 1
  | (_, d) => uptoBulk d + 1
 end
def uptoSmall : (H : Type) → List (DataW H) → Bool := fun _ ds => decide (uptoBulkAll ds ≤ 1048576)
def OpenSpec.upto (s : _root_.Go.ChangeSpec) : _root_.Go.OpenSpec := { _root_.Go.OpenSpec.ofChange s with cond := some uptoSmall }

/-- 'headracelaw08.OpsDo', WHERE WHAT IT READS IS OF BULK AT MOST 1048576: true; the input reads as it did. -/
def opsDoUptoRow : OpenClaim := { program := "ytibjpohankaoeaa", sum := "1150b39d8a5c80973ed7f13a2fab0bed08912481a3d44a92983f4584e378716b", func := "headrace/headracelaw08.OpsDo", spec := "opsDo", unfollowed := true, recurses := true, apart := false, narrowed := true }
def OpsDoUptoSaid : Prop := opsDoUptoRow.holds Try.pinned (OpenSpec.upto opsDoSpec)

/-- 'headracelaw08.OpsRun', WHERE WHAT IT READS IS OF BULK AT MOST 1048576: true; the input reads as it did. -/
def opsRunUptoRow : OpenClaim := { program := "ytibjpohankaoeaa", sum := "1150b39d8a5c80973ed7f13a2fab0bed08912481a3d44a92983f4584e378716b", func := "headrace/headracelaw08.OpsRun", spec := "opsRun", unfollowed := true, recurses := true, apart := false, narrowed := true }
def OpsRunUptoSaid : Prop := opsRunUptoRow.holds Try.pinned (OpenSpec.upto opsRunSpec)

/-- 'headracelaw08.OpsRow', WHERE WHAT IT READS IS OF BULK AT MOST 1048576: true; the input reads as it did. -/
def opsRowUptoRow : OpenClaim := { program := "ytibjpohankaoeaa", sum := "1150b39d8a5c80973ed7f13a2fab0bed08912481a3d44a92983f4584e378716b", func := "headrace/headracelaw08.OpsRow", spec := "opsRow", unfollowed := true, recurses := true, apart := false, narrowed := true }
def OpsRowUptoSaid : Prop := opsRowUptoRow.holds Try.pinned (OpenSpec.upto opsRowSpec)

/-- 'headracelaw08.OpsMod', WHERE WHAT IT READS IS OF BULK AT MOST 1048576: true; the input reads as it did. -/
def opsModUptoRow : OpenClaim := { program := "ytibjpohankaoeaa", sum := "1150b39d8a5c80973ed7f13a2fab0bed08912481a3d44a92983f4584e378716b", func := "headrace/headracelaw08.OpsMod", spec := "opsMod", unfollowed := true, recurses := true, apart := false, narrowed := true }
def OpsModUptoSaid : Prop := opsModUptoRow.holds Try.pinned (OpenSpec.upto opsModSpec)

/-- 'headracelaw08.OpsParts', WHERE WHAT IT READS IS OF BULK AT MOST 1048576: true; the input reads as it did. -/
def opsPartsUptoRow : OpenClaim := { program := "ytibjpohankaoeaa", sum := "1150b39d8a5c80973ed7f13a2fab0bed08912481a3d44a92983f4584e378716b", func := "headrace/headracelaw08.OpsParts", spec := "opsParts", unfollowed := true, recurses := true, apart := false, narrowed := true }
def OpsPartsUptoSaid : Prop := opsPartsUptoRow.holds Try.pinned (OpenSpec.upto opsPartsSpec)

/-- 'headracelaw08.OpsFewer', WHERE WHAT IT READS IS OF BULK AT MOST 1048576: true; the input reads as it did. -/
def opsFewerUptoRow : OpenClaim := { program := "ytibjpohankaoeaa", sum := "1150b39d8a5c80973ed7f13a2fab0bed08912481a3d44a92983f4584e378716b", func := "headrace/headracelaw08.OpsFewer", spec := "opsFewer", unfollowed := true, recurses := true, apart := false, narrowed := true }
def OpsFewerUptoSaid : Prop := opsFewerUptoRow.holds Try.pinned (OpenSpec.upto opsFewerSpec)

/-- 'headracelaw08.OpsSums', WHERE WHAT IT READS IS OF BULK AT MOST 1048576: true; the input reads as it did. -/
def opsSumsUptoRow : OpenClaim := { program := "ytibjpohankaoeaa", sum := "1150b39d8a5c80973ed7f13a2fab0bed08912481a3d44a92983f4584e378716b", func := "headrace/headracelaw08.OpsSums", spec := "opsSums", unfollowed := true, recurses := true, apart := false, narrowed := true }
def OpsSumsUptoSaid : Prop := opsSumsUptoRow.holds Try.pinned (OpenSpec.upto opsSumsSpec)

end Rows
end Go.Proofs.Ytibjpohankaoeaa
