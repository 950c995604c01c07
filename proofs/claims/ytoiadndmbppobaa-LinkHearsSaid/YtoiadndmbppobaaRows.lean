/-
  No cell of these rows narrows 'for every input' (looked for: loops, veiled, ifaces, maps, wideKeys, modest, calm, conditions, laid).
  DERIVED. THE GIVEN ROWS OF THIS SEAT. 7 by the template 'for every input the law returns true; each argument reads behind the call as it read before'; 0 by the template 'total and deterministic' (their statements: YtoiadndmbppobaaTotals.lean).
  GIVEN WITH THE SEED: the statements are not yours to turn. If you find one false, say at which input.
  Laid BY PROGRAM, IN A SANDBOX (cutbox-rows.mjs): the forced cells as the released guide's own fill.sh prints them over the translation b491e7a4eb236581… (all of the seat's roots in one cut). By AI agents, Wed Nov 11 2026. No macro, syntax, notation, axiom, sorry.
-/
import Derived.Test.YtoiadndmbppobaaChecked
import GoSem.Claim
import GoSem.ClaimJoined
import GoSem.ClaimMapViews
import Derived.JoinedTies
import Derived.KernelRfl
namespace Go.Proofs.Ytoiadndmbppobaa
/- THE CELL 'sum', in the pinned program and in every row, IS THE sha256 OF THE DUMP (.gsa) THAT YtoiadndmbppobaaProg.lean LOADS. Nothing in Lean hashes anything: it is a label: what it is worth is what the hold of that sum in a sandbox is worth. -/
noncomputable def Try.pinned : Pinned := { name := "ytoiadndmbppobaa", sum := "b491e7a4eb236581abd2fa20169fa7eb9dc3e4a2fb3888bee2e9ff4ddaa91507", checked := Try.checked }
namespace Rows
def none {H : Type} : Left H := { results := [], args := [] }

/-- 'headracelaw14.LinkSends': WHATEVER THE INPUT: true; the input reads as it did. -/
def linkSendsSpec : ChangeSpec := { name := "linkSends", fn := fun _ => fun
  | [d1, d2] => { results := [.lit (.bool true)], args := [d1, d2] }
  | _ => none }
def linkSendsRow : OpenClaim := { program := "ytoiadndmbppobaa", sum := "b491e7a4eb236581abd2fa20169fa7eb9dc3e4a2fb3888bee2e9ff4ddaa91507", func := "headrace/headracelaw14.LinkSends", spec := "linkSends", unfollowed := true, recurses := true, apart := false }
def LinkSendsSaid : Prop := linkSendsRow.holds Try.pinned (OpenSpec.ofChange linkSendsSpec)

/-- ITS FALSE NEIGHBOUR: 'it returns false'. Refute it at one input. -/
def linkSendsWrong : ChangeSpec := { name := "linkSends", fn := fun _ => fun
  | [d1, d2] => { results := [.lit (.bool false)], args := [d1, d2] }
  | _ => none }
def LinkSendsWrongFalsely : Prop := linkSendsRow.holds Try.pinned (OpenSpec.ofChange linkSendsWrong)

/-- 'headracelaw14.LinkHears': WHATEVER THE INPUT: true; the input reads as it did. -/
def linkHearsSpec : ChangeSpec := { name := "linkHears", fn := fun _ => fun
  | [d1, d2] => { results := [.lit (.bool true)], args := [d1, d2] }
  | _ => none }
def linkHearsRow : OpenClaim := { program := "ytoiadndmbppobaa", sum := "b491e7a4eb236581abd2fa20169fa7eb9dc3e4a2fb3888bee2e9ff4ddaa91507", func := "headrace/headracelaw14.LinkHears", spec := "linkHears", unfollowed := true, recurses := true, apart := false }
def LinkHearsSaid : Prop := linkHearsRow.holds Try.pinned (OpenSpec.ofChange linkHearsSpec)

/-- ITS FALSE NEIGHBOUR: 'it returns false'. Refute it at one input. -/
def linkHearsWrong : ChangeSpec := { name := "linkHears", fn := fun _ => fun
  | [d1, d2] => { results := [.lit (.bool false)], args := [d1, d2] }
  | _ => none }
def LinkHearsWrongFalsely : Prop := linkHearsRow.holds Try.pinned (OpenSpec.ofChange linkHearsWrong)

/-- 'headracelaw14.LinkOpens': WHATEVER THE INPUT: true; the input reads as it did. -/
def linkOpensSpec : ChangeSpec := { name := "linkOpens", fn := fun _ => fun
  | [d1, d2] => { results := [.lit (.bool true)], args := [d1, d2] }
  | _ => none }
def linkOpensRow : OpenClaim := { program := "ytoiadndmbppobaa", sum := "b491e7a4eb236581abd2fa20169fa7eb9dc3e4a2fb3888bee2e9ff4ddaa91507", func := "headrace/headracelaw14.LinkOpens", spec := "linkOpens", unfollowed := true, recurses := true, apart := false }
def LinkOpensSaid : Prop := linkOpensRow.holds Try.pinned (OpenSpec.ofChange linkOpensSpec)

/-- ITS FALSE NEIGHBOUR: 'it returns false'. Refute it at one input. -/
def linkOpensWrong : ChangeSpec := { name := "linkOpens", fn := fun _ => fun
  | [d1, d2] => { results := [.lit (.bool false)], args := [d1, d2] }
  | _ => none }
def LinkOpensWrongFalsely : Prop := linkOpensRow.holds Try.pinned (OpenSpec.ofChange linkOpensWrong)

/-- 'headracelaw14.LinkSame': WHATEVER THE INPUT: true; the input reads as it did. -/
def linkSameSpec : ChangeSpec := { name := "linkSame", fn := fun _ => fun
  | [d1, d2, d3] => { results := [.lit (.bool true)], args := [d1, d2, d3] }
  | _ => none }
def linkSameRow : OpenClaim := { program := "ytoiadndmbppobaa", sum := "b491e7a4eb236581abd2fa20169fa7eb9dc3e4a2fb3888bee2e9ff4ddaa91507", func := "headrace/headracelaw14.LinkSame", spec := "linkSame", unfollowed := true, recurses := true, apart := false }
def LinkSameSaid : Prop := linkSameRow.holds Try.pinned (OpenSpec.ofChange linkSameSpec)

/-- ITS FALSE NEIGHBOUR: 'it returns false'. Refute it at one input. -/
def linkSameWrong : ChangeSpec := { name := "linkSame", fn := fun _ => fun
  | [d1, d2, d3] => { results := [.lit (.bool false)], args := [d1, d2, d3] }
  | _ => none }
def LinkSameWrongFalsely : Prop := linkSameRow.holds Try.pinned (OpenSpec.ofChange linkSameWrong)

/-- 'headracelaw14.LinkFlows': WHATEVER THE INPUT: true; the input reads as it did. -/
def linkFlowsSpec : ChangeSpec := { name := "linkFlows", fn := fun _ => fun
  | [d1, d2] => { results := [.lit (.bool true)], args := [d1, d2] }
  | _ => none }
def linkFlowsRow : OpenClaim := { program := "ytoiadndmbppobaa", sum := "b491e7a4eb236581abd2fa20169fa7eb9dc3e4a2fb3888bee2e9ff4ddaa91507", func := "headrace/headracelaw14.LinkFlows", spec := "linkFlows", unfollowed := true, recurses := true, apart := false }
def LinkFlowsSaid : Prop := linkFlowsRow.holds Try.pinned (OpenSpec.ofChange linkFlowsSpec)

/-- ITS FALSE NEIGHBOUR: 'it returns false'. Refute it at one input. -/
def linkFlowsWrong : ChangeSpec := { name := "linkFlows", fn := fun _ => fun
  | [d1, d2] => { results := [.lit (.bool false)], args := [d1, d2] }
  | _ => none }
def LinkFlowsWrongFalsely : Prop := linkFlowsRow.holds Try.pinned (OpenSpec.ofChange linkFlowsWrong)

/-- 'headracelaw14.LinkComes': WHATEVER THE INPUT: true; the input reads as it did. -/
def linkComesSpec : ChangeSpec := { name := "linkComes", fn := fun _ => fun
  | [d1, d2] => { results := [.lit (.bool true)], args := [d1, d2] }
  | _ => none }
def linkComesRow : OpenClaim := { program := "ytoiadndmbppobaa", sum := "b491e7a4eb236581abd2fa20169fa7eb9dc3e4a2fb3888bee2e9ff4ddaa91507", func := "headrace/headracelaw14.LinkComes", spec := "linkComes", unfollowed := true, recurses := true, apart := false }
def LinkComesSaid : Prop := linkComesRow.holds Try.pinned (OpenSpec.ofChange linkComesSpec)

/-- ITS FALSE NEIGHBOUR: 'it returns false'. Refute it at one input. -/
def linkComesWrong : ChangeSpec := { name := "linkComes", fn := fun _ => fun
  | [d1, d2] => { results := [.lit (.bool false)], args := [d1, d2] }
  | _ => none }
def LinkComesWrongFalsely : Prop := linkComesRow.holds Try.pinned (OpenSpec.ofChange linkComesWrong)

/-- 'headracelaw14.LinkRoom': WHATEVER THE INPUT: true; the input reads as it did. -/
def linkRoomSpec : ChangeSpec := { name := "linkRoom", fn := fun _ => fun
  | [d1, d2] => { results := [.lit (.bool true)], args := [d1, d2] }
  | _ => none }
def linkRoomRow : OpenClaim := { program := "ytoiadndmbppobaa", sum := "b491e7a4eb236581abd2fa20169fa7eb9dc3e4a2fb3888bee2e9ff4ddaa91507", func := "headrace/headracelaw14.LinkRoom", spec := "linkRoom", unfollowed := true, recurses := true, apart := false }
def LinkRoomSaid : Prop := linkRoomRow.holds Try.pinned (OpenSpec.ofChange linkRoomSpec)

/-- ITS FALSE NEIGHBOUR: 'it returns false'. Refute it at one input. -/
def linkRoomWrong : ChangeSpec := { name := "linkRoom", fn := fun _ => fun
  | [d1, d2] => { results := [.lit (.bool false)], args := [d1, d2] }
  | _ => none }
def LinkRoomWrongFalsely : Prop := linkRoomRow.holds Try.pinned (OpenSpec.ofChange linkRoomWrong)

/- THE SECOND FORM. 'bulk': how many values and letters a reading holds, each counted each time it is reached (what is shared counts as often as it is met; a slice's spare places count too). A statement '..UptoSaid' is the law's where the arguments, and the package variables that the reading takes, are together of bulk at most 1048576: NARROWER than '..Said'. Prove '..Said' where nothing that the law and all that it calls make is longer than what came in: it says more and counts as full. Else prove '..UptoSaid'. A law counts once. -/
mutual
def uptoBulk {H : Type} : DataW H → Nat
  | .lit (.string bytes) => bytes.length + 1
  | .lit _ => 1
  | .nil => 1
  | .ptr d => uptoBulk d + 1
  | .slice elems spare => uptoBulkAll elems + uptoBulkAll spare + 1
  | .agg parts => uptoBulkAll parts + 1
  | .iface _ d => uptoBulk d + 1
  | .map entries => uptoBulkEntries entries + 1
  | .held _ => 1
def uptoBulkAll {H : Type} : List (DataW H) → Nat
  | [] => 0
  | d :: r => uptoBulk d + uptoBulkAll r
def uptoBulkEntries {H : Type} : List (Lit × DataW H) → Nat
  | [] => 0
  | x :: r => uptoBulkEntry x + uptoBulkEntries r
def uptoBulkEntry {H : Type} : Lit × DataW H → Nat
  | (.string bytes, d) => bytes.length + uptoBulk d + 1
  | (_, d) => uptoBulk d + 1
 end
def uptoSmall : (H : Type) → List (DataW H) → Bool := fun _ ds => decide (uptoBulkAll ds ≤ 1048576)
def OpenSpec.upto (s : _root_.Go.ChangeSpec) : _root_.Go.OpenSpec := { _root_.Go.OpenSpec.ofChange s with cond := some uptoSmall }

/-- 'headracelaw14.LinkSends', WHERE WHAT IT READS IS OF BULK AT MOST 1048576: true; the input reads as it did. -/
def linkSendsUptoRow : OpenClaim := { program := "ytoiadndmbppobaa", sum := "b491e7a4eb236581abd2fa20169fa7eb9dc3e4a2fb3888bee2e9ff4ddaa91507", func := "headrace/headracelaw14.LinkSends", spec := "linkSends", unfollowed := true, recurses := true, apart := false, narrowed := true }
def LinkSendsUptoSaid : Prop := linkSendsUptoRow.holds Try.pinned (OpenSpec.upto linkSendsSpec)

/-- 'headracelaw14.LinkHears', WHERE WHAT IT READS IS OF BULK AT MOST 1048576: true; the input reads as it did. -/
def linkHearsUptoRow : OpenClaim := { program := "ytoiadndmbppobaa", sum := "b491e7a4eb236581abd2fa20169fa7eb9dc3e4a2fb3888bee2e9ff4ddaa91507", func := "headrace/headracelaw14.LinkHears", spec := "linkHears", unfollowed := true, recurses := true, apart := false, narrowed := true }
def LinkHearsUptoSaid : Prop := linkHearsUptoRow.holds Try.pinned (OpenSpec.upto linkHearsSpec)

/-- 'headracelaw14.LinkOpens', WHERE WHAT IT READS IS OF BULK AT MOST 1048576: true; the input reads as it did. -/
def linkOpensUptoRow : OpenClaim := { program := "ytoiadndmbppobaa", sum := "b491e7a4eb236581abd2fa20169fa7eb9dc3e4a2fb3888bee2e9ff4ddaa91507", func := "headrace/headracelaw14.LinkOpens", spec := "linkOpens", unfollowed := true, recurses := true, apart := false, narrowed := true }
def LinkOpensUptoSaid : Prop := linkOpensUptoRow.holds Try.pinned (OpenSpec.upto linkOpensSpec)

/-- 'headracelaw14.LinkSame', WHERE WHAT IT READS IS OF BULK AT MOST 1048576: true; the input reads as it did. -/
def linkSameUptoRow : OpenClaim := { program := "ytoiadndmbppobaa", sum := "b491e7a4eb236581abd2fa20169fa7eb9dc3e4a2fb3888bee2e9ff4ddaa91507", func := "headrace/headracelaw14.LinkSame", spec := "linkSame", unfollowed := true, recurses := true, apart := false, narrowed := true }
def LinkSameUptoSaid : Prop := linkSameUptoRow.holds Try.pinned (OpenSpec.upto linkSameSpec)

/-- 'headracelaw14.LinkFlows', WHERE WHAT IT READS IS OF BULK AT MOST 1048576: true; the input reads as it did. -/
def linkFlowsUptoRow : OpenClaim := { program := "ytoiadndmbppobaa", sum := "b491e7a4eb236581abd2fa20169fa7eb9dc3e4a2fb3888bee2e9ff4ddaa91507", func := "headrace/headracelaw14.LinkFlows", spec := "linkFlows", unfollowed := true, recurses := true, apart := false, narrowed := true }
def LinkFlowsUptoSaid : Prop := linkFlowsUptoRow.holds Try.pinned (OpenSpec.upto linkFlowsSpec)

/-- 'headracelaw14.LinkComes', WHERE WHAT IT READS IS OF BULK AT MOST 1048576: true; the input reads as it did. -/
def linkComesUptoRow : OpenClaim := { program := "ytoiadndmbppobaa", sum := "b491e7a4eb236581abd2fa20169fa7eb9dc3e4a2fb3888bee2e9ff4ddaa91507", func := "headrace/headracelaw14.LinkComes", spec := "linkComes", unfollowed := true, recurses := true, apart := false, narrowed := true }
def LinkComesUptoSaid : Prop := linkComesUptoRow.holds Try.pinned (OpenSpec.upto linkComesSpec)

/-- 'headracelaw14.LinkRoom', WHERE WHAT IT READS IS OF BULK AT MOST 1048576: true; the input reads as it did. -/
def linkRoomUptoRow : OpenClaim := { program := "ytoiadndmbppobaa", sum := "b491e7a4eb236581abd2fa20169fa7eb9dc3e4a2fb3888bee2e9ff4ddaa91507", func := "headrace/headracelaw14.LinkRoom", spec := "linkRoom", unfollowed := true, recurses := true, apart := false, narrowed := true }
def LinkRoomUptoSaid : Prop := linkRoomUptoRow.holds Try.pinned (OpenSpec.upto linkRoomSpec)

end Rows
end Go.Proofs.Ytoiadndmbppobaa
