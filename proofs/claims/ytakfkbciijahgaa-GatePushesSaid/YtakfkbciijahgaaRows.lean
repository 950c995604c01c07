/-
  No cell of these rows narrows 'for every input' (looked for: loops, veiled, ifaces, maps, wideKeys, modest, calm, conditions, laid).
  DERIVED. THE GIVEN ROWS OF THIS SEAT. 6 by the template 'for every input the law returns true; each argument reads behind the call as it read before'; 0 by the template 'total and deterministic' (their statements: YtakfkbciijahgaaTotals.lean).
  GIVEN WITH THE SEED: the statements are not yours to turn. If you find one false, say at which input.
  Laid BY PROGRAM, IN A SANDBOX (cutbox-rows.mjs): the forced cells as the released guide's own fill.sh prints them over the translation e071b9836f8ac58a… (all of the seat's roots in one cut). By AI agents, Wed Nov 11 2026. No macro, syntax, notation, axiom, sorry.
-/
import Derived.Test.YtakfkbciijahgaaChecked
import GoSem.Claim
import GoSem.ClaimJoined
import GoSem.ClaimMapViews
import Derived.JoinedTies
import Derived.KernelRfl
namespace Go.Proofs.Ytakfkbciijahgaa
/- THE CELL 'sum', in the pinned program and in every row, IS THE sha256 OF THE DUMP (.gsa) THAT YtakfkbciijahgaaProg.lean LOADS. Nothing in Lean hashes anything: it is a label: what it is worth is what the hold of that sum in a sandbox is worth. -/
noncomputable def Try.pinned : Pinned := { name := "ytakfkbciijahgaa", sum := "e071b9836f8ac58a9a1de35456eb54995bc7cada83b716897a7f41c363cf08a0", checked := Try.checked }
namespace Rows
def none {H : Type} : Left H := { results := [], args := [] }

/-- 'headracelaw15.GatePushes': WHATEVER THE INPUT: true; the input reads as it did. -/
def gatePushesSpec : ChangeSpec := { name := "gatePushes", fn := fun _ => fun
  | [d1, d2, d3] => { results := [.lit (.bool true)], args := [d1, d2, d3] }
  | _ => none }
def gatePushesRow : OpenClaim := { program := "ytakfkbciijahgaa", sum := "e071b9836f8ac58a9a1de35456eb54995bc7cada83b716897a7f41c363cf08a0", func := "headrace/headracelaw15.GatePushes", spec := "gatePushes", unfollowed := true, recurses := true, apart := false }
def GatePushesSaid : Prop := gatePushesRow.holds Try.pinned (OpenSpec.ofChange gatePushesSpec)

/-- ITS FALSE NEIGHBOUR: 'it returns false'. Refute it at one input. -/
def gatePushesWrong : ChangeSpec := { name := "gatePushes", fn := fun _ => fun
  | [d1, d2, d3] => { results := [.lit (.bool false)], args := [d1, d2, d3] }
  | _ => none }
def GatePushesWrongFalsely : Prop := gatePushesRow.holds Try.pinned (OpenSpec.ofChange gatePushesWrong)

/-- 'headracelaw15.GateTakes': WHATEVER THE INPUT: true; the input reads as it did. -/
def gateTakesSpec : ChangeSpec := { name := "gateTakes", fn := fun _ => fun
  | [d1, d2] => { results := [.lit (.bool true)], args := [d1, d2] }
  | _ => none }
def gateTakesRow : OpenClaim := { program := "ytakfkbciijahgaa", sum := "e071b9836f8ac58a9a1de35456eb54995bc7cada83b716897a7f41c363cf08a0", func := "headrace/headracelaw15.GateTakes", spec := "gateTakes", unfollowed := true, recurses := true, apart := false }
def GateTakesSaid : Prop := gateTakesRow.holds Try.pinned (OpenSpec.ofChange gateTakesSpec)

/-- ITS FALSE NEIGHBOUR: 'it returns false'. Refute it at one input. -/
def gateTakesWrong : ChangeSpec := { name := "gateTakes", fn := fun _ => fun
  | [d1, d2] => { results := [.lit (.bool false)], args := [d1, d2] }
  | _ => none }
def GateTakesWrongFalsely : Prop := gateTakesRow.holds Try.pinned (OpenSpec.ofChange gateTakesWrong)

/-- 'headracelaw15.GateTells': WHATEVER THE INPUT: true; the input reads as it did. -/
def gateTellsSpec : ChangeSpec := { name := "gateTells", fn := fun _ => fun
  | [d1, d2, d3] => { results := [.lit (.bool true)], args := [d1, d2, d3] }
  | _ => none }
def gateTellsRow : OpenClaim := { program := "ytakfkbciijahgaa", sum := "e071b9836f8ac58a9a1de35456eb54995bc7cada83b716897a7f41c363cf08a0", func := "headrace/headracelaw15.GateTells", spec := "gateTells", unfollowed := true, recurses := true, apart := false }
def GateTellsSaid : Prop := gateTellsRow.holds Try.pinned (OpenSpec.ofChange gateTellsSpec)

/-- ITS FALSE NEIGHBOUR: 'it returns false'. Refute it at one input. -/
def gateTellsWrong : ChangeSpec := { name := "gateTells", fn := fun _ => fun
  | [d1, d2, d3] => { results := [.lit (.bool false)], args := [d1, d2, d3] }
  | _ => none }
def GateTellsWrongFalsely : Prop := gateTellsRow.holds Try.pinned (OpenSpec.ofChange gateTellsWrong)

/-- 'headracelaw15.GateAligns': WHATEVER THE INPUT: true; the input reads as it did. -/
def gateAlignsSpec : ChangeSpec := { name := "gateAligns", fn := fun _ => fun
  | [d1, d2] => { results := [.lit (.bool true)], args := [d1, d2] }
  | _ => none }
def gateAlignsRow : OpenClaim := { program := "ytakfkbciijahgaa", sum := "e071b9836f8ac58a9a1de35456eb54995bc7cada83b716897a7f41c363cf08a0", func := "headrace/headracelaw15.GateAligns", spec := "gateAligns", unfollowed := true, recurses := true, apart := false }
def GateAlignsSaid : Prop := gateAlignsRow.holds Try.pinned (OpenSpec.ofChange gateAlignsSpec)

/-- ITS FALSE NEIGHBOUR: 'it returns false'. Refute it at one input. -/
def gateAlignsWrong : ChangeSpec := { name := "gateAligns", fn := fun _ => fun
  | [d1, d2] => { results := [.lit (.bool false)], args := [d1, d2] }
  | _ => none }
def GateAlignsWrongFalsely : Prop := gateAlignsRow.holds Try.pinned (OpenSpec.ofChange gateAlignsWrong)

/-- 'headracelaw15.GateWaits': WHATEVER THE INPUT: true; the input reads as it did. -/
def gateWaitsSpec : ChangeSpec := { name := "gateWaits", fn := fun _ => fun
  | [d] => { results := [.lit (.bool true)], args := [d] }
  | _ => none }
def gateWaitsRow : OpenClaim := { program := "ytakfkbciijahgaa", sum := "e071b9836f8ac58a9a1de35456eb54995bc7cada83b716897a7f41c363cf08a0", func := "headrace/headracelaw15.GateWaits", spec := "gateWaits", unfollowed := true, recurses := true, apart := false }
def GateWaitsSaid : Prop := gateWaitsRow.holds Try.pinned (OpenSpec.ofChange gateWaitsSpec)

/-- ITS FALSE NEIGHBOUR: 'it returns false'. Refute it at one input. -/
def gateWaitsWrong : ChangeSpec := { name := "gateWaits", fn := fun _ => fun
  | [d] => { results := [.lit (.bool false)], args := [d] }
  | _ => none }
def GateWaitsWrongFalsely : Prop := gateWaitsRow.holds Try.pinned (OpenSpec.ofChange gateWaitsWrong)

/-- 'headracelaw15.GateDrains': WHATEVER THE INPUT: true; the input reads as it did. -/
def gateDrainsSpec : ChangeSpec := { name := "gateDrains", fn := fun _ => fun
  | [d1, d2, d3] => { results := [.lit (.bool true)], args := [d1, d2, d3] }
  | _ => none }
def gateDrainsRow : OpenClaim := { program := "ytakfkbciijahgaa", sum := "e071b9836f8ac58a9a1de35456eb54995bc7cada83b716897a7f41c363cf08a0", func := "headrace/headracelaw15.GateDrains", spec := "gateDrains", unfollowed := true, recurses := true, apart := false }
def GateDrainsSaid : Prop := gateDrainsRow.holds Try.pinned (OpenSpec.ofChange gateDrainsSpec)

/-- ITS FALSE NEIGHBOUR: 'it returns false'. Refute it at one input. -/
def gateDrainsWrong : ChangeSpec := { name := "gateDrains", fn := fun _ => fun
  | [d1, d2, d3] => { results := [.lit (.bool false)], args := [d1, d2, d3] }
  | _ => none }
def GateDrainsWrongFalsely : Prop := gateDrainsRow.holds Try.pinned (OpenSpec.ofChange gateDrainsWrong)

/- THE SECOND FORM. 'bulk': how many values and letters a reading holds, each counted each time it is reached (what is shared counts as often as it is met; a slice's spare places count too). A statement '..UptoSaid' is the law's where the arguments, and the package variables that the reading takes, are together of bulk at most 1048576: NARROWER than '..Said'. Prove '..Said' where nothing that the law and all that it calls make is longer than what came in: it says more and counts as full. Else prove '..UptoSaid'. A law counts once. -/
mutual
def uptoBulk {H : Type} : DataW H → Nat
  | .lit (.string bytes) => bytes.length + 1
  | .lit _ => 1
  | .nil => 1
  | .ptr d => uptoBulk d + 1
  | .slice elems spare => uptoBulkAll elems + uptoBulkAll spare + 1
  | .agg parts => uptoBulkAll parts + 1
  | .iface _ d => uptoBulk d + 1
  | .map entries => uptoBulkEntries entries + 1
  | .held _ => 1
def uptoBulkAll {H : Type} : List (DataW H) → Nat
  | [] => 0
  | d :: r => uptoBulk d + uptoBulkAll r
def uptoBulkEntries {H : Type} : List (Lit × DataW H) → Nat
  | [] => 0
  | x :: r => uptoBulkEntry x + uptoBulkEntries r
def uptoBulkEntry {H : Type} : Lit × DataW H → Nat
  | (.string bytes, d) => bytes.length + uptoBulk d + 1
  | (_, d) => uptoBulk d + 1
 end
def uptoSmall : (H : Type) → List (DataW H) → Bool := fun _ ds => decide (uptoBulkAll ds ≤ 1048576)
def OpenSpec.upto (s : _root_.Go.ChangeSpec) : _root_.Go.OpenSpec := { _root_.Go.OpenSpec.ofChange s with cond := some uptoSmall }

/-- 'headracelaw15.GatePushes', WHERE WHAT IT READS IS OF BULK AT MOST 1048576: true; the input reads as it did. -/
def gatePushesUptoRow : OpenClaim := { program := "ytakfkbciijahgaa", sum := "e071b9836f8ac58a9a1de35456eb54995bc7cada83b716897a7f41c363cf08a0", func := "headrace/headracelaw15.GatePushes", spec := "gatePushes", unfollowed := true, recurses := true, apart := false, narrowed := true }
def GatePushesUptoSaid : Prop := gatePushesUptoRow.holds Try.pinned (OpenSpec.upto gatePushesSpec)

/-- 'headracelaw15.GateTakes', WHERE WHAT IT READS IS OF BULK AT MOST 1048576: true; the input reads as it did. -/
def gateTakesUptoRow : OpenClaim := { program := "ytakfkbciijahgaa", sum := "e071b9836f8ac58a9a1de35456eb54995bc7cada83b716897a7f41c363cf08a0", func := "headrace/headracelaw15.GateTakes", spec := "gateTakes", unfollowed := true, recurses := true, apart := false, narrowed := true }
def GateTakesUptoSaid : Prop := gateTakesUptoRow.holds Try.pinned (OpenSpec.upto gateTakesSpec)

/-- 'headracelaw15.GateTells', WHERE WHAT IT READS IS OF BULK AT MOST 1048576: true; the input reads as it did. -/
def gateTellsUptoRow : OpenClaim := { program := "ytakfkbciijahgaa", sum := "e071b9836f8ac58a9a1de35456eb54995bc7cada83b716897a7f41c363cf08a0", func := "headrace/headracelaw15.GateTells", spec := "gateTells", unfollowed := true, recurses := true, apart := false, narrowed := true }
def GateTellsUptoSaid : Prop := gateTellsUptoRow.holds Try.pinned (OpenSpec.upto gateTellsSpec)

/-- 'headracelaw15.GateAligns', WHERE WHAT IT READS IS OF BULK AT MOST 1048576: true; the input reads as it did. -/
def gateAlignsUptoRow : OpenClaim := { program := "ytakfkbciijahgaa", sum := "e071b9836f8ac58a9a1de35456eb54995bc7cada83b716897a7f41c363cf08a0", func := "headrace/headracelaw15.GateAligns", spec := "gateAligns", unfollowed := true, recurses := true, apart := false, narrowed := true }
def GateAlignsUptoSaid : Prop := gateAlignsUptoRow.holds Try.pinned (OpenSpec.upto gateAlignsSpec)

/-- 'headracelaw15.GateWaits', WHERE WHAT IT READS IS OF BULK AT MOST 1048576: true; the input reads as it did. -/
def gateWaitsUptoRow : OpenClaim := { program := "ytakfkbciijahgaa", sum := "e071b9836f8ac58a9a1de35456eb54995bc7cada83b716897a7f41c363cf08a0", func := "headrace/headracelaw15.GateWaits", spec := "gateWaits", unfollowed := true, recurses := true, apart := false, narrowed := true }
def GateWaitsUptoSaid : Prop := gateWaitsUptoRow.holds Try.pinned (OpenSpec.upto gateWaitsSpec)

/-- 'headracelaw15.GateDrains', WHERE WHAT IT READS IS OF BULK AT MOST 1048576: true; the input reads as it did. -/
def gateDrainsUptoRow : OpenClaim := { program := "ytakfkbciijahgaa", sum := "e071b9836f8ac58a9a1de35456eb54995bc7cada83b716897a7f41c363cf08a0", func := "headrace/headracelaw15.GateDrains", spec := "gateDrains", unfollowed := true, recurses := true, apart := false, narrowed := true }
def GateDrainsUptoSaid : Prop := gateDrainsUptoRow.holds Try.pinned (OpenSpec.upto gateDrainsSpec)

end Rows
end Go.Proofs.Ytakfkbciijahgaa
