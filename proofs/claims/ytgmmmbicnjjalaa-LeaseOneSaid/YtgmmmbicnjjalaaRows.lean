/-
  No cell of these rows narrows 'for every input' (looked for: loops, veiled, ifaces, maps, wideKeys, modest, calm, conditions, laid).
  DERIVED. THE GIVEN ROWS OF THIS SEAT. 4 by the template 'for every input the law returns true; each argument reads behind the call as it read before'; 0 by the template 'total and deterministic' (their statements: YtgmmmbicnjjalaaTotals.lean).
  GIVEN WITH THE SEED: the statements are not yours to turn. If you find one false, say at which input.
  Laid BY PROGRAM, IN A SANDBOX (cutbox-rows.mjs): the forced cells as the released guide's own fill.sh prints them over the translation dec09707ad2914ed… (all of the seat's roots in one cut). By AI agents, Wed Nov 11 2026. No macro, syntax, notation, axiom, sorry.
-/
import Derived.Test.YtgmmmbicnjjalaaChecked
import GoSem.Claim
import GoSem.ClaimJoined
import GoSem.ClaimMapViews
import Derived.JoinedTies
import Derived.KernelRfl
namespace Go.Proofs.Ytgmmmbicnjjalaa
/- THE CELL 'sum', in the pinned program and in every row, IS THE sha256 OF THE DUMP (.gsa) THAT YtgmmmbicnjjalaaProg.lean LOADS. Nothing in Lean hashes anything: it is a label: what it is worth is what the hold of that sum in a sandbox is worth. -/
noncomputable def Try.pinned : Pinned := { name := "ytgmmmbicnjjalaa", sum := "dec09707ad2914edaf0ea3933782cfb846991546560aab88ac4fa5ae3577b6a2", checked := Try.checked }
namespace Rows
def none {H : Type} : Left H := { results := [], args := [] }

/-- 'headracelaw21.LeaseAcquires': WHATEVER THE INPUT: true; the input reads as it did. -/
def leaseAcquiresSpec : ChangeSpec := { name := "leaseAcquires", fn := fun _ => fun
  | [d1, d2, d3] => { results := [.lit (.bool true)], args := [d1, d2, d3] }
  | _ => none }
def leaseAcquiresRow : OpenClaim := { program := "ytgmmmbicnjjalaa", sum := "dec09707ad2914edaf0ea3933782cfb846991546560aab88ac4fa5ae3577b6a2", func := "headrace/headracelaw21.LeaseAcquires", spec := "leaseAcquires", unfollowed := true, recurses := true, apart := false }
def LeaseAcquiresSaid : Prop := leaseAcquiresRow.holds Try.pinned (OpenSpec.ofChange leaseAcquiresSpec)

/-- ITS FALSE NEIGHBOUR: 'it returns false'. Refute it at one input. -/
def leaseAcquiresWrong : ChangeSpec := { name := "leaseAcquires", fn := fun _ => fun
  | [d1, d2, d3] => { results := [.lit (.bool false)], args := [d1, d2, d3] }
  | _ => none }
def LeaseAcquiresWrongFalsely : Prop := leaseAcquiresRow.holds Try.pinned (OpenSpec.ofChange leaseAcquiresWrong)

/-- 'headracelaw21.LeaseGoes': WHATEVER THE INPUT: true; the input reads as it did. -/
def leaseGoesSpec : ChangeSpec := { name := "leaseGoes", fn := fun _ => fun
  | [d1, d2, d3] => { results := [.lit (.bool true)], args := [d1, d2, d3] }
  | _ => none }
def leaseGoesRow : OpenClaim := { program := "ytgmmmbicnjjalaa", sum := "dec09707ad2914edaf0ea3933782cfb846991546560aab88ac4fa5ae3577b6a2", func := "headrace/headracelaw21.LeaseGoes", spec := "leaseGoes", unfollowed := true, recurses := true, apart := false }
def LeaseGoesSaid : Prop := leaseGoesRow.holds Try.pinned (OpenSpec.ofChange leaseGoesSpec)

/-- ITS FALSE NEIGHBOUR: 'it returns false'. Refute it at one input. -/
def leaseGoesWrong : ChangeSpec := { name := "leaseGoes", fn := fun _ => fun
  | [d1, d2, d3] => { results := [.lit (.bool false)], args := [d1, d2, d3] }
  | _ => none }
def LeaseGoesWrongFalsely : Prop := leaseGoesRow.holds Try.pinned (OpenSpec.ofChange leaseGoesWrong)

/-- 'headracelaw21.LeaseOne': WHATEVER THE INPUT: true; the input reads as it did. -/
def leaseOneSpec : ChangeSpec := { name := "leaseOne", fn := fun _ => fun
  | [d] => { results := [.lit (.bool true)], args := [d] }
  | _ => none }
def leaseOneRow : OpenClaim := { program := "ytgmmmbicnjjalaa", sum := "dec09707ad2914edaf0ea3933782cfb846991546560aab88ac4fa5ae3577b6a2", func := "headrace/headracelaw21.LeaseOne", spec := "leaseOne", unfollowed := true, recurses := true, apart := false }
def LeaseOneSaid : Prop := leaseOneRow.holds Try.pinned (OpenSpec.ofChange leaseOneSpec)

/-- ITS FALSE NEIGHBOUR: 'it returns false'. Refute it at one input. -/
def leaseOneWrong : ChangeSpec := { name := "leaseOne", fn := fun _ => fun
  | [d] => { results := [.lit (.bool false)], args := [d] }
  | _ => none }
def LeaseOneWrongFalsely : Prop := leaseOneRow.holds Try.pinned (OpenSpec.ofChange leaseOneWrong)

/-- 'headracelaw21.LeaseKeeps': WHATEVER THE INPUT: true; the input reads as it did. -/
def leaseKeepsSpec : ChangeSpec := { name := "leaseKeeps", fn := fun _ => fun
  | [d1, d2, d3] => { results := [.lit (.bool true)], args := [d1, d2, d3] }
  | _ => none }
def leaseKeepsRow : OpenClaim := { program := "ytgmmmbicnjjalaa", sum := "dec09707ad2914edaf0ea3933782cfb846991546560aab88ac4fa5ae3577b6a2", func := "headrace/headracelaw21.LeaseKeeps", spec := "leaseKeeps", unfollowed := true, recurses := true, apart := false }
def LeaseKeepsSaid : Prop := leaseKeepsRow.holds Try.pinned (OpenSpec.ofChange leaseKeepsSpec)

/-- ITS FALSE NEIGHBOUR: 'it returns false'. Refute it at one input. -/
def leaseKeepsWrong : ChangeSpec := { name := "leaseKeeps", fn := fun _ => fun
  | [d1, d2, d3] => { results := [.lit (.bool false)], args := [d1, d2, d3] }
  | _ => none }
def LeaseKeepsWrongFalsely : Prop := leaseKeepsRow.holds Try.pinned (OpenSpec.ofChange leaseKeepsWrong)

/- THE SECOND FORM. 'bulk': how many values and letters a reading holds, each counted each time it is reached (what is shared counts as often as it is met; a slice's spare places count too). A statement '..UptoSaid' is the law's where the arguments, and the package variables that the reading takes, are together of bulk at most 1048576: NARROWER than '..Said'. Prove '..Said' where nothing that the law and all that it calls make is longer than what came in: it says more and counts as full. Else prove '..UptoSaid'. A law counts once. -/
mutual
def uptoBulk {H : Type} : DataW H → Nat
  | .lit (.string bytes) => bytes.length + 1
  | .lit _ => 1
  | .nil => 1
  | .ptr d => uptoBulk d + 1
  | .slice elems spare => uptoBulkAll elems + uptoBulkAll spare + 1
  | .agg parts => uptoBulkAll parts + 1
  | .iface _ d => uptoBulk d + 1
  | .map entries => uptoBulkEntries entries + 1
  | .held _ => 1
def uptoBulkAll {H : Type} : List (DataW H) → Nat
  | [] => 0
  | d :: r => uptoBulk d + uptoBulkAll r
def uptoBulkEntries {H : Type} : List (Lit × DataW H) → Nat
  | [] => 0
  | x :: r => uptoBulkEntry x + uptoBulkEntries r
def uptoBulkEntry {H : Type} : Lit × DataW H → Nat
  | (.string bytes, d) => bytes.length + uptoBulk d + 1
  | (_, d) => uptoBulk d + 1
 end
def uptoSmall : (H : Type) → List (DataW H) → Bool := fun _ ds => decide (uptoBulkAll ds ≤ 1048576)
def OpenSpec.upto (s : _root_.Go.ChangeSpec) : _root_.Go.OpenSpec := { _root_.Go.OpenSpec.ofChange s with cond := some uptoSmall }

/-- 'headracelaw21.LeaseAcquires', WHERE WHAT IT READS IS OF BULK AT MOST 1048576: true; the input reads as it did. -/
def leaseAcquiresUptoRow : OpenClaim := { program := "ytgmmmbicnjjalaa", sum := "dec09707ad2914edaf0ea3933782cfb846991546560aab88ac4fa5ae3577b6a2", func := "headrace/headracelaw21.LeaseAcquires", spec := "leaseAcquires", unfollowed := true, recurses := true, apart := false, narrowed := true }
def LeaseAcquiresUptoSaid : Prop := leaseAcquiresUptoRow.holds Try.pinned (OpenSpec.upto leaseAcquiresSpec)

/-- 'headracelaw21.LeaseGoes', WHERE WHAT IT READS IS OF BULK AT MOST 1048576: true; the input reads as it did. -/
def leaseGoesUptoRow : OpenClaim := { program := "ytgmmmbicnjjalaa", sum := "dec09707ad2914edaf0ea3933782cfb846991546560aab88ac4fa5ae3577b6a2", func := "headrace/headracelaw21.LeaseGoes", spec := "leaseGoes", unfollowed := true, recurses := true, apart := false, narrowed := true }
def LeaseGoesUptoSaid : Prop := leaseGoesUptoRow.holds Try.pinned (OpenSpec.upto leaseGoesSpec)

/-- 'headracelaw21.LeaseOne', WHERE WHAT IT READS IS OF BULK AT MOST 1048576: true; the input reads as it did. -/
def leaseOneUptoRow : OpenClaim := { program := "ytgmmmbicnjjalaa", sum := "dec09707ad2914edaf0ea3933782cfb846991546560aab88ac4fa5ae3577b6a2", func := "headrace/headracelaw21.LeaseOne", spec := "leaseOne", unfollowed := true, recurses := true, apart := false, narrowed := true }
def LeaseOneUptoSaid : Prop := leaseOneUptoRow.holds Try.pinned (OpenSpec.upto leaseOneSpec)

/-- 'headracelaw21.LeaseKeeps', WHERE WHAT IT READS IS OF BULK AT MOST 1048576: true; the input reads as it did. -/
def leaseKeepsUptoRow : OpenClaim := { program := "ytgmmmbicnjjalaa", sum := "dec09707ad2914edaf0ea3933782cfb846991546560aab88ac4fa5ae3577b6a2", func := "headrace/headracelaw21.LeaseKeeps", spec := "leaseKeeps", unfollowed := true, recurses := true, apart := false, narrowed := true }
def LeaseKeepsUptoSaid : Prop := leaseKeepsUptoRow.holds Try.pinned (OpenSpec.upto leaseKeepsSpec)

end Rows
end Go.Proofs.Ytgmmmbicnjjalaa
