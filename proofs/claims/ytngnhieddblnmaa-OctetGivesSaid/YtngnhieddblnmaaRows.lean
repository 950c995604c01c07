/-
  No cell of these rows narrows 'for every input' (looked for: loops, veiled, ifaces, maps, wideKeys, modest, calm, conditions, laid).
  DERIVED. THE GIVEN ROWS OF THIS SEAT. 6 by the template 'for every input the law returns true; each argument reads behind the call as it read before'; 0 by the template 'total and deterministic' (their statements: YtngnhieddblnmaaTotals.lean).
  GIVEN WITH THE SEED: the statements are not yours to turn. If you find one false, say at which input.
  Laid BY PROGRAM, IN A SANDBOX (cutbox-rows.mjs): the forced cells as the released guide's own fill.sh prints them over the translation a687104e2026750f… (all of the seat's roots in one cut). By AI agents, Wed Nov 11 2026. No macro, syntax, notation, axiom, sorry.
-/
import Derived.Test.YtngnhieddblnmaaChecked
import GoSem.Claim
import GoSem.ClaimJoined
import GoSem.ClaimMapViews
import Derived.JoinedTies
import Derived.KernelRfl
namespace Go.Proofs.Ytngnhieddblnmaa
/- THE CELL 'sum', in the pinned program and in every row, IS THE sha256 OF THE DUMP (.gsa) THAT YtngnhieddblnmaaProg.lean LOADS. Nothing in Lean hashes anything: it is a label: what it is worth is what the hold of that sum in a sandbox is worth. -/
noncomputable def Try.pinned : Pinned := { name := "ytngnhieddblnmaa", sum := "a687104e2026750fff5a3b1f75eb7993292da5ea48d341b572a96e6363aec673", checked := Try.checked }
namespace Rows
def none {H : Type} : Left H := { results := [], args := [] }

/-- 'headracelaw01.OctetLays': WHATEVER THE INPUT: true; the input reads as it did. -/
def octetLaysSpec : ChangeSpec := { name := "octetLays", fn := fun _ => fun
  | [d1, d2, d3] => { results := [.lit (.bool true)], args := [d1, d2, d3] }
  | _ => none }
def octetLaysRow : OpenClaim := { program := "ytngnhieddblnmaa", sum := "a687104e2026750fff5a3b1f75eb7993292da5ea48d341b572a96e6363aec673", func := "headrace/headracelaw01.OctetLays", spec := "octetLays", unfollowed := true, recurses := true, apart := false }
def OctetLaysSaid : Prop := octetLaysRow.holds Try.pinned (OpenSpec.ofChange octetLaysSpec)

/-- ITS FALSE NEIGHBOUR: 'it returns false'. Refute it at one input. -/
def octetLaysWrong : ChangeSpec := { name := "octetLays", fn := fun _ => fun
  | [d1, d2, d3] => { results := [.lit (.bool false)], args := [d1, d2, d3] }
  | _ => none }
def OctetLaysWrongFalsely : Prop := octetLaysRow.holds Try.pinned (OpenSpec.ofChange octetLaysWrong)

/-- 'headracelaw01.OctetGives': WHATEVER THE INPUT: true; the input reads as it did. -/
def octetGivesSpec : ChangeSpec := { name := "octetGives", fn := fun _ => fun
  | [d1, d2] => { results := [.lit (.bool true)], args := [d1, d2] }
  | _ => none }
def octetGivesRow : OpenClaim := { program := "ytngnhieddblnmaa", sum := "a687104e2026750fff5a3b1f75eb7993292da5ea48d341b572a96e6363aec673", func := "headrace/headracelaw01.OctetGives", spec := "octetGives", unfollowed := true, recurses := true, apart := false }
def OctetGivesSaid : Prop := octetGivesRow.holds Try.pinned (OpenSpec.ofChange octetGivesSpec)

/-- ITS FALSE NEIGHBOUR: 'it returns false'. Refute it at one input. -/
def octetGivesWrong : ChangeSpec := { name := "octetGives", fn := fun _ => fun
  | [d1, d2] => { results := [.lit (.bool false)], args := [d1, d2] }
  | _ => none }
def OctetGivesWrongFalsely : Prop := octetGivesRow.holds Try.pinned (OpenSpec.ofChange octetGivesWrong)

/-- 'headracelaw01.OctetNobody': WHATEVER THE INPUT: true; the input reads as it did. -/
def octetNobodySpec : ChangeSpec := { name := "octetNobody", fn := fun _ => fun
  | [d] => { results := [.lit (.bool true)], args := [d] }
  | _ => none }
def octetNobodyRow : OpenClaim := { program := "ytngnhieddblnmaa", sum := "a687104e2026750fff5a3b1f75eb7993292da5ea48d341b572a96e6363aec673", func := "headrace/headracelaw01.OctetNobody", spec := "octetNobody", unfollowed := true, recurses := true, apart := false }
def OctetNobodySaid : Prop := octetNobodyRow.holds Try.pinned (OpenSpec.ofChange octetNobodySpec)

/-- ITS FALSE NEIGHBOUR: 'it returns false'. Refute it at one input. -/
def octetNobodyWrong : ChangeSpec := { name := "octetNobody", fn := fun _ => fun
  | [d] => { results := [.lit (.bool false)], args := [d] }
  | _ => none }
def OctetNobodyWrongFalsely : Prop := octetNobodyRow.holds Try.pinned (OpenSpec.ofChange octetNobodyWrong)

/-- 'headracelaw01.OctetAll': WHATEVER THE INPUT: true; the input reads as it did. -/
def octetAllSpec : ChangeSpec := { name := "octetAll", fn := fun _ => fun
  | [d1, d2] => { results := [.lit (.bool true)], args := [d1, d2] }
  | _ => none }
def octetAllRow : OpenClaim := { program := "ytngnhieddblnmaa", sum := "a687104e2026750fff5a3b1f75eb7993292da5ea48d341b572a96e6363aec673", func := "headrace/headracelaw01.OctetAll", spec := "octetAll", unfollowed := true, recurses := true, apart := false }
def OctetAllSaid : Prop := octetAllRow.holds Try.pinned (OpenSpec.ofChange octetAllSpec)

/-- ITS FALSE NEIGHBOUR: 'it returns false'. Refute it at one input. -/
def octetAllWrong : ChangeSpec := { name := "octetAll", fn := fun _ => fun
  | [d1, d2] => { results := [.lit (.bool false)], args := [d1, d2] }
  | _ => none }
def OctetAllWrongFalsely : Prop := octetAllRow.holds Try.pinned (OpenSpec.ofChange octetAllWrong)

/-- 'headracelaw01.OctetWiden': WHATEVER THE INPUT: true; the input reads as it did. -/
def octetWidenSpec : ChangeSpec := { name := "octetWiden", fn := fun _ => fun
  | [d] => { results := [.lit (.bool true)], args := [d] }
  | _ => none }
def octetWidenRow : OpenClaim := { program := "ytngnhieddblnmaa", sum := "a687104e2026750fff5a3b1f75eb7993292da5ea48d341b572a96e6363aec673", func := "headrace/headracelaw01.OctetWiden", spec := "octetWiden", unfollowed := true, recurses := true, apart := false }
def OctetWidenSaid : Prop := octetWidenRow.holds Try.pinned (OpenSpec.ofChange octetWidenSpec)

/-- ITS FALSE NEIGHBOUR: 'it returns false'. Refute it at one input. -/
def octetWidenWrong : ChangeSpec := { name := "octetWiden", fn := fun _ => fun
  | [d] => { results := [.lit (.bool false)], args := [d] }
  | _ => none }
def OctetWidenWrongFalsely : Prop := octetWidenRow.holds Try.pinned (OpenSpec.ofChange octetWidenWrong)

/-- 'headracelaw01.OctetCasts': WHATEVER THE INPUT: true; the input reads as it did. -/
def octetCastsSpec : ChangeSpec := { name := "octetCasts", fn := fun _ => fun
  | [d] => { results := [.lit (.bool true)], args := [d] }
  | _ => none }
def octetCastsRow : OpenClaim := { program := "ytngnhieddblnmaa", sum := "a687104e2026750fff5a3b1f75eb7993292da5ea48d341b572a96e6363aec673", func := "headrace/headracelaw01.OctetCasts", spec := "octetCasts", unfollowed := true, recurses := true, apart := false }
def OctetCastsSaid : Prop := octetCastsRow.holds Try.pinned (OpenSpec.ofChange octetCastsSpec)

/-- ITS FALSE NEIGHBOUR: 'it returns false'. Refute it at one input. -/
def octetCastsWrong : ChangeSpec := { name := "octetCasts", fn := fun _ => fun
  | [d] => { results := [.lit (.bool false)], args := [d] }
  | _ => none }
def OctetCastsWrongFalsely : Prop := octetCastsRow.holds Try.pinned (OpenSpec.ofChange octetCastsWrong)

/- THE SECOND FORM. 'bulk': how many values and letters a reading holds, each counted each time it is reached (what is shared counts as often as it is met; a slice's spare places count too). A statement '..UptoSaid' is the law's where the arguments, and the package variables that the reading takes, are together of bulk at most 1048576: NARROWER than '..Said'. Prove '..Said' where nothing that the law and all that it calls make is longer than what came in: it says more and counts as full. Else prove '..UptoSaid'. A law counts once. -/
mutual
def uptoBulk {H : Type} : DataW H → Nat
  | .lit (.string bytes) => bytes.length + 1
  | .lit _ => 1
  | .nil => 1
  | .ptr d => uptoBulk d + 1
  | .slice elems spare => uptoBulkAll elems + uptoBulkAll spare + 1
  | .agg parts => uptoBulkAll parts + 1
  | .iface _ d => uptoBulk d + 1
  | .map entries => uptoBulkEntries entries + 1
  | .held _ => 1
def uptoBulkAll {H : Type} : List (DataW H) → Nat
  | [] => 0
  | d :: r => uptoBulk d + uptoBulkAll r
def uptoBulkEntries {H : Type} : List (Lit × DataW H) → Nat
  | [] => 0
  | x :: r => uptoBulkEntry x + uptoBulkEntries r
def uptoBulkEntry {H : Type} : Lit × DataW H → Nat
  | (.string bytes, d) => bytes.length + uptoBulk d + 1
  | (_, d) => uptoBulk d + 1
 end
def uptoSmall : (H : Type) → List (DataW H) → Bool := fun _ ds => decide (uptoBulkAll ds ≤ 1048576)
def OpenSpec.upto (s : _root_.Go.ChangeSpec) : _root_.Go.OpenSpec := { _root_.Go.OpenSpec.ofChange s with cond := some uptoSmall }

/-- 'headracelaw01.OctetLays', WHERE WHAT IT READS IS OF BULK AT MOST 1048576: true; the input reads as it did. -/
def octetLaysUptoRow : OpenClaim := { program := "ytngnhieddblnmaa", sum := "a687104e2026750fff5a3b1f75eb7993292da5ea48d341b572a96e6363aec673", func := "headrace/headracelaw01.OctetLays", spec := "octetLays", unfollowed := true, recurses := true, apart := false, narrowed := true }
def OctetLaysUptoSaid : Prop := octetLaysUptoRow.holds Try.pinned (OpenSpec.upto octetLaysSpec)

/-- 'headracelaw01.OctetGives', WHERE WHAT IT READS IS OF BULK AT MOST 1048576: true; the input reads as it did. -/
def octetGivesUptoRow : OpenClaim := { program := "ytngnhieddblnmaa", sum := "a687104e2026750fff5a3b1f75eb7993292da5ea48d341b572a96e6363aec673", func := "headrace/headracelaw01.OctetGives", spec := "octetGives", unfollowed := true, recurses := true, apart := false, narrowed := true }
def OctetGivesUptoSaid : Prop := octetGivesUptoRow.holds Try.pinned (OpenSpec.upto octetGivesSpec)

/-- 'headracelaw01.OctetNobody', WHERE WHAT IT READS IS OF BULK AT MOST 1048576: true; the input reads as it did. -/
def octetNobodyUptoRow : OpenClaim := { program := "ytngnhieddblnmaa", sum := "a687104e2026750fff5a3b1f75eb7993292da5ea48d341b572a96e6363aec673", func := "headrace/headracelaw01.OctetNobody", spec := "octetNobody", unfollowed := true, recurses := true, apart := false, narrowed := true }
def OctetNobodyUptoSaid : Prop := octetNobodyUptoRow.holds Try.pinned (OpenSpec.upto octetNobodySpec)

/-- 'headracelaw01.OctetAll', WHERE WHAT IT READS IS OF BULK AT MOST 1048576: true; the input reads as it did. -/
def octetAllUptoRow : OpenClaim := { program := "ytngnhieddblnmaa", sum := "a687104e2026750fff5a3b1f75eb7993292da5ea48d341b572a96e6363aec673", func := "headrace/headracelaw01.OctetAll", spec := "octetAll", unfollowed := true, recurses := true, apart := false, narrowed := true }
def OctetAllUptoSaid : Prop := octetAllUptoRow.holds Try.pinned (OpenSpec.upto octetAllSpec)

/-- 'headracelaw01.OctetWiden', WHERE WHAT IT READS IS OF BULK AT MOST 1048576: true; the input reads as it did. -/
def octetWidenUptoRow : OpenClaim := { program := "ytngnhieddblnmaa", sum := "a687104e2026750fff5a3b1f75eb7993292da5ea48d341b572a96e6363aec673", func := "headrace/headracelaw01.OctetWiden", spec := "octetWiden", unfollowed := true, recurses := true, apart := false, narrowed := true }
def OctetWidenUptoSaid : Prop := octetWidenUptoRow.holds Try.pinned (OpenSpec.upto octetWidenSpec)

/-- 'headracelaw01.OctetCasts', WHERE WHAT IT READS IS OF BULK AT MOST 1048576: true; the input reads as it did. -/
def octetCastsUptoRow : OpenClaim := { program := "ytngnhieddblnmaa", sum := "a687104e2026750fff5a3b1f75eb7993292da5ea48d341b572a96e6363aec673", func := "headrace/headracelaw01.OctetCasts", spec := "octetCasts", unfollowed := true, recurses := true, apart := false, narrowed := true }
def OctetCastsUptoSaid : Prop := octetCastsUptoRow.holds Try.pinned (OpenSpec.upto octetCastsSpec)

end Rows
end Go.Proofs.Ytngnhieddblnmaa
