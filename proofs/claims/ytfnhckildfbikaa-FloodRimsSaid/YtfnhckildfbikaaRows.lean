/-
  No cell of these rows narrows 'for every input' (looked for: loops, veiled, ifaces, maps, wideKeys, modest, calm, conditions, laid).
  DERIVED. THE GIVEN ROWS OF THIS SEAT. 4 by the template 'for every input the law returns true; each argument reads behind the call as it read before'; 0 by the template 'total and deterministic' (their statements: YtfnhckildfbikaaTotals.lean).
  GIVEN WITH THE SEED: the statements are not yours to turn. If you find one false, say at which input.
  Laid BY PROGRAM, IN A SANDBOX (cutbox-rows.mjs): the forced cells as the released guide's own fill.sh prints them over the translation f5ed3713e220a118… (all of the seat's roots in one cut). By AI agents, Wed Nov 11 2026. No macro, syntax, notation, axiom, sorry.
-/
import Derived.Test.YtfnhckildfbikaaChecked
import GoSem.Claim
import GoSem.ClaimJoined
import GoSem.ClaimMapViews
import Derived.JoinedTies
import Derived.KernelRfl
namespace Go.Proofs.Ytfnhckildfbikaa
/- THE CELL 'sum', in the pinned program and in every row, IS THE sha256 OF THE DUMP (.gsa) THAT YtfnhckildfbikaaProg.lean LOADS. Nothing in Lean hashes anything: it is a label: what it is worth is what the hold of that sum in a sandbox is worth. -/
noncomputable def Try.pinned : Pinned := { name := "ytfnhckildfbikaa", sum := "f5ed3713e220a11803e3539cd48f034f902c93525bf335151eb5ef5f56669a31", checked := Try.checked }
namespace Rows
def none {H : Type} : Left H := { results := [], args := [] }

/-- 'gessolaw08.FloodRegions': WHATEVER THE INPUT: true; the input reads as it did. -/
def floodRegionsSpec : ChangeSpec := { name := "floodRegions", fn := fun _ => fun
  | [d1, d2, d3] => { results := [.lit (.bool true)], args := [d1, d2, d3] }
  | _ => none }
def floodRegionsRow : OpenClaim := { program := "ytfnhckildfbikaa", sum := "f5ed3713e220a11803e3539cd48f034f902c93525bf335151eb5ef5f56669a31", func := "gesso/gessolaw08.FloodRegions", spec := "floodRegions", unfollowed := true, recurses := true, apart := false }
def FloodRegionsSaid : Prop := floodRegionsRow.holds Try.pinned (OpenSpec.ofChange floodRegionsSpec)

/-- ITS FALSE NEIGHBOUR: 'it returns false'. Refute it at one input. -/
def floodRegionsWrong : ChangeSpec := { name := "floodRegions", fn := fun _ => fun
  | [d1, d2, d3] => { results := [.lit (.bool false)], args := [d1, d2, d3] }
  | _ => none }
def FloodRegionsWrongFalsely : Prop := floodRegionsRow.holds Try.pinned (OpenSpec.ofChange floodRegionsWrong)

/-- 'gessolaw08.FloodParts': WHATEVER THE INPUT: true; the input reads as it did. -/
def floodPartsSpec : ChangeSpec := { name := "floodParts", fn := fun _ => fun
  | [d1, d2] => { results := [.lit (.bool true)], args := [d1, d2] }
  | _ => none }
def floodPartsRow : OpenClaim := { program := "ytfnhckildfbikaa", sum := "f5ed3713e220a11803e3539cd48f034f902c93525bf335151eb5ef5f56669a31", func := "gesso/gessolaw08.FloodParts", spec := "floodParts", unfollowed := true, recurses := true, apart := false }
def FloodPartsSaid : Prop := floodPartsRow.holds Try.pinned (OpenSpec.ofChange floodPartsSpec)

/-- ITS FALSE NEIGHBOUR: 'it returns false'. Refute it at one input. -/
def floodPartsWrong : ChangeSpec := { name := "floodParts", fn := fun _ => fun
  | [d1, d2] => { results := [.lit (.bool false)], args := [d1, d2] }
  | _ => none }
def FloodPartsWrongFalsely : Prop := floodPartsRow.holds Try.pinned (OpenSpec.ofChange floodPartsWrong)

/-- 'gessolaw08.FloodRims': WHATEVER THE INPUT: true; the input reads as it did. -/
def floodRimsSpec : ChangeSpec := { name := "floodRims", fn := fun _ => fun
  | [d1, d2, d3] => { results := [.lit (.bool true)], args := [d1, d2, d3] }
  | _ => none }
def floodRimsRow : OpenClaim := { program := "ytfnhckildfbikaa", sum := "f5ed3713e220a11803e3539cd48f034f902c93525bf335151eb5ef5f56669a31", func := "gesso/gessolaw08.FloodRims", spec := "floodRims", unfollowed := true, recurses := true, apart := false }
def FloodRimsSaid : Prop := floodRimsRow.holds Try.pinned (OpenSpec.ofChange floodRimsSpec)

/-- ITS FALSE NEIGHBOUR: 'it returns false'. Refute it at one input. -/
def floodRimsWrong : ChangeSpec := { name := "floodRims", fn := fun _ => fun
  | [d1, d2, d3] => { results := [.lit (.bool false)], args := [d1, d2, d3] }
  | _ => none }
def FloodRimsWrongFalsely : Prop := floodRimsRow.holds Try.pinned (OpenSpec.ofChange floodRimsWrong)

/-- 'gessolaw08.FloodSteps': WHATEVER THE INPUT: true; the input reads as it did. -/
def floodStepsSpec : ChangeSpec := { name := "floodSteps", fn := fun _ => fun
  | [d1, d2, d3] => { results := [.lit (.bool true)], args := [d1, d2, d3] }
  | _ => none }
def floodStepsRow : OpenClaim := { program := "ytfnhckildfbikaa", sum := "f5ed3713e220a11803e3539cd48f034f902c93525bf335151eb5ef5f56669a31", func := "gesso/gessolaw08.FloodSteps", spec := "floodSteps", unfollowed := true, recurses := true, apart := false }
def FloodStepsSaid : Prop := floodStepsRow.holds Try.pinned (OpenSpec.ofChange floodStepsSpec)

/-- ITS FALSE NEIGHBOUR: 'it returns false'. Refute it at one input. -/
def floodStepsWrong : ChangeSpec := { name := "floodSteps", fn := fun _ => fun
  | [d1, d2, d3] => { results := [.lit (.bool false)], args := [d1, d2, d3] }
  | _ => none }
def FloodStepsWrongFalsely : Prop := floodStepsRow.holds Try.pinned (OpenSpec.ofChange floodStepsWrong)

/- THE SECOND FORM. 'bulk': how many values and letters a reading holds, each counted each time it is reached (what is shared counts as often as it is met; a slice's spare places count too). A statement '..UptoSaid' is the law's where the arguments, and the package variables that the reading takes, are together of bulk at most 1048576: NARROWER than '..Said'. Prove '..Said' where nothing that the law and all that it calls make is longer than what came in: it says more and counts as full. Else prove '..UptoSaid'. A law counts once. -/
mutual
def uptoBulk {H : Type} : DataW H → Nat
  | .lit (.string bytes) => bytes.length + 1
  | .lit _ => 1
  | .nil => 1
  | .ptr d => uptoBulk d + 1
  | .slice elems spare => uptoBulkAll elems + uptoBulkAll spare + 1
  | .agg parts => uptoBulkAll parts + 1
  | .iface _ d => uptoBulk d + 1
  | .map entries => uptoBulkEntries entries + 1
  | .held _ => 1
def uptoBulkAll {H : Type} : List (DataW H) → Nat
  | [] => 0
  | d :: r => uptoBulk d + uptoBulkAll r
def uptoBulkEntries {H : Type} : List (Lit × DataW H) → Nat
  | [] => 0
  | x :: r => uptoBulkEntry x + uptoBulkEntries r
def uptoBulkEntry {H : Type} : Lit × DataW H → Nat
  | (.string bytes, d) => bytes.length + uptoBulk d + 1
  | (_, d) => uptoBulk d + 1
 end
def uptoSmall : (H : Type) → List (DataW H) → Bool := fun _ ds => decide (uptoBulkAll ds ≤ 1048576)
def OpenSpec.upto (s : _root_.Go.ChangeSpec) : _root_.Go.OpenSpec := { _root_.Go.OpenSpec.ofChange s with cond := some uptoSmall }

/-- 'gessolaw08.FloodRegions', WHERE WHAT IT READS IS OF BULK AT MOST 1048576: true; the input reads as it did. -/
def floodRegionsUptoRow : OpenClaim := { program := "ytfnhckildfbikaa", sum := "f5ed3713e220a11803e3539cd48f034f902c93525bf335151eb5ef5f56669a31", func := "gesso/gessolaw08.FloodRegions", spec := "floodRegions", unfollowed := true, recurses := true, apart := false, narrowed := true }
def FloodRegionsUptoSaid : Prop := floodRegionsUptoRow.holds Try.pinned (OpenSpec.upto floodRegionsSpec)

/-- 'gessolaw08.FloodParts', WHERE WHAT IT READS IS OF BULK AT MOST 1048576: true; the input reads as it did. -/
def floodPartsUptoRow : OpenClaim := { program := "ytfnhckildfbikaa", sum := "f5ed3713e220a11803e3539cd48f034f902c93525bf335151eb5ef5f56669a31", func := "gesso/gessolaw08.FloodParts", spec := "floodParts", unfollowed := true, recurses := true, apart := false, narrowed := true }
def FloodPartsUptoSaid : Prop := floodPartsUptoRow.holds Try.pinned (OpenSpec.upto floodPartsSpec)

/-- 'gessolaw08.FloodRims', WHERE WHAT IT READS IS OF BULK AT MOST 1048576: true; the input reads as it did. -/
def floodRimsUptoRow : OpenClaim := { program := "ytfnhckildfbikaa", sum := "f5ed3713e220a11803e3539cd48f034f902c93525bf335151eb5ef5f56669a31", func := "gesso/gessolaw08.FloodRims", spec := "floodRims", unfollowed := true, recurses := true, apart := false, narrowed := true }
def FloodRimsUptoSaid : Prop := floodRimsUptoRow.holds Try.pinned (OpenSpec.upto floodRimsSpec)

/-- 'gessolaw08.FloodSteps', WHERE WHAT IT READS IS OF BULK AT MOST 1048576: true; the input reads as it did. -/
def floodStepsUptoRow : OpenClaim := { program := "ytfnhckildfbikaa", sum := "f5ed3713e220a11803e3539cd48f034f902c93525bf335151eb5ef5f56669a31", func := "gesso/gessolaw08.FloodSteps", spec := "floodSteps", unfollowed := true, recurses := true, apart := false, narrowed := true }
def FloodStepsUptoSaid : Prop := floodStepsUptoRow.holds Try.pinned (OpenSpec.upto floodStepsSpec)

end Rows
end Go.Proofs.Ytfnhckildfbikaa
