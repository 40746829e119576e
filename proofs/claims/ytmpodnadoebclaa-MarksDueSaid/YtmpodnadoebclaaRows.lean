/-
  No cell of these rows narrows 'for every input' (looked for: loops, veiled, ifaces, maps, wideKeys, modest, calm, conditions, laid).
  DERIVED. THE GIVEN ROWS OF THIS SEAT. 5 by the template 'for every input the law returns true; each argument reads behind the call as it read before'; 0 by the template 'total and deterministic' (their statements: YtmpodnadoebclaaTotals.lean).
  GIVEN WITH THE SEED: the statements are not yours to turn. If you find one false, say at which input.
  Laid BY PROGRAM, IN A SANDBOX (cutbox-rows.mjs): the forced cells as the released guide's own fill.sh prints them over the translation 44acc144f7c4c094… (all of the seat's roots in one cut). By AI agents, Wed Nov 11 2026. No macro, syntax, notation, axiom, sorry.
-/
import Derived.Test.YtmpodnadoebclaaChecked
import GoSem.Claim
import GoSem.ClaimJoined
import GoSem.ClaimMapViews
import Derived.JoinedTies
import Derived.KernelRfl
namespace Go.Proofs.Ytmpodnadoebclaa
/- THE CELL 'sum', in the pinned program and in every row, IS THE sha256 OF THE DUMP (.gsa) THAT YtmpodnadoebclaaProg.lean LOADS. Nothing in Lean hashes anything: it is a label: what it is worth is what the hold of that sum in a sandbox is worth. -/
noncomputable def Try.pinned : Pinned := { name := "ytmpodnadoebclaa", sum := "44acc144f7c4c09477816f742a2e69968285a8fada7a8a0d734064f3534b4caa", checked := Try.checked }
namespace Rows
def none {H : Type} : Left H := { results := [], args := [] }

/-- 'gessolaw16.MarksPuts': WHATEVER THE INPUT: true; the input reads as it did. -/
def marksPutsSpec : ChangeSpec := { name := "marksPuts", fn := fun _ => fun
  | [d1, d2] => { results := [.lit (.bool true)], args := [d1, d2] }
  | _ => none }
def marksPutsRow : OpenClaim := { program := "ytmpodnadoebclaa", sum := "44acc144f7c4c09477816f742a2e69968285a8fada7a8a0d734064f3534b4caa", func := "gesso/gessolaw16.MarksPuts", spec := "marksPuts", unfollowed := true, recurses := true, apart := false }
def MarksPutsSaid : Prop := marksPutsRow.holds Try.pinned (OpenSpec.ofChange marksPutsSpec)

/-- ITS FALSE NEIGHBOUR: 'it returns false'. Refute it at one input. -/
def marksPutsWrong : ChangeSpec := { name := "marksPuts", fn := fun _ => fun
  | [d1, d2] => { results := [.lit (.bool false)], args := [d1, d2] }
  | _ => none }
def MarksPutsWrongFalsely : Prop := marksPutsRow.holds Try.pinned (OpenSpec.ofChange marksPutsWrong)

/-- 'gessolaw16.MarksTells': WHATEVER THE INPUT: true; the input reads as it did. -/
def marksTellsSpec : ChangeSpec := { name := "marksTells", fn := fun _ => fun
  | [d1, d2, d3] => { results := [.lit (.bool true)], args := [d1, d2, d3] }
  | _ => none }
def marksTellsRow : OpenClaim := { program := "ytmpodnadoebclaa", sum := "44acc144f7c4c09477816f742a2e69968285a8fada7a8a0d734064f3534b4caa", func := "gesso/gessolaw16.MarksTells", spec := "marksTells", unfollowed := true, recurses := true, apart := false }
def MarksTellsSaid : Prop := marksTellsRow.holds Try.pinned (OpenSpec.ofChange marksTellsSpec)

/-- ITS FALSE NEIGHBOUR: 'it returns false'. Refute it at one input. -/
def marksTellsWrong : ChangeSpec := { name := "marksTells", fn := fun _ => fun
  | [d1, d2, d3] => { results := [.lit (.bool false)], args := [d1, d2, d3] }
  | _ => none }
def MarksTellsWrongFalsely : Prop := marksTellsRow.holds Try.pinned (OpenSpec.ofChange marksTellsWrong)

/-- 'gessolaw16.MarksKeep': WHATEVER THE INPUT: true; the input reads as it did. -/
def marksKeepSpec : ChangeSpec := { name := "marksKeep", fn := fun _ => fun
  | [d] => { results := [.lit (.bool true)], args := [d] }
  | _ => none }
def marksKeepRow : OpenClaim := { program := "ytmpodnadoebclaa", sum := "44acc144f7c4c09477816f742a2e69968285a8fada7a8a0d734064f3534b4caa", func := "gesso/gessolaw16.MarksKeep", spec := "marksKeep", unfollowed := true, recurses := true, apart := false }
def MarksKeepSaid : Prop := marksKeepRow.holds Try.pinned (OpenSpec.ofChange marksKeepSpec)

/-- ITS FALSE NEIGHBOUR: 'it returns false'. Refute it at one input. -/
def marksKeepWrong : ChangeSpec := { name := "marksKeep", fn := fun _ => fun
  | [d] => { results := [.lit (.bool false)], args := [d] }
  | _ => none }
def MarksKeepWrongFalsely : Prop := marksKeepRow.holds Try.pinned (OpenSpec.ofChange marksKeepWrong)

/-- 'gessolaw16.MarksParts': WHATEVER THE INPUT: true; the input reads as it did. -/
def marksPartsSpec : ChangeSpec := { name := "marksParts", fn := fun _ => fun
  | [d1, d2] => { results := [.lit (.bool true)], args := [d1, d2] }
  | _ => none }
def marksPartsRow : OpenClaim := { program := "ytmpodnadoebclaa", sum := "44acc144f7c4c09477816f742a2e69968285a8fada7a8a0d734064f3534b4caa", func := "gesso/gessolaw16.MarksParts", spec := "marksParts", unfollowed := true, recurses := true, apart := false }
def MarksPartsSaid : Prop := marksPartsRow.holds Try.pinned (OpenSpec.ofChange marksPartsSpec)

/-- ITS FALSE NEIGHBOUR: 'it returns false'. Refute it at one input. -/
def marksPartsWrong : ChangeSpec := { name := "marksParts", fn := fun _ => fun
  | [d1, d2] => { results := [.lit (.bool false)], args := [d1, d2] }
  | _ => none }
def MarksPartsWrongFalsely : Prop := marksPartsRow.holds Try.pinned (OpenSpec.ofChange marksPartsWrong)

/-- 'gessolaw16.MarksDue': WHATEVER THE INPUT: true; the input reads as it did. -/
def marksDueSpec : ChangeSpec := { name := "marksDue", fn := fun _ => fun
  | [d1, d2, d3] => { results := [.lit (.bool true)], args := [d1, d2, d3] }
  | _ => none }
def marksDueRow : OpenClaim := { program := "ytmpodnadoebclaa", sum := "44acc144f7c4c09477816f742a2e69968285a8fada7a8a0d734064f3534b4caa", func := "gesso/gessolaw16.MarksDue", spec := "marksDue", unfollowed := true, recurses := true, apart := false }
def MarksDueSaid : Prop := marksDueRow.holds Try.pinned (OpenSpec.ofChange marksDueSpec)

/-- ITS FALSE NEIGHBOUR: 'it returns false'. Refute it at one input. -/
def marksDueWrong : ChangeSpec := { name := "marksDue", fn := fun _ => fun
  | [d1, d2, d3] => { results := [.lit (.bool false)], args := [d1, d2, d3] }
  | _ => none }
def MarksDueWrongFalsely : Prop := marksDueRow.holds Try.pinned (OpenSpec.ofChange marksDueWrong)

/- THE SECOND FORM. 'bulk': how many values and letters a reading holds, each counted each time it is reached (what is shared counts as often as it is met; a slice's spare places count too). A statement '..UptoSaid' is the law's where the arguments, and the package variables that the reading takes, are together of bulk at most 1048576: NARROWER than '..Said'. Prove '..Said' where nothing that the law and all that it calls make is longer than what came in: it says more and counts as full. Else prove '..UptoSaid'. A law counts once. -/
mutual
def uptoBulk {H : Type} : DataW H → Nat
  | .lit (.string bytes) => bytes.length + 1
  | .lit _ => 1
  | .nil => 1
  | .ptr d => uptoBulk d + 1
  | .slice elems spare => uptoBulkAll elems + uptoBulkAll spare + 1
  | .agg parts => uptoBulkAll parts + 1
  | .iface _ d => uptoBulk d + 1
  | .map entries => uptoBulkEntries entries + 1
  | .held _ => 1
def uptoBulkAll {H : Type} : List (DataW H) → Nat
  | [] => 0
  | d :: r => uptoBulk d + uptoBulkAll r
def uptoBulkEntries {H : Type} : List (Lit × DataW H) → Nat
  | [] => 0
  | x :: r => uptoBulkEntry x + uptoBulkEntries r
def uptoBulkEntry {H : Type} : Lit × DataW H → Nat
  | (.string bytes, d) => bytes.length + uptoBulk d + 1
  | (_, d) => uptoBulk d + 1
 end
def uptoSmall : (H : Type) → List (DataW H) → Bool := fun _ ds => decide (uptoBulkAll ds ≤ 1048576)
def OpenSpec.upto (s : _root_.Go.ChangeSpec) : _root_.Go.OpenSpec := { _root_.Go.OpenSpec.ofChange s with cond := some uptoSmall }

/-- 'gessolaw16.MarksPuts', WHERE WHAT IT READS IS OF BULK AT MOST 1048576: true; the input reads as it did. -/
def marksPutsUptoRow : OpenClaim := { program := "ytmpodnadoebclaa", sum := "44acc144f7c4c09477816f742a2e69968285a8fada7a8a0d734064f3534b4caa", func := "gesso/gessolaw16.MarksPuts", spec := "marksPuts", unfollowed := true, recurses := true, apart := false, narrowed := true }
def MarksPutsUptoSaid : Prop := marksPutsUptoRow.holds Try.pinned (OpenSpec.upto marksPutsSpec)

/-- 'gessolaw16.MarksTells', WHERE WHAT IT READS IS OF BULK AT MOST 1048576: true; the input reads as it did. -/
def marksTellsUptoRow : OpenClaim := { program := "ytmpodnadoebclaa", sum := "44acc144f7c4c09477816f742a2e69968285a8fada7a8a0d734064f3534b4caa", func := "gesso/gessolaw16.MarksTells", spec := "marksTells", unfollowed := true, recurses := true, apart := false, narrowed := true }
def MarksTellsUptoSaid : Prop := marksTellsUptoRow.holds Try.pinned (OpenSpec.upto marksTellsSpec)

/-- 'gessolaw16.MarksKeep', WHERE WHAT IT READS IS OF BULK AT MOST 1048576: true; the input reads as it did. -/
def marksKeepUptoRow : OpenClaim := { program := "ytmpodnadoebclaa", sum := "44acc144f7c4c09477816f742a2e69968285a8fada7a8a0d734064f3534b4caa", func := "gesso/gessolaw16.MarksKeep", spec := "marksKeep", unfollowed := true, recurses := true, apart := false, narrowed := true }
def MarksKeepUptoSaid : Prop := marksKeepUptoRow.holds Try.pinned (OpenSpec.upto marksKeepSpec)

/-- 'gessolaw16.MarksParts', WHERE WHAT IT READS IS OF BULK AT MOST 1048576: true; the input reads as it did. -/
def marksPartsUptoRow : OpenClaim := { program := "ytmpodnadoebclaa", sum := "44acc144f7c4c09477816f742a2e69968285a8fada7a8a0d734064f3534b4caa", func := "gesso/gessolaw16.MarksParts", spec := "marksParts", unfollowed := true, recurses := true, apart := false, narrowed := true }
def MarksPartsUptoSaid : Prop := marksPartsUptoRow.holds Try.pinned (OpenSpec.upto marksPartsSpec)

/-- 'gessolaw16.MarksDue', WHERE WHAT IT READS IS OF BULK AT MOST 1048576: true; the input reads as it did. -/
def marksDueUptoRow : OpenClaim := { program := "ytmpodnadoebclaa", sum := "44acc144f7c4c09477816f742a2e69968285a8fada7a8a0d734064f3534b4caa", func := "gesso/gessolaw16.MarksDue", spec := "marksDue", unfollowed := true, recurses := true, apart := false, narrowed := true }
def MarksDueUptoSaid : Prop := marksDueUptoRow.holds Try.pinned (OpenSpec.upto marksDueSpec)

end Rows
end Go.Proofs.Ytmpodnadoebclaa
