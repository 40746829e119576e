/-
  No cell of these rows narrows 'for every input' (looked for: loops, veiled, ifaces, maps, wideKeys, modest, calm, conditions, laid).
  DERIVED. THE GIVEN ROWS OF THIS SEAT. 6 by the template 'for every input the law returns true; each argument reads behind the call as it read before'; 0 by the template 'total and deterministic' (their statements: YtoffbkjhoelghaaTotals.lean).
  GIVEN WITH THE SEED: the statements are not yours to turn. If you find one false, say at which input.
  Laid BY PROGRAM, IN A SANDBOX (cutbox-rows.mjs): the forced cells as the released guide's own fill.sh prints them over the translation 6b193198e0fbdb48… (all of the seat's roots in one cut). By AI agents, Wed Nov 11 2026. No macro, syntax, notation, axiom, sorry.
-/
import Derived.Test.YtoffbkjhoelghaaChecked
import GoSem.Claim
import GoSem.ClaimJoined
import GoSem.ClaimMapViews
import Derived.JoinedTies
import Derived.KernelRfl
namespace Go.Proofs.Ytoffbkjhoelghaa
/- THE CELL 'sum', in the pinned program and in every row, IS THE sha256 OF THE DUMP (.gsa) THAT YtoffbkjhoelghaaProg.lean LOADS. Nothing in Lean hashes anything: it is a label: what it is worth is what the hold of that sum in a sandbox is worth. -/
noncomputable def Try.pinned : Pinned := { name := "ytoffbkjhoelghaa", sum := "6b193198e0fbdb48ec357e33e959299267b517e45ff9812d0e5bae035ac2e27d", checked := Try.checked }
namespace Rows
def none {H : Type} : Left H := { results := [], args := [] }

/-- 'gessolaw06.ShapeLines': WHATEVER THE INPUT: true; the input reads as it did. -/
def shapeLinesSpec : ChangeSpec := { name := "shapeLines", fn := fun _ => fun
  | [d1, d2] => { results := [.lit (.bool true)], args := [d1, d2] }
  | _ => none }
def shapeLinesRow : OpenClaim := { program := "ytoffbkjhoelghaa", sum := "6b193198e0fbdb48ec357e33e959299267b517e45ff9812d0e5bae035ac2e27d", func := "gesso/gessolaw06.ShapeLines", spec := "shapeLines", unfollowed := true, recurses := true, apart := false }
def ShapeLinesSaid : Prop := shapeLinesRow.holds Try.pinned (OpenSpec.ofChange shapeLinesSpec)

/-- ITS FALSE NEIGHBOUR: 'it returns false'. Refute it at one input. -/
def shapeLinesWrong : ChangeSpec := { name := "shapeLines", fn := fun _ => fun
  | [d1, d2] => { results := [.lit (.bool false)], args := [d1, d2] }
  | _ => none }
def ShapeLinesWrongFalsely : Prop := shapeLinesRow.holds Try.pinned (OpenSpec.ofChange shapeLinesWrong)

/-- 'gessolaw06.ShapeSweeps': WHATEVER THE INPUT: true; the input reads as it did. -/
def shapeSweepsSpec : ChangeSpec := { name := "shapeSweeps", fn := fun _ => fun
  | [d1, d2] => { results := [.lit (.bool true)], args := [d1, d2] }
  | _ => none }
def shapeSweepsRow : OpenClaim := { program := "ytoffbkjhoelghaa", sum := "6b193198e0fbdb48ec357e33e959299267b517e45ff9812d0e5bae035ac2e27d", func := "gesso/gessolaw06.ShapeSweeps", spec := "shapeSweeps", unfollowed := true, recurses := true, apart := false }
def ShapeSweepsSaid : Prop := shapeSweepsRow.holds Try.pinned (OpenSpec.ofChange shapeSweepsSpec)

/-- ITS FALSE NEIGHBOUR: 'it returns false'. Refute it at one input. -/
def shapeSweepsWrong : ChangeSpec := { name := "shapeSweeps", fn := fun _ => fun
  | [d1, d2] => { results := [.lit (.bool false)], args := [d1, d2] }
  | _ => none }
def ShapeSweepsWrongFalsely : Prop := shapeSweepsRow.holds Try.pinned (OpenSpec.ofChange shapeSweepsWrong)

/-- 'gessolaw06.ShapeRows': WHATEVER THE INPUT: true; the input reads as it did. -/
def shapeRowsSpec : ChangeSpec := { name := "shapeRows", fn := fun _ => fun
  | [d1, d2, d3] => { results := [.lit (.bool true)], args := [d1, d2, d3] }
  | _ => none }
def shapeRowsRow : OpenClaim := { program := "ytoffbkjhoelghaa", sum := "6b193198e0fbdb48ec357e33e959299267b517e45ff9812d0e5bae035ac2e27d", func := "gesso/gessolaw06.ShapeRows", spec := "shapeRows", unfollowed := true, recurses := true, apart := false }
def ShapeRowsSaid : Prop := shapeRowsRow.holds Try.pinned (OpenSpec.ofChange shapeRowsSpec)

/-- ITS FALSE NEIGHBOUR: 'it returns false'. Refute it at one input. -/
def shapeRowsWrong : ChangeSpec := { name := "shapeRows", fn := fun _ => fun
  | [d1, d2, d3] => { results := [.lit (.bool false)], args := [d1, d2, d3] }
  | _ => none }
def ShapeRowsWrongFalsely : Prop := shapeRowsRow.holds Try.pinned (OpenSpec.ofChange shapeRowsWrong)

/-- 'gessolaw06.ShapeSteps': WHATEVER THE INPUT: true; the input reads as it did. -/
def shapeStepsSpec : ChangeSpec := { name := "shapeSteps", fn := fun _ => fun
  | [d1, d2] => { results := [.lit (.bool true)], args := [d1, d2] }
  | _ => none }
def shapeStepsRow : OpenClaim := { program := "ytoffbkjhoelghaa", sum := "6b193198e0fbdb48ec357e33e959299267b517e45ff9812d0e5bae035ac2e27d", func := "gesso/gessolaw06.ShapeSteps", spec := "shapeSteps", unfollowed := true, recurses := true, apart := false }
def ShapeStepsSaid : Prop := shapeStepsRow.holds Try.pinned (OpenSpec.ofChange shapeStepsSpec)

/-- ITS FALSE NEIGHBOUR: 'it returns false'. Refute it at one input. -/
def shapeStepsWrong : ChangeSpec := { name := "shapeSteps", fn := fun _ => fun
  | [d1, d2] => { results := [.lit (.bool false)], args := [d1, d2] }
  | _ => none }
def ShapeStepsWrongFalsely : Prop := shapeStepsRow.holds Try.pinned (OpenSpec.ofChange shapeStepsWrong)

/-- 'gessolaw06.ShapeUnions': WHATEVER THE INPUT: true; the input reads as it did. -/
def shapeUnionsSpec : ChangeSpec := { name := "shapeUnions", fn := fun _ => fun
  | [d1, d2, d3] => { results := [.lit (.bool true)], args := [d1, d2, d3] }
  | _ => none }
def shapeUnionsRow : OpenClaim := { program := "ytoffbkjhoelghaa", sum := "6b193198e0fbdb48ec357e33e959299267b517e45ff9812d0e5bae035ac2e27d", func := "gesso/gessolaw06.ShapeUnions", spec := "shapeUnions", unfollowed := true, recurses := true, apart := false }
def ShapeUnionsSaid : Prop := shapeUnionsRow.holds Try.pinned (OpenSpec.ofChange shapeUnionsSpec)

/-- ITS FALSE NEIGHBOUR: 'it returns false'. Refute it at one input. -/
def shapeUnionsWrong : ChangeSpec := { name := "shapeUnions", fn := fun _ => fun
  | [d1, d2, d3] => { results := [.lit (.bool false)], args := [d1, d2, d3] }
  | _ => none }
def ShapeUnionsWrongFalsely : Prop := shapeUnionsRow.holds Try.pinned (OpenSpec.ofChange shapeUnionsWrong)

/-- 'gessolaw06.ShapeClips': WHATEVER THE INPUT: true; the input reads as it did. -/
def shapeClipsSpec : ChangeSpec := { name := "shapeClips", fn := fun _ => fun
  | [d1, d2, d3] => { results := [.lit (.bool true)], args := [d1, d2, d3] }
  | _ => none }
def shapeClipsRow : OpenClaim := { program := "ytoffbkjhoelghaa", sum := "6b193198e0fbdb48ec357e33e959299267b517e45ff9812d0e5bae035ac2e27d", func := "gesso/gessolaw06.ShapeClips", spec := "shapeClips", unfollowed := true, recurses := true, apart := false }
def ShapeClipsSaid : Prop := shapeClipsRow.holds Try.pinned (OpenSpec.ofChange shapeClipsSpec)

/-- ITS FALSE NEIGHBOUR: 'it returns false'. Refute it at one input. -/
def shapeClipsWrong : ChangeSpec := { name := "shapeClips", fn := fun _ => fun
  | [d1, d2, d3] => { results := [.lit (.bool false)], args := [d1, d2, d3] }
  | _ => none }
def ShapeClipsWrongFalsely : Prop := shapeClipsRow.holds Try.pinned (OpenSpec.ofChange shapeClipsWrong)

/- THE SECOND FORM. 'bulk': how many values and letters a reading holds, each counted each time it is reached (what is shared counts as often as it is met; a slice's spare places count too). A statement '..UptoSaid' is the law's where the arguments, and the package variables that the reading takes, are together of bulk at most 1048576: NARROWER than '..Said'. Prove '..Said' where nothing that the law and all that it calls make is longer than what came in: it says more and counts as full. Else prove '..UptoSaid'. A law counts once. -/
mutual
def uptoBulk {H : Type} : DataW H → Nat
  | .lit (.string bytes) => bytes.length + 1
  | .lit _ => 1
  | .nil => 1
  | .ptr d => uptoBulk d + 1
  | .slice elems spare => uptoBulkAll elems + uptoBulkAll spare + 1
  | .agg parts => uptoBulkAll parts + 1
  | .iface _ d => uptoBulk d + 1
  | .map entries => uptoBulkEntries entries + 1
  | .held _ => 1
def uptoBulkAll {H : Type} : List (DataW H) → Nat
  | [] => 0
  | d :: r => uptoBulk d + uptoBulkAll r
def uptoBulkEntries {H : Type} : List (Lit × DataW H) → Nat
  | [] => 0
  | x :: r => uptoBulkEntry x + uptoBulkEntries r
def uptoBulkEntry {H : Type} : Lit × DataW H → Nat
  | (.string bytes, d) => bytes.length + uptoBulk d + 1
  | (_, d) => uptoBulk d + 1
 end
def uptoSmall : (H : Type) → List (DataW H) → Bool := fun _ ds => decide (uptoBulkAll ds ≤ 1048576)
def OpenSpec.upto (s : _root_.Go.ChangeSpec) : _root_.Go.OpenSpec := { _root_.Go.OpenSpec.ofChange s with cond := some uptoSmall }

/-- 'gessolaw06.ShapeLines', WHERE WHAT IT READS IS OF BULK AT MOST 1048576: true; the input reads as it did. -/
def shapeLinesUptoRow : OpenClaim := { program := "ytoffbkjhoelghaa", sum := "6b193198e0fbdb48ec357e33e959299267b517e45ff9812d0e5bae035ac2e27d", func := "gesso/gessolaw06.ShapeLines", spec := "shapeLines", unfollowed := true, recurses := true, apart := false, narrowed := true }
def ShapeLinesUptoSaid : Prop := shapeLinesUptoRow.holds Try.pinned (OpenSpec.upto shapeLinesSpec)

/-- 'gessolaw06.ShapeSweeps', WHERE WHAT IT READS IS OF BULK AT MOST 1048576: true; the input reads as it did. -/
def shapeSweepsUptoRow : OpenClaim := { program := "ytoffbkjhoelghaa", sum := "6b193198e0fbdb48ec357e33e959299267b517e45ff9812d0e5bae035ac2e27d", func := "gesso/gessolaw06.ShapeSweeps", spec := "shapeSweeps", unfollowed := true, recurses := true, apart := false, narrowed := true }
def ShapeSweepsUptoSaid : Prop := shapeSweepsUptoRow.holds Try.pinned (OpenSpec.upto shapeSweepsSpec)

/-- 'gessolaw06.ShapeRows', WHERE WHAT IT READS IS OF BULK AT MOST 1048576: true; the input reads as it did. -/
def shapeRowsUptoRow : OpenClaim := { program := "ytoffbkjhoelghaa", sum := "6b193198e0fbdb48ec357e33e959299267b517e45ff9812d0e5bae035ac2e27d", func := "gesso/gessolaw06.ShapeRows", spec := "shapeRows", unfollowed := true, recurses := true, apart := false, narrowed := true }
def ShapeRowsUptoSaid : Prop := shapeRowsUptoRow.holds Try.pinned (OpenSpec.upto shapeRowsSpec)

/-- 'gessolaw06.ShapeSteps', WHERE WHAT IT READS IS OF BULK AT MOST 1048576: true; the input reads as it did. -/
def shapeStepsUptoRow : OpenClaim := { program := "ytoffbkjhoelghaa", sum := "6b193198e0fbdb48ec357e33e959299267b517e45ff9812d0e5bae035ac2e27d", func := "gesso/gessolaw06.ShapeSteps", spec := "shapeSteps", unfollowed := true, recurses := true, apart := false, narrowed := true }
def ShapeStepsUptoSaid : Prop := shapeStepsUptoRow.holds Try.pinned (OpenSpec.upto shapeStepsSpec)

/-- 'gessolaw06.ShapeUnions', WHERE WHAT IT READS IS OF BULK AT MOST 1048576: true; the input reads as it did. -/
def shapeUnionsUptoRow : OpenClaim := { program := "ytoffbkjhoelghaa", sum := "6b193198e0fbdb48ec357e33e959299267b517e45ff9812d0e5bae035ac2e27d", func := "gesso/gessolaw06.ShapeUnions", spec := "shapeUnions", unfollowed := true, recurses := true, apart := false, narrowed := true }
def ShapeUnionsUptoSaid : Prop := shapeUnionsUptoRow.holds Try.pinned (OpenSpec.upto shapeUnionsSpec)

/-- 'gessolaw06.ShapeClips', WHERE WHAT IT READS IS OF BULK AT MOST 1048576: true; the input reads as it did. -/
def shapeClipsUptoRow : OpenClaim := { program := "ytoffbkjhoelghaa", sum := "6b193198e0fbdb48ec357e33e959299267b517e45ff9812d0e5bae035ac2e27d", func := "gesso/gessolaw06.ShapeClips", spec := "shapeClips", unfollowed := true, recurses := true, apart := false, narrowed := true }
def ShapeClipsUptoSaid : Prop := shapeClipsUptoRow.holds Try.pinned (OpenSpec.upto shapeClipsSpec)

end Rows
end Go.Proofs.Ytoffbkjhoelghaa
