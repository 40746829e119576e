/-
  No cell of these rows narrows 'for every input' (looked for: loops, veiled, ifaces, maps, wideKeys, modest, calm, conditions, laid).
  DERIVED. THE GIVEN ROWS OF THIS SEAT. 6 by the template 'for every input the law returns true; each argument reads behind the call as it read before'; 0 by the template 'total and deterministic' (their statements: YthagnobjbpmneaaTotals.lean).
  GIVEN WITH THE SEED: the statements are not yours to turn. If you find one false, say at which input.
  Laid BY PROGRAM, IN A SANDBOX (cutbox-rows.mjs): the forced cells as the released guide's own fill.sh prints them over the translation 6f50fb2b63a2fbb8… (all of the seat's roots in one cut). By AI agents, Wed Nov 11 2026. No macro, syntax, notation, axiom, sorry.
-/
import Derived.Test.YthagnobjbpmneaaChecked
import GoSem.Claim
import GoSem.ClaimJoined
import GoSem.ClaimMapViews
import Derived.JoinedTies
import Derived.KernelRfl
namespace Go.Proofs.Ythagnobjbpmneaa
/- THE CELL 'sum', in the pinned program and in every row, IS THE sha256 OF THE DUMP (.gsa) THAT YthagnobjbpmneaaProg.lean LOADS. Nothing in Lean hashes anything: it is a label: what it is worth is what the hold of that sum in a sandbox is worth. -/
noncomputable def Try.pinned : Pinned := { name := "ythagnobjbpmneaa", sum := "6f50fb2b63a2fbb8773bb3048290e464a197c66e9d125111e69b573432b5df6e", checked := Try.checked }
namespace Rows
def none {H : Type} : Left H := { results := [], args := [] }

/-- 'gessolaw04.TilePlaces': WHATEVER THE INPUT: true; the input reads as it did. -/
def tilePlacesSpec : ChangeSpec := { name := "tilePlaces", fn := fun _ => fun
  | [d1, d2, d3] => { results := [.lit (.bool true)], args := [d1, d2, d3] }
  | _ => none }
def tilePlacesRow : OpenClaim := { program := "ythagnobjbpmneaa", sum := "6f50fb2b63a2fbb8773bb3048290e464a197c66e9d125111e69b573432b5df6e", func := "gesso/gessolaw04.TilePlaces", spec := "tilePlaces", unfollowed := true, recurses := true, plainKeys := false, apart := false }
def TilePlacesSaid : Prop := tilePlacesRow.holds Try.pinned (OpenSpec.ofChange tilePlacesSpec)

/-- ITS FALSE NEIGHBOUR: 'it returns false'. Refute it at one input. -/
def tilePlacesWrong : ChangeSpec := { name := "tilePlaces", fn := fun _ => fun
  | [d1, d2, d3] => { results := [.lit (.bool false)], args := [d1, d2, d3] }
  | _ => none }
def TilePlacesWrongFalsely : Prop := tilePlacesRow.holds Try.pinned (OpenSpec.ofChange tilePlacesWrong)

/-- 'gessolaw04.TileCounts': WHATEVER THE INPUT: true; the input reads as it did. -/
def tileCountsSpec : ChangeSpec := { name := "tileCounts", fn := fun _ => fun
  | [d1, d2, d3] => { results := [.lit (.bool true)], args := [d1, d2, d3] }
  | _ => none }
def tileCountsRow : OpenClaim := { program := "ythagnobjbpmneaa", sum := "6f50fb2b63a2fbb8773bb3048290e464a197c66e9d125111e69b573432b5df6e", func := "gesso/gessolaw04.TileCounts", spec := "tileCounts", unfollowed := true, recurses := true, plainKeys := false, apart := false }
def TileCountsSaid : Prop := tileCountsRow.holds Try.pinned (OpenSpec.ofChange tileCountsSpec)

/-- ITS FALSE NEIGHBOUR: 'it returns false'. Refute it at one input. -/
def tileCountsWrong : ChangeSpec := { name := "tileCounts", fn := fun _ => fun
  | [d1, d2, d3] => { results := [.lit (.bool false)], args := [d1, d2, d3] }
  | _ => none }
def TileCountsWrongFalsely : Prop := tileCountsRow.holds Try.pinned (OpenSpec.ofChange tileCountsWrong)

/-- 'gessolaw04.TileMoves': WHATEVER THE INPUT: true; the input reads as it did. -/
def tileMovesSpec : ChangeSpec := { name := "tileMoves", fn := fun _ => fun
  | [d1, d2, d3] => { results := [.lit (.bool true)], args := [d1, d2, d3] }
  | _ => none }
def tileMovesRow : OpenClaim := { program := "ythagnobjbpmneaa", sum := "6f50fb2b63a2fbb8773bb3048290e464a197c66e9d125111e69b573432b5df6e", func := "gesso/gessolaw04.TileMoves", spec := "tileMoves", unfollowed := true, recurses := true, plainKeys := false, apart := false }
def TileMovesSaid : Prop := tileMovesRow.holds Try.pinned (OpenSpec.ofChange tileMovesSpec)

/-- ITS FALSE NEIGHBOUR: 'it returns false'. Refute it at one input. -/
def tileMovesWrong : ChangeSpec := { name := "tileMoves", fn := fun _ => fun
  | [d1, d2, d3] => { results := [.lit (.bool false)], args := [d1, d2, d3] }
  | _ => none }
def TileMovesWrongFalsely : Prop := tileMovesRow.holds Try.pinned (OpenSpec.ofChange tileMovesWrong)

/-- 'gessolaw04.TileBack': WHATEVER THE INPUT: true; the input reads as it did. -/
def tileBackSpec : ChangeSpec := { name := "tileBack", fn := fun _ => fun
  | [d1, d2] => { results := [.lit (.bool true)], args := [d1, d2] }
  | _ => none }
def tileBackRow : OpenClaim := { program := "ythagnobjbpmneaa", sum := "6f50fb2b63a2fbb8773bb3048290e464a197c66e9d125111e69b573432b5df6e", func := "gesso/gessolaw04.TileBack", spec := "tileBack", unfollowed := true, recurses := true, plainKeys := false, apart := false }
def TileBackSaid : Prop := tileBackRow.holds Try.pinned (OpenSpec.ofChange tileBackSpec)

/-- ITS FALSE NEIGHBOUR: 'it returns false'. Refute it at one input. -/
def tileBackWrong : ChangeSpec := { name := "tileBack", fn := fun _ => fun
  | [d1, d2] => { results := [.lit (.bool false)], args := [d1, d2] }
  | _ => none }
def TileBackWrongFalsely : Prop := tileBackRow.holds Try.pinned (OpenSpec.ofChange tileBackWrong)

/-- 'gessolaw04.TileBoxes': WHATEVER THE INPUT: true; the input reads as it did. -/
def tileBoxesSpec : ChangeSpec := { name := "tileBoxes", fn := fun _ => fun
  | [d1, d2] => { results := [.lit (.bool true)], args := [d1, d2] }
  | _ => none }
def tileBoxesRow : OpenClaim := { program := "ythagnobjbpmneaa", sum := "6f50fb2b63a2fbb8773bb3048290e464a197c66e9d125111e69b573432b5df6e", func := "gesso/gessolaw04.TileBoxes", spec := "tileBoxes", unfollowed := true, recurses := true, plainKeys := false, apart := false }
def TileBoxesSaid : Prop := tileBoxesRow.holds Try.pinned (OpenSpec.ofChange tileBoxesSpec)

/-- ITS FALSE NEIGHBOUR: 'it returns false'. Refute it at one input. -/
def tileBoxesWrong : ChangeSpec := { name := "tileBoxes", fn := fun _ => fun
  | [d1, d2] => { results := [.lit (.bool false)], args := [d1, d2] }
  | _ => none }
def TileBoxesWrongFalsely : Prop := tileBoxesRow.holds Try.pinned (OpenSpec.ofChange tileBoxesWrong)

/-- 'gessolaw04.TileSums': WHATEVER THE INPUT: true; the input reads as it did. -/
def tileSumsSpec : ChangeSpec := { name := "tileSums", fn := fun _ => fun
  | [d1, d2, d3] => { results := [.lit (.bool true)], args := [d1, d2, d3] }
  | _ => none }
def tileSumsRow : OpenClaim := { program := "ythagnobjbpmneaa", sum := "6f50fb2b63a2fbb8773bb3048290e464a197c66e9d125111e69b573432b5df6e", func := "gesso/gessolaw04.TileSums", spec := "tileSums", unfollowed := true, recurses := true, plainKeys := false, apart := false }
def TileSumsSaid : Prop := tileSumsRow.holds Try.pinned (OpenSpec.ofChange tileSumsSpec)

/-- ITS FALSE NEIGHBOUR: 'it returns false'. Refute it at one input. -/
def tileSumsWrong : ChangeSpec := { name := "tileSums", fn := fun _ => fun
  | [d1, d2, d3] => { results := [.lit (.bool false)], args := [d1, d2, d3] }
  | _ => none }
def TileSumsWrongFalsely : Prop := tileSumsRow.holds Try.pinned (OpenSpec.ofChange tileSumsWrong)

/- THE SECOND FORM. 'bulk': how many values and letters a reading holds, each counted each time it is reached (what is shared counts as often as it is met; a slice's spare places count too). A statement '..UptoSaid' is the law's where the arguments, and the package variables that the reading takes, are together of bulk at most 1048576: NARROWER than '..Said'. Prove '..Said' where nothing that the law and all that it calls make is longer than what came in: it says more and counts as full. Else prove '..UptoSaid'. A law counts once. -/
mutual
def uptoBulk {H : Type} : DataW H → Nat
  | .lit (.string bytes) => bytes.length + 1
  | .lit _ => 1
  | .nil => 1
  | .ptr d => uptoBulk d + 1
  | .slice elems spare => uptoBulkAll elems + uptoBulkAll spare + 1
  | .agg parts => uptoBulkAll parts + 1
  | .iface _ d => uptoBulk d + 1
  | .map entries => uptoBulkEntries entries + 1
  | .held _ => 1
def uptoBulkAll {H : Type} : List (DataW H) → Nat
  | [] => 0
  | d :: r => uptoBulk d + uptoBulkAll r
def uptoBulkEntries {H : Type} : List (Lit × DataW H) → Nat
  | [] => 0
  | x :: r => uptoBulkEntry x + uptoBulkEntries r
def uptoBulkEntry {H : Type} : Lit × DataW H → Nat
  | (.string bytes, d) => bytes.length + uptoBulk d + 1
  | (_, d) => uptoBulk d + 1
 end
def uptoSmall : (H : Type) → List (DataW H) → Bool := fun _ ds => decide (uptoBulkAll ds ≤ 1048576)
def OpenSpec.upto (s : _root_.Go.ChangeSpec) : _root_.Go.OpenSpec := { _root_.Go.OpenSpec.ofChange s with cond := some uptoSmall }

/-- 'gessolaw04.TilePlaces', WHERE WHAT IT READS IS OF BULK AT MOST 1048576: true; the input reads as it did. -/
def tilePlacesUptoRow : OpenClaim := { program := "ythagnobjbpmneaa", sum := "6f50fb2b63a2fbb8773bb3048290e464a197c66e9d125111e69b573432b5df6e", func := "gesso/gessolaw04.TilePlaces", spec := "tilePlaces", unfollowed := true, recurses := true, plainKeys := false, apart := false, narrowed := true }
def TilePlacesUptoSaid : Prop := tilePlacesUptoRow.holds Try.pinned (OpenSpec.upto tilePlacesSpec)

/-- 'gessolaw04.TileCounts', WHERE WHAT IT READS IS OF BULK AT MOST 1048576: true; the input reads as it did. -/
def tileCountsUptoRow : OpenClaim := { program := "ythagnobjbpmneaa", sum := "6f50fb2b63a2fbb8773bb3048290e464a197c66e9d125111e69b573432b5df6e", func := "gesso/gessolaw04.TileCounts", spec := "tileCounts", unfollowed := true, recurses := true, plainKeys := false, apart := false, narrowed := true }
def TileCountsUptoSaid : Prop := tileCountsUptoRow.holds Try.pinned (OpenSpec.upto tileCountsSpec)

/-- 'gessolaw04.TileMoves', WHERE WHAT IT READS IS OF BULK AT MOST 1048576: true; the input reads as it did. -/
def tileMovesUptoRow : OpenClaim := { program := "ythagnobjbpmneaa", sum := "6f50fb2b63a2fbb8773bb3048290e464a197c66e9d125111e69b573432b5df6e", func := "gesso/gessolaw04.TileMoves", spec := "tileMoves", unfollowed := true, recurses := true, plainKeys := false, apart := false, narrowed := true }
def TileMovesUptoSaid : Prop := tileMovesUptoRow.holds Try.pinned (OpenSpec.upto tileMovesSpec)

/-- 'gessolaw04.TileBack', WHERE WHAT IT READS IS OF BULK AT MOST 1048576: true; the input reads as it did. -/
def tileBackUptoRow : OpenClaim := { program := "ythagnobjbpmneaa", sum := "6f50fb2b63a2fbb8773bb3048290e464a197c66e9d125111e69b573432b5df6e", func := "gesso/gessolaw04.TileBack", spec := "tileBack", unfollowed := true, recurses := true, plainKeys := false, apart := false, narrowed := true }
def TileBackUptoSaid : Prop := tileBackUptoRow.holds Try.pinned (OpenSpec.upto tileBackSpec)

/-- 'gessolaw04.TileBoxes', WHERE WHAT IT READS IS OF BULK AT MOST 1048576: true; the input reads as it did. -/
def tileBoxesUptoRow : OpenClaim := { program := "ythagnobjbpmneaa", sum := "6f50fb2b63a2fbb8773bb3048290e464a197c66e9d125111e69b573432b5df6e", func := "gesso/gessolaw04.TileBoxes", spec := "tileBoxes", unfollowed := true, recurses := true, plainKeys := false, apart := false, narrowed := true }
def TileBoxesUptoSaid : Prop := tileBoxesUptoRow.holds Try.pinned (OpenSpec.upto tileBoxesSpec)

/-- 'gessolaw04.TileSums', WHERE WHAT IT READS IS OF BULK AT MOST 1048576: true; the input reads as it did. -/
def tileSumsUptoRow : OpenClaim := { program := "ythagnobjbpmneaa", sum := "6f50fb2b63a2fbb8773bb3048290e464a197c66e9d125111e69b573432b5df6e", func := "gesso/gessolaw04.TileSums", spec := "tileSums", unfollowed := true, recurses := true, plainKeys := false, apart := false, narrowed := true }
def TileSumsUptoSaid : Prop := tileSumsUptoRow.holds Try.pinned (OpenSpec.upto tileSumsSpec)

end Rows
end Go.Proofs.Ythagnobjbpmneaa
