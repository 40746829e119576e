/-
  No cell of these rows narrows 'for every input' (looked for: loops, veiled, ifaces, maps, wideKeys, modest, calm, conditions, laid).
  DERIVED. THE GIVEN ROWS OF THIS SEAT. 5 by the template 'for every input the law returns true; each argument reads behind the call as it read before'; 0 by the template 'total and deterministic' (their statements: YtkhlobbkoodkmaaTotals.lean).
  GIVEN WITH THE SEED: the statements are not yours to turn. If you find one false, say at which input.
  Laid BY PROGRAM, IN A SANDBOX (cutbox-rows.mjs): the forced cells as the released guide's own fill.sh prints them over the translation 05586016d0fbc2f0… (all of the seat's roots in one cut). By AI agents, Wed Nov 11 2026. No macro, syntax, notation, axiom, sorry.
-/
import Derived.Test.YtkhlobbkoodkmaaChecked
import GoSem.Claim
import GoSem.ClaimJoined
import GoSem.ClaimMapViews
import Derived.JoinedTies
import Derived.KernelRfl
namespace Go.Proofs.Ytkhlobbkoodkmaa
/- THE CELL 'sum', in the pinned program and in every row, IS THE sha256 OF THE DUMP (.gsa) THAT YtkhlobbkoodkmaaProg.lean LOADS. Nothing in Lean hashes anything: it is a label: what it is worth is what the hold of that sum in a sandbox is worth. -/
noncomputable def Try.pinned : Pinned := { name := "ytkhlobbkoodkmaa", sum := "05586016d0fbc2f0e2bd1bbc633970fcd5d91f236f599b74bc7106908e1b4ca1", checked := Try.checked }
namespace Rows
def none {H : Type} : Left H := { results := [], args := [] }

/-- 'gessolaw05.CanvasMay': WHATEVER THE INPUT: true; the input reads as it did. -/
def canvasMaySpec : ChangeSpec := { name := "canvasMay", fn := fun _ => fun
  | [d1, d2, d3] => { results := [.lit (.bool true)], args := [d1, d2, d3] }
  | _ => none }
def canvasMayRow : OpenClaim := { program := "ytkhlobbkoodkmaa", sum := "05586016d0fbc2f0e2bd1bbc633970fcd5d91f236f599b74bc7106908e1b4ca1", func := "gesso/gessolaw05.CanvasMay", spec := "canvasMay", unfollowed := true, recurses := true, plainKeys := false, apart := false }
def CanvasMaySaid : Prop := canvasMayRow.holds Try.pinned (OpenSpec.ofChange canvasMaySpec)

/-- ITS FALSE NEIGHBOUR: 'it returns false'. Refute it at one input. -/
def canvasMayWrong : ChangeSpec := { name := "canvasMay", fn := fun _ => fun
  | [d1, d2, d3] => { results := [.lit (.bool false)], args := [d1, d2, d3] }
  | _ => none }
def CanvasMayWrongFalsely : Prop := canvasMayRow.holds Try.pinned (OpenSpec.ofChange canvasMayWrong)

/-- 'gessolaw05.CanvasDots': WHATEVER THE INPUT: true; the input reads as it did. -/
def canvasDotsSpec : ChangeSpec := { name := "canvasDots", fn := fun _ => fun
  | [d1, d2, d3] => { results := [.lit (.bool true)], args := [d1, d2, d3] }
  | _ => none }
def canvasDotsRow : OpenClaim := { program := "ytkhlobbkoodkmaa", sum := "05586016d0fbc2f0e2bd1bbc633970fcd5d91f236f599b74bc7106908e1b4ca1", func := "gesso/gessolaw05.CanvasDots", spec := "canvasDots", unfollowed := true, recurses := true, plainKeys := false, apart := false }
def CanvasDotsSaid : Prop := canvasDotsRow.holds Try.pinned (OpenSpec.ofChange canvasDotsSpec)

/-- ITS FALSE NEIGHBOUR: 'it returns false'. Refute it at one input. -/
def canvasDotsWrong : ChangeSpec := { name := "canvasDots", fn := fun _ => fun
  | [d1, d2, d3] => { results := [.lit (.bool false)], args := [d1, d2, d3] }
  | _ => none }
def CanvasDotsWrongFalsely : Prop := canvasDotsRow.holds Try.pinned (OpenSpec.ofChange canvasDotsWrong)

/-- 'gessolaw05.CanvasShares': WHATEVER THE INPUT: true; the input reads as it did. -/
def canvasSharesSpec : ChangeSpec := { name := "canvasShares", fn := fun _ => fun
  | [d1, d2, d3] => { results := [.lit (.bool true)], args := [d1, d2, d3] }
  | _ => none }
def canvasSharesRow : OpenClaim := { program := "ytkhlobbkoodkmaa", sum := "05586016d0fbc2f0e2bd1bbc633970fcd5d91f236f599b74bc7106908e1b4ca1", func := "gesso/gessolaw05.CanvasShares", spec := "canvasShares", unfollowed := true, recurses := true, plainKeys := false, apart := false }
def CanvasSharesSaid : Prop := canvasSharesRow.holds Try.pinned (OpenSpec.ofChange canvasSharesSpec)

/-- ITS FALSE NEIGHBOUR: 'it returns false'. Refute it at one input. -/
def canvasSharesWrong : ChangeSpec := { name := "canvasShares", fn := fun _ => fun
  | [d1, d2, d3] => { results := [.lit (.bool false)], args := [d1, d2, d3] }
  | _ => none }
def CanvasSharesWrongFalsely : Prop := canvasSharesRow.holds Try.pinned (OpenSpec.ofChange canvasSharesWrong)

/-- 'gessolaw05.CanvasBack': WHATEVER THE INPUT: true; the input reads as it did. -/
def canvasBackSpec : ChangeSpec := { name := "canvasBack", fn := fun _ => fun
  | [d1, d2] => { results := [.lit (.bool true)], args := [d1, d2] }
  | _ => none }
def canvasBackRow : OpenClaim := { program := "ytkhlobbkoodkmaa", sum := "05586016d0fbc2f0e2bd1bbc633970fcd5d91f236f599b74bc7106908e1b4ca1", func := "gesso/gessolaw05.CanvasBack", spec := "canvasBack", unfollowed := true, recurses := true, plainKeys := false, apart := false }
def CanvasBackSaid : Prop := canvasBackRow.holds Try.pinned (OpenSpec.ofChange canvasBackSpec)

/-- ITS FALSE NEIGHBOUR: 'it returns false'. Refute it at one input. -/
def canvasBackWrong : ChangeSpec := { name := "canvasBack", fn := fun _ => fun
  | [d1, d2] => { results := [.lit (.bool false)], args := [d1, d2] }
  | _ => none }
def CanvasBackWrongFalsely : Prop := canvasBackRow.holds Try.pinned (OpenSpec.ofChange canvasBackWrong)

/-- 'gessolaw05.CanvasTells': WHATEVER THE INPUT: true; the input reads as it did. -/
def canvasTellsSpec : ChangeSpec := { name := "canvasTells", fn := fun _ => fun
  | [d1, d2] => { results := [.lit (.bool true)], args := [d1, d2] }
  | _ => none }
def canvasTellsRow : OpenClaim := { program := "ytkhlobbkoodkmaa", sum := "05586016d0fbc2f0e2bd1bbc633970fcd5d91f236f599b74bc7106908e1b4ca1", func := "gesso/gessolaw05.CanvasTells", spec := "canvasTells", unfollowed := true, recurses := true, plainKeys := false, apart := false }
def CanvasTellsSaid : Prop := canvasTellsRow.holds Try.pinned (OpenSpec.ofChange canvasTellsSpec)

/-- ITS FALSE NEIGHBOUR: 'it returns false'. Refute it at one input. -/
def canvasTellsWrong : ChangeSpec := { name := "canvasTells", fn := fun _ => fun
  | [d1, d2] => { results := [.lit (.bool false)], args := [d1, d2] }
  | _ => none }
def CanvasTellsWrongFalsely : Prop := canvasTellsRow.holds Try.pinned (OpenSpec.ofChange canvasTellsWrong)

/- THE SECOND FORM. 'bulk': how many values and letters a reading holds, each counted each time it is reached (what is shared counts as often as it is met; a slice's spare places count too). A statement '..UptoSaid' is the law's where the arguments, and the package variables that the reading takes, are together of bulk at most 1048576: NARROWER than '..Said'. Prove '..Said' where nothing that the law and all that it calls make is longer than what came in: it says more and counts as full. Else prove '..UptoSaid'. A law counts once. -/
mutual
def uptoBulk {H : Type} : DataW H → Nat
  | .lit (.string bytes) => bytes.length + 1
  | .lit _ => 1
  | .nil => 1
  | .ptr d => uptoBulk d + 1
  | .slice elems spare => uptoBulkAll elems + uptoBulkAll spare + 1
  | .agg parts => uptoBulkAll parts + 1
  | .iface _ d => uptoBulk d + 1
  | .map entries => uptoBulkEntries entries + 1
  | .held _ => 1
def uptoBulkAll {H : Type} : List (DataW H) → Nat
  | [] => 0
  | d :: r => uptoBulk d + uptoBulkAll r
def uptoBulkEntries {H : Type} : List (Lit × DataW H) → Nat
  | [] => 0
  | x :: r => uptoBulkEntry x + uptoBulkEntries r
def uptoBulkEntry {H : Type} : Lit × DataW H → Nat
  | (.string bytes, d) => bytes.length + uptoBulk d + 1
  | (_, d) => uptoBulk d + 1
 end
def uptoSmall : (H : Type) → List (DataW H) → Bool := fun _ ds => decide (uptoBulkAll ds ≤ 1048576)
def OpenSpec.upto (s : _root_.Go.ChangeSpec) : _root_.Go.OpenSpec := { _root_.Go.OpenSpec.ofChange s with cond := some uptoSmall }

/-- 'gessolaw05.CanvasMay', WHERE WHAT IT READS IS OF BULK AT MOST 1048576: true; the input reads as it did. -/
def canvasMayUptoRow : OpenClaim := { program := "ytkhlobbkoodkmaa", sum := "05586016d0fbc2f0e2bd1bbc633970fcd5d91f236f599b74bc7106908e1b4ca1", func := "gesso/gessolaw05.CanvasMay", spec := "canvasMay", unfollowed := true, recurses := true, plainKeys := false, apart := false, narrowed := true }
def CanvasMayUptoSaid : Prop := canvasMayUptoRow.holds Try.pinned (OpenSpec.upto canvasMaySpec)

/-- 'gessolaw05.CanvasDots', WHERE WHAT IT READS IS OF BULK AT MOST 1048576: true; the input reads as it did. -/
def canvasDotsUptoRow : OpenClaim := { program := "ytkhlobbkoodkmaa", sum := "05586016d0fbc2f0e2bd1bbc633970fcd5d91f236f599b74bc7106908e1b4ca1", func := "gesso/gessolaw05.CanvasDots", spec := "canvasDots", unfollowed := true, recurses := true, plainKeys := false, apart := false, narrowed := true }
def CanvasDotsUptoSaid : Prop := canvasDotsUptoRow.holds Try.pinned (OpenSpec.upto canvasDotsSpec)

/-- 'gessolaw05.CanvasShares', WHERE WHAT IT READS IS OF BULK AT MOST 1048576: true; the input reads as it did. -/
def canvasSharesUptoRow : OpenClaim := { program := "ytkhlobbkoodkmaa", sum := "05586016d0fbc2f0e2bd1bbc633970fcd5d91f236f599b74bc7106908e1b4ca1", func := "gesso/gessolaw05.CanvasShares", spec := "canvasShares", unfollowed := true, recurses := true, plainKeys := false, apart := false, narrowed := true }
def CanvasSharesUptoSaid : Prop := canvasSharesUptoRow.holds Try.pinned (OpenSpec.upto canvasSharesSpec)

/-- 'gessolaw05.CanvasBack', WHERE WHAT IT READS IS OF BULK AT MOST 1048576: true; the input reads as it did. -/
def canvasBackUptoRow : OpenClaim := { program := "ytkhlobbkoodkmaa", sum := "05586016d0fbc2f0e2bd1bbc633970fcd5d91f236f599b74bc7106908e1b4ca1", func := "gesso/gessolaw05.CanvasBack", spec := "canvasBack", unfollowed := true, recurses := true, plainKeys := false, apart := false, narrowed := true }
def CanvasBackUptoSaid : Prop := canvasBackUptoRow.holds Try.pinned (OpenSpec.upto canvasBackSpec)

/-- 'gessolaw05.CanvasTells', WHERE WHAT IT READS IS OF BULK AT MOST 1048576: true; the input reads as it did. -/
def canvasTellsUptoRow : OpenClaim := { program := "ytkhlobbkoodkmaa", sum := "05586016d0fbc2f0e2bd1bbc633970fcd5d91f236f599b74bc7106908e1b4ca1", func := "gesso/gessolaw05.CanvasTells", spec := "canvasTells", unfollowed := true, recurses := true, plainKeys := false, apart := false, narrowed := true }
def CanvasTellsUptoSaid : Prop := canvasTellsUptoRow.holds Try.pinned (OpenSpec.upto canvasTellsSpec)

end Rows
end Go.Proofs.Ytkhlobbkoodkmaa
