/- the parts of a colour, told one by one -/
import Derived.RangeFuncNested
import Derived.RangeFuncBound
import Derived.RangeFuncCalls
import Derived.RangeFuncLeaves
import Derived.Shelf.Abstract
import Derived.Shelf.RegionOpen
import Derived.OwnWalkIn
import Derived.TacticsInMore
import Derived.LoopNIn
import Derived.LoopIn
import Derived.Test.YtcfollajmmlfnaaW5
namespace Go.Proofs.Ytcfollajmmlfnaa
open Go.RowKit Go.Shelf
attribute [local go_sem] Oper.semAt_some

/-- the places of a colour's parts -/
inductive Q4 where
  | r | g | b | a
def Q4.idx : Q4 → Int
  | .r => 0 | .g => 1 | .b => 2 | .a => 3
def C4.part (c : C4) : Q4 → Int
  | .r => c.r | .g => c.g | .b => c.b | .a => c.a
def encP (c : C4) (i : Q4) : Array Value := #[.int .i64 i.idx, .int .u8 (c.part i)]
def all4 : List Q4 := [.r, .g, .b, .a]

set_option maxHeartbeats 1000000 in
theorem told_stops (F : Fence) (n : Nat) (h5 : F.fn 44) (hro : F.round = none) (hn : 1 ≤ n) (c : C4) (b : Nat) (w : World) (hc : colIn w b c) :
    SeqStopsK F n Try.prog 44 #[.pointer (some ⟨b, 0, none⟩)] (encP c) (fun _ _ => True) (fun xs => xs = all4) (fun pre => ∃ k, k < 4 ∧ pre = all4.take (k + 1)) 4 w := fun l J Jx W hW _ _ hY h0 => by
  have hcc := hc
  obtain ⟨hb, ⟨c0, c1, c2, c3⟩, _⟩ := hc
  have d0 := (hW.cell (p := ⟨b, 0, none⟩) hb).trans c0
  have d1 := (hW.cell (p := ⟨b, 1, none⟩) hb).trans c1
  have d2 := (hW.cell (p := ⟨b, 2, none⟩) hb).trans c2
  have d3 := (hW.cell (p := ⟨b, 3, none⟩) hb).trans c3
  clear c0 c1 c2 c3
  refine callsIn_of_wp Try.func44 rfl h5 ?_ hro
  simp only [Try.ntmps44, List.size_toArray, List.length_cons, List.length_nil, Nat.reduceAdd, Nat.reduceSub, Array.replicate_succ, Array.replicate_zero, List.push_toArray, List.append_toArray, List.nil_append, List.cons_append]
  have i0 : ∀ (x0 x1 x2 x3 : Int) (w : World), (Instr.index 64 (.agg #[.int .u8 x0, .int .u8 x1, .int .u8 x2, .int .u8 x3]) (.int .i64 0)).run Try.prog w = .ok (.int .u8 x0) w := fun _ _ _ _ _ => by kernel_rfl
  have i1 : ∀ (x0 x1 x2 x3 : Int) (w : World), (Instr.index 64 (.agg #[.int .u8 x0, .int .u8 x1, .int .u8 x2, .int .u8 x3]) (.int .i64 1)).run Try.prog w = .ok (.int .u8 x1) w := fun _ _ _ _ _ => by kernel_rfl
  have i2 : ∀ (x0 x1 x2 x3 : Int) (w : World), (Instr.index 64 (.agg #[.int .u8 x0, .int .u8 x1, .int .u8 x2, .int .u8 x3]) (.int .i64 2)).run Try.prog w = .ok (.int .u8 x2) w := fun _ _ _ _ _ => by kernel_rfl
  have i3 : ∀ (x0 x1 x2 x3 : Int) (w : World), (Instr.index 64 (.agg #[.int .u8 x0, .int .u8 x1, .int .u8 x2, .int .u8 x3]) (.int .i64 3)).run Try.prog w = .ok (.int .u8 x3) w := fun _ _ _ _ _ => by kernel_rfl
  gi_wp2
  refine wpIn_loop_rounds 5 ?_
  rw [roundsIn_succ]
  obtain ⟨f0, t0, a0, b0, hy0, hR0⟩ := hY [] .r W h0 (by simp)
  simp only [encP, Q4.idx, C4.part] at hy0
  gi_wp2
  refine hR0.mono ?_
  rintro e W0 (⟨rfl, hJ0, _⟩ | ⟨rfl, hx0⟩)
  rotate_left
  · gi_wp2
    refine bodyPost_ret (results_none rfl _ _ _) rfl ?_
    exact ⟨⟨_, rfl⟩, .inr ⟨_, ⟨0, by omega, rfl⟩, hx0⟩⟩
  gi_wp2
  rw [roundsIn_succ]
  obtain ⟨f1, t1, a1, b1, hy1, hR1⟩ := hY [.r] .g W0 hJ0 (by simp)
  simp only [encP, Q4.idx, C4.part] at hy1
  gi_wp2
  refine hR1.mono ?_
  rintro e W1 (⟨rfl, hJ1, _⟩ | ⟨rfl, hx1⟩)
  rotate_left
  · gi_wp2
    refine bodyPost_ret (results_none rfl _ _ _) rfl ?_
    exact ⟨⟨_, rfl⟩, .inr ⟨_, ⟨1, by omega, rfl⟩, hx1⟩⟩
  gi_wp2
  rw [roundsIn_succ]
  obtain ⟨f2, t2, a2, b2, hy2, hR2⟩ := hY [.r, .g] .b W1 hJ1 (by simp)
  simp only [encP, Q4.idx, C4.part] at hy2
  gi_wp2
  refine hR2.mono ?_
  rintro e W2 (⟨rfl, hJ2, _⟩ | ⟨rfl, hx2⟩)
  rotate_left
  · gi_wp2
    refine bodyPost_ret (results_none rfl _ _ _) rfl ?_
    exact ⟨⟨_, rfl⟩, .inr ⟨_, ⟨2, by omega, rfl⟩, hx2⟩⟩
  gi_wp2
  rw [roundsIn_succ]
  obtain ⟨f3, t3, a3, b3, hy3, hR3⟩ := hY [.r, .g, .b] .a W2 hJ2 (by simp)
  simp only [encP, Q4.idx, C4.part] at hy3
  gi_wp2
  refine hR3.mono ?_
  rintro e W3 (⟨rfl, hJ3, _⟩ | ⟨rfl, hx3⟩)
  rotate_left
  · gi_wp2
    refine bodyPost_ret (results_none rfl _ _ _) rfl ?_
    exact ⟨⟨_, rfl⟩, .inr ⟨_, ⟨3, by omega, rfl⟩, hx3⟩⟩
  gi_wp2
  rw [roundsIn_succ]
  gi_wp2
  go_end0
  exact ⟨⟨_, rfl⟩, .inl ⟨_, rfl, hJ3⟩⟩
end Go.Proofs.Ytcfollajmmlfnaa
