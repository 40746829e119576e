/- walks: the sites, told one by one; what a range over them keeps -/
import Derived.RangeFuncNested
import Derived.RangeFuncBound
import Derived.RangeFuncCalls
import Derived.RangeFuncLeaves
import Derived.Shelf.Abstract
import Derived.Shelf.RegionOpen
import Derived.OwnWalkIn
import Derived.TacticsInMore
import Derived.LoopNIn
import Derived.LoopIn
import Derived.WalkMore
import Derived.Test.YtjpgabpicfcapaaV3
import Derived.Test.YtjpgabpicfcapaaDepIn
namespace Go.Proofs.Ytjpgabpicfcapaa
open Go.RowKit Go.Shelf
attribute [local go_sem] Oper.semAt_some

/-- the places of the sites -/
inductive S8 where
  | s1 | s2 | s3 | s4 | s5 | s6 | s7 | s8
def S8.no : S8 → Int
  | .s1 => 1 | .s2 => 2 | .s3 => 3 | .s4 => 4 | .s5 => 5 | .s6 => 6 | .s7 => 7 | .s8 => 8
def S8.nat : S8 → Nat
  | .s1 => 1 | .s2 => 2 | .s3 => 3 | .s4 => 4 | .s5 => 5 | .s6 => 6 | .s7 => 7 | .s8 => 8
theorem S8.no_eq (x : S8) : x.no = (x.nat : Int) := by cases x <;> rfl
theorem S8.bd (x : S8) : 1 ≤ x.nat ∧ x.nat ≤ 8 := by cases x <;> decide
def encSite (s : S8) : Array Value := #[.int .i64 s.no]
def all8 : List S8 := [.s1, .s2, .s3, .s4, .s5, .s6, .s7, .s8]

theorem sites_any (w : World) : Calls Try.prog 45 #[] w fun e w' => e = .returned (.func (.func 55) #[] #[]) ∧ w = w' := by
  go_enter Try.func45, Try.ntmps45
  go_wp2
  go_ret
  exact ⟨rfl, rfl⟩

set_option maxHeartbeats 2000000 in
theorem sites_stops (F : Fence) (n : Nat) (h5 : F.fn 55) (hro : F.round = none) (hn : 1 ≤ n) (w : World) :
    SeqStopsK F n Try.prog 55 #[] encSite (fun _ _ => True) (fun xs => xs = all8) (fun pre => ∃ k, k < 8 ∧ pre = all8.take (k + 1)) 8 w := fun l J Jx W _ _ _ hY h0 => by
  refine callsIn_of_wp Try.func55 rfl h5 ?_ hro
  simp only [Try.ntmps55, List.size_toArray, List.length_cons, List.length_nil, Nat.reduceAdd, Nat.reduceSub, Array.replicate_succ, Array.replicate_zero, List.push_toArray, List.append_toArray, List.nil_append, List.cons_append]
  gi_wp2
  refine wpIn_loop_rounds 9 ?_
  rw [roundsIn_succ]
  obtain ⟨f0, t0, a0, b0, hy0, hR0⟩ := hY [] .s1 W h0 (by simp)
  simp only [encSite, S8.no] at hy0
  gi_wp2
  refine hR0.mono ?_
  rintro e W0 (⟨rfl, hJ0, _⟩ | ⟨rfl, hx0⟩)
  rotate_left
  · gi_wp2
    refine bodyPost_ret (results_none rfl _ _ _) rfl ?_
    exact ⟨⟨_, rfl⟩, .inr ⟨_, ⟨0, by omega, rfl⟩, hx0⟩⟩
  gi_wp2
  rw [roundsIn_succ]
  obtain ⟨f1, t1, a1, b1, hy1, hR1⟩ := hY [.s1] .s2 W0 hJ0 (by simp)
  simp only [encSite, S8.no] at hy1
  gi_wp2
  refine hR1.mono ?_
  rintro e W1 (⟨rfl, hJ1, _⟩ | ⟨rfl, hx1⟩)
  rotate_left
  · gi_wp2
    refine bodyPost_ret (results_none rfl _ _ _) rfl ?_
    exact ⟨⟨_, rfl⟩, .inr ⟨_, ⟨1, by omega, rfl⟩, hx1⟩⟩
  gi_wp2
  rw [roundsIn_succ]
  obtain ⟨f2, t2, a2, b2, hy2, hR2⟩ := hY [.s1, .s2] .s3 W1 hJ1 (by simp)
  simp only [encSite, S8.no] at hy2
  gi_wp2
  refine hR2.mono ?_
  rintro e W2 (⟨rfl, hJ2, _⟩ | ⟨rfl, hx2⟩)
  rotate_left
  · gi_wp2
    refine bodyPost_ret (results_none rfl _ _ _) rfl ?_
    exact ⟨⟨_, rfl⟩, .inr ⟨_, ⟨2, by omega, rfl⟩, hx2⟩⟩
  gi_wp2
  rw [roundsIn_succ]
  obtain ⟨f3, t3, a3, b3, hy3, hR3⟩ := hY [.s1, .s2, .s3] .s4 W2 hJ2 (by simp)
  simp only [encSite, S8.no] at hy3
  gi_wp2
  refine hR3.mono ?_
  rintro e W3 (⟨rfl, hJ3, _⟩ | ⟨rfl, hx3⟩)
  rotate_left
  · gi_wp2
    refine bodyPost_ret (results_none rfl _ _ _) rfl ?_
    exact ⟨⟨_, rfl⟩, .inr ⟨_, ⟨3, by omega, rfl⟩, hx3⟩⟩
  gi_wp2
  rw [roundsIn_succ]
  obtain ⟨f4, t4, a4, b4, hy4, hR4⟩ := hY [.s1, .s2, .s3, .s4] .s5 W3 hJ3 (by simp)
  simp only [encSite, S8.no] at hy4
  gi_wp2
  refine hR4.mono ?_
  rintro e W4 (⟨rfl, hJ4, _⟩ | ⟨rfl, hx4⟩)
  rotate_left
  · gi_wp2
    refine bodyPost_ret (results_none rfl _ _ _) rfl ?_
    exact ⟨⟨_, rfl⟩, .inr ⟨_, ⟨4, by omega, rfl⟩, hx4⟩⟩
  gi_wp2
  rw [roundsIn_succ]
  obtain ⟨f5, t5, a5, b5, hy5, hR5⟩ := hY [.s1, .s2, .s3, .s4, .s5] .s6 W4 hJ4 (by simp)
  simp only [encSite, S8.no] at hy5
  gi_wp2
  refine hR5.mono ?_
  rintro e W5 (⟨rfl, hJ5, _⟩ | ⟨rfl, hx5⟩)
  rotate_left
  · gi_wp2
    refine bodyPost_ret (results_none rfl _ _ _) rfl ?_
    exact ⟨⟨_, rfl⟩, .inr ⟨_, ⟨5, by omega, rfl⟩, hx5⟩⟩
  gi_wp2
  rw [roundsIn_succ]
  obtain ⟨f6, t6, a6, b6, hy6, hR6⟩ := hY [.s1, .s2, .s3, .s4, .s5, .s6] .s7 W5 hJ5 (by simp)
  simp only [encSite, S8.no] at hy6
  gi_wp2
  refine hR6.mono ?_
  rintro e W6 (⟨rfl, hJ6, _⟩ | ⟨rfl, hx6⟩)
  rotate_left
  · gi_wp2
    refine bodyPost_ret (results_none rfl _ _ _) rfl ?_
    exact ⟨⟨_, rfl⟩, .inr ⟨_, ⟨6, by omega, rfl⟩, hx6⟩⟩
  gi_wp2
  rw [roundsIn_succ]
  obtain ⟨f7, t7, a7, b7, hy7, hR7⟩ := hY [.s1, .s2, .s3, .s4, .s5, .s6, .s7] .s8 W6 hJ6 (by simp)
  simp only [encSite, S8.no] at hy7
  gi_wp2
  refine hR7.mono ?_
  rintro e W7 (⟨rfl, hJ7, _⟩ | ⟨rfl, hx7⟩)
  rotate_left
  · gi_wp2
    refine bodyPost_ret (results_none rfl _ _ _) rfl ?_
    exact ⟨⟨_, rfl⟩, .inr ⟨_, ⟨7, by omega, rfl⟩, hx7⟩⟩
  gi_wp2
  rw [roundsIn_succ]
  gi_wp2
  go_end0
  exact ⟨⟨_, rfl⟩, .inl ⟨_, rfl, hJ7⟩⟩

/-- a block of cells stays as it is, through what a range does beside its body -/
theorem holds_own {β : Type} (b : Nat) (f : β → List Value) : Own (fun s W => holds W b (f s)) :=
  fun s A B row h hg hr => by
    have hs := hg.size
    exact ⟨Nat.lt_of_lt_of_le h.1 hs, fun j hj => ⟨cell_kept (h.2 j hj).1 hg hr, (frozen_kept (h.2 j hj).1 hg hr).trans (h.2 j hj).2⟩⟩
theorem keepsOthers_below {W W' : World} (h : Below W.heap.size W W') : KeepsOthers W W' :=
  ⟨h.size, fun k _ hk _ => (h.block k (Array.getElem?_eq_some_iff.1 hk).1).trans hk⟩
end Go.Proofs.Ytjpgabpicfcapaa
