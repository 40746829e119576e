/- walks of pixel's functions over merged -/
import Derived.Test.YtcfollajmmlfnaaW2
namespace Go.Proofs.Ytcfollajmmlfnaa
open Go.RowKit

def Byte (x : Int) : Prop := 0 ≤ x ∧ x ≤ 255
theorem coverF_byte (a i x y : Int) : Byte (coverF a i x y) := by unfold coverF Byte; split <;> omega

/-- the world behind a store of four parts -/
def four (w : World) (b : Nat) (c0 c1 c2 c3 : Int) : World := (((w.setCell ⟨b, 0, none⟩ (.int .u8 c0)).setCell ⟨b, 1, none⟩ (.int .u8 c1)).setCell ⟨b, 2, none⟩ (.int .u8 c2)).setCell ⟨b, 3, none⟩ (.int .u8 c3)

theorem cap_kept (w : World) (A B : Obj) (v : Value) (n : Near (w.heap.size + 1 + 1) ((w.alloc A).alloc B)) (w' : World) (h : Below n.u.heap.size n.u w')
    (hv : ((w.alloc A).alloc B).cell? ⟨w.heap.size + 1, 0, none⟩ = some v) : w'.cell? ⟨w.heap.size + 1, 0, none⟩ = some v ∧ w.heap.size + 1 < w'.heap.size := by
  have hs := n.h.size
  simp at hs
  have h2 := h.size
  refine ⟨?_, by omega⟩
  rw [h.cell (p := ⟨w.heap.size + 1, 0, none⟩) (by show w.heap.size + 1 < _; omega), n.h.cell (p := ⟨w.heap.size + 1, 0, none⟩) (by show w.heap.size + 1 < _; omega)]
  exact hv

set_option maxHeartbeats 1000000 in
theorem cover_any (B b : Nat) (u0 u1 u2 u3 v0 v1 v2 a : Int) (w : World) (hb : b < w.heap.size) (hB : B ≤ w.heap.size)
    (hu0 : Byte u0) (hu1 : Byte u1) (hu2 : Byte u2) (hu3 : Byte u3) (hv0 : Byte v0) (hv1 : Byte v1) (hv2 : Byte v2) (ha : Byte a)
    (hc0 : w.cell? ⟨b, 0, none⟩ = some (.int .u8 u0)) (hc1 : w.cell? ⟨b, 1, none⟩ = some (.int .u8 u1)) (hc2 : w.cell? ⟨b, 2, none⟩ = some (.int .u8 u2)) (hc3 : w.cell? ⟨b, 3, none⟩ = some (.int .u8 u3))
    (hz0 : w.frozen? ⟨b, 0, none⟩ = false) (hz1 : w.frozen? ⟨b, 1, none⟩ = false) (hz2 : w.frozen? ⟨b, 2, none⟩ = false) (hz3 : w.frozen? ⟨b, 3, none⟩ = false) :
    Calls Try.prog 29 #[.pointer (some ⟨b, 0, none⟩), .agg #[.int .u8 v0, .int .u8 v1, .int .u8 v2, .int .u8 a]] w fun e w' =>
      e = .returned (.tuple #[]) ∧ ∃ n : Near B w, w' = four n.u b (coverF a 0 u0 v0) (coverF a 1 u1 v1) (coverF a 2 u2 v2) (coverF a 3 u3 a) := by
  have hmf : ∀ (fn : Fn) (first cap : Array Value) (w : World), (Instr.makeFunc fn first cap).run Try.prog w = .ok (.func fn first cap) w := fun _ _ _ _ => rfl
  have hn := @near_cell (w.heap.size + 1 + 1)
  have hz := @near_frozen (w.heap.size + 1 + 1)
  have hb1 : b < w.heap.size + 1 + 1 := by omega
  have hb2 : b ≤ w.heap.size + 1 := by omega
  go_enter Try.func29, Try.ntmps29
  go_wp2_with fail
  have h0 := (((Below.refl w.heap.size w).alloc (Nat.le_refl _) (Obj.cells #[.int .u8 v0, .int .u8 v1, .int .u8 v2, .int .u8 a] 26)).alloc (by simp) (Obj.cells #[.int .u8 a] 5))
  refine wp_region_near_tail (w.heap.size + 1 + 1) 13 (by kernel_rfl) (by kernel_rfl) ?_
  simp only [List.take_succ_cons, List.take_zero, List.drop_succ_cons, List.drop_zero]
  repeat (go_big_quiet_step (first
    | (go_at_call 34; exact near_call (by simp) (partsOf_any _ _ _ _ _))
    | (go_at_call 33; exact near_call (by simp) (merged_cover (coverF a) _ _ _ _ _ _ _ _ _ _ _ (fun i x y w' hB _ hxy => cover1_any i x y a (by rcases hxy with h | h | h | h <;> rw [h.1] <;> assumption) (by rcases hxy with h | h | h | h <;> rw [h.2] <;> assumption) ha _ _ w' (cap_kept w _ _ _ _ w' hB (by simp [go_sem])).1 (cap_kept w _ _ (.int .u8 a) _ w' hB (by simp [go_sem])).2)))
    | (go_at_call 32; exact near_call (by simp) (colorOf_any _ _ _ _ _))))
  refine wpQuiet_nil ?_
  rintro _ ⟨n1, rfl⟩
  go_wp2
  go_end0
  exact ⟨rfl, ⟨n1.u, (h0.mono hB).trans (n1.h.mono (by omega))⟩, rfl⟩
end Go.Proofs.Ytcfollajmmlfnaa
