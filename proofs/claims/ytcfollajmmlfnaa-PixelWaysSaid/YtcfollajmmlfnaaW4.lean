/- walks of pixel's Over, Mix, Layers -/
import Derived.Test.YtcfollajmmlfnaaW3
namespace Go.Proofs.Ytcfollajmmlfnaa
open Go.RowKit

/-- a colour as Go has it -/
abbrev col (r g b a : Int) : Value := .agg #[.int .u8 r, .int .u8 g, .int .u8 b, .int .u8 a]

set_option maxHeartbeats 1000000 in
theorem over_any (u0 u1 u2 u3 v0 v1 v2 a : Int) (w : World)
    (hu0 : Byte u0) (hu1 : Byte u1) (hu2 : Byte u2) (hu3 : Byte u3) (hv0 : Byte v0) (hv1 : Byte v1) (hv2 : Byte v2) (ha : Byte a) :
    Calls Try.prog 10 #[col u0 u1 u2 u3, col v0 v1 v2 a] w fun e w' =>
      e = .returned (col (coverF a 0 u0 v0) (coverF a 1 u1 v1) (coverF a 2 u2 v2) (coverF a 3 u3 a)) ∧ Below w.heap.size w w' := by
  have hn := @near_cell (w.heap.size + 1 + 1 + 1 + 1)
  have hz := @near_frozen (w.heap.size + 1 + 1 + 1 + 1)
  go_enter Try.func10, Try.ntmps10
  go_wp2_with (go_at_call 29; refine (cover_any (w.heap.size + 1 + 1 + 1 + 1) (w.heap.size + 1 + 1 + 1) u0 u1 u2 u3 v0 v1 v2 a _ (by simp) (by simp) hu0 hu1 hu2 hu3 hv0 hv1 hv2 ha (by simp [go_sem]) (by simp [go_sem]) (by simp [go_sem]) (by simp [go_sem]) (by simp [go_sem]) (by simp [go_sem]) (by simp [go_sem]) (by simp [go_sem])).mono ?_; rintro e w' ⟨rfl, n1, rfl⟩; simp only [four])
  refine bodyPost_ret (v := col (coverF a 0 u0 v0) (coverF a 1 u1 v1) (coverF a 2 u2 v2) (coverF a 3 u3 a)) ?_ rfl ⟨rfl, ?_⟩
  · simp [results, Try.results10, go_sem, hn]
  · repeat (first | with_reducible refine Below.setCell ?_ (by dsimp only; omega) _ | with_reducible refine Below.alloc ?_ (by first | (simp only [World.size_alloc]; omega) | omega) _ | with_reducible exact Below.refl _ _ | with_reducible refine Below.trans ?_ ((Near.h _).mono (by omega)))

theorem mix1_any (i x y p : Int) (h1 : Byte x) (h2 : Byte y) (h3 : Byte p) (b o : Nat) (w : World) (hc : w.cell? ⟨b, o, none⟩ = some (.int .u8 p)) :
    Calls Try.prog 35 #[.int .i64 i, .int .u8 x, .int .u8 y, .pointer (some ⟨b, o, none⟩)] w fun e w' => e = .returned (.int .u8 (shareN x (255 - p) y p % 256)) ∧ Below w.heap.size w w' := by
  unfold Byte at *
  go_enter Try.func35, Try.ntmps35
  go_wp2_with (go_at_call 36; refine (share_any _ _ _ _ h1 (by omega) h2 h3 _).mono ?_; rintro e w' ⟨rfl, rfl⟩)
  go_ret
  exact ⟨rfl, Below.refl _ _⟩

def mixF (p _i x y : Int) : Int := shareN x (255 - p) y p % 256

theorem cap_kept1 (w v : World) (c : Nat) (n : Near (w.heap.size + 1 + 1 + 1 + 1) v) (hv : w.heap.size + 1 + 1 + 1 + 1 ≤ v.heap.size) (x : Value) (w' : World) (h : Below n.u.heap.size n.u w') (hc : c < w.heap.size + 1 + 1 + 1 + 1)
    (hx : v.cell? ⟨c, 0, none⟩ = some x) : w'.cell? ⟨c, 0, none⟩ = some x := by
  have hs := n.h.size
  rw [h.cell (p := ⟨c, 0, none⟩) (by show c < _; omega), n.h.cell (p := ⟨c, 0, none⟩) (by show c < _; omega)]
  exact hx

set_option maxHeartbeats 1000000 in
theorem mix_any (a0 a1 a2 a3 b0 b1 b2 b3 p : Int) (w : World)
    (ha0 : Byte a0) (ha1 : Byte a1) (ha2 : Byte a2) (ha3 : Byte a3) (hb0 : Byte b0) (hb1 : Byte b1) (hb2 : Byte b2) (hb3 : Byte b3) (hp : Byte p) :
    Calls Try.prog 12 #[col a0 a1 a2 a3, col b0 b1 b2 b3, .int .u8 p] w fun e w' =>
      e = .returned (col (mixF p 0 a0 b0) (mixF p 1 a1 b1) (mixF p 2 a2 b2) (mixF p 3 a3 b3)) ∧ Below w.heap.size w w' := by
  have hmf : ∀ (fn : Fn) (first cap : Array Value) (w : World), (Instr.makeFunc fn first cap).run Try.prog w = .ok (.func fn first cap) w := fun _ _ _ _ => rfl
  have hn := @near_cell (w.heap.size + 1 + 1 + 1 + 1)
  have hz := @near_frozen (w.heap.size + 1 + 1 + 1 + 1)
  go_enter Try.func12, Try.ntmps12
  go_wp2_with fail
  refine wp_region_near_tail (w.heap.size + 1 + 1 + 1 + 1) 7 (by kernel_rfl) (by kernel_rfl) ?_
  simp only [List.take_succ_cons, List.take_zero, List.drop_succ_cons, List.drop_zero]
  repeat (go_big_quiet_step (first
    | (go_at_call 34; exact near_call (by simp) (partsOf_any _ _ _ _ _))
    | (go_at_call 33; exact near_call (by simp) (merged_mix (mixF p) _ _ _ _ _ _ _ _ _ _ _ (fun i x y w' hB _ hxy => mix1_any i x y p (by rcases hxy with h | h | h | h <;> rw [h.1] <;> assumption) (by rcases hxy with h | h | h | h <;> rw [h.2] <;> assumption) hp _ _ w' (cap_kept1 w _ _ _ (by simp) _ w' hB (by omega) (by simp [go_sem])))))
    | (go_at_call 32; exact near_call (by simp) (colorOf_any _ _ _ _ _))))
  refine wpQuiet_nil ?_
  rintro _ ⟨n1, rfl⟩
  go_wp2
  refine bodyPost_ret (v := col (mixF p 0 a0 b0) (mixF p 1 a1 b1) (mixF p 2 a2 b2) (mixF p 3 a3 b3)) ?_ rfl ⟨rfl, ?_⟩
  · simp [results, Try.results12, go_sem, hn]
  · repeat (first | with_reducible refine Below.setCell ?_ (by dsimp only; omega) _ | with_reducible refine Below.alloc ?_ (by first | (simp only [World.size_alloc]; omega) | omega) _ | with_reducible exact Below.refl _ _ | with_reducible refine Below.trans ?_ ((Near.h _).mono (by omega)))
end Go.Proofs.Ytcfollajmmlfnaa
