/- walks of pixel's functions that go by merged -/
import Derived.Test.YtcfollajmmlfnaaW1
import Derived.LoopN
namespace Go.Proofs.Ytcfollajmmlfnaa
open Go.RowKit

set_option maxHeartbeats 2000000 in
theorem merged_cover (f : Int → Int → Int → Int) (b o : Nat) (a0 a1 a2 a3 b0 b1 b2 b3 : Int) (w : World)
   (hf : ∀ (i x y : Int) (w' : World), Below w.heap.size w w' → 0 ≤ i ∧ i < 4 → (x = a0 ∧ y = b0 ∨ x = a1 ∧ y = b1 ∨ x = a2 ∧ y = b2 ∨ x = a3 ∧ y = b3) → Calls Try.prog 43 #[.int .i64 i, .int .u8 x, .int .u8 y, .pointer (some ⟨b, o, none⟩)] w' fun e w'' => e = .returned (.int .u8 (f i x y)) ∧ Below w'.heap.size w' w'') :
    Calls Try.prog 33 #[.agg #[.int .u8 a0, .int .u8 a1, .int .u8 a2, .int .u8 a3], .agg #[.int .u8 b0, .int .u8 b1, .int .u8 b2, .int .u8 b3], .func (.func 43) #[] #[.pointer (some ⟨b, o, none⟩)]] w fun e w' =>
      e = .returned (.agg #[.int .u8 (f 0 a0 b0), .int .u8 (f 1 a1 b1), .int .u8 (f 2 a2 b2), .int .u8 (f 3 a3 b3)]) ∧ Below w.heap.size w w' := by
  go_enter Try.func33, Try.ntmps33
  go_wp2
  refine wp_loop_rounds 5 ?_
  have hn := @near_cell (w.heap.size + 1 + 1 + 1 + 1)
  have hz := @near_frozen (w.heap.size + 1 + 1 + 1 + 1)
  have h0 := ((((Below.refl w.heap.size w).alloc (Nat.le_refl _) (Obj.cells #[Value.int IntKind.u8 a0, Value.int IntKind.u8 a1, Value.int IntKind.u8 a2, Value.int IntKind.u8 a3] 62)).alloc (by simp) (Obj.cells #[Value.int IntKind.u8 b0, Value.int IntKind.u8 b1, Value.int IntKind.u8 b2, Value.int IntKind.u8 b3] 62)).alloc (by simp; omega) (Obj.cells #[Value.int IntKind.u8 0, Value.int IntKind.u8 0, Value.int IntKind.u8 0, Value.int IntKind.u8 0] 62)).alloc (by simp; omega) (Obj.cells #[Value.int IntKind.u8 0, Value.int IntKind.u8 0, Value.int IntKind.u8 0, Value.int IntKind.u8 0] 62)
  rw [rounds_succ]
  go_wp2
  refine wp_region_near_tail (w.heap.size + 1 + 1 + 1 + 1) 10 (by kernel_rfl) (by kernel_rfl) ?_
  simp only [List.take_succ_cons, List.take_zero, List.drop_succ_cons, List.drop_zero]
  repeat (go_big_quiet_step ((go_at_call 43; exact near_call (by first | (simp; done) | (simp; omega)) (hf _ _ _ _ (h0.trans ((Near.h _).mono (by omega))) (by omega) (by simp)))))
  refine wpQuiet_nil ?_
  rintro _ ⟨n1, rfl⟩
  have h1 := (h0.trans (n1.h.mono (by omega))).setCell (p := ⟨w.heap.size + 1 + 1 + 1, 0, none⟩) (by simp; omega) (.int .u8 (f 0 a0 b0))
  have z1 : w.heap.size + 1 + 1 + 1 + 1 ≤ n1.u.heap.size := by have := n1.h.size; simp at this; omega
  go_wp2
  rw [rounds_succ]
  go_wp2
  refine wp_region_near_tail (w.heap.size + 1 + 1 + 1 + 1) 10 (by kernel_rfl) (by kernel_rfl) ?_
  simp only [List.take_succ_cons, List.take_zero, List.drop_succ_cons, List.drop_zero]
  repeat (go_big_quiet_step ((go_at_call 43; exact near_call (by first | (simp; done) | (simp; omega)) (hf _ _ _ _ (h1.trans ((Near.h _).mono (by omega))) (by omega) (by simp)))))
  refine wpQuiet_nil ?_
  rintro _ ⟨n2, rfl⟩
  have h2 := (h1.trans (n2.h.mono (by omega))).setCell (p := ⟨w.heap.size + 1 + 1 + 1, 1, none⟩) (by simp; omega) (.int .u8 (f 1 a1 b1))
  have z2 : w.heap.size + 1 + 1 + 1 + 1 ≤ n2.u.heap.size := by have := n2.h.size; simp at this; omega
  go_wp2
  rw [rounds_succ]
  go_wp2
  refine wp_region_near_tail (w.heap.size + 1 + 1 + 1 + 1) 10 (by kernel_rfl) (by kernel_rfl) ?_
  simp only [List.take_succ_cons, List.take_zero, List.drop_succ_cons, List.drop_zero]
  repeat (go_big_quiet_step ((go_at_call 43; exact near_call (by first | (simp; done) | (simp; omega)) (hf _ _ _ _ (h2.trans ((Near.h _).mono (by omega))) (by omega) (by simp)))))
  refine wpQuiet_nil ?_
  rintro _ ⟨n3, rfl⟩
  have h3 := (h2.trans (n3.h.mono (by omega))).setCell (p := ⟨w.heap.size + 1 + 1 + 1, 2, none⟩) (by simp; omega) (.int .u8 (f 2 a2 b2))
  have z3 : w.heap.size + 1 + 1 + 1 + 1 ≤ n3.u.heap.size := by have := n3.h.size; simp at this; omega
  go_wp2
  rw [rounds_succ]
  go_wp2
  refine wp_region_near_tail (w.heap.size + 1 + 1 + 1 + 1) 10 (by kernel_rfl) (by kernel_rfl) ?_
  simp only [List.take_succ_cons, List.take_zero, List.drop_succ_cons, List.drop_zero]
  repeat (go_big_quiet_step ((go_at_call 43; exact near_call (by first | (simp; done) | (simp; omega)) (hf _ _ _ _ (h3.trans ((Near.h _).mono (by omega))) (by omega) (by simp)))))
  refine wpQuiet_nil ?_
  rintro _ ⟨n4, rfl⟩
  have h4 := (h3.trans (n4.h.mono (by omega))).setCell (p := ⟨w.heap.size + 1 + 1 + 1, 3, none⟩) (by simp; omega) (.int .u8 (f 3 a3 b3))
  have z4 : w.heap.size + 1 + 1 + 1 + 1 ≤ n4.u.heap.size := by have := n4.h.size; simp at this; omega
  go_wp2
  rw [rounds_succ]
  go_wp2
  refine bodyPost_ret (v := .agg #[.int .u8 (f 0 a0 b0), .int .u8 (f 1 a1 b1), .int .u8 (f 2 a2 b2), .int .u8 (f 3 a3 b3)]) ?_ rfl ⟨rfl, ?_⟩
  · simp [results, Try.results33, go_sem, hn]
  · refine Below.setCell (Below.setCell (Below.setCell (Below.setCell h4 ?_ _) ?_ _) ?_ _) ?_ _ <;> (simp; omega)

set_option maxHeartbeats 2000000 in
theorem merged_mix (f : Int → Int → Int → Int) (b o : Nat) (a0 a1 a2 a3 b0 b1 b2 b3 : Int) (w : World)
   (hf : ∀ (i x y : Int) (w' : World), Below w.heap.size w w' → 0 ≤ i ∧ i < 4 → (x = a0 ∧ y = b0 ∨ x = a1 ∧ y = b1 ∨ x = a2 ∧ y = b2 ∨ x = a3 ∧ y = b3) → Calls Try.prog 35 #[.int .i64 i, .int .u8 x, .int .u8 y, .pointer (some ⟨b, o, none⟩)] w' fun e w'' => e = .returned (.int .u8 (f i x y)) ∧ Below w'.heap.size w' w'') :
    Calls Try.prog 33 #[.agg #[.int .u8 a0, .int .u8 a1, .int .u8 a2, .int .u8 a3], .agg #[.int .u8 b0, .int .u8 b1, .int .u8 b2, .int .u8 b3], .func (.func 35) #[] #[.pointer (some ⟨b, o, none⟩)]] w fun e w' =>
      e = .returned (.agg #[.int .u8 (f 0 a0 b0), .int .u8 (f 1 a1 b1), .int .u8 (f 2 a2 b2), .int .u8 (f 3 a3 b3)]) ∧ Below w.heap.size w w' := by
  go_enter Try.func33, Try.ntmps33
  go_wp2
  refine wp_loop_rounds 5 ?_
  have hn := @near_cell (w.heap.size + 1 + 1 + 1 + 1)
  have hz := @near_frozen (w.heap.size + 1 + 1 + 1 + 1)
  have h0 := ((((Below.refl w.heap.size w).alloc (Nat.le_refl _) (Obj.cells #[Value.int IntKind.u8 a0, Value.int IntKind.u8 a1, Value.int IntKind.u8 a2, Value.int IntKind.u8 a3] 62)).alloc (by simp) (Obj.cells #[Value.int IntKind.u8 b0, Value.int IntKind.u8 b1, Value.int IntKind.u8 b2, Value.int IntKind.u8 b3] 62)).alloc (by simp; omega) (Obj.cells #[Value.int IntKind.u8 0, Value.int IntKind.u8 0, Value.int IntKind.u8 0, Value.int IntKind.u8 0] 62)).alloc (by simp; omega) (Obj.cells #[Value.int IntKind.u8 0, Value.int IntKind.u8 0, Value.int IntKind.u8 0, Value.int IntKind.u8 0] 62)
  rw [rounds_succ]
  go_wp2
  refine wp_region_near_tail (w.heap.size + 1 + 1 + 1 + 1) 10 (by kernel_rfl) (by kernel_rfl) ?_
  simp only [List.take_succ_cons, List.take_zero, List.drop_succ_cons, List.drop_zero]
  repeat (go_big_quiet_step ((go_at_call 35; exact near_call (by first | (simp; done) | (simp; omega)) (hf _ _ _ _ (h0.trans ((Near.h _).mono (by omega))) (by omega) (by simp)))))
  refine wpQuiet_nil ?_
  rintro _ ⟨n1, rfl⟩
  have h1 := (h0.trans (n1.h.mono (by omega))).setCell (p := ⟨w.heap.size + 1 + 1 + 1, 0, none⟩) (by simp; omega) (.int .u8 (f 0 a0 b0))
  have z1 : w.heap.size + 1 + 1 + 1 + 1 ≤ n1.u.heap.size := by have := n1.h.size; simp at this; omega
  go_wp2
  rw [rounds_succ]
  go_wp2
  refine wp_region_near_tail (w.heap.size + 1 + 1 + 1 + 1) 10 (by kernel_rfl) (by kernel_rfl) ?_
  simp only [List.take_succ_cons, List.take_zero, List.drop_succ_cons, List.drop_zero]
  repeat (go_big_quiet_step ((go_at_call 35; exact near_call (by first | (simp; done) | (simp; omega)) (hf _ _ _ _ (h1.trans ((Near.h _).mono (by omega))) (by omega) (by simp)))))
  refine wpQuiet_nil ?_
  rintro _ ⟨n2, rfl⟩
  have h2 := (h1.trans (n2.h.mono (by omega))).setCell (p := ⟨w.heap.size + 1 + 1 + 1, 1, none⟩) (by simp; omega) (.int .u8 (f 1 a1 b1))
  have z2 : w.heap.size + 1 + 1 + 1 + 1 ≤ n2.u.heap.size := by have := n2.h.size; simp at this; omega
  go_wp2
  rw [rounds_succ]
  go_wp2
  refine wp_region_near_tail (w.heap.size + 1 + 1 + 1 + 1) 10 (by kernel_rfl) (by kernel_rfl) ?_
  simp only [List.take_succ_cons, List.take_zero, List.drop_succ_cons, List.drop_zero]
  repeat (go_big_quiet_step ((go_at_call 35; exact near_call (by first | (simp; done) | (simp; omega)) (hf _ _ _ _ (h2.trans ((Near.h _).mono (by omega))) (by omega) (by simp)))))
  refine wpQuiet_nil ?_
  rintro _ ⟨n3, rfl⟩
  have h3 := (h2.trans (n3.h.mono (by omega))).setCell (p := ⟨w.heap.size + 1 + 1 + 1, 2, none⟩) (by simp; omega) (.int .u8 (f 2 a2 b2))
  have z3 : w.heap.size + 1 + 1 + 1 + 1 ≤ n3.u.heap.size := by have := n3.h.size; simp at this; omega
  go_wp2
  rw [rounds_succ]
  go_wp2
  refine wp_region_near_tail (w.heap.size + 1 + 1 + 1 + 1) 10 (by kernel_rfl) (by kernel_rfl) ?_
  simp only [List.take_succ_cons, List.take_zero, List.drop_succ_cons, List.drop_zero]
  repeat (go_big_quiet_step ((go_at_call 35; exact near_call (by first | (simp; done) | (simp; omega)) (hf _ _ _ _ (h3.trans ((Near.h _).mono (by omega))) (by omega) (by simp)))))
  refine wpQuiet_nil ?_
  rintro _ ⟨n4, rfl⟩
  have h4 := (h3.trans (n4.h.mono (by omega))).setCell (p := ⟨w.heap.size + 1 + 1 + 1, 3, none⟩) (by simp; omega) (.int .u8 (f 3 a3 b3))
  have z4 : w.heap.size + 1 + 1 + 1 + 1 ≤ n4.u.heap.size := by have := n4.h.size; simp at this; omega
  go_wp2
  rw [rounds_succ]
  go_wp2
  refine bodyPost_ret (v := .agg #[.int .u8 (f 0 a0 b0), .int .u8 (f 1 a1 b1), .int .u8 (f 2 a2 b2), .int .u8 (f 3 a3 b3)]) ?_ rfl ⟨rfl, ?_⟩
  · simp [results, Try.results33, go_sem, hn]
  · refine Below.setCell (Below.setCell (Below.setCell (Below.setCell h4 ?_ _) ?_ _) ?_ _) ?_ _ <;> (simp; omega)

end Go.Proofs.Ytcfollajmmlfnaa
