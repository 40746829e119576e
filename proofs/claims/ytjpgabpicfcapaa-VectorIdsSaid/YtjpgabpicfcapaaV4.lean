/- walks: what a recovered panic stands for; what must be a vector; an id that is added -/
import Derived.Test.YtjpgabpicfcapaaV3
import Derived.Test.YtjpgabpicfcapaaDep3
namespace Go.Proofs.Ytjpgabpicfcapaa
open Go.RowKit

/-- the panic's value -/
abbrev wrongV (n : Int) : Value := .iface 76 (.agg #[.int .i64 n])
theorem told_nil (w : World) : Calls Try.prog 37 #[.nilIface] w fun e w' => e = .returned (.int .i64 0) ∧ Below w.heap.size w w' := by
  have hta : ∀ w, (Instr.typeAssert .nilIface 20 76 true).run Try.prog w = .ok (.tuple #[.agg #[.int .i64 0], .bool false]) w := fun _ => by kernel_rfl
  go_enter Try.func37, Try.ntmps37
  go_wp2
  go_ret
  exact ⟨rfl, (Below.refl _ _).alloc (Nat.le_refl _) _⟩
theorem told_wrong (n : Int) (w : World) : Calls Try.prog 37 #[wrongV n] w fun e w' => e = .returned (.int .i64 n) ∧ Below w.heap.size w w' := by
  have hta : ∀ w, (Instr.typeAssert (wrongV n) 20 76 true).run Try.prog w = .ok (.tuple #[.agg #[.int .i64 n], .bool true]) w := fun _ => by kernel_rfl
  go_enter Try.func37, Try.ntmps37
  go_wp2
  go_ret
  exact ⟨rfl, (Below.refl _ _).alloc (Nat.le_refl _) _⟩

set_option maxHeartbeats 1000000 in
theorem with1_idle (c : Nat) (y : Value) (w : World) (hc : w.cell? ⟨c, 0, none⟩ = some y) (hz : w.frozen? ⟨c, 0, none⟩ = false) :
    CallsD Try.prog 36 #[.pointer (some ⟨c, 0, none⟩)] .returning w fun e u' w' => e = .returned (.tuple #[]) ∧ u' = .returning ∧ ∃ W, Below w.heap.size w W ∧ w' = W.setCell ⟨c, 0, none⟩ (.int .i64 0) := by
  have lc : c < w.heap.size := World.block_lt_of_cell? _ _ hc
  refine callsD_of_wpS Try.func36 rfl fun c₀ cs hu => ?_
  simp only [Try.ntmps36, List.size_toArray, List.length_cons, List.length_nil, Nat.reduceAdd, Nat.reduceSub, Array.replicate_succ,
     Array.replicate_zero, List.push_toArray, List.append_toArray, List.nil_append, List.cons_append]
  apply wpS_region
  simp [wpOpsS, go_sem, recoverD, hu]
  refine (told_nil _).mono ?_
  rintro e W ⟨rfl, hB⟩
  have hc2 := (hB.cell (p := ⟨c, 0, none⟩) lc).trans hc
  have hz2 := (hB.frozen (p := ⟨c, 0, none⟩) lc).trans hz
  cases c₀
  simp [go_sem, hc2, hz2]
  simp_all [bodyPostS, results, Try.results36]
  exact ⟨W, hB, rfl⟩
set_option maxHeartbeats 1000000 in
theorem with1_panicking (n : Int) (c : Nat) (y : Value) (older : List PanicEntry) (w : World) (hc : w.cell? ⟨c, 0, none⟩ = some y) (hz : w.frozen? ⟨c, 0, none⟩ = false) :
    CallsD Try.prog 36 #[.pointer (some ⟨c, 0, none⟩)] (.panicking ({ v := wrongV n, recovered := false } :: older)) w fun e u' w' =>
      e = .returned (.tuple #[]) ∧ u' = .panicking ({ v := wrongV n, recovered := true } :: older) ∧ ∃ W, Below w.heap.size w W ∧ w' = W.setCell ⟨c, 0, none⟩ (.int .i64 n) := by
  have lc : c < w.heap.size := World.block_lt_of_cell? _ _ hc
  refine callsD_of_wpS Try.func36 rfl fun c₀ cs hu => ?_
  simp only [Try.ntmps36, List.size_toArray, List.length_cons, List.length_nil, Nat.reduceAdd, Nat.reduceSub, Array.replicate_succ,
     Array.replicate_zero, List.push_toArray, List.append_toArray, List.nil_append, List.cons_append]
  apply wpS_region
  simp [wpOpsS, go_sem, recoverD, hu]
  clear hu
  refine (told_wrong n _).mono ?_
  rintro e W ⟨rfl, hB⟩
  have hc2 := (hB.cell (p := ⟨c, 0, none⟩) lc).trans hc
  have hz2 := (hB.frozen (p := ⟨c, 0, none⟩) lc).trans hz
  simp [go_sem, hc2, hz2]
  simp [bodyPostS, results, Try.results36]
  exact ⟨W, hB, rfl⟩
set_option maxHeartbeats 1000000 in
theorem joined1_idle (c : Nat) (y : Value) (w : World) (hc : w.cell? ⟨c, 0, none⟩ = some y) (hz : w.frozen? ⟨c, 0, none⟩ = false) :
    CallsD Try.prog 51 #[.pointer (some ⟨c, 0, none⟩)] .returning w fun e u' w' => e = .returned (.tuple #[]) ∧ u' = .returning ∧ ∃ W, Below w.heap.size w W ∧ w' = W.setCell ⟨c, 0, none⟩ (.int .i64 0) := by
  have lc : c < w.heap.size := World.block_lt_of_cell? _ _ hc
  refine callsD_of_wpS Try.func51 rfl fun c₀ cs hu => ?_
  simp only [Try.ntmps51, List.size_toArray, List.length_cons, List.length_nil, Nat.reduceAdd, Nat.reduceSub, Array.replicate_succ,
     Array.replicate_zero, List.push_toArray, List.append_toArray, List.nil_append, List.cons_append]
  apply wpS_region
  simp [wpOpsS, go_sem, recoverD, hu]
  refine (told_nil _).mono ?_
  rintro e W ⟨rfl, hB⟩
  have hc2 := (hB.cell (p := ⟨c, 0, none⟩) lc).trans hc
  have hz2 := (hB.frozen (p := ⟨c, 0, none⟩) lc).trans hz
  cases c₀
  simp [go_sem, hc2, hz2]
  simp_all [bodyPostS, results, Try.results51]
  exact ⟨W, hB, rfl⟩
set_option maxHeartbeats 1000000 in
theorem joined1_panicking (n : Int) (c : Nat) (y : Value) (older : List PanicEntry) (w : World) (hc : w.cell? ⟨c, 0, none⟩ = some y) (hz : w.frozen? ⟨c, 0, none⟩ = false) :
    CallsD Try.prog 51 #[.pointer (some ⟨c, 0, none⟩)] (.panicking ({ v := wrongV n, recovered := false } :: older)) w fun e u' w' =>
      e = .returned (.tuple #[]) ∧ u' = .panicking ({ v := wrongV n, recovered := true } :: older) ∧ ∃ W, Below w.heap.size w W ∧ w' = W.setCell ⟨c, 0, none⟩ (.int .i64 n) := by
  have lc : c < w.heap.size := World.block_lt_of_cell? _ _ hc
  refine callsD_of_wpS Try.func51 rfl fun c₀ cs hu => ?_
  simp only [Try.ntmps51, List.size_toArray, List.length_cons, List.length_nil, Nat.reduceAdd, Nat.reduceSub, Array.replicate_succ,
     Array.replicate_zero, List.push_toArray, List.append_toArray, List.nil_append, List.cons_append]
  apply wpS_region
  simp [wpOpsS, go_sem, recoverD, hu]
  clear hu
  refine (told_wrong n _).mono ?_
  rintro e W ⟨rfl, hB⟩
  have hc2 := (hB.cell (p := ⟨c, 0, none⟩) lc).trans hc
  have hz2 := (hB.frozen (p := ⟨c, 0, none⟩) lc).trans hz
  simp [go_sem, hc2, hz2]
  simp [bodyPostS, results, Try.results51]
  exact ⟨W, hB, rfl⟩
end Go.Proofs.Ytjpgabpicfcapaa
