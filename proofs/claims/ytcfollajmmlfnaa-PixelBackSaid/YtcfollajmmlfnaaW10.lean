/- Read's closure that recovers -/
import Derived.Test.YtcfollajmmlfnaaW9
namespace Go.Proofs.Ytcfollajmmlfnaa
open Go.RowKit

set_option maxHeartbeats 1000000 in
theorem read1_idle (p2 p3 : Addr) (w : World) :
    CallsD Try.prog 41 #[.pointer (some p2), .pointer (some p3)] .returning w fun e u' w' => e = .returned (.tuple #[]) ∧ u' = .returning ∧ w' = w.alloc (.cells #[] 78) := by
  have hta : ∀ w, (Instr.typeAssert .nilIface 20 78 true).run Try.prog w = .ok (.tuple #[.agg #[], .bool false]) w := fun _ => by kernel_rfl
  refine callsD_of_wpS Try.func41 rfl fun c₀ cs hu => ?_
  simp only [Try.ntmps41, List.size_toArray, List.length_cons, List.length_nil, Nat.reduceAdd, Nat.reduceSub, Array.replicate_succ,
     Array.replicate_zero, List.push_toArray, List.append_toArray, List.nil_append, List.cons_append]
  apply wpS_seq
  apply wpS_region
  simp [wpOpsS, go_sem, recoverD, hu, Exit.thenS, hta]
  refine wpS_of_wp ?_
  go_wp2
  cases c₀
  simp_all [bodyPostS, results, Try.results41]

set_option maxHeartbeats 1000000 in
theorem read1_panicking (b c : Nat) (hbc : ¬ b = c) (older : List PanicEntry) (w : World) (x0 x1 x2 x3 y : Value)
    (h0 : w.cell? ⟨b, 0, none⟩ = some x0) (h1 : w.cell? ⟨b, 1, none⟩ = some x1) (h2 : w.cell? ⟨b, 2, none⟩ = some x2) (h3 : w.cell? ⟨b, 3, none⟩ = some x3)
    (z0 : w.frozen? ⟨b, 0, none⟩ = false) (z1 : w.frozen? ⟨b, 1, none⟩ = false) (z2 : w.frozen? ⟨b, 2, none⟩ = false) (z3 : w.frozen? ⟨b, 3, none⟩ = false)
    (hc : w.cell? ⟨c, 0, none⟩ = some y) (hz : w.frozen? ⟨c, 0, none⟩ = false) (lb : b < w.heap.size) (lc : c < w.heap.size) :
    CallsD Try.prog 41 #[.pointer (some ⟨b, 0, none⟩), .pointer (some ⟨c, 0, none⟩)] (.panicking ({ v := .iface 78 (.agg #[]), recovered := false } :: older)) w fun e u' w' =>
      e = .returned (.tuple #[]) ∧ u' = .panicking ({ v := .iface 78 (.agg #[]), recovered := true } :: older) ∧ w' = ((four w b 0 0 0 0).setCell ⟨c, 0, none⟩ (.int .i64 130)).alloc (.cells #[] 78) := by
  have hcb : ¬ c = b := fun e => hbc e.symm
  have hta : ∀ w, (Instr.typeAssert (.iface 78 (.agg #[])) 20 78 true).run Try.prog w = .ok (.tuple #[.agg #[], .bool true]) w := fun _ => by kernel_rfl
  refine callsD_of_wpS Try.func41 rfl fun c₀ cs hu => ?_
  simp only [Try.ntmps41, List.size_toArray, List.length_cons, List.length_nil, Nat.reduceAdd, Nat.reduceSub, Array.replicate_succ,
     Array.replicate_zero, List.push_toArray, List.append_toArray, List.nil_append, List.cons_append]
  apply wpS_seq
  apply wpS_region
  simp [wpOpsS, go_sem, recoverD, hu, Exit.thenS, hta]
  refine wpS_of_wp ?_
  clear hu
  go_wp2
  simp [bodyPostS, results, Try.results41, four]
end Go.Proofs.Ytcfollajmmlfnaa
