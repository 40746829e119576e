/- The document's Sorted of layer 11. -/
import Derived.Test.YtjpgabpicfcapaaM11
import Derived.Test.YtjpgabpicfcapaaV16a
import Derived.Maps.AppendAt
import Derived.Deep.RegionHeldLaw
namespace Go.Proofs.Ytjpgabpicfcapaa
open Go.RowKit

/-- ids out of a row, nil or not, appended to a row of the call's own -/
theorem append_ids (w : World) (base : Nat) (v : Value) (n : Nat) (xs : List Value) (hown : w.ownsRow base 29 3 v n xs) (A : Option Addr) (m c : Nat) (L : List I3) (hL : rowV w A m 3 enI L) (h63 : n + m ≤ 1000) (hbase : base ≤ w.heap.size) :
    ∃ v' w', (Builtin.append_ #[25, 25] 25 #[v, .slice A m c]).run Try.prog w = .ok v' w' ∧ w'.ownsRow base 29 3 v' (n + m) (xs ++ L.flatMap enI) ∧ w.grownBy w' v.ownBlock := by
  obtain ⟨i0, hi, hz0, hz1, hz2⟩ := info_parts info_I
  obtain rfl : m = L.length := hL.1
  cases A with
  | none =>
    have e : L = [] := by
      rcases hL.2 with e | ⟨b, off, e, _⟩
      · exact e
      · cases e
    subst e
    refine ⟨v, w, ?_, by simpa using hown, World.grownBy.refl w _⟩
    have hu := Try.underlying25
    rcases hown.2 with ⟨rfl, rfl⟩ | ⟨g, cap, cur, rfl, _, _, hnc, _⟩
    · simp [Builtin.append_, run_underlying hu, sizeOf, typeInfo, hi, Builtin.lenOf, Builtin.firstCells]
    · simp [Builtin.append_, run_underlying hu, sizeOf, typeInfo, hi, Builtin.lenOf, Builtin.firstCells, hnc, storeCells]
  | some ad =>
    obtain ⟨v', w', hr, h2, h3, _, _⟩ := run_append_own_at (P := Try.prog) w base 25 25 29 i0 (.agg #[.int .u64 0, .int .i64 0, .int .u64 0]) 3 24 Try.underlying25 hi hz0 hz1 hz2 rfl (by decide) v n xs hown ad L.length c (L.flatMap enI) (flat_len' enI 3 (fun _ => rfl) L) (flat_in enI 3 (by decide) (fun _ => rfl) hL) (flat_one' enI one_I L) (by unfold maxLen; omega) (by omega) hbase
    exact ⟨v', w', hr, h2, h3⟩
theorem step_ids {ops : Array Oper} {w : World} {o : Oper} {a : Act} {K : Act → World → Prop} {Q : Exit → Act → World → Prop} {E : Prop} (hgd : o.guard = none) (s x : Operand)
    (ho : o.op = .call { callee := .builtin .append, args := #[s, x], argTypes := #[25, 25] }) (hty : o.type = 25)
    (base : Nat) (v : Value) (n : Nat) (xs : List Value) (hs : a.eval s = v) (hown : w.ownsRow base 29 3 v n xs) (A : Option Addr) (m c : Nat) (L : List I3) (hx : a.eval x = .slice A m c) (hL : rowV w A m 3 enI L) (h63 : n + m ≤ 1000) (hbase : base ≤ w.heap.size)
    (h : ∀ v' w', w'.ownsRow base 29 3 v' (n + m) (xs ++ L.flatMap enI) → w.grownBy w' v.ownBlock → (∀ q, v.ownBlock = some q → base ≤ q) → K (a.put o.dst v') w') :
    if Region.wanted o (yielded ops a.tmps) = true then Oper.wp Try.prog o a w K Q else E := by
  have hw : Region.wanted o (yielded ops a.tmps) = true := by simp [Region.wanted, hgd]
  rw [if_pos hw]
  obtain ⟨v', w', hr, h2, h3⟩ := append_ids w base v n xs hown A m c L hL h63 hbase
  unfold Oper.wp execOp
  simp only [ho, hty, resolve, invoke, builtin, Sem.run_bind, Sem.run_pure, Result.andThen_ok, List.map_toArray, List.map_cons, List.map_nil, hs, hx, hr]
  exact h v' w' h2 h3 fun q hq => (World.ownsRow.lt hown q hq).1

end Go.Proofs.Ytjpgabpicfcapaa
