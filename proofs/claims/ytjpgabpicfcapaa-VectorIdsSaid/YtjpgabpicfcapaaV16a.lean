/- The layer does something: wakes. -/
import Derived.Test.YtjpgabpicfcapaaV15
import Derived.Test.YtjpgabpicfcapaaDepL
import Derived.Deep.Cut
namespace Go.Proofs.Ytjpgabpicfcapaa
open Go.RowKit

def vA : V | 1 => 2 | 2 => 3 | _ => 0
def vB : V | 1 => 5 | _ => 0
def vF : V | 1 => 5 | 2 => 3 | 8 => 1 | _ => 0
theorem with_a : withR vA [⟨9, 1, 3⟩, ⟨9, 2, 4⟩] = ((vA.add ⟨9, 1, 3⟩).add ⟨9, 2, 4⟩, 0) := by rfl
theorem with_b : withR vA [⟨9, 1, 4⟩] = (V.zero, 231) := by rfl
theorem rng_a : vA.rng := fun k hk => by
  match k, hk with
  | 0, _ => decide
  | 1, _ => decide
  | 2, _ => decide
  | 3, _ => decide
  | 4, _ => decide
  | 5, _ => decide
  | 6, _ => decide
  | 7, _ => decide
  | 8, _ => decide
  | k + 9, h => exact absurd h (by omega)
abbrev isId (n : Nat) (cs : Array Value) (v : Value) (W : World) : Prop := ∃ g, v = .slice (some ⟨g, 0, none⟩) n n ∧ blockIs W g cs 29
theorem isId_stays (n : Nat) (cs : Array Value) (v : Value) : Stays (isId n cs v) := fun _ _ hk ⟨g, e, hc⟩ => ⟨g, e, by
  unfold blockIs at *
  rw [hk.block g (Array.getElem?_eq_some_iff.1 hc).1]; exact hc⟩
def isNew (B : Nat) (v : Value) (W : World) : Prop := ∃ g, v = .pointer (some ⟨g, 0, none⟩) ∧ B ≤ g ∧ vecIn W g V.zero
theorem isNew_stays (B : Nat) (v : Value) : Stays (isNew B v) := fun _ _ hk ⟨g, e, hb, hc⟩ => ⟨g, e, hb, holds_below hc hk hc.lt⟩
theorem pure_extract {P : Program} {o : Oper} {x : Operand} {k : Nat} (ho : o.op = .extract x k) : ∀ ρ w nx w', (execOp ρ o).run P w = .ok nx w' → ∃ u, nx = .value u ∧ ∀ w, (execOp ρ o).run P w = .ok (.value u) w := by
  intro ρ w nx w' h
  unfold execOp at h ⊢
  simp only [ho] at h ⊢
  generalize ρ x = v at h ⊢
  cases v with
  | tuple vs =>
    simp only [Instr.extract] at h ⊢
    cases hk : vs[k]? with
    | none => simp [hk, go_sem] at h
    | some u => simp [hk, go_sem] at h ⊢; obtain ⟨rfl, rfl⟩ := h; simp
  | _ => simp [Instr.extract, go_sem] at h
/-- a whole vector stored -/
def V9 (a0 a1 a2 a3 a4 a5 a6 a7 a8 : Int) : V | 0 => a0 | 1 => a1 | 2 => a2 | 3 => a3 | 4 => a4 | 5 => a5 | 6 => a6 | 7 => a7 | 8 => a8 | _ => 0
theorem vecIn_put {w : World} {g : Nat} {u : V} (h : vecIn w g u) (v : V) : vecIn (((((((((w.setCell ⟨g, 0, none⟩ (.int .u64 (v 0))).setCell ⟨g, 1, none⟩ (.int .u64 (v 1))).setCell ⟨g, 2, none⟩ (.int .u64 (v 2))).setCell ⟨g, 3, none⟩ (.int .u64 (v 3))).setCell ⟨g, 4, none⟩ (.int .u64 (v 4))).setCell ⟨g, 5, none⟩ (.int .u64 (v 5))).setCell ⟨g, 6, none⟩ (.int .u64 (v 6))).setCell ⟨g, 7, none⟩ (.int .u64 (v 7))).setCell ⟨g, 8, none⟩ (.int .u64 (v 8))) g v := by
  have := vecIn_set (vecIn_set (vecIn_set (vecIn_set (vecIn_set (vecIn_set (vecIn_set (vecIn_set (vecIn_set h 0 (by omega) (v 0)) 1 (by omega) (v 1)) 2 (by omega) (v 2)) 3 (by omega) (v 3)) 4 (by omega) (v 4)) 5 (by omega) (v 5)) 6 (by omega) (v 6)) 7 (by omega) (v 7)) 8 (by omega) (v 8)
  unfold vecIn at this ⊢
  rwa [vecL_ext (v := v) (fun k hk => by
    match k, hk with
    | 0, _ => rfl
    | 1, _ => rfl
    | 2, _ => rfl
    | 3, _ => rfl
    | 4, _ => rfl
    | 5, _ => rfl
    | 6, _ => rfl
    | 7, _ => rfl
    | 8, _ => rfl)] at this

theorem row_block_one (W : World) (g : Nat) (i : I3) (h : blockIs W g #[.int .u64 i.t, .int .i64 i.s, .int .u64 i.q] 29) : rowV W (some ⟨g, 0, none⟩) [i].length 3 enI [i] := by
  refine ⟨rfl, .inr ⟨g, 0, rfl, (Array.getElem?_eq_some_iff.1 h).1, fun k hk j hj => ?_⟩⟩
  obtain rfl : k = 0 := by simp at hk; omega
  rw [cell_of_row W g _ _ _ _ h]
  match j, hj with
  | 0, _ => rfl
  | 1, _ => rfl
  | 2, _ => rfl
theorem row_block_two (W : World) (g : Nat) (i x : I3) (h : blockIs W g #[.int .u64 i.t, .int .i64 i.s, .int .u64 i.q, .int .u64 x.t, .int .i64 x.s, .int .u64 x.q] 29) : rowV W (some ⟨g, 0, none⟩) [i, x].length 3 enI [i, x] := by
  refine ⟨rfl, .inr ⟨g, 0, rfl, (Array.getElem?_eq_some_iff.1 h).1, fun k hk j hj => ?_⟩⟩
  rw [cell_of_row W g _ _ _ _ h]
  match k, hk, j, hj with
  | 0, _, 0, _ => rfl
  | 0, _, 1, _ => rfl
  | 0, _, 2, _ => rfl
  | 1, _, 0, _ => rfl
  | 1, _, 1, _ => rfl
  | 1, _, 2, _ => rfl

theorem with_a_row (w : World) (g : Nat) (h : blockIs w g #[.int .u64 9, .int .i64 1, .int .u64 3, .int .u64 9, .int .i64 2, .int .u64 4] 29) :
    Calls Try.prog 14 #[vec vA, .slice (some ⟨g, 0, none⟩) 2 2] w fun e w' => e = .returned (.tuple #[vec ((vA.add ⟨9, 1, 3⟩).add ⟨9, 2, 4⟩), .int .i64 0]) ∧ Below w.heap.size w w' := by
  have := with_any vA rng_a [⟨9, 1, 3⟩, ⟨9, 2, 4⟩] (some ⟨g, 0, none⟩) 2 w (row_block_two w g ⟨9, 1, 3⟩ ⟨9, 2, 4⟩ h) (by simp)
  rwa [with_a] at this
theorem with_b_row (w : World) (g : Nat) (h : blockIs w g #[.int .u64 9, .int .i64 1, .int .u64 4] 29) :
    Calls Try.prog 14 #[vec vA, .slice (some ⟨g, 0, none⟩) 1 1] w fun e w' => e = .returned (.tuple #[vec V.zero, .int .i64 231]) ∧ Below w.heap.size w w' := by
  have := with_any vA rng_a [⟨9, 1, 4⟩] (some ⟨g, 0, none⟩) 1 w (row_block_one w g ⟨9, 1, 4⟩ h) (by simp)
  rwa [with_b] at this

theorem name_world {G : World → Prop} {W : World} (φ : World → Prop) (h : φ W) (k : ∀ w', φ w' → G w') : G W := k W h
/-- which blocks hold which vectors -/
def Facts (l : List (Nat × V)) (W : World) : Prop := ∀ p ∈ l, vecIn W p.1 p.2
theorem Facts.below {l : List (Nat × V)} {W W' : World} {B : Nat} (h : Facts l W) (hb : Below B W W') (hB : ∀ p ∈ l, p.1 < B) : Facts l W' := fun p hp => holds_below (h p hp) hb (hB p hp)
theorem Facts.keep {l : List (Nat × V)} {W W' : World} (h : Facts l W) (hb : Below W.heap.size W W') : Facts l W' := fun p hp => holds_below (h p hp) hb (h p hp).lt
theorem Facts.cons {l : List (Nat × V)} {W : World} (h : Facts l W) {b : Nat} {v : V} (hv : vecIn W b v) : Facts ((b, v) :: l) W := fun p hp => by
  rcases List.mem_cons.1 hp with rfl | hp
  · exact hv
  · exact h p hp
theorem Facts.first {l : List (Nat × V)} {W : World} {b : Nat} {v : V} (h : Facts ((b, v) :: l) W) : vecIn W b v := h (b, v) (List.mem_cons_self ..)
theorem Facts.rest {l : List (Nat × V)} {W : World} {p : Nat × V} (h : Facts (p :: l) W) : Facts l W := fun q hq => h q (List.mem_cons_of_mem _ hq)
def vW : V | 1 => 3 | 2 => 4 | _ => 0
def vJ : V | 1 => 5 | 2 => 3 | _ => 0
def vM : V | 1 => 2 | _ => 0
def vC : V | 2 => 1 | _ => 0
theorem vecIn.litA {w : World} {b : Nat} (h : vecIn w b vA) : w.cell? ⟨b, 0, none⟩ = some (.int .u64 0) ∧ w.cell? ⟨b, 1, none⟩ = some (.int .u64 2) ∧ w.cell? ⟨b, 2, none⟩ = some (.int .u64 3) ∧ w.cell? ⟨b, 3, none⟩ = some (.int .u64 0) ∧ w.cell? ⟨b, 4, none⟩ = some (.int .u64 0) ∧ w.cell? ⟨b, 5, none⟩ = some (.int .u64 0) ∧ w.cell? ⟨b, 6, none⟩ = some (.int .u64 0) ∧ w.cell? ⟨b, 7, none⟩ = some (.int .u64 0) ∧ w.cell? ⟨b, 8, none⟩ = some (.int .u64 0) := h.cells
theorem vecIn.litB {w : World} {b : Nat} (h : vecIn w b vB) : w.cell? ⟨b, 0, none⟩ = some (.int .u64 0) ∧ w.cell? ⟨b, 1, none⟩ = some (.int .u64 5) ∧ w.cell? ⟨b, 2, none⟩ = some (.int .u64 0) ∧ w.cell? ⟨b, 3, none⟩ = some (.int .u64 0) ∧ w.cell? ⟨b, 4, none⟩ = some (.int .u64 0) ∧ w.cell? ⟨b, 5, none⟩ = some (.int .u64 0) ∧ w.cell? ⟨b, 6, none⟩ = some (.int .u64 0) ∧ w.cell? ⟨b, 7, none⟩ = some (.int .u64 0) ∧ w.cell? ⟨b, 8, none⟩ = some (.int .u64 0) := h.cells
theorem vecIn.litF {w : World} {b : Nat} (h : vecIn w b vF) : w.cell? ⟨b, 0, none⟩ = some (.int .u64 0) ∧ w.cell? ⟨b, 1, none⟩ = some (.int .u64 5) ∧ w.cell? ⟨b, 2, none⟩ = some (.int .u64 3) ∧ w.cell? ⟨b, 3, none⟩ = some (.int .u64 0) ∧ w.cell? ⟨b, 4, none⟩ = some (.int .u64 0) ∧ w.cell? ⟨b, 5, none⟩ = some (.int .u64 0) ∧ w.cell? ⟨b, 6, none⟩ = some (.int .u64 0) ∧ w.cell? ⟨b, 7, none⟩ = some (.int .u64 0) ∧ w.cell? ⟨b, 8, none⟩ = some (.int .u64 1) := h.cells
theorem vecIn.litW {w : World} {b : Nat} (h : vecIn w b vW) : w.cell? ⟨b, 0, none⟩ = some (.int .u64 0) ∧ w.cell? ⟨b, 1, none⟩ = some (.int .u64 3) ∧ w.cell? ⟨b, 2, none⟩ = some (.int .u64 4) ∧ w.cell? ⟨b, 3, none⟩ = some (.int .u64 0) ∧ w.cell? ⟨b, 4, none⟩ = some (.int .u64 0) ∧ w.cell? ⟨b, 5, none⟩ = some (.int .u64 0) ∧ w.cell? ⟨b, 6, none⟩ = some (.int .u64 0) ∧ w.cell? ⟨b, 7, none⟩ = some (.int .u64 0) ∧ w.cell? ⟨b, 8, none⟩ = some (.int .u64 0) := h.cells
theorem vecIn.litJ {w : World} {b : Nat} (h : vecIn w b vJ) : w.cell? ⟨b, 0, none⟩ = some (.int .u64 0) ∧ w.cell? ⟨b, 1, none⟩ = some (.int .u64 5) ∧ w.cell? ⟨b, 2, none⟩ = some (.int .u64 3) ∧ w.cell? ⟨b, 3, none⟩ = some (.int .u64 0) ∧ w.cell? ⟨b, 4, none⟩ = some (.int .u64 0) ∧ w.cell? ⟨b, 5, none⟩ = some (.int .u64 0) ∧ w.cell? ⟨b, 6, none⟩ = some (.int .u64 0) ∧ w.cell? ⟨b, 7, none⟩ = some (.int .u64 0) ∧ w.cell? ⟨b, 8, none⟩ = some (.int .u64 0) := h.cells
theorem vecIn.litM {w : World} {b : Nat} (h : vecIn w b vM) : w.cell? ⟨b, 0, none⟩ = some (.int .u64 0) ∧ w.cell? ⟨b, 1, none⟩ = some (.int .u64 2) ∧ w.cell? ⟨b, 2, none⟩ = some (.int .u64 0) ∧ w.cell? ⟨b, 3, none⟩ = some (.int .u64 0) ∧ w.cell? ⟨b, 4, none⟩ = some (.int .u64 0) ∧ w.cell? ⟨b, 5, none⟩ = some (.int .u64 0) ∧ w.cell? ⟨b, 6, none⟩ = some (.int .u64 0) ∧ w.cell? ⟨b, 7, none⟩ = some (.int .u64 0) ∧ w.cell? ⟨b, 8, none⟩ = some (.int .u64 0) := h.cells
theorem vecIn.lit0 {w : World} {b : Nat} (h : vecIn w b V.zero) : w.cell? ⟨b, 0, none⟩ = some (.int .u64 0) ∧ w.cell? ⟨b, 1, none⟩ = some (.int .u64 0) ∧ w.cell? ⟨b, 2, none⟩ = some (.int .u64 0) ∧ w.cell? ⟨b, 3, none⟩ = some (.int .u64 0) ∧ w.cell? ⟨b, 4, none⟩ = some (.int .u64 0) ∧ w.cell? ⟨b, 5, none⟩ = some (.int .u64 0) ∧ w.cell? ⟨b, 6, none⟩ = some (.int .u64 0) ∧ w.cell? ⟨b, 7, none⟩ = some (.int .u64 0) ∧ w.cell? ⟨b, 8, none⟩ = some (.int .u64 0) := h.cells
theorem k_with_a (w : World) (g : Nat) (h : blockIs w g #[.int .u64 9, .int .i64 1, .int .u64 3, .int .u64 9, .int .i64 2, .int .u64 4] 29) : Calls Try.prog 14 #[.agg #[.int .u64 0, .int .u64 2, .int .u64 3, .int .u64 0, .int .u64 0, .int .u64 0, .int .u64 0, .int .u64 0, .int .u64 0], .slice (some ⟨g, 0, none⟩) 2 2] w fun e w' => e = .returned (.tuple #[.agg #[.int .u64 0, .int .u64 3, .int .u64 4, .int .u64 0, .int .u64 0, .int .u64 0, .int .u64 0, .int .u64 0, .int .u64 0], .int .i64 0]) ∧ Below w.heap.size w w' := with_a_row w g h
theorem k_with_b (w : World) (g : Nat) (h : blockIs w g #[.int .u64 9, .int .i64 1, .int .u64 4] 29) : Calls Try.prog 14 #[.agg #[.int .u64 0, .int .u64 2, .int .u64 3, .int .u64 0, .int .u64 0, .int .u64 0, .int .u64 0, .int .u64 0, .int .u64 0], .slice (some ⟨g, 0, none⟩) 1 1] w fun e w' => e = .returned (.tuple #[.agg #[.int .u64 0, .int .u64 0, .int .u64 0, .int .u64 0, .int .u64 0, .int .u64 0, .int .u64 0, .int .u64 0, .int .u64 0], .int .i64 231]) ∧ Below w.heap.size w w' := with_b_row w g h
theorem k_join (w : World) (g : Nat) (h : rowVec w (some ⟨g, 0, none⟩) [vB]) : Calls Try.prog 20 #[.agg #[.int .u64 0, .int .u64 2, .int .u64 3, .int .u64 0, .int .u64 0, .int .u64 0, .int .u64 0, .int .u64 0, .int .u64 0], .slice (some ⟨g, 0, none⟩) 1 1] w fun e w' => e = .returned (.tuple #[.agg #[.int .u64 0, .int .u64 5, .int .u64 3, .int .u64 0, .int .u64 0, .int .u64 0, .int .u64 0, .int .u64 0, .int .u64 0], .int .i64 0]) ∧ Below w.heap.size w w' := join_any vA [vB] _ 1 w h (by simp)
theorem k_meet (w : World) (g : Nat) (h : rowVec w (some ⟨g, 0, none⟩) [vB]) : Calls Try.prog 21 #[.agg #[.int .u64 0, .int .u64 2, .int .u64 3, .int .u64 0, .int .u64 0, .int .u64 0, .int .u64 0, .int .u64 0, .int .u64 0], .slice (some ⟨g, 0, none⟩) 1 1] w fun e w' => e = .returned (.tuple #[.agg #[.int .u64 0, .int .u64 2, .int .u64 0, .int .u64 0, .int .u64 0, .int .u64 0, .int .u64 0, .int .u64 0, .int .u64 0], .int .i64 0]) ∧ Below w.heap.size w w' := meet_any vA [vB] _ 1 w h (by simp)
theorem k_has (w : World) : Calls Try.prog 12 #[.agg #[.int .u64 0, .int .u64 2, .int .u64 3, .int .u64 0, .int .u64 0, .int .u64 0, .int .u64 0, .int .u64 0, .int .u64 0], .agg #[.int .u64 9, .int .i64 1, .int .u64 2]] w fun e w' => e = .returned (.bool true) ∧ Below w.heap.size w w' := has_any vA ⟨9, 1, 2⟩ rng_a w
theorem k_next (w : World) : Calls Try.prog 13 #[.agg #[.int .u64 0, .int .u64 2, .int .u64 3, .int .u64 0, .int .u64 0, .int .u64 0, .int .u64 0, .int .u64 0, .int .u64 0], .agg #[.int .u64 9, .int .i64 1, .int .u64 3]] w fun e w' => e = .returned (.bool true) ∧ Below w.heap.size w w' := next_any vA ⟨9, 1, 3⟩ rng_a w
theorem k_covers (w : World) : Calls Try.prog 25 #[.agg #[.int .u64 0, .int .u64 2, .int .u64 3, .int .u64 0, .int .u64 0, .int .u64 0, .int .u64 0, .int .u64 0, .int .u64 0], .agg #[.int .u64 0, .int .u64 0, .int .u64 1, .int .u64 0, .int .u64 0, .int .u64 0, .int .u64 0, .int .u64 0, .int .u64 0]] w fun e w' => e = .returned (.bool true) ∧ Below w.heap.size w w' := covers_any vA vC w
theorem lacks_f : lacksL vA vF = [⟨1, 3, 5⟩, ⟨8, 1, 1⟩] := by rfl
theorem many_f : manyS 0 (lacksL vA vF) = 4 := by rfl
def isLack (v : Value) (W : World) : Prop := ∃ a0 cap, v = .slice a0 2 cap ∧ rowV W a0 2 3 enT [⟨1, 3, 5⟩, ⟨8, 1, 1⟩]
theorem isLack_stays (v : Value) : Stays (isLack v) := fun _ _ hk ⟨a0, cap, e, hr⟩ => ⟨a0, cap, e, rowV_below hr hk⟩
theorem k_lacks (w : World) : Calls Try.prog 28 #[.agg #[.int .u64 0, .int .u64 2, .int .u64 3, .int .u64 0, .int .u64 0, .int .u64 0, .int .u64 0, .int .u64 0, .int .u64 0], .agg #[.int .u64 0, .int .u64 5, .int .u64 3, .int .u64 0, .int .u64 0, .int .u64 0, .int .u64 0, .int .u64 0, .int .u64 1]] w fun e w' => ∃ u, e = .returned u ∧ Below w.heap.size w w' ∧ isLack u w' := by
  refine (lacks_any vA vF rng_a w).mono ?_
  rintro e w' ⟨a0, cap, rfl, hr, _, _, _, hb⟩
  rw [lacks_f] at hr ⊢
  exact ⟨_, rfl, hb, a0, cap, rfl, hr⟩
theorem k_many (w : World) : Calls Try.prog 29 #[.agg #[.int .u64 0, .int .u64 2, .int .u64 3, .int .u64 0, .int .u64 0, .int .u64 0, .int .u64 0, .int .u64 0, .int .u64 0], .agg #[.int .u64 0, .int .u64 5, .int .u64 3, .int .u64 0, .int .u64 0, .int .u64 0, .int .u64 0, .int .u64 0, .int .u64 1]] w fun e w' => e = .returned (.int .u64 4) ∧ Below w.heap.size w w' := many_any vA vF rng_a w
theorem q_W (w : World) : (binOp .eql 24 (.agg #[.int .u64 0, .int .u64 3, .int .u64 4, .int .u64 0, .int .u64 0, .int .u64 0, .int .u64 0, .int .u64 0, .int .u64 0]) (.agg #[.int .u64 0, .int .u64 3, .int .u64 4, .int .u64 0, .int .u64 0, .int .u64 0, .int .u64 0, .int .u64 0, .int .u64 0])).run Try.prog w = .ok (.bool true) w := run_eql_vec vW vW w
theorem q_J (w : World) : (binOp .eql 24 (.agg #[.int .u64 0, .int .u64 5, .int .u64 3, .int .u64 0, .int .u64 0, .int .u64 0, .int .u64 0, .int .u64 0, .int .u64 0]) (.agg #[.int .u64 0, .int .u64 5, .int .u64 3, .int .u64 0, .int .u64 0, .int .u64 0, .int .u64 0, .int .u64 0, .int .u64 0])).run Try.prog w = .ok (.bool true) w := run_eql_vec vJ vJ w
theorem q_M (w : World) : (binOp .eql 24 (.agg #[.int .u64 0, .int .u64 2, .int .u64 0, .int .u64 0, .int .u64 0, .int .u64 0, .int .u64 0, .int .u64 0, .int .u64 0]) (.agg #[.int .u64 0, .int .u64 2, .int .u64 0, .int .u64 0, .int .u64 0, .int .u64 0, .int .u64 0, .int .u64 0, .int .u64 0])).run Try.prog w = .ok (.bool true) w := run_eql_vec vM vM w
theorem row_stretch (w : World) : rowV (w.alloc (.cells #[.int .i64 1, .int .u64 3, .int .u64 5, .int .i64 8, .int .u64 1, .int .u64 1] 51)) (some ⟨w.heap.size, 0, none⟩) 2 3 enT [⟨1, 3, 5⟩, ⟨8, 1, 1⟩] := by
  refine ⟨rfl, .inr ⟨w.heap.size, 0, rfl, by simp, fun k hk j hj => ?_⟩⟩
  rw [cell_of_row _ _ _ _ _ _ (heap_alloc_new w _)]
  match k, hk, j, hj with
  | 0, _, 0, _ => rfl
  | 0, _, 1, _ => rfl
  | 0, _, 2, _ => rfl
  | 1, _, 0, _ => rfl
  | 1, _, 1, _ => rfl
  | 1, _, 2, _ => rfl
theorem k_equal (w : World) (x y : Value) (h1 : isLack x w) (h2 : isLack y w) : Calls Try.prog 27 #[x, y] w fun e w' => e = .returned (.bool true) ∧ Below w.heap.size w w' := by
  obtain ⟨a1, c1, rfl, r1⟩ := h1
  obtain ⟨a2, c2, rfl, r2⟩ := h2
  exact equalS_same [⟨1, 3, 5⟩, ⟨8, 1, 1⟩] a1 a2 c1 c2 w r1 r2 (by simp)

def looksTwo (ops : Array Oper) (hid : List Hid) (o : Oper) (t s : Tmp) : Bool := notSelect o && hid.all (fun h => h.t == t || h.t == s || !(o.looksAt ops).contains h.t) && guardAt ops o != some t && guardAt ops o != some s && (o.looksAt ops).contains t && (o.looksAt ops).contains s
/-- An operation that looks at two hidden slots, with one value all the same. -/
theorem wpDep_both {P : Program} {ops : Array Oper} {B : Nat} {w0 : World} {Q : List Hid → Act → Prop} {o : Oper} {rest : List Oper} {hid : List Hid} {a : Act} {t s : Tmp} {φ ψ : Value → World → Prop} (hm : ⟨t, φ⟩ ∈ hid) (hm' : ⟨s, ψ⟩ ∈ hid) (hl : looksTwo ops hid o t s = true) (hts : t ≠ s) (hsz : t < a.tmps.size) (hsz' : s < a.tmps.size) (hw : Region.wanted o (yielded ops a.tmps) = true) (v : Value)
    (h : ∀ (x y : Value) (n : Near B w0), φ x n.u → ψ y n.u → gives P n.u (fun u _ => u = v) ((execOp ((a.put (some t) x).put (some s) y).eval o).run P n.u)) (hr : wpDep P ops B w0 Q rest hid (a.put o.dst v)) : wpDep P ops B w0 Q (o :: rest) hid a := by
  simp only [looksTwo, Bool.and_eq_true] at hl
  obtain ⟨⟨⟨⟨⟨h1, h2⟩, h3⟩, h3'⟩, h4⟩, h4'⟩ := hl
  have hne : ∀ x ∈ hid, x.t ≠ t → x.t ≠ s → x.t ∉ o.looksAt ops := fun x hx hxt hxs hm => by
    have := List.all_eq_true.1 h2 x hx
    simp [hxt, hxs, hm] at this
  refine ⟨fun x hx e => ?_, ?_⟩
  · by_cases hxt : x.t = t
    · rw [hxt] at e; rw [e] at h3; simp at h3
    · by_cases hxs : x.t = s
      · rw [hxs] at e; rw [e] at h3'; simp at h3'
      · exact hne x hx hxt hxs (guard_looks e)
  · rw [if_pos hw]
    refine .inl ⟨v, fun f n hf => ?_, hr⟩
    have he : execOp (fillV hid f a).eval o = execOp ((a.put (some t) (f t)).put (some s) (f s)).eval o := eval_of (ops := ops) (notSelect_spec h1) fun r hr => by
      by_cases hrs : r = s
      · subst hrs
        rw [fillV_in _ _ _ _ ⟨_, hm', rfl⟩ hsz', Act.put_at, if_pos ⟨rfl, by rw [Act.put_size]; exact hsz'⟩]
      · rw [Act.put_at, if_neg (fun q => hrs q.1)]
        by_cases hrt : r = t
        · subst hrt
          rw [fillV_in _ _ _ _ ⟨_, hm, rfl⟩ hsz, Act.put_at, if_pos ⟨rfl, hsz⟩]
        · rw [Act.put_at, if_neg (fun q => hrt q.1)]
          exact fillV_out _ _ _ (fun x hx e => hne x hx (fun q => hrt (by rw [← e, q])) (fun q => hrs (by rw [← e, q])) (e ▸ hr)) a
    rw [he]
    exact h _ _ n (hf _ hm (by simpa using h4)) (hf _ hm' (by simpa using h4'))
end Go.Proofs.Ytjpgabpicfcapaa
