/- Vectors of nine numbers as values and in memory: equality, an index, a block of one. -/
import Derived.Test.YtjpgabpicfcapaaRows
import Derived.Test.YtjpgabpicfcapaaArr
import Derived.Test.YtjpgabpicfcapaaDep3
import Derived.ChangeKeysEq
namespace Go.Proofs.Ytjpgabpicfcapaa
open Go.RowKit

abbrev u64 (x : Int) : Value := .int .u64 x
/-- the numbers of the places 0 to 8 -/
abbrev V := Nat → Int
abbrev vecA (v : V) : Array Value := #[.int .u64 (v 0), .int .u64 (v 1), .int .u64 (v 2), .int .u64 (v 3), .int .u64 (v 4), .int .u64 (v 5), .int .u64 (v 6), .int .u64 (v 7), .int .u64 (v 8)]
abbrev vec (v : V) : Value := .agg (vecA v)
def vecL (v : V) : List Value := [.int .u64 (v 0), .int .u64 (v 1), .int .u64 (v 2), .int .u64 (v 3), .int .u64 (v 4), .int .u64 (v 5), .int .u64 (v 6), .int .u64 (v 7), .int .u64 (v 8)]
theorem vecL_len (v : V) : (vecL v).length = 9 := rfl
theorem vecA_toList (v : V) : (vecA v).toList = vecL v := rfl
def V.rng (v : V) : Prop := ∀ k, k < 9 → 0 ≤ v k ∧ v k ≤ 18446744073709551615
abbrev V.zero : V := fun _ => 0
abbrev zeroV : Value := .agg #[.int .u64 0, .int .u64 0, .int .u64 0, .int .u64 0, .int .u64 0, .int .u64 0, .int .u64 0, .int .u64 0, .int .u64 0] 
def V.same (u v : V) : Bool := (u 0 == v 0) && (u 1 == v 1) && (u 2 == v 2) && (u 3 == v 3) && (u 4 == v 4) && (u 5 == v 5) && (u 6 == v 6) && (u 7 == v 7) && (u 8 == v 8)
theorem V.same_iff (u v : V) : u.same v = true ↔ ∀ k, k < 9 → u k = v k := by
  unfold V.same
  simp only [Bool.and_eq_true, beq_iff_eq]
  constructor
  · rintro ⟨⟨⟨⟨⟨⟨⟨⟨h0, h1⟩, h2⟩, h3⟩, h4⟩, h5⟩, h6⟩, h7⟩, h8⟩ k hk
    match k, hk with
    | 0, _ => exact h0
    | 1, _ => exact h1
    | 2, _ => exact h2
    | 3, _ => exact h3
    | 4, _ => exact h4
    | 5, _ => exact h5
    | 6, _ => exact h6
    | 7, _ => exact h7
    | 8, _ => exact h8
  · intro h
    exact ⟨⟨⟨⟨⟨⟨⟨⟨h 0 (by omega), h 1 (by omega)⟩, h 2 (by omega)⟩, h 3 (by omega)⟩, h 4 (by omega)⟩, h 5 (by omega)⟩, h 6 (by omega)⟩, h 7 (by omega)⟩, h 8 (by omega)⟩
theorem V.same_self (v : V) : v.same v = true := (V.same_iff v v).2 fun _ _ => rfl
theorem part_vec (w : World) : ∀ (x : V) (k : Nat), k < 9 → (part 22 (vecA x) (k * 1)).run Try.prog w = .ok (.int .u64 (x k)) w
  | x, 0, _ => by kernel_rfl
  | x, 1, _ => by kernel_rfl
  | x, 2, _ => by kernel_rfl
  | x, 3, _ => by kernel_rfl
  | x, 4, _ => by kernel_rfl
  | x, 5, _ => by kernel_rfl
  | x, 6, _ => by kernel_rfl
  | x, 7, _ => by kernel_rfl
  | x, 8, _ => by kernel_rfl
  | _, k + 9, h => absurd h (by omega)
theorem eqItems_step (u v : V) (k : Nat) (hk : k < 9) (is : List Nat) (w : World) : (Op.eqItems 9999 22 1 (vecA u) (vecA v) (k :: is)).run Try.prog w = if (u k == v k) = true then (Op.eqItems 9999 22 1 (vecA u) (vecA v) is).run Try.prog w else .ok false w := by
  have heq : ∀ a b : Int, (Op.equalIn 9999 22 (.int .u64 a) (.int .u64 b)).run Try.prog w = .ok (a == b) w := fun a b => run_equalIn_int w 9998 _ _ _ a b Try.underlying22
  simp only [Op.eqItems, Sem.run_bind, part_vec w u k hk, part_vec w v k hk, Result.andThen_ok, heq]
  cases (u k == v k) <;> rfl
theorem eqItems_vec (u v : V) (w : World) : (Op.eqItems 9999 22 1 (vecA u) (vecA v) (List.range 9)).run Try.prog w = .ok (u.same v) w := by
  have e9 : List.range 9 = [0, 1, 2, 3, 4, 5, 6, 7, 8] := rfl
  rw [e9]
  rw [eqItems_step u v 0 (by omega), eqItems_step u v 1 (by omega), eqItems_step u v 2 (by omega), eqItems_step u v 3 (by omega), eqItems_step u v 4 (by omega), eqItems_step u v 5 (by omega), eqItems_step u v 6 (by omega), eqItems_step u v 7 (by omega), eqItems_step u v 8 (by omega)]
  have hnil : (Op.eqItems 9999 22 1 (vecA u) (vecA v) []).run Try.prog w = .ok true w := rfl
  rw [hnil]
  unfold V.same
  generalize (u 0 == v 0) = b0
  generalize (u 1 == v 1) = b1
  generalize (u 2 == v 2) = b2
  generalize (u 3 == v 3) = b3
  generalize (u 4 == v 4) = b4
  generalize (u 5 == v 5) = b5
  generalize (u 6 == v 6) = b6
  generalize (u 7 == v 7) = b7
  generalize (u 8 == v 8) = b8
  cases b0
  · simp
  cases b1
  · simp
  cases b2
  · simp
  cases b3
  · simp
  cases b4
  · simp
  cases b5
  · simp
  cases b6
  · simp
  cases b7
  · simp
  cases b8
  · simp
  simp
theorem info_u64 : ∃ i, Try.prog.info? 22 = some i := by
  cases h : Try.prog.info? 22 with
  | none => exact absurd (show (Try.prog.info? 22).isSome = true by kernel_rfl) (by rw [h]; decide)
  | some i => exact ⟨i, rfl⟩
theorem cells_u64 : Try.prog.cellsOf 22 = 1 := by kernel_rfl
theorem equalIn_vec (u v : V) (w : World) : (Op.equalIn 10000 24 (vec u) (vec v)).run Try.prog w = .ok (u.same v) w := by
  obtain ⟨i, hi⟩ := info_u64
  rw [run_equalIn_array w 9999 (vecA u) (vecA v) Try.underlying24 hi, cells_u64]
  exact eqItems_vec u v w
theorem run_eql_vec (u v : V) (w : World) : (binOp .eql 24 (vec u) (vec v)).run Try.prog w = .ok (.bool (u.same v)) w := by
  rw [run_eql_struct, equalIn_vec]; rfl
theorem run_neq_vec (u v : V) (w : World) : (binOp .neq 24 (vec u) (vec v)).run Try.prog w = .ok (.bool (!u.same v)) w := by
  rw [run_neq_struct, equalIn_vec]; rfl
theorem run_eql_zero (v : V) (w : World) : (binOp .eql 24 (vec v) zeroV).run Try.prog w = .ok (.bool (v.same V.zero)) w := run_eql_vec v V.zero w
theorem run_neq_zero (v : V) (w : World) : (binOp .neq 24 (vec v) zeroV).run Try.prog w = .ok (.bool (!v.same V.zero)) w := run_neq_vec v V.zero w
theorem index_vec (w : World) : ∀ (v : V) (k : Nat), k < 9 → (Instr.index 24 (vec v) (.int .i64 (k : Nat))).run Try.prog w = .ok (.int .u64 (v k)) w
  | v, 0, _ => by kernel_rfl
  | v, 1, _ => by kernel_rfl
  | v, 2, _ => by kernel_rfl
  | v, 3, _ => by kernel_rfl
  | v, 4, _ => by kernel_rfl
  | v, 5, _ => by kernel_rfl
  | v, 6, _ => by kernel_rfl
  | v, 7, _ => by kernel_rfl
  | v, 8, _ => by kernel_rfl
  | _, k + 9, h => absurd h (by omega)
/-- a place set -/
def V.set (v : V) (k : Nat) (x : Int) : V := fun j => if j = k then x else v j
theorem vecL_set (v : V) (k : Nat) (h : k < 9) (x : Int) : (vecL v).set k (.int .u64 x) = vecL (v.set k x) := by
  match k, h with
  | 0, _ => rfl
  | 1, _ => rfl
  | 2, _ => rfl
  | 3, _ => rfl
  | 4, _ => rfl
  | 5, _ => rfl
  | 6, _ => rfl
  | 7, _ => rfl
  | 8, _ => rfl
theorem vecL_get (v : V) (k : Nat) (h : k < 9) : (vecL v)[k]'(by rw [vecL_len]; exact h) = .int .u64 (v k) := by
  match k, h with
  | 0, _ => rfl
  | 1, _ => rfl
  | 2, _ => rfl
  | 3, _ => rfl
  | 4, _ => rfl
  | 5, _ => rfl
  | 6, _ => rfl
  | 7, _ => rfl
  | 8, _ => rfl
theorem vec_lit (v : V) (k : Nat) (h : k < 9) (h' : k < ([.int .u64 (v 0), .int .u64 (v 1), .int .u64 (v 2), .int .u64 (v 3), .int .u64 (v 4), .int .u64 (v 5), .int .u64 (v 6), .int .u64 (v 7), .int .u64 (v 8)] : List Value).length) : ([.int .u64 (v 0), .int .u64 (v 1), .int .u64 (v 2), .int .u64 (v 3), .int .u64 (v 4), .int .u64 (v 5), .int .u64 (v 6), .int .u64 (v 7), .int .u64 (v 8)] : List Value)[k]'h' = .int .u64 (v k) := vecL_get v k h
theorem vecL_ext {u v : V} (h : ∀ k, k < 9 → u k = v k) : vecL u = vecL v := by
  simp only [vecL, h 0 (by omega), h 1 (by omega), h 2 (by omega), h 3 (by omega), h 4 (by omega), h 5 (by omega), h 6 (by omega), h 7 (by omega), h 8 (by omega)]
theorem vec_ext {u v : V} (h : ∀ k, k < 9 → u k = v k) : vec u = vec v := by
  simp only [vec, vecA, h 0 (by omega), h 1 (by omega), h 2 (by omega), h 3 (by omega), h 4 (by omega), h 5 (by omega), h 6 (by omega), h 7 (by omega), h 8 (by omega)]
/-- block b holds the vector -/
abbrev vecIn (w : World) (b : Nat) (v : V) : Prop := holds w b (vecL v)
theorem vecIn_new (w : World) (v : V) : vecIn (w.alloc (.cells (vecA v) 24)) w.heap.size v := holds_new w (vecA v) 24
theorem vecIn.cells {w : World} {b : Nat} {v : V} (h : vecIn w b v) : w.cell? ⟨b, 0, none⟩ = some (.int .u64 (v 0)) ∧ w.cell? ⟨b, 1, none⟩ = some (.int .u64 (v 1)) ∧ w.cell? ⟨b, 2, none⟩ = some (.int .u64 (v 2)) ∧ w.cell? ⟨b, 3, none⟩ = some (.int .u64 (v 3)) ∧ w.cell? ⟨b, 4, none⟩ = some (.int .u64 (v 4)) ∧ w.cell? ⟨b, 5, none⟩ = some (.int .u64 (v 5)) ∧ w.cell? ⟨b, 6, none⟩ = some (.int .u64 (v 6)) ∧ w.cell? ⟨b, 7, none⟩ = some (.int .u64 (v 7)) ∧ w.cell? ⟨b, 8, none⟩ = some (.int .u64 (v 8)) :=
  ⟨(h.cell 0 (by simp [vecL])), (h.cell 1 (by simp [vecL])), (h.cell 2 (by simp [vecL])), (h.cell 3 (by simp [vecL])), (h.cell 4 (by simp [vecL])), (h.cell 5 (by simp [vecL])), (h.cell 6 (by simp [vecL])), (h.cell 7 (by simp [vecL])), (h.cell 8 (by simp [vecL]))⟩
theorem vecIn.at {w : World} {b : Nat} {v : V} (h : vecIn w b v) (k : Nat) (hk : k < 9) : w.cell? ⟨b, k, none⟩ = some (.int .u64 (v k)) := by
  rw [h.cell k (by rw [vecL_len]; exact hk), vecL_get v k hk]
theorem vecIn.free {w : World} {b : Nat} {v : V} (h : vecIn w b v) (k : Nat) (hk : k < 9) : w.frozen? ⟨b, k, none⟩ = false := h.2 k (by rw [vecL_len]; exact hk) |>.2
theorem vecIn_set {w : World} {b : Nat} {v : V} (h : vecIn w b v) (k : Nat) (hk : k < 9) (x : Int) : vecIn (w.setCell ⟨b, k, none⟩ (.int .u64 x)) b (v.set k x) := by
  have := holds_set h k (by rw [vecL_len]; exact hk) (.int .u64 x)
  rwa [vecL_set v k hk] at this
end Go.Proofs.Ytjpgabpicfcapaa
