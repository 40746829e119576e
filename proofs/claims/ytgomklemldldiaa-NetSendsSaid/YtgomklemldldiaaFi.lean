/- arguments that are opened -/
import Derived.Test.YtgomklemldldiaaLs
import Derived.Test.YtgomklemldldiaaLz
import Derived.Test.YtgomklemldldiaaLzs
import Derived.Test.YtgomklemldldiaaNa
import Derived.Test.YtgomklemldldiaaJt
namespace Go.Proofs.Ytgomklemldldiaa
set_option linter.unusedVariables false
set_option linter.unusedSimpArgs false
open Go.RowKit
open Go.ChangeShapes Go.WideShapes Go.ChangeAt Go.Joins Go.Deep

theorem fits_prim_i64 {v : Value} (h : (Prim.int .i64).is v) : ∃ a : Int, (-9223372036854775808 ≤ a ∧ a ≤ 9223372036854775807) ∧ v = .int .i64 a := by
  obtain ⟨x, rfl, w⟩ := h
  exact ⟨x, by simpa [Lit.wf, IntKind.min, IntKind.max, IntKind.signed, IntKind.bits] using w, rfl⟩
theorem nat_u32 {v : Value} (h : (Prim.int .u32).is v) : ∃ a : Nat, a < 2 ^ 32 ∧ v = .int .u32 (a : Int) := by
  obtain ⟨x, rfl, w⟩ := h
  have h1 : 0 ≤ x ∧ x ≤ 4294967295 := by simpa [Lit.wf, IntKind.min, IntKind.max, IntKind.signed, IntKind.bits] using w
  obtain ⟨a, rfl⟩ := Int.eq_ofNat_of_zero_le h1.1
  exact ⟨a, by omega, rfl⟩
theorem nat_u8 {v : Value} (h : (Prim.int .u8).is v) : ∃ a : Nat, a < 256 ∧ v = .int .u8 (a : Int) := by
  obtain ⟨x, rfl, w⟩ := h
  have h1 : 0 ≤ x ∧ x ≤ 255 := by simpa [Lit.wf, IntKind.min, IntKind.max, IntKind.signed, IntKind.bits] using w
  obtain ⟨a, rfl⟩ := Int.eq_ofNat_of_zero_le h1.1
  exact ⟨a, by omega, rfl⟩
theorem fits_prim_u32 {v : Value} (h : (Prim.int .u32).is v) : ∃ a : Int, (0 ≤ a ∧ a < 4294967296) ∧ v = .int .u32 a := by
  obtain ⟨x, w, rfl⟩ := nat_u32 h
  exact ⟨x, by omega, rfl⟩
theorem fits_n8 : ∀ cs, fitsP [.int .u8] cs → ∃ p : Nat, p < 256 ∧ cs = un8 p
  | [c0], h => by
    obtain ⟨h0, _⟩ := h
    obtain ⟨x0, w0, rfl⟩ := nat_u8 h0
    exact ⟨x0, w0, rfl⟩
  | [], h => by cases h
  | _ :: _ :: _, h => by obtain ⟨_, h⟩ := h; cases h

theorem fits_i64 : ∀ cs, fitsP [.int .i64] cs → ∃ a : Int, (-9223372036854775808 ≤ a ∧ a ≤ 9223372036854775807) ∧ cs = [.int .i64 a]
  | [c0], h => by
    obtain ⟨h0, _⟩ := h
    obtain ⟨a, w, rfl⟩ := fits_prim_i64 h0
    exact ⟨a, w, rfl⟩
  | [], h => by cases h
  | _ :: _ :: _, h => by obtain ⟨_, h⟩ := h; cases h
theorem fits_bool : ∀ cs, fitsP [.bool] cs → ∃ a : Bool, True ∧ cs = [.bool a]
  | [c0], h => by
    obtain ⟨h0, _⟩ := h
    obtain ⟨a, rfl⟩ := h0
    exact ⟨a, trivial, rfl⟩
  | [], h => by cases h
  | _ :: _ :: _, h => by obtain ⟨_, h⟩ := h; cases h
def okP (p : Par) : Prop := (-9223372036854775808 ≤ p.to ∧ p.to ≤ 9223372036854775807) ∧ ∀ x ∈ p.b, x < 256
theorem opens_i64 {w : World} : Opens Try.prog w 3 (fun a : Int => [.val (.int .i64 a)]) (fun a => -9223372036854775808 ≤ a ∧ a ≤ 9223372036854775807) := opens_flat 1 (fun a : Int => [.int .i64 a]) _ fits_i64 (by kernel_rfl)
theorem opens_bool {w : World} : Opens Try.prog w 4 (fun a : Bool => [.val (.bool a)]) (fun _ => True) := opens_flat 1 (fun a : Bool => [.bool a]) _ fits_bool (by kernel_rfl)
theorem opens_bytes {w : World} : Opens Try.prog w 36 (fun l : List Nat => [.slf 1 l.length (l.flatMap un8)]) (fun l => ∀ x ∈ l, x < 256) :=
  opens_row 4 un8 (fun n : Nat => n < 256) fits_n8 Try.underlying36 (show flatT Try.prog 4 5 = some [.int .u8] by kernel_rfl) (by kernel_rfl) (by decide) (fun _ => rfl)
theorem opens_par {w : World} : Opens Try.prog w 38 pD okP :=
  opens_map (fun a : Int × List Nat × Bool × Unit => ⟨a.1, a.2.1, a.2.2.1⟩) (opens_struct Try.underlying38 (by kernel_rfl) (opensF_cons (k := 1) rfl (by kernel_rfl) opens_i64 (opensF_cons (k := 1) rfl (by kernel_rfl) opens_bytes (opensF_cons (k := 1) rfl (by kernel_rfl) opens_bool opensF_nil)))) (fun _ => rfl) (fun _ h => ⟨h.1, h.2.1⟩)

theorem fits_trick : ∀ cs, fitsP [.int .i64, .int .i64, .int .i64, .int .u32] cs → ∃ a : Int × Int × Int × Nat, (a.2.2.1 ≤ 9223372036854775807 ∧ a.2.2.2 < 2 ^ 32) ∧ cs = [.int .i64 a.1, .int .i64 a.2.1, .int .i64 a.2.2.1, .int .u32 (a.2.2.2 : Int)]
  | [c0, c1, c2, c3], h => by
    obtain ⟨h0, h1, h2, h3, _⟩ := h
    obtain ⟨x0, _, rfl⟩ := fits_prim_i64 h0
    obtain ⟨x1, _, rfl⟩ := fits_prim_i64 h1
    obtain ⟨x2, w2, rfl⟩ := fits_prim_i64 h2
    obtain ⟨x3, w3, rfl⟩ := nat_u32 h3
    exact ⟨(x0, x1, x2, x3), ⟨w2.2, w3⟩, rfl⟩
  | [], h => by cases h
  | [_], h => by obtain ⟨_, h⟩ := h; cases h
  | [_, _], h => by obtain ⟨_, _, h⟩ := h; cases h
  | [_, _, _], h => by obtain ⟨_, _, _, h⟩ := h; cases h
  | _ :: _ :: _ :: _ :: _ :: _, h => by obtain ⟨_, _, _, _, h⟩ := h; cases h
theorem opens_trick {w : World} : Opens Try.prog w 49 (fun a : Int × Int × Int × Nat => [.val (.int .i64 a.1), .val (.int .i64 a.2.1), .val (.int .i64 a.2.2.1), .val (.int .u32 (a.2.2.2 : Int))]) (fun a => a.2.2.1 ≤ 9223372036854775807 ∧ a.2.2.2 < 2 ^ 32) :=
  opens_flat 4 (fun a : Int × Int × Int × Nat => [.int .i64 a.1, .int .i64 a.2.1, .int .i64 a.2.2.1, .int .u32 (a.2.2.2 : Int)]) _ fits_trick (by kernel_rfl)

theorem nat_u64 {v : Value} (h : (Prim.int .u64).is v) : ∃ a : Nat, a < 2 ^ 64 ∧ v = .int .u64 (a : Int) := by
  obtain ⟨x, rfl, w⟩ := h
  have h1 : 0 ≤ x ∧ x ≤ 18446744073709551615 := by simpa [Lit.wf, IntKind.min, IntKind.max, IntKind.signed, IntKind.bits] using w
  obtain ⟨a, rfl⟩ := Int.eq_ofNat_of_zero_le h1.1
  exact ⟨a, by omega, rfl⟩
theorem fits_u64n : ∀ cs, fitsP [.int .u64] cs → ∃ a : Nat, a < 2 ^ 64 ∧ cs = [.int .u64 (a : Int)]
  | [c0], h => by
    obtain ⟨h0, _⟩ := h
    obtain ⟨a, w, rfl⟩ := nat_u64 h0
    exact ⟨a, w, rfl⟩
  | [], h => by cases h
  | _ :: _ :: _, h => by obtain ⟨_, h⟩ := h; cases h
theorem opens_u64 {w : World} : Opens Try.prog w 23 (fun a : Nat => [.val (.int .u64 (a : Int))]) (fun a => a < 2 ^ 64) := opens_flat 1 (fun a : Nat => [.int .u64 (a : Int)]) _ fits_u64n (by kernel_rfl)
theorem opens_net {w : World} : Opens Try.prog w 25 (fun a : List Par × Nat => [.slm 3 a.1.length (a.1.flatMap pD), .val (.int .u64 (a.2 : Int))]) (fun a => ∀ p ∈ a.1, okP p) :=
  opens_map (fun a : List Par × Nat × Unit => (a.1, a.2.1)) (opens_struct Try.underlying25 (by kernel_rfl) (opensF_cons (k := 1) rfl (by kernel_rfl) (opens_rows opens_par Try.underlying22 (by kernel_rfl) (by decide) (fun _ => rfl) (fun _ => rfl)) (opensF_cons (k := 1) rfl (by kernel_rfl) opens_u64 (opensF_nil)))) (fun _ => rfl) (fun a h => h.1)

end Go.Proofs.Ytgomklemldldiaa
