/- Read -/
import Derived.Test.YtcfollajmmlfnaaW10
namespace Go.Proofs.Ytcfollajmmlfnaa
open Go.RowKit

def byteAt (s : ByteArray) (k : Nat) : Option Int := if h : k < s.size then hexVal (s[k].toNat : Int) else none
/-- the number of the first k digits -/
def wordUp (s : ByteArray) : Nat → Option Int
  | 0 => some 0
  | k + 1 => (wordUp s k).bind fun x => (byteAt s k).map fun v => x * 16 + v

theorem wordUp_bd (s : ByteArray) (k : Nat) : ∀ x, wordUp s k = some x → 0 ≤ x ∧ x < 16 ^ k := by
  induction k with
  | zero => intro x h; obtain rfl := Option.some.inj h; simp
  | succ k ih =>
    intro x h
    unfold wordUp at h
    cases hx : wordUp s k with
    | none => rw [hx] at h; cases h
    | some y =>
      rw [hx] at h
      have hy := ih y hx
      cases hv : byteAt s k with
      | none => rw [hv] at h; cases h
      | some v =>
        rw [hv] at h
        obtain rfl := Option.some.inj h
        have hb : 0 ≤ v ∧ v ≤ 15 := by
          unfold byteAt at hv
          split at hv
          · have := hexVal_bd hv; omega
          · cases hv
        rw [Int.pow_succ]
        show 0 ≤ y * 16 + v ∧ y * 16 + v < 16 ^ k * 16
        omega

theorem wordUp_none (s : ByteArray) (k : Nat) (h : wordUp s k = none) (n : Nat) : k ≤ n → wordUp s n = none := by
  intro hk
  induction n with
  | zero => obtain rfl : k = 0 := by omega
            exact h
  | succ n ih =>
    by_cases e : k = n + 1
    · subst e; exact h
    · unfold wordUp; rw [ih (by omega)]; rfl

def readsAs (s : ByteArray) (e : Ending) : Prop :=
  match (if s.size = 8 then wordUp s 8 else none) with
  | some x => e = .returned (.tuple #[(unword x).val, .int .i64 0])
  | none => e = .returned (.tuple #[col 0 0 0 0, .int .i64 130])

theorem readsAs_ok {s : ByteArray} (h : s.size = 8) {x : Int} (hx : wordUp s 8 = some x) : readsAs s (.returned (.tuple #[(unword x).val, .int .i64 0])) := by
  unfold readsAs; rw [if_pos h, hx]
theorem readsAs_no {s : ByteArray} (h : s.size = 8) (hx : wordUp s 8 = none) : readsAs s (.returned (.tuple #[col 0 0 0 0, .int .i64 130])) := by
  unfold readsAs; rw [if_pos h, hx]
theorem readsAs_len {s : ByteArray} (h : ¬ s.size = 8) : readsAs s (.returned (.tuple #[col 0 0 0 0, .int .i64 130])) := by
  unfold readsAs; rw [if_neg h]

theorem iter_cell (W : World) (s : ByteArray) (k b o : Nat) (h : b < W.heap.size) : (W.iter s k).cell? ⟨b, o, none⟩ = W.cell? ⟨b, o, none⟩ := World.cell?_alloc_past _ _ _ h
theorem iter_frozen (W : World) (s : ByteArray) (k b o : Nat) (h : b < W.heap.size) : (W.iter s k).frozen? ⟨b, o, none⟩ = W.frozen? ⟨b, o, none⟩ := World.frozen?_alloc_past _ _ _ h
theorem iter_size (W : World) (s : ByteArray) (k : Nat) : (W.iter s k).heap.size = W.heap.size + 1 := World.size_alloc _ _

set_option maxHeartbeats 2000000 in
theorem read_eight (s : ByteArray) (h8 : s.size = 8) (w : World) :
    Calls Try.prog 26 #[.string s] w fun e w' => readsAs s e ∧ Below w.heap.size w w' := by
  have hmf : ∀ (fn : Fn) (first cap : Array Value) (w : World), (Instr.makeFunc fn first cap).run Try.prog w = .ok (.func fn first cap) w := fun _ _ _ _ => rfl
  have hne : ((s.size : Int) != 8) = false := by rw [h8]; rfl
  have H8 := Lib.hid h8
  clear h8
  go_enter_defers Try.func26, Try.ntmps26
  go_wp2_with fail
  clear hne
  have hip : ∀ p, (((w.alloc (.cells #[.int .u8 0, .int .u8 0, .int .u8 0, .int .u8 0] 26)).alloc (.cells #[.int .i64 0] 45)).iter s p).iterPos (w.heap.size + 1 + 1) = p := fun p => by
    have := World.iterPos_iter ((w.alloc (.cells #[.int .u8 0, .int .u8 0, .int .u8 0, .int .u8 0] 26)).alloc (.cells #[.int .i64 0] 45)) s p
    rw [World.size_alloc, World.size_alloc] at this
    exact this
  go_loopw [4] (fun x wr => ∃ (k : Nat) (n : Int), k ≤ 8 ∧ wr = ((w.alloc (.cells #[.int .u8 0, .int .u8 0, .int .u8 0, .int .u8 0] 26)).alloc (.cells #[.int .i64 0] 45)).iter s k ∧ x = .int .u32 n ∧ wordUp s k = some n)
    (fun _ wr => 8 - wr.iterPos ((w.alloc (.cells #[.int .u8 0, .int .u8 0, .int .u8 0, .int .u8 0] 26)).alloc (.cells #[.int .i64 0] 45)).heap.size)
  case atStart => exact ⟨0, 0, by omega, rfl, rfl, rfl⟩
  case round =>
    obtain ⟨k, n, hk, rfl, rfl, hwd⟩ := hrel
    have hbd := wordUp_bd s k n hwd
    have HW := Lib.hid hwd
    clear hwd
    by_cases hlt : k < 8
    · have hp : k < s.size := by rw [H8.out]; exact hlt
      have hnx : ∀ ty, (Instr.next (.pointer (some ⟨w.heap.size + 1 + 1, 0, none⟩)) true ty).run Try.prog (((w.alloc (.cells #[.int .u8 0, .int .u8 0, .int .u8 0, .int .u8 0] 26)).alloc (.cells #[.int .i64 0] 45)).iter s k) = .ok (.tuple #[.bool true, .int .i64 k, .int .i32 (Utf8.decode s k).1]) (((w.alloc (.cells #[.int .u8 0, .int .u8 0, .int .u8 0, .int .u8 0] 26)).alloc (.cells #[.int .i64 0] 45)).iter s (k + (Utf8.decode s k).2)) := fun ty => by
        have := run_next_any (P := Try.prog) ((w.alloc (.cells #[.int .u8 0, .int .u8 0, .int .u8 0, .int .u8 0] 26)).alloc (.cells #[.int .i64 0] 45)) s k ty hp
        rw [World.size_alloc, World.size_alloc] at this
        exact this
      cases hv : byteAt s k with
      | some v =>
        have hv' : hexVal (s[k].toNat : Int) = some v := by unfold byteAt at hv; rw [dif_pos hp] at hv; exact hv
        have hvb := hexVal_bd hv'
        have hd : Utf8.decode s k = (s[k].toNat, 1) := decode_ascii s k hp (by omega)
        have hws : wordUp s (k + 1) = some (n * 16 + v) := by unfold wordUp; rw [HW.out, hv]; rfl
        have HS := Lib.hid hws
        have hb2 := wordUp_bd s (k + 1) _ hws
        have hpw : (16 : Int) ^ (k + 1) ≤ 4294967296 := by
          rcases (by omega : k = 0 ∨ k = 1 ∨ k = 2 ∨ k = 3 ∨ k = 4 ∨ k = 5 ∨ k = 6 ∨ k = 7) with h | h | h | h | h | h | h | h <;> subst h <;> decide
        have hor : bits .or .u32 (n * 16) v = n * 16 + v := u32_or_low 4 n v 16 (by decide) hbd.1 hvb.1 (by omega) (by omega)
        have HO := Lib.hid hor
        have hn1 : 0 ≤ n := hbd.1
        have hn2 : n * 16 < 4294967296 := by omega
        rw [hd] at hnx
        dsimp only at hnx
        have HV := Lib.hid hv'
        clear hws hor hv hv' hd hbd hb2 hpw
        go_wp2_with (go_at_call 42; refine (digit_hex _ v HV.out _).mono ?_; rintro e w' ⟨rfl, rfl⟩)
        go_roundw
        case rel => exact ⟨k + 1, n * 16 + v, hlt, rfl, by rw [HO.out], HS.out⟩
        case measure => simp [hip]; omega
      | none =>
        have hno : hexVal (((Utf8.decode s k).1 : Nat) : Int) = none := by
          by_cases ha : s[k].toNat < 128
          · rw [decode_ascii s k hp ha]; unfold byteAt at hv; rw [dif_pos hp] at hv; exact hv
          · have := (decode_high s k hp (by omega)).1
            unfold hexVal
            rw [if_neg (by omega), if_neg (by omega)]
        have hw1 : wordUp s (k + 1) = none := by unfold wordUp; rw [HW.out, hv]; rfl
        have HN := Lib.hid (wordUp_none s (k + 1) hw1 8 hlt)
        have HO := Lib.hid hno
        clear hv hno hw1
        generalize (Utf8.decode s k).1 = r at *
        generalize k + (Utf8.decode s k).2 = k2 at *
        go_wp2_with (go_at_call 42; refine (digit_bad _ HO.out _).mono ?_; rintro e w' ⟨rfl, rfl⟩)
        refine leaves_cons (f := 41) (args := #[.pointer (some ⟨w.heap.size, 0, none⟩), .pointer (some ⟨w.heap.size + 1, 0, none⟩)]) (by simp) (by simp [go_sem]) ?_
        refine (read1_panicking w.heap.size (w.heap.size + 1) (by omega) [] _ (.int .u8 0) (.int .u8 0) (.int .u8 0) (.int .u8 0) (.int .i64 0) ?_ ?_ ?_ ?_ ?_ ?_ ?_ ?_ ?_ ?_ ?_ ?_).mono ?_
        iterate 4 (rw [iter_cell _ _ _ _ _ (by simp; omega)]; simp [go_sem])
        iterate 4 (rw [iter_frozen _ _ _ _ _ (by simp; omega)]; simp [go_sem])
        · rw [iter_cell _ _ _ _ _ (by simp)]; simp [go_sem]
        · rw [iter_frozen _ _ _ _ _ (by simp)]; simp [go_sem]
        · rw [iter_size]; simp; omega
        · rw [iter_size]; simp
        rintro e u' w'' ⟨rfl, rfl, rfl⟩
        show Leaves _ _ _ _ [] .returning _
        refine ⟨.tuple #[col 0 0 0 0, .int .i64 130], ?_, readsAs_no H8.out HN.out, ?_⟩
        · have k1 : w.heap.size < (((w.alloc (.cells #[.int .u8 0, .int .u8 0, .int .u8 0, .int .u8 0] 26)).alloc (.cells #[.int .i64 0] 45)).iter s k2).heap.size := by rw [iter_size]; simp; omega
          have k2' : w.heap.size + 1 < (((w.alloc (.cells #[.int .u8 0, .int .u8 0, .int .u8 0, .int .u8 0] 26)).alloc (.cells #[.int .i64 0] 45)).iter s k2).heap.size := by rw [iter_size]; simp
          have i1 := fun o => iter_cell ((w.alloc (.cells #[.int .u8 0, .int .u8 0, .int .u8 0, .int .u8 0] 26)).alloc (.cells #[.int .i64 0] 45)) s k2 w.heap.size o (by simp; omega)
          have i2 := fun o => iter_cell ((w.alloc (.cells #[.int .u8 0, .int .u8 0, .int .u8 0, .int .u8 0] 26)).alloc (.cells #[.int .i64 0] 45)) s k2 (w.heap.size + 1) o (by simp)
          simp [results, Try.results26, go_sem, four, i1, i2, k1, k2']
        · refine Below.alloc (Below.setCell (Below.setCell (Below.setCell (Below.setCell (Below.setCell ?_ (by dsimp only; omega) _) (by dsimp only; omega) _) (by dsimp only; omega) _) (by dsimp only; omega) _) (by dsimp only; omega) _) (by simp only [World.size_setCell, iter_size, World.size_alloc]; omega) _
          exact (((Below.refl _ _).alloc (Nat.le_refl _) _).alloc (by simp) _).alloc (by simp; omega) _
    · obtain rfl : k = 8 := by omega
      have hnx : ∀ ty, (Instr.next (.pointer (some ⟨w.heap.size + 1 + 1, 0, none⟩)) true ty).run Try.prog (((w.alloc (.cells #[.int .u8 0, .int .u8 0, .int .u8 0, .int .u8 0] 26)).alloc (.cells #[.int .i64 0] 45)).iter s 8) = .ok (.tuple #[.bool false]) (((w.alloc (.cells #[.int .u8 0, .int .u8 0, .int .u8 0, .int .u8 0] 26)).alloc (.cells #[.int .i64 0] 45)).iter s 8) := fun ty => by
        have := run_next_end (P := Try.prog) ((w.alloc (.cells #[.int .u8 0, .int .u8 0, .int .u8 0, .int .u8 0] 26)).alloc (.cells #[.int .i64 0] 45)) s 8 ty (by rw [H8.out]; omega)
        rw [World.size_alloc, World.size_alloc] at this
        exact this
      have hbu : n ≤ 4294967295 := by have := hbd.2; omega
      have hn0 := hbd.1
      clear hbd
      go_wp2_with fail
      refine (unpack_any _ n hn0 hbu).mono ?_
      rintro e w1 ⟨rfl, hB⟩
      obtain ⟨m, rfl⟩ : ∃ m : Near (w.heap.size + 1 + 1 + 1) _, w1 = m.u := ⟨⟨w1, hB.mono (by rw [iter_size]; simp)⟩, rfl⟩
      have hn := @near_cell (w.heap.size + 1 + 1 + 1)
      have hz := @near_frozen (w.heap.size + 1 + 1 + 1)
      have i1 := fun o => iter_cell (((w.alloc (.cells #[.int .u8 0, .int .u8 0, .int .u8 0, .int .u8 0] 26)).alloc (.cells #[.int .i64 0] 45))) s 8 w.heap.size o (by simp; omega)
      have i2 := fun o => iter_cell (((w.alloc (.cells #[.int .u8 0, .int .u8 0, .int .u8 0, .int .u8 0] 26)).alloc (.cells #[.int .i64 0] 45))) s 8 (w.heap.size + 1) o (by simp)
      have j1 := fun o => iter_frozen (((w.alloc (.cells #[.int .u8 0, .int .u8 0, .int .u8 0, .int .u8 0] 26)).alloc (.cells #[.int .i64 0] 45))) s 8 w.heap.size o (by simp; omega)
      have j2 := fun o => iter_frozen (((w.alloc (.cells #[.int .u8 0, .int .u8 0, .int .u8 0, .int .u8 0] 26)).alloc (.cells #[.int .i64 0] 45))) s 8 (w.heap.size + 1) o (by simp)
      go_wp2
      refine leaves_cons (f := 41) (args := #[.pointer (some ⟨w.heap.size, 0, none⟩), .pointer (some ⟨w.heap.size + 1, 0, none⟩)]) (by simp) (by simp [go_sem]) ?_
      refine (read1_idle _ _ _).mono ?_
      rintro e u' w'' ⟨rfl, rfl, rfl⟩
      show Leaves _ _ _ _ [] .returning _
      refine ⟨.tuple #[(unword n).val, .int .i64 0], ?_, readsAs_ok H8.out HW.out, ?_⟩
      · have k1 : w.heap.size < m.u.heap.size := by have := m.h.size; rw [iter_size] at this; simp at this; omega
        have k2' : w.heap.size + 1 < m.u.heap.size := by have := m.h.size; rw [iter_size] at this; simp at this; omega
        have e0 : m.u.cell? ⟨w.heap.size, 0, none⟩ = some (.int .u8 0) := (hn m _ 0 (by omega)).trans ((i1 0).trans (by simp [go_sem]))
        have e1 : m.u.cell? ⟨w.heap.size, 1, none⟩ = some (.int .u8 0) := (hn m _ 1 (by omega)).trans ((i1 1).trans (by simp [go_sem]))
        have e2 : m.u.cell? ⟨w.heap.size, 2, none⟩ = some (.int .u8 0) := (hn m _ 2 (by omega)).trans ((i1 2).trans (by simp [go_sem]))
        have e3 : m.u.cell? ⟨w.heap.size, 3, none⟩ = some (.int .u8 0) := (hn m _ 3 (by omega)).trans ((i1 3).trans (by simp [go_sem]))
        have e4 : m.u.cell? ⟨w.heap.size + 1, 0, none⟩ = some (.int .i64 0) := (hn m _ 0 (by omega)).trans ((i2 0).trans (by simp [go_sem]))
        clear hn hz
        simp [results, Try.results26, go_sem, e0, e1, e2, e3, e4, k1, k2']
      · have k1 : w.heap.size ≤ m.u.heap.size := by have := m.h.size; rw [iter_size] at this; simp at this; omega
        refine Below.alloc (Below.setCell (Below.setCell (Below.setCell (Below.setCell (Below.setCell (Below.trans ?_ (m.h.mono (by omega))) (by dsimp only; omega) _) (by dsimp only; omega) _) (by dsimp only; omega) _) (by dsimp only; omega) _) (by dsimp only; omega) _) (by simp only [World.size_setCell]; exact k1) _
        exact (((Below.refl _ _).alloc (Nat.le_refl _) _).alloc (by simp) _).alloc (by simp; omega) _

theorem read_any (s : ByteArray) (w : World) :
    Calls Try.prog 26 #[.string s] w fun e w' => readsAs s e ∧ Below w.heap.size w w' := by
  by_cases h8 : s.size = 8
  · exact read_eight s h8 w
  · have hne : ((s.size : Int) != 8) = true := by rw [bne_iff_ne]; omega
    go_enter_defers Try.func26, Try.ntmps26
    go_wp2_with fail
    refine ⟨.tuple #[col 0 0 0 0, .int .i64 130], ?_, readsAs_len h8, ?_⟩
    · simp [results, Try.results26, go_sem]
    · exact ((Below.refl _ _).alloc (Nat.le_refl _) _).alloc (by simp) _
end Go.Proofs.Ytcfollajmmlfnaa
