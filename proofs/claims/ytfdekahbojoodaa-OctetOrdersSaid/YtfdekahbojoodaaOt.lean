/- numbers and their bytes, there and back -/
import Derived.Test.YtfdekahbojoodaaOs
namespace Go.Proofs.Ytfdekahbojoodaa
set_option linter.unusedVariables false
set_option linter.unusedSimpArgs false
open Go.RowKit

theorem numR_eq {a b : Nat} (ha : a < 72057594037927936) (hb : b < 256) : numR (a : Int) (b : Int) = ((a * 256 + b : Nat) : Int) := by
  have h := or_low (n := a) (b := b) (j := 8) (by omega) (by omega)
  unfold numR
  rw [IntWalk.u64_in _ (by omega), IntWalk.u64_in _ (by omega), h]
  omega
def valD : List Nat → Nat
  | [] => 0
  | b :: r => b * 256 ^ r.length + valD r
theorem valD_lt : ∀ m : List Nat, (∀ x ∈ m, x < 256) → valD m < 256 ^ m.length
  | [], _ => by simp [valD]
  | b :: r, h => by
    have h1 := valD_lt r fun x hx => h x (List.mem_cons_of_mem _ hx)
    have h2 := h b (List.mem_cons_self ..)
    rw [valD, List.length_cons, Nat.pow_succ]
    generalize 256 ^ r.length = q at *
    have : (b + 1) * q ≤ 256 * q := Nat.mul_le_mul_right _ h2
    rw [Nat.add_mul, Nat.one_mul] at this
    omega
theorem foldV : ∀ (m : List Nat) (a : Nat), (∀ x ∈ m, x < 256) → a * 256 ^ m.length + 256 ^ m.length ≤ 18446744073709551616 → (m.map (fun x : Nat => (x : Int))).foldl numR (a : Int) = ((a * 256 ^ m.length + valD m : Nat) : Int)
  | [], a, _, _ => by simp [valD]
  | b :: r, a, h, hb => by
    have hb1 := h b (List.mem_cons_self ..)
    rw [List.length_cons, Nat.pow_succ] at hb
    have hp : 1 ≤ 256 ^ r.length := Nat.pow_pos (by decide)
    have ha : a < 72057594037927936 := by
      have h1 : (a + 1) * 256 ≤ (a + 1) * (256 ^ r.length * 256) := Nat.mul_le_mul_left _ (by omega)
      rw [Nat.add_mul a 1 (256 ^ r.length * 256), Nat.one_mul] at h1
      omega
    rw [List.map_cons, List.foldl_cons, numR_eq ha hb1, foldV r (a * 256 + b) (fun x hx => h x (List.mem_cons_of_mem _ hx)) ?_]
    · rw [valD, List.length_cons, Nat.pow_succ, Nat.add_mul, Nat.mul_assoc, Nat.mul_comm 256]
      congr 1
      omega
    · generalize 256 ^ r.length = q at *
      have h1 : (a * 256 + b + 1) * q ≤ (a * 256 + 256) * q := Nat.mul_le_mul_right _ (by omega)
      rw [Nat.add_mul (a * 256 + b) 1 q, Nat.one_mul, Nat.add_mul (a * 256) 256 q, Nat.mul_assoc, Nat.mul_comm 256 q] at h1
      omega
def digs (n : Nat) : Nat → List Nat
  | 0 => []
  | k + 1 => n / 256 ^ k % 256 :: digs n k
theorem digs_len (n : Nat) : ∀ k, (digs n k).length = k
  | 0 => rfl
  | k + 1 => by rw [digs, List.length_cons, digs_len n k]
theorem digs_lt (n : Nat) : ∀ k, ∀ x ∈ digs n k, x < 256
  | 0, x, h => by cases h
  | k + 1, x, h => by
    rw [digs, List.mem_cons] at h
    rcases h with rfl | h
    · exact Nat.mod_lt _ (by decide)
    · exact digs_lt n k x h
theorem layV (n : Nat) : ∀ k, layR (n : Int) k = (digs n k).map (fun x : Nat => (x : Int))
  | 0 => rfl
  | k + 1 => by rw [layR_head, digs, List.map_cons, layV n k]
theorem valD_digs (n : Nat) : ∀ k, valD (digs n k) = n % 256 ^ k
  | 0 => by rw [digs, valD, Nat.pow_zero, Nat.mod_one]
  | k + 1 => by
    rw [digs, valD, digs_len, valD_digs n k, Nat.pow_succ, Nat.mod_mul, Nat.mul_comm]
    omega
theorem digs_valD : ∀ (m : List Nat) (c : Nat), (∀ x ∈ m, x < 256) → digs (valD m + c * 256 ^ m.length) m.length = m
  | [], _, _ => rfl
  | b :: r, c, h => by
    have hb := h b (List.mem_cons_self ..)
    have hr := fun x hx => h x (List.mem_cons_of_mem _ hx)
    have hl := valD_lt r hr
    have hp : 0 < 256 ^ r.length := Nat.pow_pos (by decide)
    have e : valD (b :: r) + c * 256 ^ (b :: r).length = valD r + (b + 256 * c) * 256 ^ r.length := by
      rw [valD, List.length_cons, Nat.pow_succ, Nat.add_mul, Nat.mul_comm (256 ^ r.length) 256, ← Nat.mul_assoc, Nat.mul_comm c 256]
      omega
    rw [e, List.length_cons, digs, digs_valD r _ hr, Nat.add_mul_div_right _ _ hp, Nat.div_eq_of_lt hl]
    congr 1
    omega
/-- a row of bytes -/
def isBs (l : List Int) : Prop := ∀ x ∈ l, 0 ≤ x ∧ x ≤ 255
theorem nats : ∀ {l : List Int}, isBs l → ∃ m : List Nat, l = m.map (fun x : Nat => (x : Int)) ∧ ∀ x ∈ m, x < 256
  | [], _ => ⟨[], rfl, fun x h => by cases h⟩
  | b :: r, h => by
    obtain ⟨m, rfl, hm⟩ := nats (l := r) fun x hx => h x (List.mem_cons_of_mem _ hx)
    have hb := h b (List.mem_cons_self ..)
    obtain ⟨n, rfl⟩ := Int.eq_ofNat_of_zero_le hb.1
    refine ⟨n :: m, rfl, fun x hx => ?_⟩
    rcases List.mem_cons.1 hx with rfl | hx
    · omega
    · exact hm x hx
theorem isBs_take {l : List Int} (h : isBs l) (k : Nat) : isBs (l.take k) := fun x hx => h x (List.mem_of_mem_take hx)
theorem isBs_drop {l : List Int} (h : isBs l) (k : Nat) : isBs (l.drop k) := fun x hx => h x (List.mem_of_mem_drop hx)
theorem isBs_app {l r : List Int} (h : isBs l) (h2 : isBs r) : isBs (l ++ r) := fun x hx => (List.mem_append.1 hx).elim (h x) (h2 x)
theorem isBs_bytes {w : Nat} {n : Int} (hw : 1 ≤ w ∧ w ≤ 8) (hn : 0 ≤ n) : isBs (bytesN w n) := by
  obtain ⟨n, rfl⟩ := Int.eq_ofNat_of_zero_le hn
  rw [bytes_lay _ w hw, layV]
  intro x hx
  obtain ⟨y, hy, rfl⟩ := List.mem_map.1 hx
  have := digs_lt n w y hy
  omega
theorem pow8 {w : Nat} (h : w ≤ 8) : 256 ^ w ≤ 18446744073709551616 := Nat.pow_le_pow_right (n := 256) (by decide) h
/-- the number of bytes, w of them -/
theorem numN_val {w : Nat} {l : List Int} (hb : isBs l) (hw : w ≤ 8) (hl : w ≤ l.length) : ∃ m : List Nat, l.take w = m.map (fun x : Nat => (x : Int)) ∧ (∀ x ∈ m, x < 256) ∧ m.length = w ∧ numN w l = (valD m : Nat) := by
  obtain ⟨m, hm, hx⟩ := nats (isBs_take hb w)
  have hlen : m.length = w := by
    have := congrArg List.length hm
    rw [List.length_take, List.length_map] at this
    omega
  refine ⟨m, hm, hx, hlen, ?_⟩
  have h := foldV m 0 hx (by rw [hlen]; have := pow8 hw; omega)
  rw [numN, hm]
  rw [Nat.zero_mul, Nat.zero_add] at h
  exact h
theorem numN_rng {w : Nat} {l : List Int} (hb : isBs l) (hw : 1 ≤ w ∧ w ≤ 8) (hl : w ≤ l.length) : 0 ≤ numN w l ∧ numN w l ≤ 18446744073709551615 ∧ fitsN w (numN w l) = true := by
  obtain ⟨m, hm, hx, hlen, e⟩ := numN_val hb hw.2 hl
  have h1 := valD_lt m hx
  have h2 := pow8 hw.2
  rw [hlen] at h1
  rw [e]
  refine ⟨by omega, by omega, (fitsN_iff hw (by omega)).2 ?_⟩
  have : ((256 : Int) ^ w) = ((256 ^ w : Nat) : Int) := by rw [Int.natCast_pow]; rfl
  rw [this]
  omega
theorem bytes_numN {w : Nat} {l : List Int} (hb : isBs l) (hw : 1 ≤ w ∧ w ≤ 8) (hl : w ≤ l.length) : bytesN w (numN w l) = l.take w := by
  obtain ⟨m, hm, hx, hlen, e⟩ := numN_val hb hw.2 hl
  have h := digs_valD m 0 hx
  rw [Nat.zero_mul, Nat.add_zero, hlen] at h
  rw [e, bytes_lay _ w hw, layV, h, hm]
theorem numN_bytes {w : Nat} {n : Int} (r : List Int) (hw : 1 ≤ w ∧ w ≤ 8) (hn : 0 ≤ n ∧ n ≤ 18446744073709551615) (hf : fitsN w n = true) : numN w (bytesN w n ++ r) = n := by
  have h1 := (fitsN_iff hw hn).1 hf
  obtain ⟨n, rfl⟩ := Int.eq_ofNat_of_zero_le hn.1
  have e : ((256 : Int) ^ w) = ((256 ^ w : Nat) : Int) := by rw [Int.natCast_pow]; rfl
  rw [e] at h1
  have h := foldV (digs n w) 0 (digs_lt n w) (by rw [digs_len]; have := pow8 hw.2; omega)
  rw [Nat.zero_mul, Nat.zero_add, valD_digs, Nat.mod_eq_of_lt (by omega)] at h
  rw [numN, List.take_left' (bytesN_len hw.2), bytes_lay _ w hw, layV]
  exact h
def fitsA : List Int → List Int → Bool
  | w :: ws, n :: ns => fitsN w.toNat n && fitsA ws ns
  | _, _ => true
theorem fitsA_at : ∀ {ws ns : List Int}, fitsA ws ns = true → ∀ (k : Nat) (h : k < ws.length) (h2 : k < ns.length), fitsN (ws[k]).toNat ns[k] = true
  | w :: ws, n :: ns, h, 0, _, _ => by rw [fitsA, Bool.and_eq_true] at h; exact h.1
  | w :: ws, n :: ns, h, k + 1, h1, h2 => by rw [fitsA, Bool.and_eq_true] at h; exact fitsA_at h.2 k (by simpa using h1) (by simpa using h2)
  | [], _, _, k, h, _ => by simp at h
  | _ :: _, [], _, k, _, h => by simp at h
theorem fitsA_not : ∀ {ws ns : List Int}, ns.length = ws.length → fitsA ws ns = false → ∃ j, j < ws.length ∧ (∀ (k : Nat) (h : k < ws.length) (h2 : k < ns.length), k < j → fitsN (ws[k]).toNat ns[k] = true) ∧ ∀ (h : j < ws.length) (h2 : j < ns.length), fitsN (ws[j]).toNat ns[j] = false
  | [], _, _, h => by simp [fitsA] at h
  | _ :: _, [], h, _ => by simp at h
  | w :: ws, n :: ns, hl, h => by
    cases hf : fitsN w.toNat n with
    | false => exact ⟨0, by simp, fun k _ _ h => by omega, fun _ _ => hf⟩
    | true =>
      rw [fitsA, hf, Bool.true_and] at h
      obtain ⟨j, h1, h2, h3⟩ := fitsA_not (by simpa using hl) h
      refine ⟨j + 1, by simpa using h1, fun k hk hk2 hkj => ?_, fun hk hk2 => h3 (by simpa using hk) (by simpa using hk2)⟩
      match k with
      | 0 => exact hf
      | k + 1 => exact h2 k (by simpa using hk) (by simpa using hk2) (by omega)
def isNs (l : List Int) : Prop := ∀ x ∈ l, 0 ≤ x ∧ x ≤ 18446744073709551615
theorem layN_sum : ∀ {ws ns : List Int}, ws.all isW = true → ns.length = ws.length → ((layN ws ns).length : Int) = ws.sum
  | [], ns, _, h => by cases ns <;> simp [layN]
  | w :: ws, [], _, h => by simp at h
  | w :: ws, n :: ns, ha, h => by
    rw [List.all_cons, Bool.and_eq_true] at ha
    have hw := isW_iff.1 ha.1
    have ih := layN_sum (ns := ns) ha.2 (by simpa using h)
    rw [layN, List.length_append, bytesN_len (by omega), List.sum_cons]
    omega
theorem split_lay : ∀ {ws ns : List Int}, ws.all isW = true → ns.length = ws.length → isNs ns → fitsA ws ns = true → splitN ws (layN ws ns) = ns
  | [], ns, _, h, _, _ => by cases ns <;> simp_all [splitN]
  | w :: ws, [], _, h, _, _ => by simp at h
  | w :: ws, n :: ns, ha, h, hn, hf => by
    rw [List.all_cons, Bool.and_eq_true] at ha
    rw [fitsA, Bool.and_eq_true] at hf
    have hw := isW_iff.1 ha.1
    have hw' : 1 ≤ w.toNat ∧ w.toNat ≤ 8 := by omega
    rw [splitN, layN, numN_bytes _ hw' (hn n (List.mem_cons_self ..)) hf.1, List.drop_left' (bytesN_len hw'.2), split_lay ha.2 (by simpa using h) (fun x hx => hn x (List.mem_cons_of_mem _ hx)) hf.2]
theorem lay_split : ∀ {ws b : List Int}, ws.all isW = true → isBs b → (b.length : Int) = ws.sum → layN ws (splitN ws b) = b ∧ fitsA ws (splitN ws b) = true ∧ isNs (splitN ws b)
  | [], b, _, _, h => by
    have : b = [] := by simpa using h
    subst this
    exact ⟨rfl, rfl, fun x hx => by cases hx⟩
  | w :: ws, b, ha, hb, h => by
    rw [List.all_cons, Bool.and_eq_true] at ha
    have hw := isW_iff.1 ha.1
    have hw' : 1 ≤ w.toNat ∧ w.toNat ≤ 8 := by omega
    have hs := sum_bd ha.2 ws.length (Nat.le_refl _)
    rw [List.take_length] at hs
    rw [List.sum_cons] at h
    have hl : w.toNat ≤ b.length := by omega
    obtain ⟨h1, h2, h3⟩ := lay_split (ws := ws) (b := b.drop w.toNat) ha.2 (isBs_drop hb _) (by rw [List.length_drop]; omega)
    obtain ⟨r1, r2, r3⟩ := numN_rng hb hw' hl
    refine ⟨by rw [splitN, layN, bytes_numN hb hw' hl, h1, List.take_append_drop], by rw [splitN, fitsA, r3, h2]; rfl, fun x hx => ?_⟩
    rw [splitN] at hx
    rcases List.mem_cons.1 hx with rfl | hx
    · exact ⟨r1, r2⟩
    · exact h3 x hx

end Go.Proofs.Ytfdekahbojoodaa
