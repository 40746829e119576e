/- the law of bursts, walked -/
import Derived.Test.YtnpfbeoibbejeaaKm
namespace Go.Proofs.Ytnpfbeoibbejeaa
set_option linter.unusedVariables false
set_option linter.unusedSimpArgs false
open Go.RowKit

theorem shl8 (y : Nat) : y <<< 8 = y * 256 := by rw [Nat.shiftLeft_eq]
theorem mod_split (D n : Nat) : D % 2 ^ (8 * (n + 1)) = D % 256 + ((D >>> 8) % 2 ^ (8 * n)) * 256 := by
  rw [show (2 : Nat) ^ (8 * (n + 1)) = 256 * 2 ^ (8 * n) by rw [Nat.mul_succ, Nat.pow_add, Nat.mul_comm], Nat.mod_mul, Nat.shiftRight_eq_div_pow, Nat.mul_comm 256]
theorem spl_cons (D x : Nat) (l : List Nat) : spl D (x :: l) = (x ^^^ (D % 256)) :: spl (D >>> 8) l := by
  unfold spl
  rw [List.mapIdx_cons]
  congr 1
  congr 1
  funext k y
  rw [← Nat.shiftRight_add, show 8 * (k + 1) = 8 + 8 * k by omega]
theorem valL_spl : ∀ (D : Nat) (l : List Nat), valL (spl D l) = valL l ^^^ (D % 2 ^ (8 * l.length))
  | D, [] => by rw [show spl D [] = [] from rfl, List.length_nil, Nat.mul_zero, Nat.pow_zero, Nat.mod_one, Nat.xor_zero]
  | D, x :: l => by
    rw [spl_cons, valL, valL, valL_spl (D >>> 8) l, List.length_cons, mod_split, ← low_xor (Nat.mod_lt D (by decide)), Nat.shiftLeft_xor_distrib]
    generalize valL l <<< 8 = a
    generalize ((D >>> 8) % 2 ^ (8 * l.length)) <<< 8 = b
    generalize D % 256 = c
    rw [Nat.xor_assoc x c, Nat.xor_assoc x a, ← Nat.xor_assoc c a, Nat.xor_comm c a, Nat.xor_assoc a c]
theorem bytes_zero : ∀ (n D : Nat), (∀ k, k < n → (D >>> (8 * k)) % 256 = 0) ↔ D % 2 ^ (8 * n) = 0
  | 0, D => by simp [Nat.mod_one]
  | n + 1, D => by
    rw [mod_split]
    have ih := bytes_zero n (D >>> 8)
    have hs : ∀ k, D >>> 8 >>> (8 * k) = D >>> (8 * (k + 1)) := fun k => by rw [← Nat.shiftRight_add, show 8 * (k + 1) = 8 + 8 * k by omega]
    simp only [hs] at ih
    constructor
    · intro h
      have h0 := h 0 (by omega)
      have h1 := ih.1 fun k hk => h (k + 1) (by omega)
      rw [h1]
      simpa using h0
    · intro h k hk
      have h1 := ih.2 (by omega)
      cases k with
      | zero => simp; omega
      | succ k => exact h1 k (by omega)
theorem spl_mod {mask bit n : Nat} (hb : bit < 8 * n) : (mask <<< bit) % 2 ^ (8 * n) = (mask % 2 ^ (8 * n - bit)) <<< bit := by
  rw [Nat.shiftLeft_eq, Nat.shiftLeft_eq, show (2 : Nat) ^ (8 * n) = 2 ^ (8 * n - bit) * 2 ^ bit by rw [← Nat.pow_add]; congr 1; omega, Nat.mul_mod_mul_right]
theorem broken {l : List Nat} {mask bit : Nat} (r : Nat) (hb : bit < 8 * l.length) (hm : mask < 2 ^ 32) (h0 : ¬ ∀ k, k < l.length → ((mask <<< bit) >>> (8 * k)) % 256 = 0) : fed r (spl (mask <<< bit) l) ≠ fed r l := by
  refine burst (m := mask % 2 ^ (8 * l.length - bit)) (bit := bit) (spl_len _ _) (by rw [valL_spl, spl_mod hb]) (by omega) (fun e => h0 ((bytes_zero _ _).2 ?_)) (Nat.lt_of_le_of_lt (Nat.mod_le _ _) hm)
  rw [spl_mod hb, e, Nat.zero_shiftLeft]
theorem spl_ne {l : List Nat} {mask bit : Nat} (hb : bit < 8 * l.length) (hm : mask < 2 ^ 32) (h0 : ¬ ∀ k, k < l.length → ((mask <<< bit) >>> (8 * k)) % 256 = 0) : spl (mask <<< bit) l ≠ l := fun e => broken 0 hb hm h0 (by rw [e])
theorem spl_spl (D : Nat) (l : List Nat) : spl D (spl D l) = l := by
  apply List.ext_getElem?
  intro k
  rw [spl_at, spl_at]
  cases l[k]? with
  | none => rfl
  | some x => simp [xor_xor]
theorem mask_none {mask bit n : Nat} (hb : bit < 8 * n) (hm : mask < 2 ^ 32) (h0 : ∀ k, k < n → ((mask <<< bit) >>> (8 * k)) % 256 = 0) : mask = 0 ∨ 8 * n < bit + 32 := by
  have h := (bytes_zero _ _).1 h0
  rw [spl_mod hb, Nat.shiftLeft_eq] at h
  have hp : 0 < 2 ^ bit := Nat.pow_pos (by decide)
  have h1 : mask % 2 ^ (8 * n - bit) = 0 := by
    rcases Nat.mul_eq_zero.1 h with h | h
    · exact h
    · omega
  rcases Nat.lt_or_ge (8 * n) (bit + 32) with h2 | h2
  · exact .inr h2
  · left
    rw [Nat.mod_eq_of_lt (Nat.lt_of_lt_of_le hm (Nat.pow_le_pow_right (by decide) (by omega)))] at h1
    exact h1

theorem seal_lt {l : List Nat} (h : isN l) : isN (sealC l) := fun x hx => by
  rcases List.mem_append.1 hx with hx | hx
  · exact h x hx
  · exact four_lt (more_lt h (by decide)) x hx
theorem seal_take (l : List Nat) : (sealC l).take ((sealC l).length - 4) = l := by
  rw [sealC_len, Nat.add_sub_cancel, sealC, List.take_left]
theorem seal_drop (l : List Nat) : (sealC l).drop ((sealC l).length - 4) = four (moreC 0 l) := by
  rw [sealC_len, Nat.add_sub_cancel, sealC, List.drop_left]
theorem open_seal (l : List Nat) : four (moreC 0 ((sealC l).take ((sealC l).length - 4))) = (sealC l).drop ((sealC l).length - 4) := by rw [seal_take, seal_drop]
theorem not_sealed {l m : List Nat} (hl : isN l) (hm : isN m) (h4 : 4 ≤ m.length) (h : fed ones m ≠ fed ones (sealC l)) : ¬ four (moreC 0 (m.take (m.length - 4))) = m.drop (m.length - 4) := by
  intro e
  obtain ⟨w, hw, et⟩ := four_of (l := m.drop (m.length - 4)) (by rw [List.length_drop]; omega) (fun x hx => hm x (List.mem_of_mem_drop hx))
  rw [et] at e
  have hbn : isN (m.take (m.length - 4)) := fun x hx => hm x (List.mem_of_mem_take hx)
  have hw2 := four_inj (more_lt hbn (by decide)) hw e
  have h1 := (seal_iff hbn hw).2 (by rw [sum_more]; exact hw2.symm)
  rw [← et, List.take_append_drop] at h1
  have h2 : fed ones (sealC l) = Zs 32 ones := (seal_iff hl (more_lt hl (by decide))).2 (sum_more l).symm
  exact h (h1.trans h2.symm)
theorem burst_no {l : List Nat} {mask bit : Nat} (hl : isN l) (hb : bit < 8 * (sealC l).length) (hm : mask < 2 ^ 32) (h0 : ¬ ∀ k, k < (sealC l).length → ((mask <<< bit) >>> (8 * k)) % 256 = 0) :
    ¬ four (moreC 0 ((spl (mask <<< bit) (sealC l)).take ((spl (mask <<< bit) (sealC l)).length - 4))) = (spl (mask <<< bit) (sealC l)).drop ((spl (mask <<< bit) (sealC l)).length - 4) :=
  not_sealed hl (spl_lt (seal_lt hl)) (by rw [spl_len, sealC_len]; omega) (broken ones hb hm h0)
theorem spoil_f (l : List Nat) (bit mask : Nat) (hm : mask < 2 ^ 32) (hb : bit < 8 * l.length) (hl : l.length ≤ 1000000) (hl2 : isN l) (h0 : ¬ ∀ k, k < l.length → ((mask <<< bit) >>> (8 * k)) % 256 = 0) :
    DFun Try.prog 22 [rN l, .val (.int .i64 (bit : Int)), .val (.int .u32 (mask : Int))] [] (.tup [rN (spl (mask <<< bit) l), .val (.int .i64 0)]) [] := by
  have h := freeze (spoil_o l bit mask hm hb hl hl2 h0) rfl
  have e : rN (spl (mask <<< bit) l) = .slf 1 l.length ((spl (mask <<< bit) l).flatMap un8) := by rw [rN, spl_len]
  rw [e]
  exact h
theorem bit_of (p : Int) {n : Nat} (h : 0 < n) : ∃ bit : Nat, bit < 8 * n ∧ IntKind.u64.wrap p % (8 * (n : Int)) = (bit : Int) := by
  have h1 := Int.emod_nonneg (IntKind.u64.wrap p) (show (8 * (n : Int)) ≠ 0 by omega)
  have h2 := Int.emod_lt_of_pos (IntKind.u64.wrap p) (show (0 : Int) < 8 * (n : Int) by omega)
  exact ⟨(IntKind.u64.wrap p % (8 * (n : Int))).toNat, by omega, by omega⟩

set_option maxRecDepth 4000 in
set_option maxHeartbeats 1000000 in
theorem bursts_d (l : List Nat) (p : Int) (mask : Nat) (hl : isN l) (hm : mask < 2 ^ 32) : DFun Try.prog 6 [.slf 1 (l).length ((l).flatMap un8), .val (.int .i64 p), .val (.int .u32 ((mask : Nat) : Int))] [] (.val (.bool true)) [] := by
  refine dcalls_go (N := 106) 0 (by kernel_rfl) Try.func6 rfl rfl rfl (by simp only [fr0, Nat.zero_add, Nat.reduceAdd]; exact rfl) rfl fun s0 hs0 => ?_
  refine dwp_len (t := 0) rfl fun hl0 hL0 => ?_
  refine dwp_seq ?_
  have hkn := few_lt hl
  have hkl := few_len l
  have hsn := seal_lt hkn
  have hsl := sealC_len (l.take (min l.length 400))
  have hwr : 0 ≤ IntKind.u64.wrap p := by rw [IntKind.wrap_u64]; omega
  obtain ⟨bit, hb, hbe⟩ := bit_of p (show 0 < (sealC (l.take (min l.length 400))).length by omega)
  refine dwp_region ?_
  refine walk_r rfl rfl rfl (op_move (.inr rfl) (ev1 rfl)) ?_
  refine walk_nil ?_
  refine dwp_seq ?_
  refine dwp_seq ?_
  refine dwp_region ?_
  refine walk_r rfl rfl rfl (dop_call [] [] [] rfl (ev1 rfl) en rfl rfl (wakes_d) rfl rfl rfl rfl rfl rfl) ?_
  refine walk_r rfl rfl rfl (op_not rfl (ev1 rfl)) ?_
  refine walk_nil ?_
  refine dwp_if_f rfl (rfl) ?_
  refine dwp_skip ?_
  refine dwp_seq ?_
  refine dwp_region ?_
  refine walk_r rfl rfl rfl (op_move (.inl rfl) (ev1 rfl)) ?_
  refine walk_r rfl rfl rfl (dop_call [] [] [] rfl (ev1 rfl) (ec (ev1 rfl) en) rfl rfl (few_d l) rfl rfl rfl rfl rfl rfl) ?_
  refine walk_r rfl rfl rfl (dop_call [] [] [] rfl (ev1 rfl) (ec (ev1 rfl) en) rfl rfl (freeze (seal_o (l.take (min l.length 400)) hkn (by omega)) rfl) rfl rfl rfl rfl rfl rfl) ?_
  refine walk_r rfl rfl rfl (op_move (.inr rfl) (ev1 rfl)) ?_
  refine walk_nil ?_
  refine dwp_seq ?_
  refine dwp_region ?_
  refine walk_r rfl rfl rfl (op_move (.inl rfl) (ev1 rfl)) ?_
  refine walk_r rfl rfl rfl (op_conv ty3 kn49 rfl (ev1 rfl)) ?_
  refine walk_r rfl rfl rfl (op_move (.inl rfl) (ev1 rfl)) ?_
  refine walk_r rfl rfl rfl (op_len rfl sl25 (ev1 rfl)) ?_
  refine walk_r rfl rfl rfl (op_mul' rfl (ev1 rfl) (ev1 rfl) (fun _ => IntWalk.i64_in _ (by omega))) ?_
  refine walk_r rfl rfl rfl (op_conv' ty3 kn49 rfl (ev1 rfl) (fun _ => IntWalk.u64_in _ (by omega))) ?_
  refine walk_r rfl rfl rfl (op_rem' rfl (ev1 rfl) (ev1 rfl) (fun _ => ⟨by omega, by omega⟩)) ?_
  refine walk_r rfl rfl rfl (op_conv' ty49 kn3 rfl (ev1 rfl) (fun _ => IntWalk.i64_in _ (by rw [hbe]; omega))) ?_
  refine walk_r rfl rfl rfl (op_move (.inr rfl) (ev1 rfl)) ?_
  refine walk_nil ?_
  refine dwp_seq ?_
  by_cases h0 : ∀ k, k < (sealC (l.take (min l.length 400))).length → ((mask <<< bit) >>> (8 * k)) % 256 = 0
  · rw [hbe]
    refine dwp_region ?_
    refine walk_r rfl rfl rfl (op_move (.inl rfl) (ev1 rfl)) ?_
    refine walk_r rfl rfl rfl (op_move (.inl rfl) (ev1 rfl)) ?_
    refine walk_r rfl rfl rfl (op_move (.inl rfl) (ev1 rfl)) ?_
    refine walk_r rfl rfl rfl (dop_call [] [] [] rfl (ev1 rfl) (ec (ev1 rfl) (ec (ev1 rfl) (ec (ev1 rfl) en))) rfl rfl (wk_nil2 (sz := 1) (spoil_no (sealC (l.take (min l.length 400))) bit mask hm hb (by omega) hsn h0)) rfl rfl rfl rfl rfl rfl) ?_
    refine walk_r rfl rfl rfl (op_move (.inl rfl) (ev1 rfl)) ?_
    refine walk_r rfl rfl rfl (op_ext rfl (ev1 rfl) rfl) ?_
    refine walk_r rfl rfl rfl (op_ext rfl (ev1 rfl) rfl) ?_
    refine walk_r rfl rfl rfl (op_move (.inr rfl) (ev1 rfl)) ?_
    refine walk_r rfl rfl rfl (op_move (.inr rfl) (ev1 rfl)) ?_
    refine walk_nil ?_
    refine dwp_seq ?_
    refine dwp_seq ?_
    refine dwp_region ?_
    refine walk_r rfl rfl rfl (op_move (.inl rfl) (ev1 rfl)) ?_
    refine walk_r rfl rfl rfl (op_neq rfl (ev1 rfl) (ev1 rfl)) ?_
    refine walk_nil ?_
    refine dwp_if_t rfl (rfl) ?_
    refine dwp_seq ?_
    refine dwp_region ?_
    refine walk_r rfl rfl rfl (op_move (.inl rfl) (ev1 rfl)) ?_
    refine walk_r rfl rfl rfl (op_eql rfl (ev1 rfl) (ev1 rfl)) ?_
    refine walk_r rfl rfl rfl (op_move (.inl rfl) (ev1 rfl)) ?_
    refine walk_gr (gd_t rfl rfl rfl) rfl rfl rfl (op_move (.inl rfl) (ev1 rfl)) ?_
    refine walk_gr (gd_t rfl rfl rfl) rfl rfl rfl (op_len rfl sl25 (ev2 rfl)) ?_
    refine walk_gr (gd_t rfl rfl rfl) rfl rfl rfl (op_eql rfl (ev2 rfl) (ev1 rfl)) ?_
    refine walk_r rfl rfl rfl (op_and rfl (ev1 rfl) (ev3 rfl id)) ?_
    refine walk_r rfl rfl rfl (op_move (.inl rfl) (ev1 rfl)) ?_
    refine walk_gr (gd_t rfl rfl rfl) rfl rfl rfl (op_move (.inl rfl) (ev1 rfl)) ?_
    refine walk_gr (gd_t rfl rfl rfl) rfl rfl rfl (op_eql rfl (ev2 rfl) (ev1 rfl)) ?_
    refine walk_gr (gd_t rfl rfl rfl) rfl rfl rfl (op_move (.inl rfl) (ev2 rfl)) ?_
    refine walk_gr (gd_ff rfl rfl rfl) rfl rfl rfl (op_move (.inl rfl) (ev1 rfl)) ?_
    refine walk_gr (gd_ff rfl rfl rfl) rfl rfl rfl (op_add' rfl (ev2 rfl) (ev1 rfl) (fun hp => IntWalk.i64_in _ (by first | omega | (simp at hp; omega)))) ?_
    refine walk_gr (gd_ff rfl rfl rfl) rfl rfl rfl (op_move (.inl rfl) (ev1 rfl)) ?_
    refine walk_gr (gd_ff rfl rfl rfl) rfl rfl rfl (op_len rfl sl25 (ev2 rfl)) ?_
    refine walk_gr (gd_ff rfl rfl rfl) rfl rfl rfl (op_mul' rfl (ev1 rfl) (ev2 rfl) (fun hp => IntWalk.i64_in _ (by first | omega | (simp at hp; omega)))) ?_
    refine walk_gr (gd_ff rfl rfl rfl) rfl rfl rfl (op_gtr rfl (ev2 rfl) (ev2 rfl)) ?_
    refine walk_gr (gd_t rfl rfl rfl) rfl rfl rfl (op_or rfl (ev2 rfl) (ev2 rfl)) ?_
    refine walk_r rfl rfl rfl (op_and rfl (ev1 rfl) (ev3 rfl id)) ?_
    refine walk_r rfl rfl rfl (op_move (.inr rfl) (ev1 rfl)) ?_
    refine walk_nil ?_
    refine dwp_ret ?_
    refine kend0 (rs1 rfl (rv_t rfl)) rfl ?_
    have hmn := mask_none hb hm h0
    have hme : ((mask : Int) == 0 || decide (8 * ((sealC (l.take (min l.length 400))).length : Int) < (bit : Int) + 32)) = true := by
      rw [Bool.or_eq_true]
      rcases hmn with h | h
      · left; rw [h]; rfl
      · right; exact decide_eq_true (by omega)
    rw [hme]
    rfl
  · rw [hbe]
    refine dwp_region ?_
    refine walk_r rfl rfl rfl (op_move (.inl rfl) (ev1 rfl)) ?_
    refine walk_r rfl rfl rfl (op_move (.inl rfl) (ev1 rfl)) ?_
    refine walk_r rfl rfl rfl (op_move (.inl rfl) (ev1 rfl)) ?_
    refine walk_r rfl rfl rfl (dop_call [] [] [] rfl (ev1 rfl) (ec (ev1 rfl) (ec (ev1 rfl) (ec (ev1 rfl) en))) rfl rfl (spoil_f (sealC (l.take (min l.length 400))) bit mask hm hb (by omega) hsn h0) rfl rfl rfl rfl rfl rfl) ?_
    refine walk_r rfl rfl rfl (op_move (.inl rfl) (ev1 rfl)) ?_
    refine walk_r rfl rfl rfl (op_ext rfl (ev1 rfl) rfl) ?_
    refine walk_r rfl rfl rfl (op_ext rfl (ev1 rfl) rfl) ?_
    refine walk_r rfl rfl rfl (op_move (.inr rfl) (ev1 rfl)) ?_
    refine walk_r rfl rfl rfl (op_move (.inr rfl) (ev1 rfl)) ?_
    refine walk_nil ?_
    refine dwp_seq ?_
    refine dwp_seq ?_
    refine dwp_region ?_
    refine walk_r rfl rfl rfl (op_move (.inl rfl) (ev1 rfl)) ?_
    refine walk_r rfl rfl rfl (op_neq rfl (ev1 rfl) (ev1 rfl)) ?_
    refine walk_nil ?_
    refine dwp_if_f rfl (rfl) ?_
    refine dwp_skip ?_
    refine dwp_seq ?_
    refine dwp_region ?_
    refine walk_r rfl rfl rfl (op_move (.inl rfl) (ev1 rfl)) ?_
    refine walk_r rfl rfl rfl (dop_call [] [] [] rfl (ev1 rfl) (ec (ev1 rfl) en) rfl rfl (wk_nil2 (sz := 1) (open_no (spl (mask <<< bit) (sealC (l.take (min l.length 400)))) (spl_lt hsn) (by rw [spl_len]; omega) (by rw [spl_len]; omega) (burst_no hkn hb hm h0))) rfl rfl rfl rfl rfl rfl) ?_
    refine walk_r rfl rfl rfl (op_move (.inl rfl) (ev1 rfl)) ?_
    refine walk_r rfl rfl rfl (op_ext rfl (ev1 rfl) rfl) ?_
    refine walk_r rfl rfl rfl (op_ext rfl (ev1 rfl) rfl) ?_
    refine walk_r rfl rfl rfl (op_move (.inr rfl) (ev1 rfl)) ?_
    refine walk_r rfl rfl rfl (op_move (.inr rfl) (ev1 rfl)) ?_
    refine walk_nil ?_
    refine dwp_seq ?_
    refine dwp_region ?_
    refine walk_r rfl rfl rfl (op_move (.inl rfl) (ev1 rfl)) ?_
    refine walk_r rfl rfl rfl (op_move (.inl rfl) (ev1 rfl)) ?_
    refine walk_r rfl rfl rfl (op_move (.inl rfl) (ev1 rfl)) ?_
    refine walk_r rfl rfl rfl (dop_call [] [] [] rfl (ev1 rfl) (ec (ev1 rfl) (ec (ev1 rfl) (ec (ev1 rfl) en))) rfl rfl (spoil_f (spl (mask <<< bit) (sealC (l.take (min l.length 400)))) bit mask hm (by rw [spl_len]; exact hb) (by rw [spl_len]; omega) (spl_lt hsn) (by rw [spl_len]; exact h0)) rfl rfl rfl rfl rfl rfl) ?_
    refine walk_r rfl rfl rfl (op_move (.inl rfl) (ev1 rfl)) ?_
    refine walk_r rfl rfl rfl (op_ext rfl (ev1 rfl) rfl) ?_
    refine walk_r rfl rfl rfl (op_ext rfl (ev1 rfl) rfl) ?_
    refine walk_r rfl rfl rfl (op_move (.inr rfl) (ev1 rfl)) ?_
    refine walk_r rfl rfl rfl (op_move (.inr rfl) (ev1 rfl)) ?_
    refine walk_nil ?_
    refine dwp_seq ?_
    rw [spl_spl]
    refine dwp_region ?_
    refine walk_r rfl rfl rfl (op_move (.inl rfl) (ev1 rfl)) ?_
    refine walk_r rfl rfl rfl (dop_call [] [] [] rfl (ev1 rfl) (ec (ev1 rfl) en) rfl rfl (freeze (open_o (sealC (l.take (min l.length 400))) hsn (by omega) (by omega) (open_seal _)) rfl) rfl rfl rfl rfl rfl rfl) ?_
    refine walk_r rfl rfl rfl (op_move (.inl rfl) (ev1 rfl)) ?_
    refine walk_r rfl rfl rfl (op_ext rfl (ev1 rfl) rfl) ?_
    refine walk_r rfl rfl rfl (op_ext rfl (ev1 rfl) rfl) ?_
    refine walk_r rfl rfl rfl (op_move (.inr rfl) (ev1 rfl)) ?_
    refine walk_r rfl rfl rfl (op_move (.inr rfl) (ev1 rfl)) ?_
    refine walk_nil ?_
    refine dwp_seq ?_
    rw [seal_take]
    refine dwp_region ?_
    refine walk_r rfl rfl rfl (op_move (.inl rfl) (ev1 rfl)) ?_
    refine walk_r rfl rfl rfl (op_eql rfl (ev1 rfl) (ev1 rfl)) ?_
    refine walk_r rfl rfl rfl (op_move (.inl rfl) (ev1 rfl)) ?_
    refine walk_gr (gd_t rfl rfl rfl) rfl rfl rfl (op_move (.inl rfl) (ev1 rfl)) ?_
    refine walk_gr (gd_t rfl rfl rfl) rfl rfl rfl (op_len rfl sl25 (ev2 rfl)) ?_
    refine walk_gr (gd_t rfl rfl rfl) rfl rfl rfl (op_eql rfl (ev2 rfl) (ev1 rfl)) ?_
    refine walk_r rfl rfl rfl (op_and rfl (ev1 rfl) (ev3 rfl id)) ?_
    refine walk_r rfl rfl rfl (op_move (.inl rfl) (ev1 rfl)) ?_
    refine walk_gr (gd_t rfl rfl rfl) rfl rfl rfl (op_move (.inl rfl) (ev1 rfl)) ?_
    refine walk_gr (gd_t rfl rfl rfl) rfl rfl rfl (op_move (.inl rfl) (ev1 rfl)) ?_
    refine walk_gr (gd_t rfl rfl rfl) rfl rfl rfl (dop_call [] [] [] rfl (ev1 rfl) (ec (ev2 rfl) (ec (ev2 rfl) en)) rfl rfl (equalN _ _) rfl rfl rfl rfl rfl rfl) ?_
    refine walk_gr (gd_t rfl rfl rfl) rfl rfl rfl (op_not rfl (ev2 rfl)) ?_
    refine walk_r rfl rfl rfl (op_and rfl (ev1 rfl) (ev3 rfl id)) ?_
    refine walk_r rfl rfl rfl (op_move (.inl rfl) (ev1 rfl)) ?_
    refine walk_gr (gd_t rfl rfl rfl) rfl rfl rfl (op_move (.inl rfl) (ev1 rfl)) ?_
    refine walk_gr (gd_t rfl rfl rfl) rfl rfl rfl (op_eql rfl (ev2 rfl) (ev1 rfl)) ?_
    refine walk_r rfl rfl rfl (op_and rfl (ev1 rfl) (ev3 rfl id)) ?_
    refine walk_r rfl rfl rfl (op_move (.inl rfl) (ev1 rfl)) ?_
    refine walk_gr (gd_t rfl rfl rfl) rfl rfl rfl (op_move (.inl rfl) (ev1 rfl)) ?_
    refine walk_gr (gd_t rfl rfl rfl) rfl rfl rfl (op_move (.inl rfl) (ev1 rfl)) ?_
    refine walk_gr (gd_t rfl rfl rfl) rfl rfl rfl (dop_call [] [] [] rfl (ev1 rfl) (ec (ev2 rfl) (ec (ev2 rfl) en)) rfl rfl (equalN _ _) rfl rfl rfl rfl rfl rfl) ?_
    refine walk_r rfl rfl rfl (op_and rfl (ev1 rfl) (ev3 rfl id)) ?_
    refine walk_r rfl rfl rfl (op_move (.inl rfl) (ev1 rfl)) ?_
    refine walk_gr (gd_t rfl rfl rfl) rfl rfl rfl (op_move (.inl rfl) (ev1 rfl)) ?_
    refine walk_gr (gd_t rfl rfl rfl) rfl rfl rfl (op_eql rfl (ev2 rfl) (ev1 rfl)) ?_
    refine walk_r rfl rfl rfl (op_and rfl (ev1 rfl) (ev3 rfl id)) ?_
    refine walk_r rfl rfl rfl (op_move (.inl rfl) (ev1 rfl)) ?_
    refine walk_gr (gd_t rfl rfl rfl) rfl rfl rfl (op_move (.inl rfl) (ev1 rfl)) ?_
    refine walk_gr (gd_t rfl rfl rfl) rfl rfl rfl (op_move (.inl rfl) (ev1 rfl)) ?_
    refine walk_gr (gd_t rfl rfl rfl) rfl rfl rfl (dop_call [] [] [] rfl (ev1 rfl) (ec (ev2 rfl) en) rfl rfl (few_d l) rfl rfl rfl rfl rfl rfl) ?_
    refine walk_gr (gd_t rfl rfl rfl) rfl rfl rfl (dop_call [] [] [] rfl (ev1 rfl) (ec (ev2 rfl) (ec (ev2 rfl) en)) rfl rfl (equalN _ _) rfl rfl rfl rfl rfl rfl) ?_
    refine walk_r rfl rfl rfl (op_and rfl (ev1 rfl) (ev3 rfl id)) ?_
    refine walk_r rfl rfl rfl (op_move (.inr rfl) (ev1 rfl)) ?_
    refine walk_nil ?_
    refine dwp_ret ?_
    refine kend0 (rs1 rfl (rv_t rfl)) rfl ?_
    rw [decide_eq_false (spl_ne hb hm h0), decide_eq_true rfl, decide_eq_true rfl]
    rfl

theorem bursts_n (l : List Nat) (p m : Int) (hl : ∀ x ∈ l, x < 256) (hm : 0 ≤ m ∧ m < 4294967296) : DFun Try.prog 6 [.slf 1 l.length (l.flatMap un8), .val (.int .i64 p), .val (.int .u32 m)] [] (.val (.bool true)) [] := by
  obtain ⟨n, rfl⟩ := Int.eq_ofNat_of_zero_le hm.1
  exact bursts_d l p n hl (by omega)

end Go.Proofs.Ytnpfbeoibbejeaa
