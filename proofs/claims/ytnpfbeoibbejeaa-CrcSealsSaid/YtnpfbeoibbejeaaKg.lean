/- bits that are turned -/
import Derived.Test.YtnpfbeoibbejeaaKf
import Derived.Test.YtnpfbeoibbejeaaLar
namespace Go.Proofs.Ytnpfbeoibbejeaa
set_option linter.unusedVariables false
set_option linter.unusedSimpArgs false
open Go.RowKit

/-- a byte, those of its lowest i bits turned that stand in D -/
def xs (D a x : Nat) : Nat → Nat
  | 0 => x
  | i + 1 => if D.testBit (8 * a + i) then xs D a x i ^^^ (1 <<< i) else xs D a x i
/-- .. and how many -/
def cs (D a c : Nat) : Nat → Nat
  | 0 => c
  | i + 1 => if D.testBit (8 * a + i) then cs D a c i + 1 else cs D a c i
theorem one_shl (i j : Nat) : (1 <<< i).testBit j = decide (i = j) := by rw [Nat.one_shiftLeft, Nat.testBit_two_pow]
theorem mod_succ (E i : Nat) : E % 2 ^ (i + 1) = E % 2 ^ i ^^^ (if E.testBit i then 1 <<< i else 0) := by
  refine Nat.eq_of_testBit_eq fun j => ?_
  rw [Nat.testBit_xor, Nat.testBit_mod_two_pow, Nat.testBit_mod_two_pow]
  by_cases h : E.testBit i = true
  · rw [if_pos h, one_shl]
    by_cases e : i = j
    · subst e; simp [h]
    · simp only [e, decide_false, Bool.xor_false]
      by_cases h2 : j < i
      · simp [h2, show j < i + 1 by omega]
      · simp [h2, show ¬ j < i + 1 by omega]
  · rw [if_neg h, Nat.zero_testBit, Bool.xor_false]
    by_cases e : i = j
    · subst e; simp [h]
    · by_cases h2 : j < i
      · simp [h2, show j < i + 1 by omega]
      · simp [h2, show ¬ j < i + 1 by omega]
theorem xs_eq (D a x : Nat) : ∀ i, xs D a x i = x ^^^ ((D >>> (8 * a)) % 2 ^ i)
  | 0 => by rw [xs, Nat.pow_zero, Nat.mod_one, Nat.xor_zero]
  | i + 1 => by
    rw [xs, xs_eq D a x i, mod_succ, Nat.testBit_shiftRight]
    split
    · rw [Nat.xor_assoc]
    · rw [Nat.xor_zero]
theorem cs_zero (D a c : Nat) : ∀ i, cs D a c i = 0 ↔ c = 0 ∧ (D >>> (8 * a)) % 2 ^ i = 0
  | 0 => by rw [cs, Nat.pow_zero, Nat.mod_one]; simp
  | i + 1 => by
    have ih := cs_zero D a c i
    rw [cs, mod_succ, Nat.testBit_shiftRight]
    by_cases h : D.testBit (8 * a + i) = true
    · rw [if_pos h, if_pos h]
      constructor
      · intro h2; omega
      · rintro ⟨_, h2⟩
        exfalso
        have h3 := congrArg (fun z => z.testBit i) h2
        simp only [Nat.testBit_xor, Nat.testBit_mod_two_pow, one_shl, Nat.zero_testBit] at h3
        simp at h3
    · rw [if_neg h, if_neg h, Nat.xor_zero]; exact ih
theorem cs_le (D a c : Nat) : ∀ i, cs D a c i ≤ c + i
  | 0 => Nat.le_refl _
  | i + 1 => by
    have := cs_le D a c i
    rw [cs]
    split <;> omega
theorem xs_lt {D a x : Nat} (h : x < 256) {i : Nat} (hi : i ≤ 8) : xs D a x i < 256 := by
  rw [xs_eq]
  refine Nat.xor_lt_two_pow (n := 8) h ?_
  exact Nat.lt_of_lt_of_le (Nat.mod_lt _ (Nat.pow_pos (by decide))) (Nat.pow_le_pow_right (n := 2) (by decide) hi)
/-- bytes, j of them turned from one on -/
def spJ (D : Nat) (l : List Nat) (f : Nat) : Nat → List Nat
  | 0 => l
  | j + 1 => (spJ D l f j).set (f + j) (xs D (f + j) (l.getD (f + j) 0) 8)
def cJ (D f : Nat) : Nat → Nat
  | 0 => 0
  | j + 1 => cs D (f + j) (cJ D f j) 8
theorem spJ_len (D : Nat) (l : List Nat) (f : Nat) : ∀ j, (spJ D l f j).length = l.length
  | 0 => rfl
  | j + 1 => by rw [spJ, List.length_set, spJ_len D l f j]
theorem spJ_at (D : Nat) (l : List Nat) (f : Nat) : ∀ (j k : Nat), (spJ D l f j)[k]? = if f ≤ k ∧ k < f + j then (l[k]?).map (fun x => x ^^^ ((D >>> (8 * k)) % 256)) else l[k]?
  | 0, k => by rw [spJ, if_neg (by omega)]
  | j + 1, k => by
    rw [spJ, List.getElem?_set, spJ_at D l f j k, spJ_len]
    by_cases e : f + j = k
    · subst e
      rw [if_pos rfl]
      by_cases hl : f + j < l.length
      · rw [if_pos hl, if_pos ⟨by omega, by omega⟩, List.getElem?_eq_getElem hl, xs_eq, List.getD_eq_getElem?_getD, List.getElem?_eq_getElem hl]; rfl
      · rw [if_neg hl, if_pos ⟨by omega, by omega⟩, List.getElem?_eq_none (by omega)]; rfl
    · rw [if_neg e]
      by_cases h : f ≤ k ∧ k < f + j
      · rw [if_pos h, if_pos (by omega)]
      · rw [if_neg h, if_neg (by omega)]
theorem cJ_le (D f : Nat) : ∀ j, cJ D f j ≤ 8 * j
  | 0 => Nat.le_refl _
  | j + 1 => by
    have h1 := cJ_le D f j
    have h2 := cs_le D (f + j) (cJ D f j) 8
    rw [cJ]; omega
theorem cJ_zero (D f : Nat) : ∀ j, cJ D f j = 0 ↔ ∀ k, f ≤ k → k < f + j → (D >>> (8 * k)) % 256 = 0
  | 0 => by simp [cJ]; intro k h1 h2; omega
  | j + 1 => by
    rw [cJ, cs_zero, cJ_zero D f j]
    constructor
    · rintro ⟨h1, h2⟩ k hk hk2
      by_cases e : k = f + j
      · subst e; exact h2
      · exact h1 k hk (by omega)
    · intro h
      exact ⟨fun k hk hk2 => h k hk (by omega), h _ (by omega) (by omega)⟩
/-- bytes, those of their bits turned that stand in D -/
def spl (D : Nat) (l : List Nat) : List Nat := l.mapIdx fun k x => x ^^^ ((D >>> (8 * k)) % 256)
theorem spl_len (D : Nat) (l : List Nat) : (spl D l).length = l.length := by simp [spl]
theorem spl_at (D : Nat) (l : List Nat) (k : Nat) : (spl D l)[k]? = (l[k]?).map (fun x => x ^^^ ((D >>> (8 * k)) % 256)) := by simp [spl]
theorem spl_lt {D : Nat} {l : List Nat} (h : ∀ x ∈ l, x < 256) : ∀ x ∈ spl D l, x < 256 := by
  intro x hx
  obtain ⟨k, hk⟩ := List.mem_iff_getElem?.1 hx
  rw [spl_at, Option.map_eq_some_iff] at hk
  obtain ⟨y, hy, rfl⟩ := hk
  exact Nat.xor_lt_two_pow (n := 8) (h y (List.mem_of_getElem? hy)) (Nat.mod_lt _ (by decide))
/-- no bit of a mask stands below its place, nor far above -/
theorem mask_out {mask bit k : Nat} (hm : mask < 2 ^ 32) (h : k < bit / 8 ∨ bit / 8 + 5 ≤ k) : ((mask <<< bit) >>> (8 * k)) % 256 = 0 := by
  refine Nat.eq_of_testBit_eq fun i => ?_
  rw [Nat.zero_testBit, show 256 = 2 ^ 8 from rfl, Nat.testBit_mod_two_pow, Nat.testBit_shiftRight, Nat.testBit_shiftLeft]
  by_cases hi : i < 8
  · rcases h with h | h
    · rw [decide_eq_false (show ¬ 8 * k + i ≥ bit by omega)]; simp
    · have : mask.testBit (8 * k + i - bit) = false := Nat.testBit_lt_two_pow (Nat.lt_of_lt_of_le hm (Nat.pow_le_pow_right (n := 2) (by decide) (by omega)))
      rw [this]; simp
  · simp [hi]
theorem spJ_spl {mask bit : Nat} (hm : mask < 2 ^ 32) (l : List Nat) {j : Nat} (hj : bit / 8 + j = l.length ∨ 5 ≤ j) : spJ (mask <<< bit) l (bit / 8) j = spl (mask <<< bit) l := by
  refine List.ext_getElem? fun k => ?_
  rw [spJ_at, spl_at]
  split
  · rfl
  · rename_i h
    by_cases hk : k < l.length
    · rw [mask_out hm (by omega), List.getElem?_eq_getElem hk]; simp
    · rw [List.getElem?_eq_none (by omega)]; rfl
theorem cJ_spl {mask bit : Nat} (hm : mask < 2 ^ 32) {n j : Nat} (hj : bit / 8 + j = n ∨ 5 ≤ j ∧ bit / 8 + j ≤ n) : cJ (mask <<< bit) (bit / 8) j = 0 ↔ ∀ k, k < n → ((mask <<< bit) >>> (8 * k)) % 256 = 0 := by
  rw [cJ_zero]
  constructor
  · intro h k hk
    by_cases h1 : bit / 8 ≤ k ∧ k < bit / 8 + j
    · exact h k h1.1 h1.2
    · exact mask_out hm (by omega)
  · intro h k h1 h2
    exact h k (by omega)
theorem meant_eq {mask bit n : Nat} (hm : mask < 2 ^ 32) : (decide (bit ≤ n) && decide (n - bit < 32) && decide ((mask >>> (n - bit)) % 2 = 1)) = (mask <<< bit).testBit n := by
  rw [Nat.testBit_shiftLeft, ← Nat.testBit_zero, Nat.testBit_shiftRight, Nat.add_zero]
  by_cases h : bit ≤ n
  · by_cases h2 : n - bit < 32
    · simp [h, h2]
    · have : mask.testBit (n - bit) = false := Nat.testBit_lt_two_pow (Nat.lt_of_lt_of_le hm (Nat.pow_le_pow_right (n := 2) (by decide) (by omega)))
      simp [this]
  · simp [h]

set_option maxRecDepth 4000 in
set_option maxHeartbeats 1000000 in
theorem meant_d (mask bit n : Nat) (hm : mask < 2 ^ 32) (hb : bit ≤ 4611686018427387904) (hn : n ≤ 4611686018427387904) : DFun Try.prog 37 [.val (.int .i64 (n : Int)), .loc 0 0, .loc 1 0] [.flat 3 [.int .i64 (bit : Int)], .flat 27 [.int .u32 (mask : Int)]] (.val (.bool ((mask <<< bit).testBit n))) [.flat 3 [.int .i64 (bit : Int)], .flat 27 [.int .u32 (mask : Int)]] := by
  refine dcalls_go (N := 23) 2 (by kernel_rfl) Try.func37 rfl rfl rfl (by simp only [fr0, Nat.zero_add, Nat.reduceAdd]; exact rfl) rfl fun s0 hs0 => ?_
  refine dwp_seq ?_
  refine dwp_region ?_
  refine walk_r rfl rfl rfl (op_move (.inr rfl) (ev1 rfl)) ?_
  refine walk_nil ?_
  refine dwp_seq ?_
  refine dwp_region ?_
  refine walk_r rfl rfl rfl (op_move (.inl rfl) (ev1 rfl)) ?_
  refine walk_r rfl rfl rfl (op_ldo rfl tb3 (ev1 rfl) rfl rfl) ?_
  refine walk_r rfl rfl rfl (op_geq rfl (ev1 rfl) (ev1 rfl)) ?_
  refine walk_r rfl rfl rfl (op_move (.inl rfl) (ev1 rfl)) ?_
  refine walk_gr (gd_t rfl rfl rfl) rfl rfl rfl (op_move (.inl rfl) (ev1 rfl)) ?_
  refine walk_gr (gd_t rfl rfl rfl) rfl rfl rfl (op_ldo rfl tb3 (ev1 rfl) rfl rfl) ?_
  refine walk_gr (gd_t rfl rfl rfl) rfl rfl rfl (op_sub' rfl (ev2 rfl) (ev2 rfl) (fun hp => IntWalk.i64_in _ (by first | omega | (simp at hp; omega)))) ?_
  refine walk_gr (gd_t rfl rfl rfl) rfl rfl rfl (op_lss rfl (ev2 rfl) (ev1 rfl)) ?_
  refine walk_r rfl rfl rfl (op_and rfl (ev1 rfl) (ev3 rfl id)) ?_
  refine walk_r rfl rfl rfl (op_move (.inl rfl) (ev1 rfl)) ?_
  refine walk_gr (gd_t rfl rfl rfl) rfl rfl rfl (op_ldo rfl tb27 (ev1 rfl) rfl rfl) ?_
  refine walk_gr (gd_t rfl rfl rfl) rfl rfl rfl (op_move (.inl rfl) (ev1 rfl)) ?_
  refine walk_gr (gd_t rfl rfl rfl) rfl rfl rfl (op_ldo rfl tb3 (ev1 rfl) rfl rfl) ?_
  refine walk_gr (gd_t rfl rfl rfl) rfl rfl rfl (op_sub' rfl (ev2 rfl) (ev2 rfl) (fun hp => IntWalk.i64_in _ (by first | omega | (simp at hp; omega)))) ?_
  refine walk_gr (gd_t rfl rfl rfl) rfl rfl rfl (op_shr (n - bit) rfl (ev2 rfl) (ev2 rfl) (fun hp => by simp at hp; exact ⟨by omega, by simp [IntKind.bits]; omega⟩)) ?_
  refine walk_gr (gd_t rfl rfl rfl) rfl rfl rfl (op_iand rfl (ev2 rfl) (ev1 rfl)) ?_
  refine walk_gr (gd_t rfl rfl rfl) rfl rfl rfl (op_eql rfl (ev2 rfl) (ev1 rfl)) ?_
  refine walk_r rfl rfl rfl (op_and rfl (ev1 rfl) (ev3 rfl id)) ?_
  refine walk_r rfl rfl rfl (op_move (.inr rfl) (ev1 rfl)) ?_
  refine walk_nil ?_
  refine dwp_ret ?_
  refine kend [0, 1] (rs1 rfl (rv_t rfl)) rfl rfl ?_ ⟨rfl, rfl, trivial⟩
  rw [← meant_eq hm, shr_n, and_one (by rw [Nat.shiftRight_eq_div_pow]; exact Nat.lt_of_le_of_lt (Nat.div_le_self _ _) hm)]
  generalize mask >>> (n - bit) % 2 = r
  rw [D.val.injEq, Value.bool.injEq, Bool.eq_iff_iff]
  simp
  omega

theorem meant_z (mask bit n : Nat) (z : Int) (hz : z = (n : Int)) (hm : mask < 2 ^ 32) (hb : bit ≤ 4611686018427387904) (hn : n ≤ 4611686018427387904) : DFun Try.prog 37 [.val (.int .i64 z), .loc 0 0, .loc 1 0] [.flat 3 [.int .i64 (bit : Int)], .flat 27 [.int .u32 (mask : Int)]] (.val (.bool ((mask <<< bit).testBit n))) [.flat 3 [.int .i64 (bit : Int)], .flat 27 [.int .u32 (mask : Int)]] := by
  subst hz; exact meant_d mask bit n hm hb hn
theorem shl_b {x i : Nat} (hx : x < 256) (hi : i < 8) : xorZ .u8 (x : Int) (IntKind.u8.wrap (1 * 2 ^ i)) = ((x ^^^ (1 <<< i) : Nat) : Int) := by
  have h1 : 1 <<< i < 256 := by
    rw [Nat.one_shiftLeft]
    exact Nat.lt_of_le_of_lt (Nat.pow_le_pow_right (n := 2) (by decide) (show i ≤ 7 by omega)) (by decide)
  have h2 : IntKind.u8.wrap (1 * 2 ^ i) = ((1 <<< i : Nat) : Int) := by
    rw [show (1 * 2 ^ i : Int) = ((1 <<< i : Nat) : Int) by rw [Nat.one_shiftLeft, Int.one_mul, Int.natCast_pow]; rfl]
    generalize 1 <<< i = y at h1
    exact IntWalk.u8_in _ (by omega)
  rw [h2]
  exact xor_b hx h1
theorem spJ_here {D : Nat} {l : List Nat} {f j : Nat} (h : f + j < (spJ D l f j).length) : (spJ D l f j)[f + j] = l.getD (f + j) 0 := by
  have h1 := spJ_at D l f j (f + j)
  rw [if_neg (by omega), List.getElem?_eq_getElem h] at h1
  rw [List.getD_eq_getElem?_getD, ← h1]
  rfl

set_option maxRecDepth 4000 in
set_option maxHeartbeats 1000000 in
theorem told_x (N o n : Nat) (L : List Nat) : DFun Try.prog 42 [.arr 0] [.arx 25 1 1 [.own 1 1 o n], .arr 5 1 N ((L).flatMap un8)] (.fn (.func 45) [] [.loc 2 0]) [.arx 25 1 1 [.own 1 1 o n], .arr 5 1 N ((L).flatMap un8), .mix 22 [.arr 0]] := by
  refine dcalls_go (N := 4) 2 (by kernel_rfl) Try.func42 rfl rfl rfl (by simp only [fr0, Nat.zero_add, Nat.reduceAdd]; exact rfl) rfl fun s0 hs0 => ?_
  refine dwp_seq ?_
  refine dwp_holes 1 (by simp only [holes, List.cons_append, List.nil_append]; exact rfl) ?_
  refine dwp_region ?_
  refine walk_w rfl rfl rfl (op_boxm 2 rfl (ev1 rfl) (fun s v h => by cases h <;> rfl) rfl) (by simp only [upd, List.set_cons_zero, List.set_cons_succ]; exact rfl) ?_
  refine walk_r rfl rfl rfl (op_move (.inr rfl) (ev1 rfl)) ?_
  refine walk_nil ?_
  refine dwp_seq ?_
  refine dwp_region ?_
  refine walk_r rfl rfl rfl (op_mkf rfl en (ec (ev1 rfl) en)) ?_
  refine walk_r rfl rfl rfl (op_move (.inr rfl) (ev1 rfl)) ?_
  refine walk_nil ?_
  refine dwp_ret ?_
  refine kend [0, 1, 2] (rs1 rfl (rv_t rfl)) rfl rfl ?_ ⟨rfl, rfl, rfl, trivial⟩
  rfl

noncomputable def tuA : Code := rfA (pth [1, 0, 1, 1, 0, 1, 0] (bodyOf Try.f36))
noncomputable def tuB : Code := rfB (pth [1, 0, 1, 1, 0, 1, 0] (bodyOf Try.f36))

set_option maxRecDepth 4000 in
set_option maxHeartbeats 1000000 in
theorem tuRound_stop (mask bit f c a x N : Nat) (q : List Nat) (hm : mask < 2 ^ 32) (hb : bit ≤ 4611686018427387904) (hf : f ≤ 1000000000000) (ha : a < q.length) (hq : q.length ≤ 1000000000000) (hx : x < 256) (hc : c ≤ 1000) (hN : N = q.length) (h : f + 4 < a) : DRound Try.prog 0 [.val (.int .u8 (x : Int))] [.lp 45 [(3, .loc 1 0), (4, .loc 2 0), (5, .loc 3 0), (7, .loc 4 0), (8, .loc 5 0)] #[17] tuA tuB .ready none, .mix 25 [.arr 6], .flat 3 [.int .i64 (f : Int)], .mix 78 [.fn (.func 37) [] [.loc 7 0, .loc 8 0]], .flat 3 [.int .i64 ((c : Nat) : Int)], .flat 3 [.int .i64 ((a : Nat) : Int)], .arr 5 1 N ((q).flatMap un8), .flat 3 [.int .i64 (bit : Int)], .flat 27 [.int .u32 (mask : Int)]] false [.lp 45 [(3, .loc 1 0), (4, .loc 2 0), (5, .loc 3 0), (7, .loc 4 0), (8, .loc 5 0)] #[17] tuA tuB .done (some (.exit 0)), .mix 25 [.arr 6], .flat 3 [.int .i64 (f : Int)], .mix 78 [.fn (.func 37) [] [.loc 7 0, .loc 8 0]], .flat 3 [.int .i64 ((c : Nat) : Int)], .flat 3 [.int .i64 ((a : Nat) : Int)], .arr 5 1 N ((q).flatMap un8), .flat 3 [.int .i64 (bit : Int)], .flat 27 [.int .u32 (mask : Int)]] := by
  refine dround_go 9 rfl rfl (by simp) rfl rfl fun s0 hs0 => ?_
  refine dwp_region ?_
  refine walk_r rfl rfl rfl (op_move (.inr rfl) (ev1 rfl)) ?_
  refine walk_nil ?_
  refine ⟨rfl, ?_⟩
  simp only [List.set_cons_zero, List.set_cons_succ]
  refine dwp_block ?_
  refine dwp_seq ?_
  refine dwp_seq ?_
  refine dwp_region ?_
  refine walk_r rfl rfl rfl (op_ldo rfl tb3 (ev1 rfl) rfl rfl) ?_
  refine walk_r rfl rfl rfl (op_ldo rfl tb3 (ev1 rfl) rfl rfl) ?_
  refine walk_r rfl rfl rfl (op_add' rfl (ev1 rfl) (ev1 rfl) (fun _ => IntWalk.i64_in _ (by omega))) ?_
  refine walk_r rfl rfl rfl (op_gtr rfl (ev1 rfl) (ev1 rfl)) ?_
  refine walk_nil ?_
  refine dwp_if_t rfl (decide_eq_true (by omega)) ?_
  refine dwp_exit ?_
  refine ⟨by first | rfl | assumption | simp_all, rfl, [0, 1, 2, 3, 4, 5, 6, 7, 8], rfl, ⟨rfl, rfl, rfl, rfl, rfl, rfl, rfl, rfl, rfl, trivial⟩⟩

set_option maxRecDepth 4000 in
set_option maxHeartbeats 1000000 in
theorem tuRound_go (mask bit f c a x N : Nat) (q : List Nat) (hm : mask < 2 ^ 32) (hb : bit ≤ 4611686018427387904) (hf : f ≤ 1000000000000) (ha : a < q.length) (hq : q.length ≤ 1000000000000) (hx : x < 256) (hc : c ≤ 1000) (hN : N = q.length) (h : a ≤ f + 4) : DRound Try.prog 0 [.val (.int .u8 (x : Int))] [.lp 45 [(3, .loc 1 0), (4, .loc 2 0), (5, .loc 3 0), (7, .loc 4 0), (8, .loc 5 0)] #[17] tuA tuB .ready none, .mix 25 [.arr 6], .flat 3 [.int .i64 (f : Int)], .mix 78 [.fn (.func 37) [] [.loc 7 0, .loc 8 0]], .flat 3 [.int .i64 ((c : Nat) : Int)], .flat 3 [.int .i64 ((a : Nat) : Int)], .arr 5 1 N ((q).flatMap un8), .flat 3 [.int .i64 (bit : Int)], .flat 27 [.int .u32 (mask : Int)]] true [.lp 45 [(3, .loc 1 0), (4, .loc 2 0), (5, .loc 3 0), (7, .loc 4 0), (8, .loc 5 0)] #[17] tuA tuB .ready none, .mix 25 [.arr 6], .flat 3 [.int .i64 (f : Int)], .mix 78 [.fn (.func 37) [] [.loc 7 0, .loc 8 0]], .flat 3 [.int .i64 (((cs (mask <<< bit) a c 8) : Nat) : Int)], .flat 3 [.int .i64 (((a + 1) : Nat) : Int)], .arr 5 1 N (((q.set a (xs (mask <<< bit) a x 8))).flatMap un8), .flat 3 [.int .i64 (bit : Int)], .flat 27 [.int .u32 (mask : Int)]] := by
  refine dround_go 9 rfl rfl (by simp) rfl rfl fun s0 hs0 => ?_
  refine dwp_region ?_
  refine walk_r rfl rfl rfl (op_move (.inr rfl) (ev1 rfl)) ?_
  refine walk_nil ?_
  refine ⟨rfl, ?_⟩
  simp only [List.set_cons_zero, List.set_cons_succ]
  refine dwp_block ?_
  refine dwp_seq ?_
  refine dwp_seq ?_
  refine dwp_region ?_
  refine walk_r rfl rfl rfl (op_ldo rfl tb3 (ev1 rfl) rfl rfl) ?_
  refine walk_r rfl rfl rfl (op_ldo rfl tb3 (ev1 rfl) rfl rfl) ?_
  refine walk_r rfl rfl rfl (op_add' rfl (ev1 rfl) (ev1 rfl) (fun _ => IntWalk.i64_in _ (by omega))) ?_
  refine walk_r rfl rfl rfl (op_gtr rfl (ev1 rfl) (ev1 rfl)) ?_
  refine walk_nil ?_
  refine dwp_if_f rfl (decide_eq_false (by omega)) ?_
  refine dwp_skip ?_
  refine dwp_seq ?_
  refine dwp_seq ?_
  refine dwp_region ?_
  refine walk_r rfl rfl rfl (op_move (.inl rfl) (ev1 rfl)) ?_
  refine walk_nil ?_
  refine dwp_block ?_
  refine dwp_loopS ⟨hs0, rfl⟩ (α := Nat) (fun i => [(9, .val (.int .u8 ((xs (mask <<< bit) a x i : Nat) : Int))), (22, .val (.int .i64 (i : Int)))]) [(3, _), (5, _), (7, _), (8, _)] (fun i => [(4, .flat 3 [.int .i64 ((cs (mask <<< bit) a c i : Nat) : Int)])]) [_, _, _, _, .hole, _, _, _, _] (fun i => i ≤ 8) (fun i => 8 - i) 0 [0, 1, 2, 3, 4, 5, 6, 7, 8] (by simp) rfl ⟨rfl, rfl, rfl, rfl, trivial⟩ ⟨rfl, rfl, trivial⟩ ⟨rfl, rfl, rfl, rfl, rfl, rfl, rfl, rfl, rfl, trivial⟩ ?_
  intro i hx_
  simp only [upd, List.set_cons_zero, List.set_cons_succ, List.cons_append, List.nil_append]
  have hi := hx_
  have hxl := xs_lt (D := mask <<< bit) (a := a) hx (show i ≤ 8 by omega)
  have hcl := cs_le (mask <<< bit) a c i
  refine dwp_seq ?_
  refine dwp_region ?_
  refine walk_r rfl rfl rfl (op_lss rfl (ev1 rfl) (ev1 rfl)) ?_
  refine walk_nil ?_
  refine dwp_seq ?_
  refine dwp_cond rfl (fun c2 => ?_) (fun c2 => ?_)
  · try simp only [decide_eq_true_eq, decide_eq_false_iff_not, beq_iff_eq, bne_iff_ne, beq_eq_false_iff_ne, bne_eq_false_iff_eq, Bool.not_eq_true', Bool.not_eq_false', Bool.and_eq_true, Bool.or_eq_true, Bool.or_eq_false_iff, ne_eq, Decidable.not_not, Int.not_lt, Int.not_le] at c2
    refine dwp_skip ?_
    refine dwp_seq ?_
    refine dwp_block ?_
    refine dwp_seq ?_
    refine dwp_region ?_
    refine walk_r rfl rfl rfl (op_move (.inl rfl) (ev1 rfl)) ?_
    refine walk_r rfl rfl rfl (op_move (.inr rfl) (ev1 rfl)) ?_
    refine walk_nil ?_
    refine dwp_seq ?_
    refine dwp_region ?_
    refine walk_r rfl rfl rfl (op_ldm rfl tb78 (ev1 rfl) rfl rfl) ?_
    refine walk_r rfl rfl rfl (op_ldo rfl tb3 (ev1 rfl) rfl rfl) ?_
    refine walk_r rfl rfl rfl (op_mul' rfl (ev1 rfl) (ev1 rfl) (fun _ => IntWalk.i64_in _ (by omega))) ?_
    refine walk_r rfl rfl rfl (op_move (.inl rfl) (ev1 rfl)) ?_
    refine walk_r rfl rfl rfl (op_add' rfl (ev1 rfl) (ev1 rfl) (fun _ => IntWalk.i64_in _ (by omega))) ?_
    refine walk_w rfl rfl rfl (dop_call [7, 8] [] [] rfl (ev1 rfl) (ec (ev1 rfl) en) rfl rfl (meant_z mask bit (8 * a + i) _ (by omega) hm hb (by omega)) rfl rfl rfl rfl rfl rfl) (by simp only [upd, List.set_cons_zero, List.set_cons_succ]; exact rfl) ?_
    refine walk_nil ?_
    refine dwp_cond rfl (fun hbt => ?_) (fun hbt => ?_)
    · refine dwp_seq ?_
      refine dwp_region ?_
      refine walk_r rfl rfl rfl (op_move (.inl rfl) (ev1 rfl)) ?_
      refine walk_r rfl rfl rfl (op_move (.inl rfl) (ev1 rfl)) ?_
      refine walk_r rfl rfl rfl (op_shl (i) rfl (ev1 rfl) (ev1 rfl) (fun _ => ⟨by omega, by simp [IntKind.bits]; omega⟩)) ?_
      refine walk_r rfl rfl rfl (op_ixor rfl (ev1 rfl) (ev1 rfl)) ?_
      refine walk_r rfl rfl rfl (op_move (.inr rfl) (ev1 rfl)) ?_
      refine walk_nil ?_
      refine dwp_region ?_
      refine walk_r rfl rfl rfl (op_ldo rfl tb3 (ev1 rfl) rfl rfl) ?_
      refine walk_r rfl rfl rfl (op_add' rfl (ev1 rfl) (ev1 rfl) (fun _ => IntWalk.i64_in _ (by omega))) ?_
      refine walk_s rfl rfl (op_stwi rfl tb3 (ev1 rfl) (ev1 rfl) rfl) (by simp only [upd, List.set_cons_zero, List.set_cons_succ]; exact rfl) ?_
      refine walk_nil ?_
      refine dwp_region ?_
      refine walk_r rfl rfl rfl (op_add' rfl (ev1 rfl) (ev1 rfl) (fun _ => IntWalk.i64_in _ (by omega))) ?_
      refine walk_r rfl rfl rfl (op_move (.inl rfl) (ev1 rfl)) ?_
      refine walk_nil ?_
      refine ⟨i + 1, [0, 1, 2, 3, 4, 5, 6, 7, 8], by omega, by simp only []; omega, rfl, ⟨congrArg (fun z => some (D.val (Value.int .u8 z))) (by rw [xs, if_pos hbt]; exact shl_b hxl (by omega)), rfl, rfl, rfl, rfl, rfl, trivial⟩, ⟨rfl, rfl, rfl, rfl, by rw [cs, if_pos hbt]; rfl, rfl, rfl, rfl, rfl, trivial⟩⟩
    · refine dwp_skip ?_
      refine dwp_region ?_
      refine walk_r rfl rfl rfl (op_add' rfl (ev1 rfl) (ev1 rfl) (fun _ => IntWalk.i64_in _ (by omega))) ?_
      refine walk_r rfl rfl rfl (op_move (.inl rfl) (ev1 rfl)) ?_
      refine walk_nil ?_
      refine ⟨i + 1, [0, 1, 2, 3, 4, 5, 6, 7, 8], by omega, by simp only []; omega, rfl, ⟨by rw [xs, if_neg (by rw [hbt]; simp)]; rfl, rfl, rfl, rfl, rfl, rfl, trivial⟩, ⟨rfl, rfl, rfl, rfl, by rw [cs, if_neg (by rw [hbt]; simp)]; rfl, rfl, rfl, rfl, rfl, trivial⟩⟩
  · try simp only [decide_eq_true_eq, decide_eq_false_iff_not, beq_iff_eq, bne_iff_ne, beq_eq_false_iff_ne, bne_eq_false_iff_eq, Bool.not_eq_true', Bool.not_eq_false', Bool.and_eq_true, Bool.or_eq_true, Bool.or_eq_false_iff, ne_eq, Decidable.not_not, Int.not_lt, Int.not_le] at c2
    refine dwp_exit ?_
    refine dwp_seq ?_
    obtain rfl : i = 8 := by omega
    refine dwp_region ?_
    refine walk_r rfl rfl rfl (op_ldm rfl tb25 (ev1 rfl) rfl rfl) ?_
    refine walk_r rfl rfl rfl (op_ldo rfl tb3 (ev1 rfl) rfl rfl) ?_
    refine walk_r rfl rfl rfl (op_move (.inl rfl) (ev1 rfl)) ?_
    refine walk_r rfl rfl rfl (op_ixar (j := a) rfl sl25 (ev1 rfl) (ev1 rfl) rfl (fun _ => by first | rfl | omega) (fun _ => by omega)) ?_
    refine walk_s rfl rfl (op_staf (l := q) (en := un8) (j := a) (c := 0) (0) (xs (mask <<< bit) a x 8) rfl tb5 (ev1 rfl) (ev1 rfl) rfl rfl rfl rfl (fun _ => rfl) (fun _ => by omega) (Nat.le_of_ble_eq_true rfl) rfl) (by simp only [upd, List.set_cons_zero, List.set_cons_succ]; exact rfl) ?_
    refine walk_nil ?_
    refine dwp_region ?_
    refine walk_r rfl rfl rfl (op_ldo rfl tb3 (ev1 rfl) rfl rfl) ?_
    refine walk_r rfl rfl rfl (op_add' rfl (ev1 rfl) (ev1 rfl) (fun _ => IntWalk.i64_in _ (by omega))) ?_
    refine walk_s rfl rfl (op_stwi rfl tb3 (ev1 rfl) (ev1 rfl) rfl) (by simp only [upd, List.set_cons_zero, List.set_cons_succ]; exact rfl) ?_
    refine walk_nil ?_
    refine ⟨by first | rfl | assumption | simp_all, rfl, [0, 1, 2, 3, 4, 5, 6, 7, 8], rfl, ⟨rfl, rfl, rfl, rfl, rfl, rfl, rfl, rfl, rfl, trivial⟩⟩

set_option maxRecDepth 4000 in
set_option maxHeartbeats 1000000 in
theorem told_turn (mask bit f n : Nat) (l : List Nat) (hm : mask < 2 ^ 32) (hb : bit ≤ 4611686018427387904) (hl : l.length ≤ 1000000000) (hfn : f + n = l.length) (hl2 : isN l) : DFun Try.prog 45 [.yld 0, .loc 9 0] [.lp 45 [(3, .loc 1 0), (4, .loc 2 0), (5, .loc 3 0), (7, .loc 4 0), (8, .loc 5 0)] #[17] tuA tuB .ready none, .mix 25 [.arr 6], .flat 3 [.int .i64 (f : Int)], .mix 78 [.fn (.func 37) [] [.loc 7 0, .loc 8 0]], .flat 3 [.int .i64 ((0 : Nat) : Int)], .flat 3 [.int .i64 ((f : Nat) : Int)], .arr 5 1 l.length ((l).flatMap un8), .flat 3 [.int .i64 (bit : Int)], .flat 27 [.int .u32 (mask : Int)], .mix 22 [.arr 10], .arx 25 1 1 [.own 6 1 f n]] (.tup []) [.lp 45 [(3, .loc 1 0), (4, .loc 2 0), (5, .loc 3 0), (7, .loc 4 0), (8, .loc 5 0)] #[17] tuA tuB (rst (decide (n ≤ 5))) (rpe (.exit 0) (decide (n ≤ 5))), .mix 25 [.arr 6], .flat 3 [.int .i64 (f : Int)], .mix 78 [.fn (.func 37) [] [.loc 7 0, .loc 8 0]], .flat 3 [.int .i64 (((cJ (mask <<< bit) f (min n 5)) : Nat) : Int)], .flat 3 [.int .i64 (((f + (min n 5)) : Nat) : Int)], .arr 5 1 l.length (((spJ (mask <<< bit) l f (min n 5))).flatMap un8), .flat 3 [.int .i64 (bit : Int)], .flat 27 [.int .u32 (mask : Int)], .mix 22 [.arr 10], .arx 25 1 1 [.own 6 1 f n]] := by
  refine dcalls_go (N := 25) 11 (by kernel_rfl) Try.func45 rfl rfl rfl (by simp only [fr0, Nat.zero_add, Nat.reduceAdd]; exact rfl) rfl fun s0 hs0 => ?_
  refine dwp_seq ?_
  refine dwp_region ?_
  refine walk_r rfl rfl rfl (op_ldm rfl tb22 (ev1 rfl) rfl rfl) ?_
  refine walk_r rfl rfl rfl (op_lenx rfl sl22 (ev1 rfl) rfl) ?_
  refine walk_r rfl rfl rfl (op_move (.inl rfl) (ev1 rfl)) ?_
  refine walk_nil ?_
  refine dwp_block ?_
  refine dwp_dloop (dloop_step ?_)
  refine dwp_seq ?_
  refine dwp_region ?_
  refine walk_r rfl rfl rfl (op_lss rfl (ev1 rfl) (ev1 rfl)) ?_
  refine walk_nil ?_
  refine dwp_seq ?_
  refine dwp_if_t rfl (rfl) ?_
  refine dwp_skip ?_
  refine dwp_seq ?_
  refine dwp_block ?_
  refine dwp_seq ?_
  refine dwp_region ?_
  refine walk_r rfl rfl rfl (op_ixx (0) rfl sl22 (ev1 rfl) (ev1 rfl) rfl (fun _ => rfl) (fun _ => by omega)) ?_
  refine walk_r rfl rfl rfl (op_ldx rfl tb25 (ev1 rfl) rfl rfl) ?_
  refine walk_r rfl rfl rfl (op_move (.inr rfl) (ev1 rfl)) ?_
  refine walk_nil ?_
  refine dwp_seq ?_
  refine dwp_region ?_
  refine walk_r rfl rfl rfl (op_move (.inl rfl) (ev1 rfl)) ?_
  refine walk_r rfl rfl rfl (op_leno rfl sl25 (ev1 rfl)) ?_
  refine walk_r rfl rfl rfl (op_move (.inl rfl) (ev1 rfl)) ?_
  refine walk_nil ?_
  refine dwp_block ?_
  refine dwp_loopS ⟨hs0, rfl⟩ (α := Nat) (fun j => [(15, .val (.int .i64 (j : Int)))]) [(0, _), (7, _), (8, _), (9, _), (13, _), (14, _)] (fun j => [(4, .flat 3 [.int .i64 ((cJ (mask <<< bit) f j : Nat) : Int)]), (5, .flat 3 [.int .i64 ((f + j : Nat) : Int)]), (6, .arr 5 1 l.length ((spJ (mask <<< bit) l f j).flatMap un8))]) [_, _, _, _, .hole, .hole, .hole, _, _, _, _] (fun j => j ≤ n ∧ j ≤ 5) (fun j => n - j) 0 [0, 1, 2, 3, 4, 5, 6, 7, 8, 9, 10] (⟨by omega, by omega⟩) rfl ⟨rfl, rfl, rfl, rfl, rfl, rfl, trivial⟩ ⟨rfl, trivial⟩ ⟨rfl, rfl, rfl, rfl, rfl, rfl, rfl, rfl, rfl, rfl, rfl, trivial⟩ ?_
  intro j hx
  simp only [upd, List.set_cons_zero, List.set_cons_succ, List.cons_append, List.nil_append]
  obtain ⟨hj, hj5⟩ := hx
  have hlj := spJ_len (mask <<< bit) l f j
  have hcj := cJ_le (mask <<< bit) f j
  refine dwp_seq ?_
  refine dwp_region ?_
  refine walk_r rfl rfl rfl (op_lss rfl (ev1 rfl) (ev1 rfl)) ?_
  refine walk_nil ?_
  refine dwp_seq ?_
  refine dwp_cond rfl (fun c2 => ?_) (fun c2 => ?_)
  · try simp only [decide_eq_true_eq, decide_eq_false_iff_not, beq_iff_eq, bne_iff_ne, beq_eq_false_iff_ne, bne_eq_false_iff_eq, Bool.not_eq_true', Bool.not_eq_false', Bool.and_eq_true, Bool.or_eq_true, Bool.or_eq_false_iff, ne_eq, Decidable.not_not, Int.not_lt, Int.not_le] at c2
    refine dwp_skip ?_
    refine dwp_seq ?_
    refine dwp_block ?_
    refine dwp_seq ?_
    refine dwp_region ?_
    refine walk_r rfl rfl rfl (op_ixo (j) rfl sl25 (ev1 rfl) (ev1 rfl) (fun _ => rfl) (fun _ => by omega)) ?_
    refine walk_r rfl rfl rfl (op_lda1 rfl tb5 (ev1 rfl) rfl (fun _ => rfl) (by omega) rfl) ?_
    refine walk_r rfl rfl rfl (op_move (.inr rfl) (ev1 rfl)) ?_
    refine walk_nil ?_
    refine dwp_seq ?_
    by_cases hw : j = 5
    · have hxv : (spJ (mask <<< bit) l f j)[f + j] < 256 := by
        rw [spJ_here (show f + j < (spJ (mask <<< bit) l f j).length by omega), List.getD_eq_getElem?_getD, List.getElem?_eq_getElem (show f + j < l.length by omega)]
        exact hl2 _ (List.getElem_mem _)
      refine dwp_region ?_
      refine walk_r rfl rfl rfl (op_move (.inl rfl) (ev1 rfl)) ?_
      refine walk_r rfl rfl rfl (op_move (.inl rfl) (ev1 rfl)) ?_
      refine walk_w rfl rfl rfl (op_y (i := 0) [0, 1, 2, 3, 4, 5, 6, 7, 8] [] [] rfl (ev1 rfl) (ec (ev1 rfl) en) rfl rfl rfl (tuRound_stop mask bit f _ (f + j) _ l.length (spJ (mask <<< bit) l f j) hm hb (by omega) (by omega) (by omega) hxv (by omega) (by omega) (by omega)) rfl rfl rfl rfl rfl) (by simp only [upd, List.set_cons_zero, List.set_cons_succ]; exact rfl) ?_
      refine walk_r rfl rfl rfl (op_not rfl (ev1 rfl)) ?_
      refine walk_nil ?_
      refine dwp_if_t rfl (rfl) ?_
      refine dwp_ret ?_
      have e1 : decide (n ≤ 5) = false := decide_eq_false (by omega)
      obtain rfl : j = 5 := hw
      rw [e1, show min n 5 = 5 by omega]
      refine kend [0, 1, 2, 3, 4, 5, 6, 7, 8, 9, 10] (res_none rfl) rfl rfl ?_ ⟨rfl, rfl, rfl, rfl, rfl, rfl, rfl, rfl, rfl, rfl, rfl, trivial⟩
      rfl
    · have hxv : (spJ (mask <<< bit) l f j)[f + j] < 256 := by
        rw [spJ_here (show f + j < (spJ (mask <<< bit) l f j).length by omega), List.getD_eq_getElem?_getD, List.getElem?_eq_getElem (show f + j < l.length by omega)]
        exact hl2 _ (List.getElem_mem _)
      refine dwp_region ?_
      refine walk_r rfl rfl rfl (op_move (.inl rfl) (ev1 rfl)) ?_
      refine walk_r rfl rfl rfl (op_move (.inl rfl) (ev1 rfl)) ?_
      refine walk_w rfl rfl rfl (op_y (i := 0) [0, 1, 2, 3, 4, 5, 6, 7, 8] [] [] rfl (ev1 rfl) (ec (ev1 rfl) en) rfl rfl rfl (tuRound_go mask bit f _ (f + j) _ l.length (spJ (mask <<< bit) l f j) hm hb (by omega) (by omega) (by omega) hxv (by omega) (by omega) (by omega)) rfl rfl rfl rfl rfl) (by simp only [upd, List.set_cons_zero, List.set_cons_succ]; exact rfl) ?_
      refine walk_r rfl rfl rfl (op_not rfl (ev1 rfl)) ?_
      refine walk_nil ?_
      refine dwp_if_f rfl (rfl) ?_
      refine dwp_skip ?_
      refine dwp_region ?_
      refine walk_r rfl rfl rfl (op_add' rfl (ev1 rfl) (ev1 rfl) (fun _ => IntWalk.i64_in _ (by omega))) ?_
      refine walk_r rfl rfl rfl (op_move (.inl rfl) (ev1 rfl)) ?_
      refine walk_nil ?_
      refine ⟨j + 1, [0, 1, 2, 3, 4, 5, 6, 7, 8, 9, 10], ⟨by omega, by omega⟩, by simp only []; omega, rfl, ⟨rfl, rfl, rfl, rfl, rfl, rfl, rfl, trivial⟩, ⟨rfl, rfl, rfl, rfl, by rw [cJ]; rfl, rfl, by rw [spJ, ← spJ_here (show f + j < (spJ (mask <<< bit) l f j).length by omega)]; rfl, rfl, rfl, rfl, rfl, trivial⟩⟩
  · try simp only [decide_eq_true_eq, decide_eq_false_iff_not, beq_iff_eq, bne_iff_ne, beq_eq_false_iff_ne, bne_eq_false_iff_eq, Bool.not_eq_true', Bool.not_eq_false', Bool.and_eq_true, Bool.or_eq_true, Bool.or_eq_false_iff, ne_eq, Decidable.not_not, Int.not_lt, Int.not_le] at c2
    refine dwp_exit ?_
    refine dwp_region ?_
    refine walk_r rfl rfl rfl (op_add' rfl (ev1 rfl) (ev1 rfl) (fun _ => IntWalk.i64_in _ (by omega))) ?_
    refine walk_r rfl rfl rfl (op_move (.inl rfl) (ev1 rfl)) ?_
    refine walk_nil ?_
    refine dloop_step ?_
    refine dwp_seq ?_
    refine dwp_region ?_
    refine walk_r rfl rfl rfl (op_lss rfl (ev1 rfl) (ev1 rfl)) ?_
    refine walk_nil ?_
    refine dwp_seq ?_
    refine dwp_if_f rfl (rfl) ?_
    refine dwp_exit ?_
    have e1 : decide (n ≤ 5) = true := decide_eq_true (by omega)
    rw [e1, show min n 5 = j by omega]
    refine kend [0, 1, 2, 3, 4, 5, 6, 7, 8, 9, 10] (res_none rfl) rfl rfl ?_ ⟨rfl, rfl, rfl, rfl, rfl, rfl, rfl, rfl, rfl, rfl, rfl, trivial⟩
    rfl

end Go.Proofs.Ytnpfbeoibbejeaa
