/- registers, and what bits fed to them come to -/
import Derived.Test.YtgomklemldldiaaIt
namespace Go.Proofs.Ytgomklemldldiaa
set_option linter.unusedVariables false
set_option linter.unusedSimpArgs false
open Go.RowKit
/-- the polynomial -/
def PL : Nat := 3988292384
/-- a register behind a bit 0 -/
def Zr (n : Nat) : Nat := if n % 2 = 1 then (n >>> 1) ^^^ PL else n >>> 1
/-- .. and back -/
def Wr (n : Nat) : Nat := if n >>> 31 = 1 then ((n ^^^ PL) <<< 1) + 1 else n <<< 1
def Zs : Nat → Nat → Nat
  | 0, n => n
  | k + 1, n => Zs k (Zr n)
def Ws : Nat → Nat → Nat
  | 0, n => n
  | k + 1, n => Ws k (Wr n)
theorem mod2_xor (a b : Nat) : (a ^^^ b) % 2 = (a % 2 + b % 2) % 2 := by
  have h := Nat.testBit_xor a b 0
  simp only [Nat.testBit_zero] at h
  have h0 := Nat.mod_two_eq_zero_or_one (a ^^^ b)
  rcases Nat.mod_two_eq_zero_or_one a with h1 | h1 <;> rcases Nat.mod_two_eq_zero_or_one b with h2 | h2 <;> rcases h0 with h0 | h0 <;> simp [h0, h1, h2] at h ⊢
theorem Zr_xor (a b : Nat) : Zr (a ^^^ b) = Zr a ^^^ Zr b := by
  unfold Zr
  rw [mod2_xor, Nat.shiftRight_xor_distrib]
  have e : ∀ x y p : Nat, (x ^^^ p) ^^^ y = (x ^^^ y) ^^^ p := fun x y p => by rw [Nat.xor_assoc, Nat.xor_comm p y, ← Nat.xor_assoc]
  rcases Nat.mod_two_eq_zero_or_one a with h1 | h1 <;> rcases Nat.mod_two_eq_zero_or_one b with h2 | h2 <;> rw [h1, h2] <;> simp
  · rw [Nat.xor_assoc]
  · rw [e]
  · rw [e, ← Nat.xor_assoc, Nat.xor_assoc, Nat.xor_self, Nat.xor_zero]
theorem Zs_xor : ∀ (k a b : Nat), Zs k (a ^^^ b) = Zs k a ^^^ Zs k b
  | 0, _, _ => rfl
  | k + 1, a, b => by rw [Zs, Zr_xor, Zs_xor k]; rfl
theorem Zs_zero : ∀ k, Zs k 0 = 0
  | 0 => rfl
  | k + 1 => Zs_zero k
theorem Zs_add : ∀ (j k n : Nat), Zs (j + k) n = Zs k (Zs j n)
  | 0, k, n => by rw [Nat.zero_add]; rfl
  | j + 1, k, n => by rw [Nat.succ_add, Zs, Zs_add j k]; rfl
theorem Zr_shl (n : Nat) : Zr (n <<< 1) = n := by
  unfold Zr
  rw [if_neg (by rw [Nat.shiftLeft_eq]; omega), Nat.shiftRight_eq_div_pow, Nat.shiftLeft_eq]
  omega
theorem Zs_shl : ∀ (k n : Nat), Zs k (n <<< k) = n
  | 0, n => rfl
  | k + 1, n => by
    rw [Nat.add_comm k 1, Nat.shiftLeft_add, Nat.add_comm 1 k, Zs]
    have e : (n <<< 1) <<< k = (n <<< k) <<< 1 := by rw [← Nat.shiftLeft_add, Nat.add_comm, Nat.shiftLeft_add]
    rw [e, Zr_shl, Zs_shl k]
theorem PL_lt : PL < 2 ^ 32 := by decide
theorem Zr_lt {n : Nat} (h : n < 2 ^ 32) : Zr n < 2 ^ 32 := by
  have h2 : n >>> 1 < 2 ^ 32 := by rw [Nat.shiftRight_eq_div_pow]; omega
  unfold Zr
  split
  · exact Nat.xor_lt_two_pow h2 PL_lt
  · exact h2
theorem Zs_lt : ∀ (k : Nat) {n : Nat}, n < 2 ^ 32 → Zs k n < 2 ^ 32
  | 0, _, h => h
  | k + 1, _, h => Zs_lt k (Zr_lt h)
theorem top_xor {n : Nat} (h : n < 2 ^ 31) : (n ^^^ PL) >>> 31 = 1 := by
  rw [Nat.shiftRight_xor_distrib, Nat.shiftRight_eq_div_pow, Nat.div_eq_of_lt h, Nat.zero_xor]
  rfl
theorem top_xor' {n : Nat} (h : n >>> 31 = 1) : n ^^^ PL < 2 ^ 31 := by
  have h2 : (n ^^^ PL) >>> 31 = 0 := by rw [Nat.shiftRight_xor_distrib, h]; rfl
  rw [Nat.shiftRight_eq_div_pow] at h2
  omega
theorem xor_xor (a b : Nat) : (a ^^^ b) ^^^ b = a := by rw [Nat.xor_assoc, Nat.xor_self, Nat.xor_zero]
theorem xor_xor' (a b : Nat) : (a ^^^ b) ^^^ a = b := by rw [Nat.xor_comm a b, xor_xor]
theorem Wr_Zr {n : Nat} (h : n < 2 ^ 32) : Wr (Zr n) = n := by
  have h2 : n >>> 1 < 2 ^ 31 := by rw [Nat.shiftRight_eq_div_pow]; omega
  unfold Zr
  split
  · unfold Wr
    rw [if_pos (top_xor h2), xor_xor, Nat.shiftRight_eq_div_pow, Nat.shiftLeft_eq]
    omega
  · unfold Wr
    rw [if_neg (by rw [Nat.shiftRight_eq_div_pow, Nat.div_eq_of_lt h2]; decide), Nat.shiftRight_eq_div_pow, Nat.shiftLeft_eq]
    omega
theorem Zr_Wr {n : Nat} (h : n < 2 ^ 32) : Zr (Wr n) = n := by
  unfold Wr
  split
  · rename_i h1
    unfold Zr
    rw [if_pos (by rw [Nat.shiftLeft_eq]; omega)]
    have e : (((n ^^^ PL) <<< 1) + 1) >>> 1 = n ^^^ PL := by rw [Nat.shiftRight_eq_div_pow, Nat.shiftLeft_eq]; omega
    rw [e, xor_xor]
  · exact Zr_shl n
theorem Wr_lt {n : Nat} (h : n < 2 ^ 32) : Wr n < 2 ^ 32 := by
  unfold Wr
  split
  · rename_i h1
    have := top_xor' h1
    rw [Nat.shiftLeft_eq]
    omega
  · rename_i h1
    rw [Nat.shiftRight_eq_div_pow] at h1
    rw [Nat.shiftLeft_eq]
    omega
theorem Ws_lt : ∀ (k : Nat) {n : Nat}, n < 2 ^ 32 → Ws k n < 2 ^ 32
  | 0, _, h => h
  | k + 1, _, h => Ws_lt k (Wr_lt h)
theorem Ws_succ : ∀ (k n : Nat), Ws (k + 1) n = Wr (Ws k n)
  | 0, n => rfl
  | k + 1, n => by rw [Ws, Ws_succ k]; rfl
theorem Zs_succ (k n : Nat) : Zs (k + 1) n = Zr (Zs k n) := Zs_add k 1 n
theorem Zs_Ws : ∀ (k : Nat) {n : Nat}, n < 2 ^ 32 → Zs k (Ws k n) = n
  | 0, _, _ => rfl
  | k + 1, n, h => by rw [Ws_succ, Zs, Zr_Wr (Ws_lt k h), Zs_Ws k h]
theorem Ws_Zs : ∀ (k : Nat) {n : Nat}, n < 2 ^ 32 → Ws k (Zs k n) = n
  | 0, _, _ => rfl
  | k + 1, n, h => by rw [Zs_succ, Ws, Wr_Zr (Zs_lt k h), Ws_Zs k h]
theorem Zr_odd {n : Nat} (h : n % 2 = 1) : Zr n = (n >>> 1) ^^^ PL := if_pos h
theorem Zr_even {n : Nat} (h : ¬ n % 2 = 1) : Zr n = n >>> 1 := if_neg h
theorem Wr_top {n : Nat} (h : n >>> 31 = 1) : Wr n = ((n ^^^ PL) <<< 1) + 1 := if_pos h
theorem Wr_low {n : Nat} (h : ¬ n >>> 31 = 1) : Wr n = n <<< 1 := if_neg h
theorem Zs_nil (n : Nat) : Zs 0 n = n := rfl
attribute [local irreducible] Zs Ws Zr Wr
theorem Zs_inj (k : Nat) {a b : Nat} (ha : a < 2 ^ 32) (hb : b < 2 ^ 32) (h : Zs k a = Zs k b) : a = b := by
  rw [← Ws_Zs k ha, h, Ws_Zs k hb]
/-- a register behind bytes -/
def fed (r : Nat) : List Nat → Nat
  | [] => r
  | x :: l => fed (Zs 8 (r ^^^ x)) l
theorem fed_app : ∀ (r : Nat) (l m : List Nat), fed r (l ++ m) = fed (fed r l) m
  | _, [], _ => rfl
  | r, x :: l, m => by rw [List.cons_append, fed, fed_app _ l, fed]
/-- bytes as one number, the first one lowest -/
def valL : List Nat → Nat
  | [] => 0
  | x :: l => x ^^^ (valL l <<< 8)
theorem fed_val : ∀ (r : Nat) (l : List Nat), fed r l = Zs (8 * l.length) (r ^^^ valL l)
  | r, [] => by rw [valL, Nat.xor_zero, fed, List.length_nil, Nat.mul_zero, Zs_nil]
  | r, x :: l => by
    rw [fed, fed_val _ l, List.length_cons, Nat.mul_succ, Nat.add_comm, Zs_add 8, valL, ← Nat.xor_assoc, Zs_xor 8 (r ^^^ x), Zs_shl 8]
theorem byte_lt {x : Nat} (h : x < 256) : x < 2 ^ 32 := by omega
theorem fed_lt : ∀ {r : Nat} (l : List Nat), r < 2 ^ 32 → (∀ x ∈ l, x < 256) → fed r l < 2 ^ 32
  | _, [], h, _ => h
  | r, x :: l, h, hl => fed_lt l (Zs_lt 8 (Nat.xor_lt_two_pow h (byte_lt (hl x (List.mem_cons_self ..))))) fun y hy => hl y (List.mem_cons_of_mem _ hy)
def ones : Nat := 4294967295
theorem ones_lt : ones < 2 ^ 32 := by decide
/-- each bit turned -/
def trn (n : Nat) : Nat := n ^^^ ones
theorem trn_lt {n : Nat} (h : n < 2 ^ 32) : trn n < 2 ^ 32 := Nat.xor_lt_two_pow h ones_lt
theorem trn_trn (n : Nat) : trn (trn n) = n := xor_xor n ones
def sumC (l : List Nat) : Nat := trn (fed ones l)
def moreC (s : Nat) (l : List Nat) : Nat := trn (fed (trn s) l)
theorem sum_more (l : List Nat) : sumC l = moreC 0 l := by unfold sumC moreC trn; rw [Nat.zero_xor]
theorem more_app (s : Nat) (l m : List Nat) : moreC s (l ++ m) = moreC (moreC s l) m := by
  unfold moreC; rw [trn_trn, fed_app]
/-- a word's bytes, the lowest first -/
def four (w : Nat) : List Nat := [w % 256, w / 256 % 256, w / 65536 % 256, w / 16777216]
theorem low_xor {x y : Nat} (h : x < 256) : x ^^^ (y <<< 8) = x + y * 256 := by
  have := Nat.shiftLeft_add_eq_or_of_lt (b := x) (i := 8) h y
  have e : y <<< 8 + x = (y <<< 8) ^^^ x := by
    rw [this]
    refine Nat.eq_of_testBit_eq fun i => ?_
    rw [Nat.testBit_or, Nat.testBit_xor, Nat.testBit_shiftLeft]
    by_cases hi : 8 ≤ i
    · have : x.testBit i = false := Nat.testBit_lt_two_pow (Nat.lt_of_lt_of_le h (Nat.pow_le_pow_right (n := 2) (by decide) hi))
      rw [this]; simp
    · simp [hi]
  rw [Nat.xor_comm, ← e, Nat.shiftLeft_eq]
  omega
theorem val_four {w : Nat} (h : w < 2 ^ 32) : valL (four w) = w := by
  have h1 : w / 16777216 < 256 := by omega
  have h2 : w / 65536 % 256 < 256 := by omega
  have h3 : w / 256 % 256 < 256 := by omega
  have h4 : w % 256 < 256 := by omega
  unfold four
  rw [valL, valL, valL, valL, valL, Nat.zero_shiftLeft, Nat.xor_zero, low_xor h2, low_xor h3, low_xor h4]
  omega
theorem four_lt {w : Nat} (h : w < 2 ^ 32) : ∀ x ∈ four w, x < 256 := by
  intro x hx
  simp only [four, List.mem_cons, List.not_mem_nil, or_false] at hx
  omega
theorem fed_four (r : Nat) {w : Nat} (h : w < 2 ^ 32) : fed r (four w) = Zs 32 (r ^^^ w) := by rw [fed_val, val_four h]; rfl
theorem four_inj {a b : Nat} (ha : a < 2 ^ 32) (hb : b < 2 ^ 32) (h : four a = four b) : a = b := by rw [← val_four ha, h, val_four hb]
theorem four_of : ∀ {l : List Nat}, l.length = 4 → (∀ x ∈ l, x < 256) → ∃ w, w < 2 ^ 32 ∧ l = four w
  | [a, b, c, d], _, h => by
    have ha := h a (by simp)
    have hb := h b (by simp)
    have hc := h c (by simp)
    have hd := h d (by simp)
    refine ⟨a + b * 256 + c * 65536 + d * 16777216, by omega, ?_⟩
    unfold four
    congr 1
    · omega
    · congr 1
      · omega
      · congr 1
        · omega
        · congr 1
          omega
/-- all is sealed just if the register comes to this -/
theorem seal_iff {b : List Nat} {w : Nat} (hb : ∀ x ∈ b, x < 256) (hw : w < 2 ^ 32) : fed ones (b ++ four w) = Zs 32 ones ↔ w = sumC b := by
  have hf := fed_lt b ones_lt hb
  rw [fed_app, fed_four _ hw]
  constructor
  · intro h
    have := Zs_inj 32 (Nat.xor_lt_two_pow hf hw) ones_lt h
    unfold sumC trn
    generalize fed ones b = f at this
    rw [← this, ← Nat.xor_assoc, Nat.xor_self, Nat.zero_xor]
  · rintro rfl
    unfold sumC trn
    rw [← Nat.xor_assoc, Nat.xor_self, Nat.zero_xor]
/-- what is spoilt within 32 bits in a row comes to another register -/
theorem burst {r m bit : Nat} {l l' : List Nat} (hl : l'.length = l.length) (hv : valL l' = valL l ^^^ (m <<< bit)) (hb : bit ≤ 8 * l.length) (h0 : m ≠ 0) (hm : m < 2 ^ 32) : fed r l' ≠ fed r l := by
  rw [fed_val, fed_val, hl, hv, ← Nat.xor_assoc, Zs_xor]
  intro h
  have e : Zs (8 * l.length) (m <<< bit) = Zs (8 * l.length - bit) m := by
    rw [show 8 * l.length = bit + (8 * l.length - bit) by omega, Zs_add, Zs_shl]
    congr 1
    omega
  have h2 : Zs (8 * l.length) (m <<< bit) = 0 := by
    have := congrArg (fun x => Zs (8 * l.length) (r ^^^ valL l) ^^^ x) h
    simp only [← Nat.xor_assoc, Nat.xor_self, Nat.zero_xor] at this
    exact this
  rw [e] at h2
  have h3 : Zs (8 * l.length - bit) m = Zs (8 * l.length - bit) 0 := by rw [h2, Zs_zero]
  exact h0 (Zs_inj _ hm (by decide) h3)
theorem xor_n {a b : Nat} (ha : a < 2 ^ 32) (hb : b < 2 ^ 32) : xorZ .u32 (a : Int) (b : Int) = ((a ^^^ b : Nat) : Int) := by
  have e : (BitVec.ofInt 32 (a : Int) ^^^ BitVec.ofInt 32 (b : Int)).toNat = a ^^^ b := by
    rw [BitVec.ofInt_natCast, BitVec.ofInt_natCast, BitVec.toNat_xor, BitVec.toNat_ofNat, BitVec.toNat_ofNat, Nat.mod_eq_of_lt ha, Nat.mod_eq_of_lt hb]
  have h := Nat.xor_lt_two_pow ha hb
  show IntKind.u32.wrap (((BitVec.ofInt 32 (a : Int) ^^^ BitVec.ofInt 32 (b : Int)).toNat : Nat) : Int) = _
  rw [e]
  exact IntWalk.u32_in _ (by omega)
theorem and_one {a : Nat} (ha : a < 2 ^ 32) : andZ .u32 (a : Int) 1 = ((a % 2 : Nat) : Int) := by
  have e : (BitVec.ofInt 32 (a : Int) &&& BitVec.ofInt 32 ((1 : Nat) : Int)).toNat = a % 2 := by
    rw [BitVec.ofInt_natCast, BitVec.ofInt_natCast, BitVec.toNat_and, BitVec.toNat_ofNat, BitVec.toNat_ofNat, Nat.mod_eq_of_lt ha, Nat.mod_eq_of_lt (by decide), Nat.and_one_is_mod]
  show IntKind.u32.wrap (((BitVec.ofInt 32 (a : Int) &&& BitVec.ofInt 32 ((1 : Nat) : Int)).toNat : Nat) : Int) = _
  rw [e]
  exact IntWalk.u32_in _ (by omega)
theorem or_one {a : Nat} (ha : a < 2 ^ 31) : orZ .u32 (IntKind.u32.wrap ((a : Int) * 2 ^ 1)) 1 = ((a <<< 1 + 1 : Nat) : Int) := by
  have e : (BitVec.ofInt 32 ((a * 2 : Nat) : Int) ||| BitVec.ofInt 32 ((1 : Nat) : Int)).toNat = a * 2 + 1 := by
    rw [BitVec.ofInt_natCast, BitVec.ofInt_natCast, BitVec.toNat_or, BitVec.toNat_ofNat, BitVec.toNat_ofNat, Nat.mod_eq_of_lt (by omega), Nat.mod_eq_of_lt (by decide)]
    have := Nat.shiftLeft_add_eq_or_of_lt (b := 1) (i := 1) (by decide) a
    rw [Nat.shiftLeft_eq] at this
    exact this.symm
  have e2 : IntKind.u32.wrap ((a : Int) * 2 ^ 1) = ((a * 2 : Nat) : Int) := by rw [IntWalk.u32_in _ (by omega)]; omega
  rw [e2]
  show IntKind.u32.wrap (((BitVec.ofInt 32 ((a * 2 : Nat) : Int) ||| BitVec.ofInt 32 ((1 : Nat) : Int)).toNat : Nat) : Int) = _
  rw [e, Nat.shiftLeft_eq]
  exact IntWalk.u32_in _ (by omega)
theorem shr_n (a k : Nat) : (a : Int) / 2 ^ k = ((a >>> k : Nat) : Int) := by
  rw [Nat.shiftRight_eq_div_pow, Int.natCast_ediv, Int.natCast_pow]; rfl
theorem halved_t {n : Nat} (hn : n < 2 ^ 32) (h : n % 2 = 1) : xorZ .u32 ((n : Int) / 2 ^ 1) 3988292384 = (Zr n : Nat) := by
  have h2 : n >>> 1 < 2 ^ 32 := by rw [Nat.shiftRight_eq_div_pow]; omega
  have h3 := xor_n h2 PL_lt
  rw [shr_n, show (3988292384 : Int) = ((PL : Nat) : Int) from rfl, h3, Zr_odd h]
theorem halved_f {n : Nat} (h : ¬ n % 2 = 1) : (n : Int) / 2 ^ 1 = (Zr n : Nat) := by rw [shr_n, Zr_even h]
theorem cpl_n {n : Nat} (h : n < 2 ^ 32) : xorZ .u32 (if IntKind.u32.signed = true then -1 else IntKind.u32.max) (n : Int) = (trn n : Nat) := by
  have := xor_n ones_lt h
  rw [show (if IntKind.u32.signed = true then (-1 : Int) else IntKind.u32.max) = ((ones : Nat) : Int) from rfl, this, Nat.xor_comm]
  rfl
theorem doubled_t {n : Nat} (h : n >>> 31 = 1) (hn : n < 2 ^ 32) : orZ .u32 (IntKind.u32.wrap (xorZ .u32 (n : Int) 3988292384 * 2 ^ 1)) 1 = (Wr n : Nat) := by
  have h2 := top_xor' h
  have h3 := xor_n hn PL_lt
  rw [show (3988292384 : Int) = ((PL : Nat) : Int) from rfl, h3, or_one h2, Wr_top h]
theorem doubled_f {n : Nat} (h : ¬ n >>> 31 = 1) (hn : n < 2 ^ 32) : IntKind.u32.wrap ((n : Int) * 2 ^ 1) = (Wr n : Nat) := by
  have h2 : n < 2 ^ 31 := by
    rw [Nat.shiftRight_eq_div_pow] at h
    omega
  rw [Wr_low h, Nat.shiftLeft_eq, IntWalk.u32_in _ (by omega)]
  omega

end Go.Proofs.Ytgomklemldldiaa
