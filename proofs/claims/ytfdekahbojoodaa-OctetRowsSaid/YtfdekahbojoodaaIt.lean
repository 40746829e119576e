/- what types are; the data of the layer -/
import Derived.Test.YtfdekahbojoodaaLx
import Derived.Test.YtfdekahbojoodaaProg
namespace Go.Proofs.Ytfdekahbojoodaa
set_option linter.unusedVariables false
set_option linter.unusedSimpArgs false
open Go.RowKit
theorem mixed : Try.prog.follows .mixedOrders = true := by kernel_rfl

def uc8 (n : Int) : List Value := [.int .u8 n]
def ic (n : Int) : List Value := [.int .i64 n]
def uc (n : Int) : List Value := [.int .u64 n]
def isW (n : Int) : Bool := decide (1 ≤ n) && decide (n ≤ 8)
def fitsN (w : Nat) (n : Int) : Bool := decide (w = 8) || decide (n / 2 ^ (8 * w) = 0)
/-- the eight bytes, the lowest k of them laid -/
def lowN (n : Int) : Nat → List Int
  | 0 => List.replicate 8 0
  | k + 1 => (lowN n k).set (7 - k) (IntKind.u8.wrap (n / 2 ^ (8 * k)))
theorem lowN_len (n : Int) : ∀ k, (lowN n k).length = 8
  | 0 => rfl
  | k + 1 => by rw [lowN, List.length_set, lowN_len n k]
def bytesN (w : Nat) (n : Int) : List Int := (lowN n 8).drop (8 - w)
theorem bytesN_len {w : Nat} {n : Int} (h : w ≤ 8) : (bytesN w n).length = w := by rw [bytesN, List.length_drop, lowN_len]; omega
theorem bn_t {b : Bool} (h : (!b) = true) : b = false := by cases b <;> simp_all
theorem bn_f {b : Bool} (h : (!b) = false) : b = true := by cases b <;> simp_all
theorem isW_iff {n : Int} : isW n = true ↔ 1 ≤ n ∧ n ≤ 8 := by simp [isW]
theorem uc8_len (n : Int) : (uc8 n).length = 1 := rfl
theorem fl8 (l : List Int) : (l.flatMap uc8).length = l.length := by rw [flat_len uc8_len, Nat.mul_one]
theorem lay_one {A B : List Value} {z : Value} {p m r : Nat} (hp : p = A.length) (hm : B.length = m) : setL (A ++ List.replicate (m + r) z) p B = A ++ B ++ List.replicate r z := by
  subst hp hm
  rw [setL_eq _ _ _ (by simp), List.take_left, List.drop_append]
  congr 1
  rw [List.drop_of_length_le (by omega), List.nil_append, List.drop_replicate]
  congr 1
  omega
theorem beh2 (l1 l2 : List Int) {z : Value} (p0 p1 k1 k2 : Nat) (h0 : p0 = 0) (h1 : k1 = l1.length) (h2 : p1 = l1.length) (h3 : k2 = l2.length) :
    setL (setL (List.replicate (l1.length + l2.length) z) p0 ((l1.flatMap uc8).take k1)) p1 ((l2.flatMap uc8).take k2) = (l1 ++ l2).flatMap uc8 := by
  rw [List.take_of_length_le (by rw [fl8]; omega), List.take_of_length_le (by rw [fl8]; omega)]
  have e1 := lay_one (A := []) (B := l1.flatMap uc8) (z := z) (p := p0) (m := l1.length) (r := l2.length) h0 (fl8 _)
  rw [List.nil_append, List.nil_append] at e1
  rw [e1]
  have e2 := lay_one (A := l1.flatMap uc8) (B := l2.flatMap uc8) (z := z) (p := p1) (m := l2.length) (r := 0) (by rw [fl8]; exact h2) (fl8 _)
  rw [Nat.add_zero] at e2
  rw [e2, List.flatMap_append]
  simp
theorem beh3 (l1 l2 l3 : List Int) {z : Value} (p0 p1 p2 k1 k2 k3 : Nat) (h0 : p0 = 0) (h1 : k1 = l1.length) (h2 : p1 = l1.length) (h3 : k2 = l2.length) (h4 : p2 = l1.length + l2.length) (h5 : k3 = l3.length) :
    setL (setL (setL (List.replicate (l1.length + l2.length + l3.length) z) p0 ((l1.flatMap uc8).take k1)) p1 ((l2.flatMap uc8).take k2)) p2 ((l3.flatMap uc8).take k3) = (l1 ++ l2 ++ l3).flatMap uc8 := by
  rw [List.take_of_length_le (by rw [fl8]; omega), List.take_of_length_le (by rw [fl8]; omega), List.take_of_length_le (by rw [fl8]; omega)]
  have e1 := lay_one (A := []) (B := l1.flatMap uc8) (z := z) (p := p0) (m := l1.length) (r := l2.length + l3.length) h0 (fl8 _)
  rw [List.nil_append, List.nil_append, ← Nat.add_assoc] at e1
  rw [e1]
  have e2 := lay_one (A := l1.flatMap uc8) (B := l2.flatMap uc8) (z := z) (p := p1) (m := l2.length) (r := l3.length) (by rw [fl8]; exact h2) (fl8 _)
  rw [e2]
  have e3 := lay_one (A := l1.flatMap uc8 ++ l2.flatMap uc8) (B := l3.flatMap uc8) (z := z) (p := p2) (m := l3.length) (r := 0) (by rw [List.length_append, fl8, fl8]; exact h4) (fl8 _)
  rw [Nat.add_zero] at e3
  rw [e3, List.flatMap_append, List.flatMap_append]
  simp
/-- what a number comes to with a byte more -/
def numR (acc b : Int) : Int := orZ .u64 (IntKind.u64.wrap (acc * 2 ^ 8)) (IntKind.u64.wrap b)
def numN (w : Nat) (l : List Int) : Int := (l.take w).foldl numR 0
theorem numN_succ {k : Nat} {l : List Int} (h : k < l.length) : numN (k + 1) l = numR (numN k l) l[k] := by
  rw [numN, List.take_succ_eq_append_getElem h, List.foldl_append]; rfl
theorem numN_all {w : Nat} {l : List Int} (h : l.length ≤ w) : numN w l = numN l.length l := by
  rw [numN, numN, List.take_of_length_le h, List.take_length]
theorem sum_take {l : List Int} {k : Nat} (h : k < l.length) : (l.take (k + 1)).sum = (l.take k).sum + l[k] := by
  rw [List.take_succ_eq_append_getElem h, List.sum_append]; simp
theorem sum_bd {l : List Int} (h : l.all isW = true) : ∀ k, k ≤ l.length → 0 ≤ (l.take k).sum ∧ (l.take k).sum ≤ 8 * k
  | 0, _ => by simp
  | k + 1, hk => by
    have ih := sum_bd h k (by omega)
    have h2 := isW_iff.1 (List.all_eq_true.1 h l[k] (List.getElem_mem _))
    rw [sum_take (by omega)]
    omega
def layN : List Int → List Int → List Int
  | w :: ws, n :: ns => bytesN w.toNat n ++ layN ws ns
  | _, _ => []
theorem layN_take : ∀ {ws ns : List Int} {k : Nat} (h : k < ws.length) (h' : k < ns.length), layN (ws.take (k + 1)) (ns.take (k + 1)) = layN (ws.take k) (ns.take k) ++ bytesN (ws[k]).toNat ns[k]
  | w :: ws, n :: ns, 0, _, _ => by simp [layN]
  | w :: ws, n :: ns, k + 1, h, h' => by
    rw [List.take_succ_cons, List.take_succ_cons, layN, layN_take (by simpa using h) (by simpa using h')]
    rw [List.take_succ_cons, List.take_succ_cons, layN, List.append_assoc]
    rfl
  | [], _, k, h, _ => by simp at h
  | _ :: _, [], k, _, h' => by simp at h'
theorem layN_len : ∀ {ws ns : List Int}, ws.all isW = true → (layN ws ns).length ≤ 8 * ws.length
  | [], ns, _ => by cases ns <;> simp [layN]
  | w :: ws, [], _ => by simp [layN]
  | w :: ws, n :: ns, h => by
    rw [List.all_cons, Bool.and_eq_true] at h
    have h1 := isW_iff.1 h.1
    rw [layN, List.length_append, bytesN_len (by omega), List.length_cons]
    have := layN_len (ns := ns) h.2
    omega
theorem all_take {ws : List Int} (h : ws.all isW = true) (k : Nat) : (ws.take k).all isW = true := List.all_eq_true.2 fun x hx => List.all_eq_true.1 h x (List.mem_of_mem_take hx)
def splitN : List Int → List Int → List Int
  | [], _ => []
  | w :: ws, b => numN w.toNat b :: splitN ws (b.drop w.toNat)
theorem splitN_len : ∀ (ws b : List Int), (splitN ws b).length = ws.length
  | [], _ => rfl
  | w :: ws, b => by rw [splitN, List.length_cons, List.length_cons, splitN_len ws]
theorem splitN_take : ∀ {ws : List Int} (b : List Int) {k : Nat} (h : k < ws.length), ws.all isW = true → splitN (ws.take (k + 1)) b = splitN (ws.take k) b ++ [numN (ws[k]).toNat (b.drop (ws.take k).sum.toNat)]
  | w :: ws, b, 0, _, _ => by simp [splitN]
  | w :: ws, b, k + 1, h, ha => by
    rw [List.all_cons, Bool.and_eq_true] at ha
    have hw := isW_iff.1 ha.1
    have hs := sum_bd ha.2 k (by simpa using Nat.le_of_lt h)
    rw [List.take_succ_cons, splitN, splitN_take (b.drop w.toNat) (by simpa using h) ha.2, List.take_succ_cons, splitN, List.drop_drop, List.sum_cons, show (w + (ws.take k).sum).toNat = w.toNat + (ws.take k).sum.toNat by omega]
    rfl
  | [], _, k, h, _ => by simp at h
theorem sum_mono {ws : List Int} (h : ws.all isW = true) (k : Nat) : (ws.take k).sum ≤ ws.sum := by
  have e : ws.sum = (ws.take k).sum + (ws.drop k).sum := by rw [← List.sum_append, List.take_append_drop]
  have h2 : (ws.drop k).all isW = true := List.all_eq_true.2 fun x hx => List.all_eq_true.1 h x (List.mem_of_mem_drop hx)
  have := sum_bd h2 (ws.drop k).length (Nat.le_refl _)
  rw [List.take_length] at this
  omega
theorem fits2 {n : Nat} (h : n ≤ 65535) : fitsN 2 (n : Int) = true := by
  simp [fitsN]
  omega
def cmpI (x y : Int) : Int := if x < y then -1 else if y < x then 1 else 0
def cmpL : List Int → List Int → Int
  | [], [] => 0
  | [], _ :: _ => -1
  | _ :: _, [] => 1
  | a :: l, b :: r => if cmpI a b ≠ 0 then cmpI a b else cmpL l r
theorem cmpL_drop {l r : List Int} {k : Nat} (h : k < l.length) (h2 : k < r.length) : cmpL (l.drop k) (r.drop k) = if cmpI l[k] r[k] ≠ 0 then cmpI l[k] r[k] else cmpL (l.drop (k + 1)) (r.drop (k + 1)) := by
  rw [List.drop_eq_getElem_cons h, List.drop_eq_getElem_cons h2, cmpL]
theorem cmpL_more {l r : List Int} {k : Nat} (h : k < l.length) (h2 : r.length ≤ k) : cmpL (l.drop k) (r.drop k) = 1 := by
  rw [List.drop_eq_getElem_cons h, List.drop_of_length_le h2, cmpL]
theorem cmpL_end {l r : List Int} {k : Nat} (h : l.length ≤ k) : cmpL (l.drop k) (r.drop k) = if k < r.length then -1 else 0 := by
  rw [List.drop_of_length_le h]
  by_cases q : k < r.length
  · rw [if_pos q, List.drop_eq_getElem_cons q, cmpL]
  · rw [if_neg q, List.drop_of_length_le (by omega), cmpL]
theorem div_bd {n : Int} (h : 0 ≤ n) (k : Nat) : 0 ≤ n / 256 ^ k ∧ n / 256 ^ k ≤ n :=
  ⟨Int.ediv_nonneg h (Int.le_of_lt (Int.pow_pos (by decide))), Int.ediv_le_self _ h⟩
/-- the document's bytes of a number -/
def layR (n : Int) : Nat → List Int
  | 0 => []
  | k + 1 => IntKind.u8.wrap (n / 256 ^ k % 256) :: layR n k
theorem layR_len (n : Int) : ∀ k, (layR n k).length = k
  | 0 => rfl
  | k + 1 => by rw [layR, List.length_cons, layR_len n k]
theorem ar84 : arE Try.prog 84 = some (8, 1) := by kernel_rfl
theorem fl72 : fdL Try.prog 72 = some [(0, 1)] := by kernel_rfl
theorem fl74 : fdL Try.prog 74 = some [(0, 1), (1, 1)] := by kernel_rfl
theorem fl77 : fdL Try.prog 77 = some [(0, 2)] := by kernel_rfl
theorem fo28_0 : fdO Try.prog 28 0 = some 0 := by kernel_rfl
theorem fo28_1 : fdO Try.prog 28 1 = some 1 := by kernel_rfl
theorem fo28_2 : fdO Try.prog 28 2 = some 2 := by kernel_rfl
theorem fo72_0 : fdO Try.prog 72 0 = some 0 := by kernel_rfl
theorem fo74_0 : fdO Try.prog 74 0 = some 0 := by kernel_rfl
theorem fo74_1 : fdO Try.prog 74 1 = some 1 := by kernel_rfl
theorem fo77_0 : fdO Try.prog 77 0 = some 0 := by kernel_rfl
theorem kn26 : knd Try.prog 26 = some .u64 := by kernel_rfl
theorem kn3 : knd Try.prog 3 = some .i64 := by kernel_rfl
theorem kn5 : knd Try.prog 5 = some .u8 := by kernel_rfl
theorem kn66 : knd Try.prog 66 = some .u64 := by kernel_rfl
theorem ni72 : niF Try.prog 72 = true := by kernel_rfl
theorem pt56 : ptT Try.prog 56 = some 77 := by kernel_rfl
theorem sl22 : slE Try.prog 22 = some (5, 1, 1) := by kernel_rfl
theorem sl23 : slE Try.prog 23 = some (28, 3, 24) := by kernel_rfl
theorem sl41 : slE Try.prog 41 = some (3, 1, 8) := by kernel_rfl
theorem sl42 : slE Try.prog 42 = some (26, 1, 8) := by kernel_rfl
theorem sl63 : slE Try.prog 63 = some (22, 1, 24) := by kernel_rfl
theorem tb22 : tyB Try.prog 22 = some (false, 1) := by kernel_rfl
theorem tb26 : tyB Try.prog 26 = some (false, 1) := by kernel_rfl
theorem tb28 : tyB Try.prog 28 = some (true, 3) := by kernel_rfl
theorem tb29 : tyB Try.prog 29 = some (false, 1) := by kernel_rfl
theorem tb3 : tyB Try.prog 3 = some (false, 1) := by kernel_rfl
theorem tb5 : tyB Try.prog 5 = some (false, 1) := by kernel_rfl
theorem tb56 : tyB Try.prog 56 = some (false, 1) := by kernel_rfl
theorem tb72 : tyB Try.prog 72 = some (true, 1) := by kernel_rfl
theorem tb74 : tyB Try.prog 74 = some (true, 2) := by kernel_rfl
theorem tb85 : tyB Try.prog 85 = some (false, 1) := by kernel_rfl
theorem ty26 : (tyB Try.prog 26).isSome = true := by kernel_rfl
theorem ty3 : (tyB Try.prog 3).isSome = true := by kernel_rfl
theorem ty5 : (tyB Try.prog 5).isSome = true := by kernel_rfl
theorem ty66 : (tyB Try.prog 66).isSome = true := by kernel_rfl
theorem un4 : Try.prog.underlying 4 = some .bool := by kernel_rfl
theorem zr22 : zrC Try.prog 22 = some [.slice none 0 0] := by kernel_rfl
theorem zr26 : zrC Try.prog 26 = some [.int .u64 0] := by kernel_rfl
theorem zr28 : zrC Try.prog 28 = some [.int .i64 0, .int .i64 0, .int .u64 0] := by kernel_rfl
theorem zr29 : zrC Try.prog 29 = some [.int .i64 0] := by kernel_rfl
theorem zr3 : zrC Try.prog 3 = some [.int .i64 0] := by kernel_rfl
theorem zr5 : zrC Try.prog 5 = some [.int .u8 0] := by kernel_rfl
theorem zr72 : zrC Try.prog 72 = some [.int .i64 0] := by kernel_rfl
theorem zr74 : zrC Try.prog 74 = some [.slice none 0 0, .int .i64 0] := by kernel_rfl
theorem zr77 : zrC Try.prog 77 = some [.slice none 0 0, .int .i64 0] := by kernel_rfl
theorem zr84 : zrC Try.prog 84 = some [.int .u8 0, .int .u8 0, .int .u8 0, .int .u8 0, .int .u8 0, .int .u8 0, .int .u8 0, .int .u8 0] := by kernel_rfl
theorem zv72 : zrV Try.prog 72 = some (.agg #[.int .i64 0]) := by kernel_rfl
end Go.Proofs.Ytfdekahbojoodaa
