/- layer 1: what is needed of it -/
import Derived.Test.YtfdmfklofgmpfaaIt
namespace Go.Proofs.Ytfdmfklofgmpfaa
set_option linter.unusedVariables false
set_option linter.unusedSimpArgs false
open Go.RowKit

namespace Oct

def uc (n : Int) : List Value := [.int .u64 n]
def isW (n : Int) : Bool := decide (1 ≤ n) && decide (n ≤ 8)
def fitsN (w : Nat) (n : Int) : Bool := decide (w = 8) || decide (n / 2 ^ (8 * w) = 0)
def lowN (n : Int) : Nat → List Int
  | 0 => List.replicate 8 0
  | k + 1 => (lowN n k).set (7 - k) (IntKind.u8.wrap (n / 2 ^ (8 * k)))
theorem lowN_len (n : Int) : ∀ k, (lowN n k).length = 8
  | 0 => rfl
  | k + 1 => by rw [lowN, List.length_set, lowN_len n k]
def bytesN (w : Nat) (n : Int) : List Int := (lowN n 8).drop (8 - w)
theorem bytesN_len {w : Nat} {n : Int} (h : w ≤ 8) : (bytesN w n).length = w := by rw [bytesN, List.length_drop, lowN_len]; omega
theorem bn_t {b : Bool} (h : (!b) = true) : b = false := by cases b <;> simp_all
theorem bn_f {b : Bool} (h : (!b) = false) : b = true := by cases b <;> simp_all
theorem isW_iff {n : Int} : isW n = true ↔ 1 ≤ n ∧ n ≤ 8 := by simp [isW]
theorem uc8_len (n : Int) : (uc8 n).length = 1 := rfl
theorem fl8 (l : List Int) : (l.flatMap uc8).length = l.length := by rw [flat_len uc8_len, Nat.mul_one]
theorem lay_one {A B : List Value} {z : Value} {p m r : Nat} (hp : p = A.length) (hm : B.length = m) : setL (A ++ List.replicate (m + r) z) p B = A ++ B ++ List.replicate r z := by
  subst hp hm
  rw [setL_eq _ _ _ (by simp), List.take_left, List.drop_append]
  congr 1
  rw [List.drop_of_length_le (by omega), List.nil_append, List.drop_replicate]
  congr 1
  omega
theorem beh2 (l1 l2 : List Int) {z : Value} (p0 p1 k1 k2 : Nat) (h0 : p0 = 0) (h1 : k1 = l1.length) (h2 : p1 = l1.length) (h3 : k2 = l2.length) :
    setL (setL (List.replicate (l1.length + l2.length) z) p0 ((l1.flatMap uc8).take k1)) p1 ((l2.flatMap uc8).take k2) = (l1 ++ l2).flatMap uc8 := by
  rw [List.take_of_length_le (by rw [fl8]; omega), List.take_of_length_le (by rw [fl8]; omega)]
  have e1 := lay_one (A := []) (B := l1.flatMap uc8) (z := z) (p := p0) (m := l1.length) (r := l2.length) h0 (fl8 _)
  rw [List.nil_append, List.nil_append] at e1
  rw [e1]
  have e2 := lay_one (A := l1.flatMap uc8) (B := l2.flatMap uc8) (z := z) (p := p1) (m := l2.length) (r := 0) (by rw [fl8]; exact h2) (fl8 _)
  rw [Nat.add_zero] at e2
  rw [e2, List.flatMap_append]
  simp
theorem beh3 (l1 l2 l3 : List Int) {z : Value} (p0 p1 p2 k1 k2 k3 : Nat) (h0 : p0 = 0) (h1 : k1 = l1.length) (h2 : p1 = l1.length) (h3 : k2 = l2.length) (h4 : p2 = l1.length + l2.length) (h5 : k3 = l3.length) :
    setL (setL (setL (List.replicate (l1.length + l2.length + l3.length) z) p0 ((l1.flatMap uc8).take k1)) p1 ((l2.flatMap uc8).take k2)) p2 ((l3.flatMap uc8).take k3) = (l1 ++ l2 ++ l3).flatMap uc8 := by
  rw [List.take_of_length_le (by rw [fl8]; omega), List.take_of_length_le (by rw [fl8]; omega), List.take_of_length_le (by rw [fl8]; omega)]
  have e1 := lay_one (A := []) (B := l1.flatMap uc8) (z := z) (p := p0) (m := l1.length) (r := l2.length + l3.length) h0 (fl8 _)
  rw [List.nil_append, List.nil_append, ← Nat.add_assoc] at e1
  rw [e1]
  have e2 := lay_one (A := l1.flatMap uc8) (B := l2.flatMap uc8) (z := z) (p := p1) (m := l2.length) (r := l3.length) (by rw [fl8]; exact h2) (fl8 _)
  rw [e2]
  have e3 := lay_one (A := l1.flatMap uc8 ++ l2.flatMap uc8) (B := l3.flatMap uc8) (z := z) (p := p2) (m := l3.length) (r := 0) (by rw [List.length_append, fl8, fl8]; exact h4) (fl8 _)
  rw [Nat.add_zero] at e3
  rw [e3, List.flatMap_append, List.flatMap_append]
  simp
def numR (acc b : Int) : Int := orZ .u64 (IntKind.u64.wrap (acc * 2 ^ 8)) (IntKind.u64.wrap b)
def numN (w : Nat) (l : List Int) : Int := (l.take w).foldl numR 0
theorem numN_succ {k : Nat} {l : List Int} (h : k < l.length) : numN (k + 1) l = numR (numN k l) l[k] := by
  rw [numN, List.take_succ_eq_append_getElem h, List.foldl_append]; rfl
theorem numN_all {w : Nat} {l : List Int} (h : l.length ≤ w) : numN w l = numN l.length l := by
  rw [numN, numN, List.take_of_length_le h, List.take_length]
theorem sum_take {l : List Int} {k : Nat} (h : k < l.length) : (l.take (k + 1)).sum = (l.take k).sum + l[k] := by
  rw [List.take_succ_eq_append_getElem h, List.sum_append]; simp
theorem sum_bd {l : List Int} (h : l.all isW = true) : ∀ k, k ≤ l.length → 0 ≤ (l.take k).sum ∧ (l.take k).sum ≤ 8 * k
  | 0, _ => by simp
  | k + 1, hk => by
    have ih := sum_bd h k (by omega)
    have h2 := isW_iff.1 (List.all_eq_true.1 h l[k] (List.getElem_mem _))
    rw [sum_take (by omega)]
    omega
def layN : List Int → List Int → List Int
  | w :: ws, n :: ns => bytesN w.toNat n ++ layN ws ns
  | _, _ => []
theorem layN_take : ∀ {ws ns : List Int} {k : Nat} (h : k < ws.length) (h' : k < ns.length), layN (ws.take (k + 1)) (ns.take (k + 1)) = layN (ws.take k) (ns.take k) ++ bytesN (ws[k]).toNat ns[k]
  | w :: ws, n :: ns, 0, _, _ => by simp [layN]
  | w :: ws, n :: ns, k + 1, h, h' => by
    rw [List.take_succ_cons, List.take_succ_cons, layN, layN_take (by simpa using h) (by simpa using h')]
    rw [List.take_succ_cons, List.take_succ_cons, layN, List.append_assoc]
    rfl
  | [], _, k, h, _ => by simp at h
  | _ :: _, [], k, _, h' => by simp at h'
theorem layN_len : ∀ {ws ns : List Int}, ws.all isW = true → (layN ws ns).length ≤ 8 * ws.length
  | [], ns, _ => by cases ns <;> simp [layN]
  | w :: ws, [], _ => by simp [layN]
  | w :: ws, n :: ns, h => by
    rw [List.all_cons, Bool.and_eq_true] at h
    have h1 := isW_iff.1 h.1
    rw [layN, List.length_append, bytesN_len (by omega), List.length_cons]
    have := layN_len (ns := ns) h.2
    omega
theorem all_take {ws : List Int} (h : ws.all isW = true) (k : Nat) : (ws.take k).all isW = true := List.all_eq_true.2 fun x hx => List.all_eq_true.1 h x (List.mem_of_mem_take hx)
def splitN : List Int → List Int → List Int
  | [], _ => []
  | w :: ws, b => numN w.toNat b :: splitN ws (b.drop w.toNat)
theorem splitN_len : ∀ (ws b : List Int), (splitN ws b).length = ws.length
  | [], _ => rfl
  | w :: ws, b => by rw [splitN, List.length_cons, List.length_cons, splitN_len ws]
theorem splitN_take : ∀ {ws : List Int} (b : List Int) {k : Nat} (h : k < ws.length), ws.all isW = true → splitN (ws.take (k + 1)) b = splitN (ws.take k) b ++ [numN (ws[k]).toNat (b.drop (ws.take k).sum.toNat)]
  | w :: ws, b, 0, _, _ => by simp [splitN]
  | w :: ws, b, k + 1, h, ha => by
    rw [List.all_cons, Bool.and_eq_true] at ha
    have hw := isW_iff.1 ha.1
    have hs := sum_bd ha.2 k (by simpa using Nat.le_of_lt h)
    rw [List.take_succ_cons, splitN, splitN_take (b.drop w.toNat) (by simpa using h) ha.2, List.take_succ_cons, splitN, List.drop_drop, List.sum_cons, show (w + (ws.take k).sum).toNat = w.toNat + (ws.take k).sum.toNat by omega]
    rfl
  | [], _, k, h, _ => by simp at h
theorem sum_mono {ws : List Int} (h : ws.all isW = true) (k : Nat) : (ws.take k).sum ≤ ws.sum := by
  have e : ws.sum = (ws.take k).sum + (ws.drop k).sum := by rw [← List.sum_append, List.take_append_drop]
  have h2 : (ws.drop k).all isW = true := List.all_eq_true.2 fun x hx => List.all_eq_true.1 h x (List.mem_of_mem_drop hx)
  have := sum_bd h2 (ws.drop k).length (Nat.le_refl _)
  rw [List.take_length] at this
  omega
theorem fits2 {n : Nat} (h : n ≤ 65535) : fitsN 2 (n : Int) = true := by
  simp [fitsN]
  omega
def cmpI (x y : Int) : Int := if x < y then -1 else if y < x then 1 else 0
def cmpL : List Int → List Int → Int
  | [], [] => 0
  | [], _ :: _ => -1
  | _ :: _, [] => 1
  | a :: l, b :: r => if cmpI a b ≠ 0 then cmpI a b else cmpL l r
theorem cmpL_drop {l r : List Int} {k : Nat} (h : k < l.length) (h2 : k < r.length) : cmpL (l.drop k) (r.drop k) = if cmpI l[k] r[k] ≠ 0 then cmpI l[k] r[k] else cmpL (l.drop (k + 1)) (r.drop (k + 1)) := by
  rw [List.drop_eq_getElem_cons h, List.drop_eq_getElem_cons h2, cmpL]
theorem cmpL_more {l r : List Int} {k : Nat} (h : k < l.length) (h2 : r.length ≤ k) : cmpL (l.drop k) (r.drop k) = 1 := by
  rw [List.drop_eq_getElem_cons h, List.drop_of_length_le h2, cmpL]
theorem cmpL_end {l r : List Int} {k : Nat} (h : l.length ≤ k) : cmpL (l.drop k) (r.drop k) = if k < r.length then -1 else 0 := by
  rw [List.drop_of_length_le h]
  by_cases q : k < r.length
  · rw [if_pos q, List.drop_eq_getElem_cons q, cmpL]
  · rw [if_neg q, List.drop_of_length_le (by omega), cmpL]
theorem div_bd {n : Int} (h : 0 ≤ n) (k : Nat) : 0 ≤ n / 256 ^ k ∧ n / 256 ^ k ≤ n :=
  ⟨Int.ediv_nonneg h (Int.le_of_lt (Int.pow_pos (by decide))), Int.ediv_le_self _ h⟩
def layR (n : Int) : Nat → List Int
  | 0 => []
  | k + 1 => IntKind.u8.wrap (n / 256 ^ k % 256) :: layR n k
theorem layR_len (n : Int) : ∀ k, (layR n k).length = k
  | 0 => rfl
  | k + 1 => by rw [layR, List.length_cons, layR_len n k]

set_option maxRecDepth 4000 in
set_option maxHeartbeats 1000000 in
theorem nw1_d (n : Int) : DFun Try.prog 66 [.val (.int .i64 n)] [] (.val (.bool (isW n))) [] := by
  refine dcalls_go (N := 9) 0 (by kernel_rfl) Try.func66 rfl rfl rfl (by simp only [fr0, Nat.zero_add, Nat.reduceAdd]; exact rfl) rfl fun s0 hs0 => ?_
  refine dwp_seq ?_
  refine dwp_region ?_
  refine walk_r rfl rfl rfl (op_move (.inr rfl) (ev1 rfl)) ?_
  refine walk_nil ?_
  refine dwp_seq ?_
  refine dwp_region ?_
  refine walk_r rfl rfl rfl (op_move (.inl rfl) (ev1 rfl)) ?_
  refine walk_r rfl rfl rfl (op_geq rfl (ev1 rfl) (ev1 rfl)) ?_
  refine walk_r rfl rfl rfl (op_move (.inl rfl) (ev1 rfl)) ?_
  refine walk_gr (gd_t rfl rfl rfl) rfl rfl rfl (op_move (.inl rfl) (ev1 rfl)) ?_
  refine walk_gr (gd_t rfl rfl rfl) rfl rfl rfl (op_leq rfl (ev2 rfl) (ev1 rfl)) ?_
  refine walk_r rfl rfl rfl (op_and rfl (ev1 rfl) (ev3 rfl id)) ?_
  refine walk_r rfl rfl rfl (op_move (.inr rfl) (ev1 rfl)) ?_
  refine walk_nil ?_
  refine dwp_ret ?_
  refine kend0 (rs1 rfl (rv_t rfl)) rfl ?_
  rfl

set_option maxRecDepth 4000 in
set_option maxHeartbeats 1000000 in
theorem all_d (l : List Int) : DFun Try.prog 65 [.slf 1 (l).length ((l).flatMap ic), .fn (.func 66) [] []] [] (.val (.bool (l.all isW))) [] := by
  refine dcalls_go (N := 18) 0 (by kernel_rfl) Try.func65 rfl rfl rfl (by simp only [fr0, Nat.zero_add, Nat.reduceAdd]; exact rfl) rfl fun s0 hs0 => ?_
  refine dwp_len (t := 0) rfl fun hl0 hL0 => ?_
  refine dwp_seq ?_
  refine dwp_region ?_
  refine walk_r rfl rfl rfl (op_move (.inr rfl) (ev1 rfl)) ?_
  refine walk_nil ?_
  refine dwp_seq ?_
  refine dwp_seq ?_
  refine dwp_region ?_
  refine walk_r rfl rfl rfl (op_move (.inl rfl) (ev1 rfl)) ?_
  refine walk_r rfl rfl rfl (op_len rfl sl28 (ev1 rfl)) ?_
  refine walk_r rfl rfl rfl (op_move (.inl rfl) (ev1 rfl)) ?_
  refine walk_nil ?_
  refine dwp_block ?_
  refine dwp_loopS ⟨hs0, rfl⟩ (α := Nat) (fun k => [(9, .val (.int .i64 (k : Int)))]) [(1, _), (7, _), (8, _)] (fun k => []) [] (fun k => k ≤ l.length ∧ l.all isW = (l.drop k).all isW) (fun k => l.length - k) 0 [] (by simp) rfl ⟨rfl, rfl, rfl, trivial⟩ ⟨rfl, trivial⟩ trivial ?_
  intro k hx
  simp only [upd, List.set_cons_zero, List.set_cons_succ, List.cons_append, List.nil_append]
  obtain ⟨hk, he⟩ := hx
  refine dwp_seq ?_
  refine dwp_region ?_
  refine walk_r rfl rfl rfl (op_lss rfl (ev1 rfl) (ev1 rfl)) ?_
  refine walk_nil ?_
  refine dwp_seq ?_
  refine dwp_cond rfl (fun c1 => ?_) (fun c1 => ?_)
  · try simp only [decide_eq_true_eq, decide_eq_false_iff_not, beq_iff_eq, bne_iff_ne, beq_eq_false_iff_ne, bne_eq_false_iff_eq, Bool.not_eq_true', Bool.not_eq_false', Bool.and_eq_true, Bool.or_eq_true, Bool.or_eq_false_iff, ne_eq, Decidable.not_not, Int.not_lt, Int.not_le] at c1
    refine dwp_skip ?_
    refine dwp_seq ?_
    refine dwp_block ?_
    refine dwp_seq ?_
    refine dwp_region ?_
    refine walk_r rfl rfl rfl (op_ixsr (j := k) rfl sl28 (ev1 rfl) (ev1 rfl) (fun _ => rfl) (by decide) (by omega) (by omega)) ?_
    refine walk_r rfl rfl rfl (op_ldod rfl tb3 (ev1 rfl) rfl) ?_
    refine walk_r rfl rfl rfl (op_move (.inr rfl) (ev1 rfl)) ?_
    refine walk_nil ?_
    refine dwp_seq ?_
    refine dwp_region ?_
    refine walk_r rfl rfl rfl (op_move (.inl rfl) (ev1 rfl)) ?_
    refine walk_r rfl rfl rfl (op_move (.inl rfl) (ev1 rfl)) ?_
    refine walk_r rfl rfl rfl (dop_call [] [] [] rfl (ev1 rfl) (ec (ev1 rfl) en) rfl rfl (nw1_d _) rfl rfl rfl rfl rfl rfl) ?_
    refine walk_r rfl rfl rfl (op_not rfl (ev1 rfl)) ?_
    refine walk_nil ?_
    refine dwp_cond rfl (fun c2 => ?_) (fun c2 => ?_)
    · refine dwp_seq ?_
      refine dwp_region ?_
      refine walk_r rfl rfl rfl (op_move (.inr rfl) (ev1 rfl)) ?_
      refine walk_nil ?_
      refine dwp_ret ?_
      refine kend0 (rs1 rfl (rv_t rfl)) rfl ?_
      rw [he, List.drop_eq_getElem_cons (show k < l.length by omega), List.all_cons, bn_t c2]; rfl
    · refine dwp_skip ?_
      refine dwp_region ?_
      refine walk_r rfl rfl rfl (op_add' rfl (ev1 rfl) (ev1 rfl) (fun _ => IntWalk.i64_in _ (by omega))) ?_
      refine walk_r rfl rfl rfl (op_move (.inl rfl) (ev1 rfl)) ?_
      refine walk_nil ?_
      refine ⟨k + 1, [], ⟨by omega, by rw [he, List.drop_eq_getElem_cons (show k < l.length by omega), List.all_cons, bn_f c2, Bool.true_and]⟩, by simp only []; omega, rfl, ⟨rfl, rfl, rfl, rfl, trivial⟩, trivial⟩
  · try simp only [decide_eq_true_eq, decide_eq_false_iff_not, beq_iff_eq, bne_iff_ne, beq_eq_false_iff_ne, bne_eq_false_iff_eq, Bool.not_eq_true', Bool.not_eq_false', Bool.and_eq_true, Bool.or_eq_true, Bool.or_eq_false_iff, ne_eq, Decidable.not_not, Int.not_lt, Int.not_le] at c1
    refine dwp_exit ?_
    refine dwp_seq ?_
    refine dwp_region ?_
    refine walk_r rfl rfl rfl (op_move (.inr rfl) (ev1 rfl)) ?_
    refine walk_nil ?_
    refine dwp_ret ?_
    refine kend0 (rs1 rfl (rv_t rfl)) rfl ?_
    rw [he, List.drop_of_length_le (by omega)]; rfl

set_option maxRecDepth 4000 in
set_option maxHeartbeats 1000000 in
theorem need_ok (l : List Int) (h : l.all isW = true) : DFun Try.prog 54 [.slf 1 (l).length ((l).flatMap ic)] [] (.tup []) [] := by
  refine dcalls_go (N := 7) 0 (by kernel_rfl) Try.func54 rfl rfl rfl (by simp only [fr0, Nat.zero_add, Nat.reduceAdd]; exact rfl) rfl fun s0 hs0 => ?_
  refine dwp_len (t := 0) rfl fun hl0 hL0 => ?_
  refine dwp_seq ?_
  refine dwp_region ?_
  refine walk_r rfl rfl rfl (op_move (.inl rfl) (ev1 rfl)) ?_
  refine walk_r rfl rfl rfl (dop_call [] [] [] rfl (ev1 rfl) (ec (ev1 rfl) (ec (ev1 rfl) en)) rfl rfl (all_d _) rfl rfl rfl rfl rfl rfl) ?_
  refine walk_r rfl rfl rfl (op_not rfl (ev1 rfl)) ?_
  refine walk_nil ?_
  refine dwp_if_f rfl (by rw [h]; rfl) ?_
  refine dwp_skip ?_
  refine kend0 (res_none rfl) rfl ?_
  rfl

set_option maxRecDepth 4000 in
set_option maxHeartbeats 1000000 in
theorem need_no (l : List Int) (h : l.all isW = false) : DPan Try.prog 54 [.slf 1 (l).length ((l).flatMap ic)] [] (.ifc 93 (.val (.agg #[.int .i64 111]))) [] := by
  refine dcalls_go (N := 7) 0 (by kernel_rfl) Try.func54 rfl rfl rfl (by simp only [fr0, Nat.zero_add, Nat.reduceAdd]; exact rfl) rfl fun s0 hs0 => ?_
  refine dwp_len (t := 0) rfl fun hl0 hL0 => ?_
  refine dwp_seq ?_
  refine dwp_region ?_
  refine walk_r rfl rfl rfl (op_move (.inl rfl) (ev1 rfl)) ?_
  refine walk_r rfl rfl rfl (dop_call [] [] [] rfl (ev1 rfl) (ec (ev1 rfl) (ec (ev1 rfl) en)) rfl rfl (all_d _) rfl rfl rfl rfl rfl rfl) ?_
  refine walk_r rfl rfl rfl (op_not rfl (ev1 rfl)) ?_
  refine walk_nil ?_
  refine dwp_if_t rfl (by rw [h]; rfl) ?_
  refine dwp_region ?_
  refine walk_r rfl rfl rfl (op_build (ps := [(0, .const (.int .i64 111))]) rfl fl93 zr93 (vc (ev1 rfl) vn) rfl rfl) ?_
  refine walk_r rfl rfl rfl (op_mi rfl ni93 (ev1 rfl)) ?_
  refine walk_p rfl (op_pan rfl (ev1 rfl)) rfl ?_
  refine kpan0 rfl ?_
  rfl

set_option maxRecDepth 4000 in
set_option maxHeartbeats 1000000 in
theorem fits_d (w : Nat) (h : 1 ≤ w ∧ w ≤ 8) (n : Int) : DFun Try.prog 71 [.val (.int .i64 (w : Int)), .val (.int .u64 n)] [] (.val (.bool (fitsN w n))) [] := by
  refine dcalls_go (N := 14) 0 (by kernel_rfl) Try.func71 rfl rfl rfl (by simp only [fr0, Nat.zero_add, Nat.reduceAdd]; exact rfl) rfl fun s0 hs0 => ?_
  refine dwp_seq ?_
  refine dwp_region ?_
  refine walk_r rfl rfl rfl (op_move (.inr rfl) (ev1 rfl)) ?_
  refine walk_nil ?_
  refine dwp_seq ?_
  refine dwp_region ?_
  refine walk_r rfl rfl rfl (op_move (.inl rfl) (ev1 rfl)) ?_
  refine walk_r rfl rfl rfl (op_eql rfl (ev1 rfl) (ev1 rfl)) ?_
  refine walk_r rfl rfl rfl (op_move (.inl rfl) (ev1 rfl)) ?_
  refine walk_gr (gd_f rfl rfl rfl) rfl rfl rfl (op_move (.inl rfl) (ev1 rfl)) ?_
  refine walk_gr (gd_f rfl rfl rfl) rfl rfl rfl (op_move (.inl rfl) (ev1 rfl)) ?_
  refine walk_gr (gd_f rfl rfl rfl) rfl rfl rfl (op_mul' rfl (ev1 rfl) (ev2 rfl) (fun hp => IntWalk.i64_in _ (by first | omega | (simp at hp; omega)))) ?_
  refine walk_gr (gd_f rfl rfl rfl) rfl rfl rfl (op_shr (8 * w) rfl (ev2 rfl) (ev2 rfl) (fun _ => ⟨by omega, by simp [IntKind.bits]; omega⟩)) ?_
  refine walk_gr (gd_f rfl rfl rfl) rfl rfl rfl (op_eql rfl (ev2 rfl) (ev1 rfl)) ?_
  refine walk_r rfl rfl rfl (op_or rfl (ev1 rfl) (ev3 rfl id)) ?_
  refine walk_r rfl rfl rfl (op_move (.inr rfl) (ev1 rfl)) ?_
  refine walk_nil ?_
  refine dwp_ret ?_
  refine kend0 (rs1 rfl (rv_t rfl)) rfl ?_
  rw [D.val.injEq, Value.bool.injEq]
  unfold fitsN
  congr 1
  rw [Bool.eq_iff_iff]; simp; omega

set_option maxRecDepth 4000 in
set_option maxHeartbeats 1000000 in
theorem nb_ok (w : Nat) (h : 1 ≤ w ∧ w ≤ 8) (n : Int) (hf : fitsN w n = true) : DFun Try.prog 60 [.val (.int .i64 (w : Int)), .val (.int .u64 n)] [] (.slf 1 (bytesN w n).length ((bytesN w n).flatMap uc8)) [] := by
  refine dcalls_go (N := 28) 0 (by kernel_rfl) Try.func60 rfl rfl rfl (by simp only [fr0, Nat.zero_add, Nat.reduceAdd]; exact rfl) rfl fun s0 hs0 => ?_
  refine dwp_seq ?_
  refine dwp_region ?_
  refine walk_r rfl rfl rfl (op_move (.inr rfl) (ev1 rfl)) ?_
  refine walk_nil ?_
  refine dwp_seq ?_
  refine dwp_seq ?_
  refine dwp_region ?_
  refine walk_r rfl rfl rfl (op_move (.inl rfl) (ev1 rfl)) ?_
  refine walk_r rfl rfl rfl (op_move (.inl rfl) (ev1 rfl)) ?_
  refine walk_r rfl rfl rfl (dop_call [] [] [] rfl (ev1 rfl) (ec (ev1 rfl) (ec (ev1 rfl) en)) rfl rfl (fits_d _ (by assumption) _) rfl rfl rfl rfl rfl rfl) ?_
  refine walk_r rfl rfl rfl (op_not rfl (ev1 rfl)) ?_
  refine walk_nil ?_
  refine dwp_if_f rfl (by rw [hf]; rfl) ?_
  refine dwp_skip ?_
  refine dwp_seq ?_
  refine dwp_holes 1 (by simp only [holes, List.cons_append, List.nil_append]; exact rfl) ?_
  refine dwp_region ?_
  refine walk_w rfl rfl rfl (op_alloc 0 rfl zr111 rfl) (by simp only [upd, List.set_cons_zero, List.set_cons_succ]; exact rfl) ?_
  refine walk_nil ?_
  refine dwp_seq ?_
  refine dwp_seq ?_
  refine dwp_region ?_
  refine walk_r rfl rfl rfl (op_move (.inl rfl) (ev1 rfl)) ?_
  refine walk_nil ?_
  refine dwp_block ?_
  refine dwp_loopS ⟨hs0, rfl⟩ (α := Nat) (fun k => [(13, .val (.int .i64 (k : Int)))]) [(0, _), (1, _), (5, _)] (fun k => [(0, .flat 111 ((lowN n k).flatMap uc8))]) [.hole] (fun k => k ≤ 8) (fun k => 8 - k) 0 [0] (by simp) rfl ⟨rfl, rfl, rfl, trivial⟩ ⟨rfl, trivial⟩ ⟨rfl, trivial⟩ ?_
  intro k hx
  simp only [upd, List.set_cons_zero, List.set_cons_succ, List.cons_append, List.nil_append]
  have hk := hx
  refine dwp_seq ?_
  refine dwp_region ?_
  refine walk_r rfl rfl rfl (op_lss rfl (ev1 rfl) (ev1 rfl)) ?_
  refine walk_nil ?_
  refine dwp_seq ?_
  refine dwp_cond rfl (fun c2 => ?_) (fun c2 => ?_)
  · try simp only [decide_eq_true_eq, decide_eq_false_iff_not, beq_iff_eq, bne_iff_ne, beq_eq_false_iff_ne, bne_eq_false_iff_eq, Bool.not_eq_true', Bool.not_eq_false', Bool.and_eq_true, Bool.or_eq_true, Bool.or_eq_false_iff, ne_eq, Decidable.not_not, Int.not_lt, Int.not_le] at c2
    refine dwp_skip ?_
    refine dwp_seq ?_
    refine dwp_block ?_
    refine dwp_seq ?_
    refine dwp_region ?_
    refine walk_r rfl rfl rfl (op_move (.inl rfl) (ev1 rfl)) ?_
    refine walk_r rfl rfl rfl (op_move (.inr rfl) (ev1 rfl)) ?_
    refine walk_nil ?_
    refine dwp_region ?_
    refine walk_r rfl rfl rfl (op_move (.inl rfl) (ev1 rfl)) ?_
    refine walk_r rfl rfl rfl (op_sub' rfl (ev1 rfl) (ev1 rfl) (fun _ => IntWalk.i64_in _ (by omega))) ?_
    refine walk_r rfl rfl rfl (op_move (.inl rfl) (ev1 rfl)) ?_
    refine walk_r rfl rfl rfl (op_move (.inl rfl) (ev1 rfl)) ?_
    refine walk_r rfl rfl rfl (op_mul' rfl (ev1 rfl) (ev1 rfl) (fun _ => IntWalk.i64_in _ (by omega))) ?_
    refine walk_r rfl rfl rfl (op_shr (8 * k) rfl (ev1 rfl) (ev1 rfl) (fun _ => ⟨by omega, by simp [IntKind.bits]; omega⟩)) ?_
    refine walk_r rfl rfl rfl (op_conv ty55 kn5 rfl (ev1 rfl)) ?_
    refine walk_r rfl rfl rfl (op_ixfr (j := 7 - k) rfl ar111 (ev1 rfl) (ev1 rfl) (fun _ => by omega) (fun _ => by omega)) ?_
    refine walk_s rfl rfl (op_stfr (q := IntKind.u8.wrap (n / 2 ^ (8 * k))) rfl tb5 (ev1 rfl) (ev1 rfl) rfl rfl rfl (fun _ => rfl) (fun _ => by first | omega | (rw [lowN_len]; omega))) (by simp only [upd, List.set_cons_zero, List.set_cons_succ]; exact rfl) ?_
    refine walk_nil ?_
    refine dwp_region ?_
    refine walk_r rfl rfl rfl (op_add' rfl (ev1 rfl) (ev1 rfl) (fun _ => IntWalk.i64_in _ (by omega))) ?_
    refine walk_r rfl rfl rfl (op_move (.inl rfl) (ev1 rfl)) ?_
    refine walk_nil ?_
    refine ⟨k + 1, [0], by omega, by simp only []; omega, rfl, ⟨rfl, rfl, rfl, rfl, trivial⟩, ⟨rfl, trivial⟩⟩
  · try simp only [decide_eq_true_eq, decide_eq_false_iff_not, beq_iff_eq, bne_iff_ne, beq_eq_false_iff_ne, bne_eq_false_iff_eq, Bool.not_eq_true', Bool.not_eq_false', Bool.and_eq_true, Bool.or_eq_true, Bool.or_eq_false_iff, ne_eq, Decidable.not_not, Int.not_lt, Int.not_le] at c2
    refine dwp_exit ?_
    refine dwp_seq ?_
    refine dwp_view ⟨hs0, rfl⟩ [] [0] [(0, _), (5, _)] [] rfl ⟨rfl, rfl, trivial⟩ trivial ?_
    refine dwp_region ?_
    refine walk_r rfl rfl rfl (op_move (.inl rfl) (ev1 rfl)) ?_
    refine walk_r rfl rfl rfl (op_sub' rfl (ev1 rfl) (ev1 rfl) (fun _ => IntWalk.i64_in _ (by omega))) ?_
    refine walk_r rfl rfl rfl (op_slad3 (8 - w) rfl ar111 (ev1 rfl) (ev1 rfl) (ev1 rfl) (ev1 rfl) (fun _ => by omega) (fun _ => rfl) (fun _ => rfl) (fun _ => by omega) ((lowN_len _ _)) (by decide) (fun _ => rfl)) ?_
    refine walk_r rfl rfl rfl (op_move (.inr rfl) (ev1 rfl)) ?_
    refine walk_nil ?_
    refine dwp_ret ?_
    refine kend0 (rs1 rfl (rv_t rfl)) rfl ?_
    obtain rfl : k = 8 := by omega
    rfl

set_option maxRecDepth 4000 in
set_option maxHeartbeats 1000000 in
theorem nb_no (w : Nat) (h : 1 ≤ w ∧ w ≤ 8) (n : Int) (hf : fitsN w n = false) : DPan Try.prog 60 [.val (.int .i64 (w : Int)), .val (.int .u64 n)] [] (.ifc 93 (.val (.agg #[.int .i64 112]))) [] := by
  refine dcalls_go (N := 28) 0 (by kernel_rfl) Try.func60 rfl rfl rfl (by simp only [fr0, Nat.zero_add, Nat.reduceAdd]; exact rfl) rfl fun s0 hs0 => ?_
  refine dwp_seq ?_
  refine dwp_region ?_
  refine walk_r rfl rfl rfl (op_move (.inr rfl) (ev1 rfl)) ?_
  refine walk_nil ?_
  refine dwp_seq ?_
  refine dwp_seq ?_
  refine dwp_region ?_
  refine walk_r rfl rfl rfl (op_move (.inl rfl) (ev1 rfl)) ?_
  refine walk_r rfl rfl rfl (op_move (.inl rfl) (ev1 rfl)) ?_
  refine walk_r rfl rfl rfl (dop_call [] [] [] rfl (ev1 rfl) (ec (ev1 rfl) (ec (ev1 rfl) en)) rfl rfl (fits_d _ (by assumption) _) rfl rfl rfl rfl rfl rfl) ?_
  refine walk_r rfl rfl rfl (op_not rfl (ev1 rfl)) ?_
  refine walk_nil ?_
  refine dwp_if_t rfl (by rw [hf]; rfl) ?_
  refine dwp_region ?_
  refine walk_r rfl rfl rfl (op_build (ps := [(0, .const (.int .i64 112))]) rfl fl93 zr93 (vc (ev1 rfl) vn) rfl rfl) ?_
  refine walk_r rfl rfl rfl (op_mi rfl ni93 (ev1 rfl)) ?_
  refine walk_p rfl (op_pan rfl (ev1 rfl)) rfl ?_
  refine kpan0 rfl ?_
  rfl

set_option maxRecDepth 4000 in
set_option maxHeartbeats 1000000 in
theorem behind2_o (l1 l2 : List Int) (h : l1.length + l2.length ≤ 100000) : DFun Try.prog 59 [.slm 1 2 [.slf 1 (l1).length ((l1).flatMap uc8), .slf 1 (l2).length ((l2).flatMap uc8)]] [] (.arr 0) [.arr 5 1 (l1 ++ l2).length ((l1 ++ l2).flatMap uc8)] := by
  refine dcalls_go (N := 38) 0 (by kernel_rfl) Try.func59 rfl rfl rfl (by simp only [fr0, Nat.zero_add, Nat.reduceAdd]; exact rfl) rfl fun s0 hs0 => ?_
  refine dwp_lenm (t := 0) rfl fun hl0 hL0 => ?_
  refine dwp_seq ?_
  refine dwp_region ?_
  refine walk_r rfl rfl rfl (op_move (.inr rfl) (ev1 rfl)) ?_
  refine walk_nil ?_
  refine dwp_seq ?_
  refine dwp_region ?_
  refine walk_r rfl rfl rfl (op_move (.inr rfl) (ev1 rfl)) ?_
  refine walk_nil ?_
  refine dwp_seq ?_
  refine dwp_seq ?_
  refine dwp_region ?_
  refine walk_r rfl rfl rfl (op_move (.inl rfl) (ev1 rfl)) ?_
  refine walk_r rfl rfl rfl (op_lenm rfl sl25 (ev1 rfl)) ?_
  refine walk_r rfl rfl rfl (op_move (.inl rfl) (ev1 rfl)) ?_
  refine walk_nil ?_
  refine dwp_block ?_
  refine dwp_dloop (dloop_step ?_)
  refine dwp_seq ?_
  refine dwp_region ?_
  refine walk_r rfl rfl rfl (op_lss rfl (ev1 rfl) (ev1 rfl)) ?_
  refine walk_nil ?_
  refine dwp_seq ?_
  refine dwp_if_t rfl (rfl) ?_
  refine dwp_skip ?_
  refine dwp_seq ?_
  refine dwp_block ?_
  refine dwp_seq ?_
  refine dwp_region ?_
  refine walk_r rfl rfl rfl (op_ixm (0) rfl sl25 (ev1 rfl) (ev1 rfl) (fun _ => rfl) rfl) ?_
  refine walk_r rfl rfl rfl (op_lddm rfl tb22 (ev1 rfl) rfl) ?_
  refine walk_r rfl rfl rfl (op_move (.inr rfl) (ev1 rfl)) ?_
  refine walk_nil ?_
  refine dwp_region ?_
  refine walk_r rfl rfl rfl (op_move (.inl rfl) (ev1 rfl)) ?_
  refine walk_r rfl rfl rfl (op_move (.inl rfl) (ev1 rfl)) ?_
  refine walk_r rfl rfl rfl (op_len rfl sl22 (ev1 rfl)) ?_
  refine walk_r rfl rfl rfl (op_add' rfl (ev1 rfl) (ev1 rfl) (fun _ => IntWalk.i64_in _ (by omega))) ?_
  refine walk_r rfl rfl rfl (op_move (.inr rfl) (ev1 rfl)) ?_
  refine walk_nil ?_
  refine dwp_region ?_
  refine walk_r rfl rfl rfl (op_add' rfl (ev1 rfl) (ev1 rfl) (fun _ => IntWalk.i64_in _ (by omega))) ?_
  refine walk_r rfl rfl rfl (op_move (.inl rfl) (ev1 rfl)) ?_
  refine walk_nil ?_
  refine dloop_step ?_
  refine dwp_seq ?_
  refine dwp_region ?_
  refine walk_r rfl rfl rfl (op_lss rfl (ev1 rfl) (ev1 rfl)) ?_
  refine walk_nil ?_
  refine dwp_seq ?_
  refine dwp_if_t rfl (rfl) ?_
  refine dwp_skip ?_
  refine dwp_seq ?_
  refine dwp_block ?_
  refine dwp_seq ?_
  refine dwp_region ?_
  refine walk_r rfl rfl rfl (op_ixm (1) rfl sl25 (ev1 rfl) (ev1 rfl) (fun _ => rfl) rfl) ?_
  refine walk_r rfl rfl rfl (op_lddm rfl tb22 (ev1 rfl) rfl) ?_
  refine walk_r rfl rfl rfl (op_move (.inr rfl) (ev1 rfl)) ?_
  refine walk_nil ?_
  refine dwp_region ?_
  refine walk_r rfl rfl rfl (op_move (.inl rfl) (ev1 rfl)) ?_
  refine walk_r rfl rfl rfl (op_move (.inl rfl) (ev1 rfl)) ?_
  refine walk_r rfl rfl rfl (op_len rfl sl22 (ev1 rfl)) ?_
  refine walk_r rfl rfl rfl (op_add' rfl (ev1 rfl) (ev1 rfl) (fun _ => IntWalk.i64_in _ (by omega))) ?_
  refine walk_r rfl rfl rfl (op_move (.inr rfl) (ev1 rfl)) ?_
  refine walk_nil ?_
  refine dwp_region ?_
  refine walk_r rfl rfl rfl (op_add' rfl (ev1 rfl) (ev1 rfl) (fun _ => IntWalk.i64_in _ (by omega))) ?_
  refine walk_r rfl rfl rfl (op_move (.inl rfl) (ev1 rfl)) ?_
  refine walk_nil ?_
  refine dloop_step ?_
  refine dwp_seq ?_
  refine dwp_region ?_
  refine walk_r rfl rfl rfl (op_lss rfl (ev1 rfl) (ev1 rfl)) ?_
  refine walk_nil ?_
  refine dwp_seq ?_
  refine dwp_if_f rfl (rfl) ?_
  refine dwp_exit ?_
  refine dwp_seq ?_
  refine dwp_holes 1 (by simp only [holes, List.cons_append, List.nil_append]; exact rfl) ?_
  refine dwp_region ?_
  refine walk_r rfl rfl rfl (op_move (.inl rfl) (ev1 rfl)) ?_
  refine walk_w rfl rfl rfl (op_mks 0 (l1.length + l2.length) (.int .u8 0) rfl sl22 zr5 (ev1 rfl) (ev1 rfl) (fun _ => by omega) (fun _ => by omega) rfl (fun _ => by omega)) (by simp only [upd, List.set_cons_zero, List.set_cons_succ]; exact rfl) ?_
  refine walk_r rfl rfl rfl (op_move (.inr rfl) (ev1 rfl)) ?_
  refine walk_nil ?_
  refine dwp_seq ?_
  refine dwp_region ?_
  refine walk_r rfl rfl rfl (op_move (.inr rfl) (ev1 rfl)) ?_
  refine walk_nil ?_
  refine dwp_seq ?_
  refine dwp_seq ?_
  refine dwp_region ?_
  refine walk_r rfl rfl rfl (op_move (.inl rfl) (ev1 rfl)) ?_
  refine walk_r rfl rfl rfl (op_lenm rfl sl25 (ev1 rfl)) ?_
  refine walk_r rfl rfl rfl (op_move (.inl rfl) (ev1 rfl)) ?_
  refine walk_nil ?_
  refine dwp_block ?_
  refine dwp_dloop (dloop_step ?_)
  refine dwp_seq ?_
  refine dwp_region ?_
  refine walk_r rfl rfl rfl (op_lss rfl (ev1 rfl) (ev1 rfl)) ?_
  refine walk_nil ?_
  refine dwp_seq ?_
  refine dwp_if_t rfl (rfl) ?_
  refine dwp_skip ?_
  refine dwp_seq ?_
  refine dwp_block ?_
  refine dwp_seq ?_
  refine dwp_region ?_
  refine walk_r rfl rfl rfl (op_ixm (0) rfl sl25 (ev1 rfl) (ev1 rfl) (fun _ => rfl) rfl) ?_
  refine walk_r rfl rfl rfl (op_lddm rfl tb22 (ev1 rfl) rfl) ?_
  refine walk_r rfl rfl rfl (op_move (.inr rfl) (ev1 rfl)) ?_
  refine walk_nil ?_
  refine dwp_region ?_
  refine walk_r rfl rfl rfl (op_move (.inl rfl) (ev1 rfl)) ?_
  refine walk_r rfl rfl rfl (op_move (.inl rfl) (ev1 rfl)) ?_
  refine walk_r rfl rfl rfl (op_move (.inl rfl) (ev1 rfl)) ?_
  refine walk_r rfl rfl rfl (op_sla rfl sl22 (ev1 rfl) rfl (bd_some (ev1 rfl)) bd_none (fun _ => by omega)) ?_
  refine walk_r rfl rfl rfl (op_move (.inl rfl) (ev1 rfl)) ?_
  refine walk_w rfl rfl rfl (op_cpy rfl sl22 (ev1 rfl) (ev1 rfl) src_slf rfl (fun _ => flat_oc (fun _ => rfl) _)) (by simp only [upd, List.set_cons_zero, List.set_cons_succ]; exact rfl) ?_
  refine walk_r rfl rfl rfl (op_add' rfl (ev1 rfl) (ev1 rfl) (fun _ => IntWalk.i64_in _ (by omega))) ?_
  refine walk_r rfl rfl rfl (op_move (.inr rfl) (ev1 rfl)) ?_
  refine walk_nil ?_
  refine dwp_region ?_
  refine walk_r rfl rfl rfl (op_add' rfl (ev1 rfl) (ev1 rfl) (fun _ => IntWalk.i64_in _ (by omega))) ?_
  refine walk_r rfl rfl rfl (op_move (.inl rfl) (ev1 rfl)) ?_
  refine walk_nil ?_
  refine dloop_step ?_
  refine dwp_seq ?_
  refine dwp_region ?_
  refine walk_r rfl rfl rfl (op_lss rfl (ev1 rfl) (ev1 rfl)) ?_
  refine walk_nil ?_
  refine dwp_seq ?_
  refine dwp_if_t rfl (rfl) ?_
  refine dwp_skip ?_
  refine dwp_seq ?_
  refine dwp_block ?_
  refine dwp_seq ?_
  refine dwp_region ?_
  refine walk_r rfl rfl rfl (op_ixm (1) rfl sl25 (ev1 rfl) (ev1 rfl) (fun _ => rfl) rfl) ?_
  refine walk_r rfl rfl rfl (op_lddm rfl tb22 (ev1 rfl) rfl) ?_
  refine walk_r rfl rfl rfl (op_move (.inr rfl) (ev1 rfl)) ?_
  refine walk_nil ?_
  refine dwp_region ?_
  refine walk_r rfl rfl rfl (op_move (.inl rfl) (ev1 rfl)) ?_
  refine walk_r rfl rfl rfl (op_move (.inl rfl) (ev1 rfl)) ?_
  refine walk_r rfl rfl rfl (op_move (.inl rfl) (ev1 rfl)) ?_
  refine walk_r rfl rfl rfl (op_sla rfl sl22 (ev1 rfl) rfl (bd_some (ev1 rfl)) bd_none (fun _ => by omega)) ?_
  refine walk_r rfl rfl rfl (op_move (.inl rfl) (ev1 rfl)) ?_
  refine walk_w rfl rfl rfl (op_cpy rfl sl22 (ev1 rfl) (ev1 rfl) src_slf rfl (fun _ => flat_oc (fun _ => rfl) _)) (by simp only [upd, List.set_cons_zero, List.set_cons_succ]; exact rfl) ?_
  refine walk_r rfl rfl rfl (op_add' rfl (ev1 rfl) (ev1 rfl) (fun _ => IntWalk.i64_in _ (by omega))) ?_
  refine walk_r rfl rfl rfl (op_move (.inr rfl) (ev1 rfl)) ?_
  refine walk_nil ?_
  refine dwp_region ?_
  refine walk_r rfl rfl rfl (op_add' rfl (ev1 rfl) (ev1 rfl) (fun _ => IntWalk.i64_in _ (by omega))) ?_
  refine walk_r rfl rfl rfl (op_move (.inl rfl) (ev1 rfl)) ?_
  refine walk_nil ?_
  refine dloop_step ?_
  refine dwp_seq ?_
  refine dwp_region ?_
  refine walk_r rfl rfl rfl (op_lss rfl (ev1 rfl) (ev1 rfl)) ?_
  refine walk_nil ?_
  refine dwp_seq ?_
  refine dwp_if_f rfl (rfl) ?_
  refine dwp_exit ?_
  refine dwp_seq ?_
  refine dwp_region ?_
  refine walk_r rfl rfl rfl (op_move (.inl rfl) (ev1 rfl)) ?_
  refine walk_r rfl rfl rfl (op_move (.inr rfl) (ev1 rfl)) ?_
  refine walk_nil ?_
  refine dwp_ret ?_
  refine kend [0] (rs1 rfl (rv_t rfl)) rfl rfl ?_ ⟨?_, trivial⟩
  rfl
  exact arr_eq (by simp; try omega) (beh2 _ _ _ _ _ _ (by omega) (by omega) (by omega) (by omega))

set_option maxRecDepth 4000 in
set_option maxHeartbeats 1000000 in
theorem behind3_o (l1 l2 l3 : List Int) (h : l1.length + l2.length + l3.length ≤ 100000) : DFun Try.prog 59 [.slm 1 3 [.slf 1 (l1).length ((l1).flatMap uc8), .slf 1 (l2).length ((l2).flatMap uc8), .slf 1 (l3).length ((l3).flatMap uc8)]] [] (.arr 0) [.arr 5 1 (l1 ++ l2 ++ l3).length ((l1 ++ l2 ++ l3).flatMap uc8)] := by
  refine dcalls_go (N := 38) 0 (by kernel_rfl) Try.func59 rfl rfl rfl (by simp only [fr0, Nat.zero_add, Nat.reduceAdd]; exact rfl) rfl fun s0 hs0 => ?_
  refine dwp_lenm (t := 0) rfl fun hl0 hL0 => ?_
  refine dwp_seq ?_
  refine dwp_region ?_
  refine walk_r rfl rfl rfl (op_move (.inr rfl) (ev1 rfl)) ?_
  refine walk_nil ?_
  refine dwp_seq ?_
  refine dwp_region ?_
  refine walk_r rfl rfl rfl (op_move (.inr rfl) (ev1 rfl)) ?_
  refine walk_nil ?_
  refine dwp_seq ?_
  refine dwp_seq ?_
  refine dwp_region ?_
  refine walk_r rfl rfl rfl (op_move (.inl rfl) (ev1 rfl)) ?_
  refine walk_r rfl rfl rfl (op_lenm rfl sl25 (ev1 rfl)) ?_
  refine walk_r rfl rfl rfl (op_move (.inl rfl) (ev1 rfl)) ?_
  refine walk_nil ?_
  refine dwp_block ?_
  refine dwp_dloop (dloop_step ?_)
  refine dwp_seq ?_
  refine dwp_region ?_
  refine walk_r rfl rfl rfl (op_lss rfl (ev1 rfl) (ev1 rfl)) ?_
  refine walk_nil ?_
  refine dwp_seq ?_
  refine dwp_if_t rfl (rfl) ?_
  refine dwp_skip ?_
  refine dwp_seq ?_
  refine dwp_block ?_
  refine dwp_seq ?_
  refine dwp_region ?_
  refine walk_r rfl rfl rfl (op_ixm (0) rfl sl25 (ev1 rfl) (ev1 rfl) (fun _ => rfl) rfl) ?_
  refine walk_r rfl rfl rfl (op_lddm rfl tb22 (ev1 rfl) rfl) ?_
  refine walk_r rfl rfl rfl (op_move (.inr rfl) (ev1 rfl)) ?_
  refine walk_nil ?_
  refine dwp_region ?_
  refine walk_r rfl rfl rfl (op_move (.inl rfl) (ev1 rfl)) ?_
  refine walk_r rfl rfl rfl (op_move (.inl rfl) (ev1 rfl)) ?_
  refine walk_r rfl rfl rfl (op_len rfl sl22 (ev1 rfl)) ?_
  refine walk_r rfl rfl rfl (op_add' rfl (ev1 rfl) (ev1 rfl) (fun _ => IntWalk.i64_in _ (by omega))) ?_
  refine walk_r rfl rfl rfl (op_move (.inr rfl) (ev1 rfl)) ?_
  refine walk_nil ?_
  refine dwp_region ?_
  refine walk_r rfl rfl rfl (op_add' rfl (ev1 rfl) (ev1 rfl) (fun _ => IntWalk.i64_in _ (by omega))) ?_
  refine walk_r rfl rfl rfl (op_move (.inl rfl) (ev1 rfl)) ?_
  refine walk_nil ?_
  refine dloop_step ?_
  refine dwp_seq ?_
  refine dwp_region ?_
  refine walk_r rfl rfl rfl (op_lss rfl (ev1 rfl) (ev1 rfl)) ?_
  refine walk_nil ?_
  refine dwp_seq ?_
  refine dwp_if_t rfl (rfl) ?_
  refine dwp_skip ?_
  refine dwp_seq ?_
  refine dwp_block ?_
  refine dwp_seq ?_
  refine dwp_region ?_
  refine walk_r rfl rfl rfl (op_ixm (1) rfl sl25 (ev1 rfl) (ev1 rfl) (fun _ => rfl) rfl) ?_
  refine walk_r rfl rfl rfl (op_lddm rfl tb22 (ev1 rfl) rfl) ?_
  refine walk_r rfl rfl rfl (op_move (.inr rfl) (ev1 rfl)) ?_
  refine walk_nil ?_
  refine dwp_region ?_
  refine walk_r rfl rfl rfl (op_move (.inl rfl) (ev1 rfl)) ?_
  refine walk_r rfl rfl rfl (op_move (.inl rfl) (ev1 rfl)) ?_
  refine walk_r rfl rfl rfl (op_len rfl sl22 (ev1 rfl)) ?_
  refine walk_r rfl rfl rfl (op_add' rfl (ev1 rfl) (ev1 rfl) (fun _ => IntWalk.i64_in _ (by omega))) ?_
  refine walk_r rfl rfl rfl (op_move (.inr rfl) (ev1 rfl)) ?_
  refine walk_nil ?_
  refine dwp_region ?_
  refine walk_r rfl rfl rfl (op_add' rfl (ev1 rfl) (ev1 rfl) (fun _ => IntWalk.i64_in _ (by omega))) ?_
  refine walk_r rfl rfl rfl (op_move (.inl rfl) (ev1 rfl)) ?_
  refine walk_nil ?_
  refine dloop_step ?_
  refine dwp_seq ?_
  refine dwp_region ?_
  refine walk_r rfl rfl rfl (op_lss rfl (ev1 rfl) (ev1 rfl)) ?_
  refine walk_nil ?_
  refine dwp_seq ?_
  refine dwp_if_t rfl (rfl) ?_
  refine dwp_skip ?_
  refine dwp_seq ?_
  refine dwp_block ?_
  refine dwp_seq ?_
  refine dwp_region ?_
  refine walk_r rfl rfl rfl (op_ixm (2) rfl sl25 (ev1 rfl) (ev1 rfl) (fun _ => rfl) rfl) ?_
  refine walk_r rfl rfl rfl (op_lddm rfl tb22 (ev1 rfl) rfl) ?_
  refine walk_r rfl rfl rfl (op_move (.inr rfl) (ev1 rfl)) ?_
  refine walk_nil ?_
  refine dwp_region ?_
  refine walk_r rfl rfl rfl (op_move (.inl rfl) (ev1 rfl)) ?_
  refine walk_r rfl rfl rfl (op_move (.inl rfl) (ev1 rfl)) ?_
  refine walk_r rfl rfl rfl (op_len rfl sl22 (ev1 rfl)) ?_
  refine walk_r rfl rfl rfl (op_add' rfl (ev1 rfl) (ev1 rfl) (fun _ => IntWalk.i64_in _ (by omega))) ?_
  refine walk_r rfl rfl rfl (op_move (.inr rfl) (ev1 rfl)) ?_
  refine walk_nil ?_
  refine dwp_region ?_
  refine walk_r rfl rfl rfl (op_add' rfl (ev1 rfl) (ev1 rfl) (fun _ => IntWalk.i64_in _ (by omega))) ?_
  refine walk_r rfl rfl rfl (op_move (.inl rfl) (ev1 rfl)) ?_
  refine walk_nil ?_
  refine dloop_step ?_
  refine dwp_seq ?_
  refine dwp_region ?_
  refine walk_r rfl rfl rfl (op_lss rfl (ev1 rfl) (ev1 rfl)) ?_
  refine walk_nil ?_
  refine dwp_seq ?_
  refine dwp_if_f rfl (rfl) ?_
  refine dwp_exit ?_
  refine dwp_seq ?_
  refine dwp_holes 1 (by simp only [holes, List.cons_append, List.nil_append]; exact rfl) ?_
  refine dwp_region ?_
  refine walk_r rfl rfl rfl (op_move (.inl rfl) (ev1 rfl)) ?_
  refine walk_w rfl rfl rfl (op_mks 0 (l1.length + l2.length + l3.length) (.int .u8 0) rfl sl22 zr5 (ev1 rfl) (ev1 rfl) (fun _ => by omega) (fun _ => by omega) rfl (fun _ => by omega)) (by simp only [upd, List.set_cons_zero, List.set_cons_succ]; exact rfl) ?_
  refine walk_r rfl rfl rfl (op_move (.inr rfl) (ev1 rfl)) ?_
  refine walk_nil ?_
  refine dwp_seq ?_
  refine dwp_region ?_
  refine walk_r rfl rfl rfl (op_move (.inr rfl) (ev1 rfl)) ?_
  refine walk_nil ?_
  refine dwp_seq ?_
  refine dwp_seq ?_
  refine dwp_region ?_
  refine walk_r rfl rfl rfl (op_move (.inl rfl) (ev1 rfl)) ?_
  refine walk_r rfl rfl rfl (op_lenm rfl sl25 (ev1 rfl)) ?_
  refine walk_r rfl rfl rfl (op_move (.inl rfl) (ev1 rfl)) ?_
  refine walk_nil ?_
  refine dwp_block ?_
  refine dwp_dloop (dloop_step ?_)
  refine dwp_seq ?_
  refine dwp_region ?_
  refine walk_r rfl rfl rfl (op_lss rfl (ev1 rfl) (ev1 rfl)) ?_
  refine walk_nil ?_
  refine dwp_seq ?_
  refine dwp_if_t rfl (rfl) ?_
  refine dwp_skip ?_
  refine dwp_seq ?_
  refine dwp_block ?_
  refine dwp_seq ?_
  refine dwp_region ?_
  refine walk_r rfl rfl rfl (op_ixm (0) rfl sl25 (ev1 rfl) (ev1 rfl) (fun _ => rfl) rfl) ?_
  refine walk_r rfl rfl rfl (op_lddm rfl tb22 (ev1 rfl) rfl) ?_
  refine walk_r rfl rfl rfl (op_move (.inr rfl) (ev1 rfl)) ?_
  refine walk_nil ?_
  refine dwp_region ?_
  refine walk_r rfl rfl rfl (op_move (.inl rfl) (ev1 rfl)) ?_
  refine walk_r rfl rfl rfl (op_move (.inl rfl) (ev1 rfl)) ?_
  refine walk_r rfl rfl rfl (op_move (.inl rfl) (ev1 rfl)) ?_
  refine walk_r rfl rfl rfl (op_sla rfl sl22 (ev1 rfl) rfl (bd_some (ev1 rfl)) bd_none (fun _ => by omega)) ?_
  refine walk_r rfl rfl rfl (op_move (.inl rfl) (ev1 rfl)) ?_
  refine walk_w rfl rfl rfl (op_cpy rfl sl22 (ev1 rfl) (ev1 rfl) src_slf rfl (fun _ => flat_oc (fun _ => rfl) _)) (by simp only [upd, List.set_cons_zero, List.set_cons_succ]; exact rfl) ?_
  refine walk_r rfl rfl rfl (op_add' rfl (ev1 rfl) (ev1 rfl) (fun _ => IntWalk.i64_in _ (by omega))) ?_
  refine walk_r rfl rfl rfl (op_move (.inr rfl) (ev1 rfl)) ?_
  refine walk_nil ?_
  refine dwp_region ?_
  refine walk_r rfl rfl rfl (op_add' rfl (ev1 rfl) (ev1 rfl) (fun _ => IntWalk.i64_in _ (by omega))) ?_
  refine walk_r rfl rfl rfl (op_move (.inl rfl) (ev1 rfl)) ?_
  refine walk_nil ?_
  refine dloop_step ?_
  refine dwp_seq ?_
  refine dwp_region ?_
  refine walk_r rfl rfl rfl (op_lss rfl (ev1 rfl) (ev1 rfl)) ?_
  refine walk_nil ?_
  refine dwp_seq ?_
  refine dwp_if_t rfl (rfl) ?_
  refine dwp_skip ?_
  refine dwp_seq ?_
  refine dwp_block ?_
  refine dwp_seq ?_
  refine dwp_region ?_
  refine walk_r rfl rfl rfl (op_ixm (1) rfl sl25 (ev1 rfl) (ev1 rfl) (fun _ => rfl) rfl) ?_
  refine walk_r rfl rfl rfl (op_lddm rfl tb22 (ev1 rfl) rfl) ?_
  refine walk_r rfl rfl rfl (op_move (.inr rfl) (ev1 rfl)) ?_
  refine walk_nil ?_
  refine dwp_region ?_
  refine walk_r rfl rfl rfl (op_move (.inl rfl) (ev1 rfl)) ?_
  refine walk_r rfl rfl rfl (op_move (.inl rfl) (ev1 rfl)) ?_
  refine walk_r rfl rfl rfl (op_move (.inl rfl) (ev1 rfl)) ?_
  refine walk_r rfl rfl rfl (op_sla rfl sl22 (ev1 rfl) rfl (bd_some (ev1 rfl)) bd_none (fun _ => by omega)) ?_
  refine walk_r rfl rfl rfl (op_move (.inl rfl) (ev1 rfl)) ?_
  refine walk_w rfl rfl rfl (op_cpy rfl sl22 (ev1 rfl) (ev1 rfl) src_slf rfl (fun _ => flat_oc (fun _ => rfl) _)) (by simp only [upd, List.set_cons_zero, List.set_cons_succ]; exact rfl) ?_
  refine walk_r rfl rfl rfl (op_add' rfl (ev1 rfl) (ev1 rfl) (fun _ => IntWalk.i64_in _ (by omega))) ?_
  refine walk_r rfl rfl rfl (op_move (.inr rfl) (ev1 rfl)) ?_
  refine walk_nil ?_
  refine dwp_region ?_
  refine walk_r rfl rfl rfl (op_add' rfl (ev1 rfl) (ev1 rfl) (fun _ => IntWalk.i64_in _ (by omega))) ?_
  refine walk_r rfl rfl rfl (op_move (.inl rfl) (ev1 rfl)) ?_
  refine walk_nil ?_
  refine dloop_step ?_
  refine dwp_seq ?_
  refine dwp_region ?_
  refine walk_r rfl rfl rfl (op_lss rfl (ev1 rfl) (ev1 rfl)) ?_
  refine walk_nil ?_
  refine dwp_seq ?_
  refine dwp_if_t rfl (rfl) ?_
  refine dwp_skip ?_
  refine dwp_seq ?_
  refine dwp_block ?_
  refine dwp_seq ?_
  refine dwp_region ?_
  refine walk_r rfl rfl rfl (op_ixm (2) rfl sl25 (ev1 rfl) (ev1 rfl) (fun _ => rfl) rfl) ?_
  refine walk_r rfl rfl rfl (op_lddm rfl tb22 (ev1 rfl) rfl) ?_
  refine walk_r rfl rfl rfl (op_move (.inr rfl) (ev1 rfl)) ?_
  refine walk_nil ?_
  refine dwp_region ?_
  refine walk_r rfl rfl rfl (op_move (.inl rfl) (ev1 rfl)) ?_
  refine walk_r rfl rfl rfl (op_move (.inl rfl) (ev1 rfl)) ?_
  refine walk_r rfl rfl rfl (op_move (.inl rfl) (ev1 rfl)) ?_
  refine walk_r rfl rfl rfl (op_sla rfl sl22 (ev1 rfl) rfl (bd_some (ev1 rfl)) bd_none (fun _ => by omega)) ?_
  refine walk_r rfl rfl rfl (op_move (.inl rfl) (ev1 rfl)) ?_
  refine walk_w rfl rfl rfl (op_cpy rfl sl22 (ev1 rfl) (ev1 rfl) src_slf rfl (fun _ => flat_oc (fun _ => rfl) _)) (by simp only [upd, List.set_cons_zero, List.set_cons_succ]; exact rfl) ?_
  refine walk_r rfl rfl rfl (op_add' rfl (ev1 rfl) (ev1 rfl) (fun _ => IntWalk.i64_in _ (by omega))) ?_
  refine walk_r rfl rfl rfl (op_move (.inr rfl) (ev1 rfl)) ?_
  refine walk_nil ?_
  refine dwp_region ?_
  refine walk_r rfl rfl rfl (op_add' rfl (ev1 rfl) (ev1 rfl) (fun _ => IntWalk.i64_in _ (by omega))) ?_
  refine walk_r rfl rfl rfl (op_move (.inl rfl) (ev1 rfl)) ?_
  refine walk_nil ?_
  refine dloop_step ?_
  refine dwp_seq ?_
  refine dwp_region ?_
  refine walk_r rfl rfl rfl (op_lss rfl (ev1 rfl) (ev1 rfl)) ?_
  refine walk_nil ?_
  refine dwp_seq ?_
  refine dwp_if_f rfl (rfl) ?_
  refine dwp_exit ?_
  refine dwp_seq ?_
  refine dwp_region ?_
  refine walk_r rfl rfl rfl (op_move (.inl rfl) (ev1 rfl)) ?_
  refine walk_r rfl rfl rfl (op_move (.inr rfl) (ev1 rfl)) ?_
  refine walk_nil ?_
  refine dwp_ret ?_
  refine kend [0] (rs1 rfl (rv_t rfl)) rfl rfl ?_ ⟨?_, trivial⟩
  rfl
  exact arr_eq (by simp; try omega) (beh3 _ _ _ _ _ _ _ _ _ (by omega) (by omega) (by omega) (by omega) (by omega) (by omega))

theorem behind2_d (l1 l2 : List Int) (h : l1.length + l2.length ≤ 100000) : DFun Try.prog 59 [.slm 1 2 [.slf 1 (l1).length ((l1).flatMap uc8), .slf 1 (l2).length ((l2).flatMap uc8)]] [] (.slf 1 (l1 ++ l2).length ((l1 ++ l2).flatMap uc8)) [] := freeze (behind2_o l1 l2 h) rfl

theorem behind3_d (l1 l2 l3 : List Int) (h : l1.length + l2.length + l3.length ≤ 100000) : DFun Try.prog 59 [.slm 1 3 [.slf 1 (l1).length ((l1).flatMap uc8), .slf 1 (l2).length ((l2).flatMap uc8), .slf 1 (l3).length ((l3).flatMap uc8)]] [] (.slf 1 (l1 ++ l2 ++ l3).length ((l1 ++ l2 ++ l3).flatMap uc8)) [] := freeze (behind3_o l1 l2 l3 h) rfl

set_option maxRecDepth 4000 in
set_option maxHeartbeats 1000000 in
theorem told_no : DFun Try.prog 53 [.val .nilIface] [] (.val (.int .i64 0)) [] := by
  refine dcalls_go (N := 13) 0 (by kernel_rfl) Try.func53 rfl rfl rfl (by simp only [fr0, Nat.zero_add, Nat.reduceAdd]; exact rfl) rfl fun s0 hs0 => ?_
  refine dwp_seq ?_
  refine dwp_region ?_
  refine walk_r rfl rfl rfl (op_move (.inr rfl) (ev1 rfl)) ?_
  refine walk_nil ?_
  refine dwp_seq ?_
  refine dwp_seq ?_
  refine dwp_holes 1 (by simp only [holes, List.cons_append, List.nil_append]; exact rfl) ?_
  refine dwp_region ?_
  refine walk_r rfl rfl rfl (op_move (.inl rfl) (ev1 rfl)) ?_
  refine walk_r rfl rfl rfl (op_tan rfl ni93 zv93 (ev1 rfl)) ?_
  refine walk_r rfl rfl rfl (op_move (.inl rfl) (ev1 rfl)) ?_
  refine walk_r rfl rfl rfl (op_ext rfl (ev1 rfl) rfl) ?_
  refine walk_r rfl rfl rfl (op_ext rfl (ev1 rfl) rfl) ?_
  refine walk_w rfl rfl rfl (op_alloc 0 rfl zr93 rfl) (by simp only [upd, List.set_cons_zero, List.set_cons_succ]; exact rfl) ?_
  refine walk_s rfl rfl (op_stwa rfl tb93 (ev1 rfl) (ev1 rfl) rfl rfl rfl rfl) (by simp only [upd, List.set_cons_zero, List.set_cons_succ]; exact rfl) ?_
  refine walk_r rfl rfl rfl (op_move (.inr rfl) (ev1 rfl)) ?_
  refine walk_nil ?_
  refine dwp_seq ?_
  refine dwp_region ?_
  refine walk_r rfl rfl rfl (op_move (.inl rfl) (ev1 rfl)) ?_
  refine walk_nil ?_
  refine dwp_if_f rfl (rfl) ?_
  refine dwp_skip ?_
  refine dwp_seq ?_
  refine dwp_region ?_
  refine walk_r rfl rfl rfl (op_move (.inr rfl) (ev1 rfl)) ?_
  refine walk_nil ?_
  refine dwp_ret ?_
  refine kend0 (rs1 rfl (rv_t rfl)) rfl ?_
  rfl

set_option maxRecDepth 4000 in
set_option maxHeartbeats 1000000 in
theorem told_w (n : Int) : DFun Try.prog 53 [.ifc 93 (.val (.agg #[.int .i64 n]))] [] (.val (.int .i64 n)) [] := by
  refine dcalls_go (N := 13) 0 (by kernel_rfl) Try.func53 rfl rfl rfl (by simp only [fr0, Nat.zero_add, Nat.reduceAdd]; exact rfl) rfl fun s0 hs0 => ?_
  refine dwp_seq ?_
  refine dwp_region ?_
  refine walk_r rfl rfl rfl (op_move (.inr rfl) (ev1 rfl)) ?_
  refine walk_nil ?_
  refine dwp_seq ?_
  refine dwp_seq ?_
  refine dwp_holes 1 (by simp only [holes, List.cons_append, List.nil_append]; exact rfl) ?_
  refine dwp_region ?_
  refine walk_r rfl rfl rfl (op_move (.inl rfl) (ev1 rfl)) ?_
  refine walk_r rfl rfl rfl (op_tay rfl ni93 (ev1 rfl)) ?_
  refine walk_r rfl rfl rfl (op_move (.inl rfl) (ev1 rfl)) ?_
  refine walk_r rfl rfl rfl (op_ext rfl (ev1 rfl) rfl) ?_
  refine walk_r rfl rfl rfl (op_ext rfl (ev1 rfl) rfl) ?_
  refine walk_w rfl rfl rfl (op_alloc 0 rfl zr93 rfl) (by simp only [upd, List.set_cons_zero, List.set_cons_succ]; exact rfl) ?_
  refine walk_s rfl rfl (op_stwa rfl tb93 (ev1 rfl) (ev1 rfl) rfl rfl rfl rfl) (by simp only [upd, List.set_cons_zero, List.set_cons_succ]; exact rfl) ?_
  refine walk_r rfl rfl rfl (op_move (.inr rfl) (ev1 rfl)) ?_
  refine walk_nil ?_
  refine dwp_seq ?_
  refine dwp_region ?_
  refine walk_r rfl rfl rfl (op_move (.inl rfl) (ev1 rfl)) ?_
  refine walk_nil ?_
  refine dwp_if_t rfl (rfl) ?_
  refine dwp_seq ?_
  refine dwp_region ?_
  refine walk_r rfl rfl rfl (op_fa rfl fo93_0 (ev1 rfl)) ?_
  refine walk_r rfl rfl rfl (op_ldo rfl tb35 (ev1 rfl) rfl rfl) ?_
  refine walk_r rfl rfl rfl (op_move (.inr rfl) (ev1 rfl)) ?_
  refine walk_nil ?_
  refine dwp_ret ?_
  refine kend0 (rs1 rfl (rv_t rfl)) rfl ?_
  rfl

set_option maxRecDepth 4000 in
set_option maxHeartbeats 1000000 in
theorem put1_idle (e : Int) : DDef Try.prog 58 [.loc 0 0] [.flat 35 [.int .i64 e]] none none [.flat 35 [.int .i64 0]] := by
  refine ddef_go1 (dr := .tup []) (t := 1) (N := 3) 1 (by kernel_rfl) Try.func58 rfl rfl rfl (by simp only [fr0, Nat.zero_add, Nat.reduceAdd]; exact rfl) rfl rfl rfl rfl rfl fun s0 hs0 => ?_
  refine walk_r rfl rfl rfl (dop_call [] [] [] rfl (ev1 rfl) (ec (ev1 rfl) en) rfl rfl (told_no) rfl rfl rfl rfl rfl rfl) ?_
  refine walk_s rfl rfl (op_stwi rfl tb35 (ev1 rfl) (ev1 rfl) rfl) (by simp only [upd, List.set_cons_zero, List.set_cons_succ]; exact rfl) ?_
  refine walk_nil ?_
  refine kend [0] (res_none rfl) rfl rfl ?_ ⟨rfl, trivial⟩
  rfl

set_option maxRecDepth 4000 in
set_option maxHeartbeats 1000000 in
theorem put1_caught (e n : Int) : DDef Try.prog 58 [.loc 0 0] [.flat 35 [.int .i64 e]] (some (.ifc 93 (.val (.agg #[.int .i64 n])))) none [.flat 35 [.int .i64 n]] := by
  refine ddef_go1 (dr := .tup []) (t := 1) (N := 3) 1 (by kernel_rfl) Try.func58 rfl rfl rfl (by simp only [fr0, Nat.zero_add, Nat.reduceAdd]; exact rfl) rfl rfl rfl rfl rfl fun s0 hs0 => ?_
  refine walk_r rfl rfl rfl (dop_call [] [] [] rfl (ev1 rfl) (ec (ev1 rfl) en) rfl rfl (told_w n) rfl rfl rfl rfl rfl rfl) ?_
  refine walk_s rfl rfl (op_stwi rfl tb35 (ev1 rfl) (ev1 rfl) rfl) (by simp only [upd, List.set_cons_zero, List.set_cons_succ]; exact rfl) ?_
  refine walk_nil ?_
  refine kend [0] (res_none rfl) rfl rfl ?_ ⟨rfl, trivial⟩
  rfl

set_option maxRecDepth 4000 in
set_option maxHeartbeats 1000000 in
theorem put_ok (l : List Int) (w : Nat) (n : Int) (hl : l.length ≤ 90000) (h : 1 ≤ w ∧ w ≤ 8) (hf : fitsN w n = true) : DFun Try.prog 46 [.slf 1 l.length (l.flatMap uc8), .val (.int .i64 (w : Int)), .val (.int .u64 n)] [] (.tup [.slf 1 (l ++ bytesN w n).length ((l ++ bytesN w n).flatMap uc8), .val (.int .i64 0)]) [] := by
  refine dcalls_body (N := 18) 0 (by kernel_rfl) Try.func46 rfl rfl rfl (by simp only [fr0, Nat.zero_add, Nat.reduceAdd]; exact rfl) rfl fun s0 hs0 => ?_
  refine dbody_seq rfl hs0 ?_
  refine dwp_holes 1 (by simp only [holes, List.cons_append, List.nil_append]; exact rfl) ?_
  refine dwp_region ?_
  refine walk_r rfl rfl rfl (op_move (.inr rfl) (ev1 rfl)) ?_
  refine walk_w rfl rfl rfl (op_alloc 0 rfl zr35 rfl) (by simp only [upd, List.set_cons_zero, List.set_cons_succ]; exact rfl) ?_
  refine walk_nil ?_
  refine dbody_defer (l0 := [_]) rfl rfl rfl rfl rfl hs0 ?_
  refine walk_r rfl rfl rfl (op_mkf rfl en (ec (ev1 rfl) en)) ?_
  refine walk_nil ⟨_, _, _, 1, ev1 rfl, Nat.le_trans hs0 (by decide), rfl, ?_⟩
  have hs1 : s0.M.length ≤ 1 := Nat.le_trans hs0 (by decide)
  refine dbody_end rfl hs0 ?_
  refine dwp_seq ?_
  refine dwp_region ?_
  refine walk_r rfl rfl rfl (op_move (.inl rfl) (ev1 rfl)) ?_
  refine walk_r rfl rfl rfl (op_bs (ps := [(0, .tmp 9)]) rfl sl28 zr3 rfl (vc (ev1 rfl) vn) rfl (by decide) (by decide)) ?_
  refine walk_r rfl rfl rfl (dop_call [] [] [] rfl (ev1 rfl) (ec (ev1 rfl) en) rfl rfl (need_ok [(w : Int)] (by simp [isW_iff]; omega)) rfl rfl rfl rfl rfl rfl) ?_
  refine walk_nil ?_
  refine dwp_seq ?_
  refine dwp_region ?_
  refine walk_r rfl rfl rfl (op_move (.inl rfl) (ev1 rfl)) ?_
  refine walk_r rfl rfl rfl (op_move (.inl rfl) (ev1 rfl)) ?_
  refine walk_r rfl rfl rfl (op_move (.inl rfl) (ev1 rfl)) ?_
  refine walk_r rfl rfl rfl (dop_call [] [] [] rfl (ev1 rfl) (ec (ev1 rfl) (ec (ev1 rfl) en)) rfl rfl (nb_ok w h n hf) rfl rfl rfl rfl rfl rfl) ?_
  refine walk_r rfl rfl rfl (op_bsm (ps := [(0, .tmp 12), (1, .tmp 15)]) rfl sl25 zr22 rfl (ec (ev1 rfl) (ec (ev1 rfl) en)) rfl (by decide)) ?_
  refine walk_r rfl rfl rfl (dop_call [] [] [] rfl (ev1 rfl) (ec (ev1 rfl) en) rfl rfl (behind2_d _ _ (by rw [bytesN_len h.2]; omega)) rfl rfl rfl rfl rfl rfl) ?_
  refine walk_r rfl rfl rfl (op_move (.inr rfl) (ev1 rfl)) ?_
  refine walk_s rfl rfl (op_stwi rfl tb35 (ev1 rfl) (ev1 rfl) rfl) (by simp only [upd, List.set_cons_zero, List.set_cons_succ]; exact rfl) ?_
  refine walk_nil ?_
  refine dwp_ret ?_
  refine kdef (dturn_idle [0] [] rfl rfl (put1_idle _) rfl rfl rfl rfl rfl) ?_
  refine kend0 (rs2 rfl (rv_t rfl) (rv_1 tb35 rfl rfl rfl)) rfl ?_
  rfl

set_option maxRecDepth 4000 in
set_option maxHeartbeats 1000000 in
theorem put_w (l : List Int) (w n : Int) (h : isW w = false) : DFun Try.prog 46 [.slf 1 l.length (l.flatMap uc8), .val (.int .i64 w), .val (.int .u64 n)] [] (.tup [.val (.slice none 0 0), .val (.int .i64 111)]) [] := by
  refine dcalls_body (N := 18) 0 (by kernel_rfl) Try.func46 rfl rfl rfl (by simp only [fr0, Nat.zero_add, Nat.reduceAdd]; exact rfl) rfl fun s0 hs0 => ?_
  refine dbody_seq rfl hs0 ?_
  refine dwp_holes 1 (by simp only [holes, List.cons_append, List.nil_append]; exact rfl) ?_
  refine dwp_region ?_
  refine walk_r rfl rfl rfl (op_move (.inr rfl) (ev1 rfl)) ?_
  refine walk_w rfl rfl rfl (op_alloc 0 rfl zr35 rfl) (by simp only [upd, List.set_cons_zero, List.set_cons_succ]; exact rfl) ?_
  refine walk_nil ?_
  refine dbody_defer (l0 := [_]) rfl rfl rfl rfl rfl hs0 ?_
  refine walk_r rfl rfl rfl (op_mkf rfl en (ec (ev1 rfl) en)) ?_
  refine walk_nil ⟨_, _, _, 1, ev1 rfl, Nat.le_trans hs0 (by decide), rfl, ?_⟩
  have hs1 : s0.M.length ≤ 1 := Nat.le_trans hs0 (by decide)
  refine dbody_end rfl hs0 ?_
  refine dwp_seq ?_
  refine dwp_region ?_
  refine walk_r rfl rfl rfl (op_move (.inl rfl) (ev1 rfl)) ?_
  refine walk_r rfl rfl rfl (op_bs (ps := [(0, .tmp 9)]) rfl sl28 zr3 rfl (vc (ev1 rfl) vn) rfl (by decide) (by decide)) ?_
  refine walk_p rfl (dop_callP [] [] [] rfl (ev1 rfl) (ec (ev1 rfl) en) rfl rfl (need_no [w] (by simp [h])) rfl rfl rfl rfl rfl rfl) rfl ?_
  refine kdef (dturn_caught [0] [] rfl rfl rfl (put1_caught _ _) rfl rfl rfl rfl rfl) ?_
  refine kend0 (rs2 rfl (rv_t rfl) (rv_1 tb35 rfl rfl rfl)) rfl ?_
  rfl

set_option maxRecDepth 4000 in
set_option maxHeartbeats 1000000 in
theorem put_big (l : List Int) (w : Nat) (n : Int) (h : 1 ≤ w ∧ w ≤ 8) (hf : fitsN w n = false) : DFun Try.prog 46 [.slf 1 l.length (l.flatMap uc8), .val (.int .i64 (w : Int)), .val (.int .u64 n)] [] (.tup [.val (.slice none 0 0), .val (.int .i64 112)]) [] := by
  refine dcalls_body (N := 18) 0 (by kernel_rfl) Try.func46 rfl rfl rfl (by simp only [fr0, Nat.zero_add, Nat.reduceAdd]; exact rfl) rfl fun s0 hs0 => ?_
  refine dbody_seq rfl hs0 ?_
  refine dwp_holes 1 (by simp only [holes, List.cons_append, List.nil_append]; exact rfl) ?_
  refine dwp_region ?_
  refine walk_r rfl rfl rfl (op_move (.inr rfl) (ev1 rfl)) ?_
  refine walk_w rfl rfl rfl (op_alloc 0 rfl zr35 rfl) (by simp only [upd, List.set_cons_zero, List.set_cons_succ]; exact rfl) ?_
  refine walk_nil ?_
  refine dbody_defer (l0 := [_]) rfl rfl rfl rfl rfl hs0 ?_
  refine walk_r rfl rfl rfl (op_mkf rfl en (ec (ev1 rfl) en)) ?_
  refine walk_nil ⟨_, _, _, 1, ev1 rfl, Nat.le_trans hs0 (by decide), rfl, ?_⟩
  have hs1 : s0.M.length ≤ 1 := Nat.le_trans hs0 (by decide)
  refine dbody_end rfl hs0 ?_
  refine dwp_seq ?_
  refine dwp_region ?_
  refine walk_r rfl rfl rfl (op_move (.inl rfl) (ev1 rfl)) ?_
  refine walk_r rfl rfl rfl (op_bs (ps := [(0, .tmp 9)]) rfl sl28 zr3 rfl (vc (ev1 rfl) vn) rfl (by decide) (by decide)) ?_
  refine walk_r rfl rfl rfl (dop_call [] [] [] rfl (ev1 rfl) (ec (ev1 rfl) en) rfl rfl (need_ok [(w : Int)] (by simp [isW_iff]; omega)) rfl rfl rfl rfl rfl rfl) ?_
  refine walk_nil ?_
  refine dwp_seq ?_
  refine dwp_region ?_
  refine walk_r rfl rfl rfl (op_move (.inl rfl) (ev1 rfl)) ?_
  refine walk_r rfl rfl rfl (op_move (.inl rfl) (ev1 rfl)) ?_
  refine walk_r rfl rfl rfl (op_move (.inl rfl) (ev1 rfl)) ?_
  refine walk_p rfl (dop_callP [] [] [] rfl (ev1 rfl) (ec (ev1 rfl) (ec (ev1 rfl) en)) rfl rfl (nb_no w h n hf) rfl rfl rfl rfl rfl rfl) rfl ?_
  refine kdef (dturn_caught [0] [] rfl rfl rfl (put1_caught _ _) rfl rfl rfl rfl rfl) ?_
  refine kend0 (rs2 rfl (rv_t rfl) (rv_1 tb35 rfl rfl rfl)) rfl ?_
  rfl

set_option maxRecDepth 4000 in
set_option maxHeartbeats 1000000 in
theorem need2_ok (T : TypeId) (l : List Int) (e : Int) (n : Nat) (h : n ≤ l.length) : DFun Try.prog 74 [.loc 0 0, .val (.int .i64 (n : Int))] [.mix T [.slf 1 (l).length ((l).flatMap uc8), .val (.int .i64 e)]] (.tup []) [.mix T [.slf 1 (l).length ((l).flatMap uc8), .val (.int .i64 e)]] := by
  refine dcalls_go (N := 13) 1 (by kernel_rfl) Try.func74 rfl rfl rfl (by simp only [fr0, Nat.zero_add, Nat.reduceAdd]; exact rfl) rfl fun s0 hs0 => ?_
  refine dwp_seq ?_
  refine dwp_region ?_
  refine walk_r rfl rfl rfl (op_move (.inl rfl) (ev1 rfl)) ?_
  refine walk_r rfl rfl rfl (op_nc rfl (ev1 rfl) (fun s v h => by cases h; exact ⟨_, rfl⟩)) ?_
  refine walk_r rfl rfl rfl (op_fa rfl fo95_0 (ev1 rfl)) ?_
  refine walk_r rfl rfl rfl (op_ldm rfl tb22 (ev1 rfl) rfl rfl) ?_
  refine walk_r rfl rfl rfl (op_len rfl sl22 (ev1 rfl)) ?_
  refine walk_r rfl rfl rfl (op_move (.inl rfl) (ev1 rfl)) ?_
  refine walk_r rfl rfl rfl (op_lss rfl (ev1 rfl) (ev1 rfl)) ?_
  refine walk_nil ?_
  refine dwp_if_f rfl (decide_eq_false (by omega)) ?_
  refine dwp_skip ?_
  refine kend [0] (res_none rfl) rfl rfl ?_ ⟨rfl, trivial⟩
  rfl

set_option maxRecDepth 4000 in
set_option maxHeartbeats 1000000 in
theorem need2_no (T : TypeId) (l : List Int) (e : Int) (n : Nat) (h : l.length < n) : DPan Try.prog 74 [.loc 0 0, .val (.int .i64 (n : Int))] [.mix T [.slf 1 (l).length ((l).flatMap uc8), .val (.int .i64 e)]] (.ifc 93 (.val (.agg #[.int .i64 110]))) [.mix T [.slf 1 (l).length ((l).flatMap uc8), .val (.int .i64 e)]] := by
  refine dcalls_go (N := 13) 1 (by kernel_rfl) Try.func74 rfl rfl rfl (by simp only [fr0, Nat.zero_add, Nat.reduceAdd]; exact rfl) rfl fun s0 hs0 => ?_
  refine dwp_seq ?_
  refine dwp_region ?_
  refine walk_r rfl rfl rfl (op_move (.inl rfl) (ev1 rfl)) ?_
  refine walk_r rfl rfl rfl (op_nc rfl (ev1 rfl) (fun s v h => by cases h; exact ⟨_, rfl⟩)) ?_
  refine walk_r rfl rfl rfl (op_fa rfl fo95_0 (ev1 rfl)) ?_
  refine walk_r rfl rfl rfl (op_ldm rfl tb22 (ev1 rfl) rfl rfl) ?_
  refine walk_r rfl rfl rfl (op_len rfl sl22 (ev1 rfl)) ?_
  refine walk_r rfl rfl rfl (op_move (.inl rfl) (ev1 rfl)) ?_
  refine walk_r rfl rfl rfl (op_lss rfl (ev1 rfl) (ev1 rfl)) ?_
  refine walk_nil ?_
  refine dwp_if_t rfl (decide_eq_true (by omega)) ?_
  refine dwp_region ?_
  refine walk_r rfl rfl rfl (op_build (ps := [(0, .const (.int .i64 110))]) rfl fl93 zr93 (vc (ev1 rfl) vn) rfl rfl) ?_
  refine walk_r rfl rfl rfl (op_mi rfl ni93 (ev1 rfl)) ?_
  refine walk_p rfl (op_pan rfl (ev1 rfl)) rfl ?_
  refine kpan [0] rfl rfl ?_ ⟨rfl, trivial⟩
  rfl

set_option maxRecDepth 4000 in
set_option maxHeartbeats 1000000 in
theorem ahead_d (T : TypeId) (l : List Int) (e : Int) : DFun Try.prog 75 [.loc 0 0] [.mix T [.slf 1 (l).length ((l).flatMap uc8), .val (.int .i64 e)]] (.fn (.func 78) [] [.loc 1 0]) [.mix T [.slf 1 (l).length ((l).flatMap uc8), .val (.int .i64 e)], .mix 105 [.loc 0 0]] := by
  refine dcalls_go (N := 4) 1 (by kernel_rfl) Try.func75 rfl rfl rfl (by simp only [fr0, Nat.zero_add, Nat.reduceAdd]; exact rfl) rfl fun s0 hs0 => ?_
  refine dwp_seq ?_
  refine dwp_holes 1 (by simp only [holes, List.cons_append, List.nil_append]; exact rfl) ?_
  refine dwp_region ?_
  refine walk_w rfl rfl rfl (op_boxm 1 rfl (ev1 rfl) (fun s v h => by cases h <;> rfl) rfl) (by simp only [upd, List.set_cons_zero, List.set_cons_succ]; exact rfl) ?_
  refine walk_r rfl rfl rfl (op_move (.inr rfl) (ev1 rfl)) ?_
  refine walk_nil ?_
  refine dwp_seq ?_
  refine dwp_region ?_
  refine walk_r rfl rfl rfl (op_mkf rfl en (ec (ev1 rfl) en)) ?_
  refine walk_r rfl rfl rfl (op_move (.inr rfl) (ev1 rfl)) ?_
  refine walk_nil ?_
  refine dwp_ret ?_
  refine kend [0, 1] (rs1 rfl (rv_t rfl)) rfl rfl ?_ ⟨rfl, rfl, trivial⟩
  rfl

noncomputable def numA : Code := rfA (pth [1, 0, 1, 1, 1, 0, 1, 0] (bodyOf Try.f67))
noncomputable def numB : Code := rfB (pth [1, 0, 1, 1, 1, 0, 1, 0] (bodyOf Try.f67))

set_option maxRecDepth 4000 in
set_option maxHeartbeats 1000000 in
theorem numRound_go (i w acc b : Int) (h : i ≠ w) : DRound Try.prog 0 [.val (.int .i64 i), .val (.int .u8 b)] [.lp 24 [(3, .loc 1 0), (5, .loc 2 0)] #[13, 14] numA numB .ready none, .flat 3 [.int .i64 w], .flat 55 [.int .u64 acc]] true [.lp 24 [(3, .loc 1 0), (5, .loc 2 0)] #[13, 14] numA numB .ready none, .flat 3 [.int .i64 w], .flat 55 [.int .u64 (numR acc b)]] := by
  refine dround_go 3 rfl rfl (by simp) rfl rfl fun s0 hs0 => ?_
  refine dwp_seq ?_
  refine dwp_region ?_
  refine walk_r rfl rfl rfl (op_move (.inr rfl) (ev1 rfl)) ?_
  refine walk_nil ?_
  refine dwp_region ?_
  refine walk_r rfl rfl rfl (op_move (.inr rfl) (ev1 rfl)) ?_
  refine walk_nil ?_
  refine ⟨rfl, ?_⟩
  simp only [List.set_cons_zero, List.set_cons_succ]
  refine dwp_block ?_
  refine dwp_seq ?_
  refine dwp_seq ?_
  refine dwp_region ?_
  refine walk_r rfl rfl rfl (op_move (.inl rfl) (ev1 rfl)) ?_
  refine walk_r rfl rfl rfl (op_ldo rfl tb3 (ev1 rfl) rfl rfl) ?_
  refine walk_r rfl rfl rfl (op_eql rfl (ev1 rfl) (ev1 rfl)) ?_
  refine walk_nil ?_
  refine dwp_if_f rfl (by simp [h]) ?_
  refine dwp_skip ?_
  refine dwp_region ?_
  refine walk_r rfl rfl rfl (op_ldo rfl tb55 (ev1 rfl) rfl rfl) ?_
  refine walk_r rfl rfl rfl (op_shl (8) rfl (ev1 rfl) (ev1 rfl) (fun _ => ⟨rfl, by decide⟩)) ?_
  refine walk_r rfl rfl rfl (op_move (.inl rfl) (ev1 rfl)) ?_
  refine walk_r rfl rfl rfl (op_conv ty5 kn55 rfl (ev1 rfl)) ?_
  refine walk_r rfl rfl rfl (op_ior rfl (ev1 rfl) (ev1 rfl)) ?_
  refine walk_s rfl rfl (op_stwi rfl tb55 (ev1 rfl) (ev1 rfl) rfl) (by simp only [upd, List.set_cons_zero, List.set_cons_succ]; exact rfl) ?_
  refine walk_nil ?_
  refine ⟨by first | rfl | assumption | simp_all, rfl, [0, 1, 2], rfl, ⟨rfl, rfl, rfl, trivial⟩⟩

set_option maxRecDepth 4000 in
set_option maxHeartbeats 1000000 in
theorem numRound_stop (i w acc b : Int) (h : i = w) : DRound Try.prog 0 [.val (.int .i64 i), .val (.int .u8 b)] [.lp 24 [(3, .loc 1 0), (5, .loc 2 0)] #[13, 14] numA numB .ready none, .flat 3 [.int .i64 w], .flat 55 [.int .u64 acc]] false [.lp 24 [(3, .loc 1 0), (5, .loc 2 0)] #[13, 14] numA numB .done (some (.exit 0)), .flat 3 [.int .i64 w], .flat 55 [.int .u64 acc]] := by
  refine dround_go 3 rfl rfl (by simp) rfl rfl fun s0 hs0 => ?_
  refine dwp_seq ?_
  refine dwp_region ?_
  refine walk_r rfl rfl rfl (op_move (.inr rfl) (ev1 rfl)) ?_
  refine walk_nil ?_
  refine dwp_region ?_
  refine walk_r rfl rfl rfl (op_move (.inr rfl) (ev1 rfl)) ?_
  refine walk_nil ?_
  refine ⟨rfl, ?_⟩
  simp only [List.set_cons_zero, List.set_cons_succ]
  refine dwp_block ?_
  refine dwp_seq ?_
  refine dwp_seq ?_
  refine dwp_region ?_
  refine walk_r rfl rfl rfl (op_move (.inl rfl) (ev1 rfl)) ?_
  refine walk_r rfl rfl rfl (op_ldo rfl tb3 (ev1 rfl) rfl rfl) ?_
  refine walk_r rfl rfl rfl (op_eql rfl (ev1 rfl) (ev1 rfl)) ?_
  refine walk_nil ?_
  refine dwp_if_t rfl (by simp [h]) ?_
  refine dwp_exit ?_
  refine ⟨by first | rfl | assumption | simp_all, rfl, [0, 1, 2], rfl, ⟨rfl, rfl, rfl, trivial⟩⟩

set_option maxRecDepth 4000 in
set_option maxHeartbeats 1000000 in
theorem ahead_num (T : TypeId) (l : List Int) (hL : l.length ≤ 9223372036854775807) (e : Int) (w : Nat) : DFun Try.prog 78 [.yld 0, .loc 3 0] [.lp 24 [(3, .loc 1 0), (5, .loc 2 0)] #[13, 14] numA numB .ready none, .flat 3 [.int .i64 (w : Int)], .flat 55 [.int .u64 0], .mix 105 [.loc 4 0], .mix T [.slf 1 (l).length ((l).flatMap uc8), .val (.int .i64 e)]] (.tup []) [.lp 24 [(3, .loc 1 0), (5, .loc 2 0)] #[13, 14] numA numB (rst (decide (l.length ≤ w))) (rpe (.exit 0) (decide (l.length ≤ w))), .flat 3 [.int .i64 (w : Int)], .flat 55 [.int .u64 (numN w l)], .mix 105 [.loc 4 0], .mix T [.slf 1 (l).length ((l).flatMap uc8), .val (.int .i64 e)]] := by
  refine dcalls_go (N := 21) 5 (by kernel_rfl) Try.func78 rfl rfl rfl (by simp only [fr0, Nat.zero_add, Nat.reduceAdd]; exact rfl) rfl fun s0 hs0 => ?_
  refine dwp_seq ?_
  refine dwp_region ?_
  refine walk_r rfl rfl rfl (op_ldm rfl tb105 (ev1 rfl) rfl rfl) ?_
  refine walk_r rfl rfl rfl (op_nc rfl (ev1 rfl) (fun s v h => by cases h; exact ⟨_, rfl⟩)) ?_
  refine walk_r rfl rfl rfl (op_fa rfl fo95_0 (ev1 rfl)) ?_
  refine walk_r rfl rfl rfl (op_ldm rfl tb22 (ev1 rfl) rfl rfl) ?_
  refine walk_r rfl rfl rfl (op_len rfl sl22 (ev1 rfl)) ?_
  refine walk_r rfl rfl rfl (op_move (.inl rfl) (ev1 rfl)) ?_
  refine walk_nil ?_
  refine dwp_block ?_
  refine dwp_loopS ⟨hs0, rfl⟩ (α := Nat) (fun k => [(10, .val (.int .i64 (k : Int)))]) [(0, _), (8, _), (9, _)] (fun k => [(2, .flat 55 [.int .u64 (numN k l)])]) [_, _, .hole, _, _] (fun k => k ≤ l.length ∧ k ≤ w) (fun k => l.length - k) 0 [0, 1, 2, 3, 4] (by simp) rfl ⟨rfl, rfl, rfl, trivial⟩ ⟨rfl, trivial⟩ ⟨rfl, rfl, rfl, rfl, rfl, trivial⟩ ?_
  intro k hx
  simp only [upd, List.set_cons_zero, List.set_cons_succ, List.cons_append, List.nil_append]
  obtain ⟨hk, hkw⟩ := hx
  refine dwp_seq ?_
  refine dwp_region ?_
  refine walk_r rfl rfl rfl (op_lss rfl (ev1 rfl) (ev1 rfl)) ?_
  refine walk_nil ?_
  refine dwp_seq ?_
  refine dwp_cond rfl (fun c1 => ?_) (fun c1 => ?_)
  · try simp only [decide_eq_true_eq, decide_eq_false_iff_not, beq_iff_eq, bne_iff_ne, beq_eq_false_iff_ne, bne_eq_false_iff_eq, Bool.not_eq_true', Bool.not_eq_false', Bool.and_eq_true, Bool.or_eq_true, Bool.or_eq_false_iff, ne_eq, Decidable.not_not, Int.not_lt, Int.not_le] at c1
    refine dwp_skip ?_
    refine dwp_seq ?_
    refine dwp_block ?_
    refine dwp_seq ?_
    refine dwp_region ?_
    refine walk_r rfl rfl rfl (op_move (.inl rfl) (ev1 rfl)) ?_
    refine walk_r rfl rfl rfl (op_ixsr (j := k) rfl sl22 (ev1 rfl) (ev1 rfl) (fun _ => rfl) (by decide) (by omega) (by omega)) ?_
    refine walk_r rfl rfl rfl (op_ldod rfl tb5 (ev1 rfl) rfl) ?_
    refine walk_r rfl rfl rfl (op_move (.inr rfl) (ev1 rfl)) ?_
    refine walk_r rfl rfl rfl (op_move (.inr rfl) (ev1 rfl)) ?_
    refine walk_nil ?_
    refine dwp_seq ?_
    by_cases hw : k = w
    · refine dwp_region ?_
      refine walk_r rfl rfl rfl (op_move (.inl rfl) (ev1 rfl)) ?_
      refine walk_r rfl rfl rfl (op_move (.inl rfl) (ev1 rfl)) ?_
      refine walk_r rfl rfl rfl (op_move (.inl rfl) (ev1 rfl)) ?_
      refine walk_w rfl rfl rfl (op_y (i := 0) [0, 1, 2] [] [] rfl (ev1 rfl) (ec (ev1 rfl) (ec (ev1 rfl) en)) rfl rfl rfl (numRound_stop _ _ _ _ (by omega)) rfl rfl rfl rfl rfl) (by simp only [upd, List.set_cons_zero, List.set_cons_succ]; exact rfl) ?_
      refine walk_r rfl rfl rfl (op_not rfl (ev1 rfl)) ?_
      refine walk_nil ?_
      refine dwp_if_t rfl (rfl) ?_
      refine dwp_ret ?_
      have e1 : decide (l.length ≤ w) = false := decide_eq_false (by omega)
      subst hw
      rw [e1]
      refine kend [0, 1, 2, 3, 4] (res_none rfl) rfl rfl ?_ ⟨rfl, rfl, rfl, rfl, rfl, trivial⟩
      rfl
    · refine dwp_region ?_
      refine walk_r rfl rfl rfl (op_move (.inl rfl) (ev1 rfl)) ?_
      refine walk_r rfl rfl rfl (op_move (.inl rfl) (ev1 rfl)) ?_
      refine walk_r rfl rfl rfl (op_move (.inl rfl) (ev1 rfl)) ?_
      refine walk_w rfl rfl rfl (op_y (i := 0) [0, 1, 2] [] [] rfl (ev1 rfl) (ec (ev1 rfl) (ec (ev1 rfl) en)) rfl rfl rfl (numRound_go _ _ _ _ (by omega)) rfl rfl rfl rfl rfl) (by simp only [upd, List.set_cons_zero, List.set_cons_succ]; exact rfl) ?_
      refine walk_r rfl rfl rfl (op_not rfl (ev1 rfl)) ?_
      refine walk_nil ?_
      refine dwp_if_f rfl (rfl) ?_
      refine dwp_skip ?_
      refine dwp_region ?_
      refine walk_r rfl rfl rfl (op_add' rfl (ev1 rfl) (ev1 rfl) (fun _ => IntWalk.i64_in _ (by omega))) ?_
      refine walk_r rfl rfl rfl (op_move (.inl rfl) (ev1 rfl)) ?_
      refine walk_nil ?_
      refine ⟨k + 1, [0, 1, 2, 3, 4], ⟨by omega, by omega⟩, by simp only []; omega, rfl, ⟨rfl, rfl, rfl, rfl, trivial⟩, ⟨rfl, rfl, by rw [numN_succ (by omega)]; rfl, rfl, rfl, trivial⟩⟩
  · try simp only [decide_eq_true_eq, decide_eq_false_iff_not, beq_iff_eq, bne_iff_ne, beq_eq_false_iff_ne, bne_eq_false_iff_eq, Bool.not_eq_true', Bool.not_eq_false', Bool.and_eq_true, Bool.or_eq_true, Bool.or_eq_false_iff, ne_eq, Decidable.not_not, Int.not_lt, Int.not_le] at c1
    refine dwp_exit ?_
    have e1 : decide (l.length ≤ w) = true := decide_eq_true (by omega)
    have e2 : k = l.length := by omega
    rw [e1, numN_all (show l.length ≤ w by omega), e2]
    refine kend [0, 1, 2, 3, 4] (res_none rfl) rfl rfl ?_ ⟨rfl, rfl, rfl, rfl, rfl, trivial⟩
    rfl

set_option maxRecDepth 4000 in
set_option maxHeartbeats 1000000 in
theorem peek_d (T : TypeId) (l : List Int) (hL : l.length ≤ 9223372036854775807) (e : Int) (w : Nat) (h : w ≤ l.length) : DFun Try.prog 67 [.loc 0 0, .val (.int .i64 (w : Int))] [.mix T [.slf 1 (l).length ((l).flatMap uc8), .val (.int .i64 e)]] (.val (.int .u64 (numN w l))) [.mix T [.slf 1 (l).length ((l).flatMap uc8), .val (.int .i64 e)]] := by
  refine dcalls_go (N := 24) 1 (by kernel_rfl) Try.func67 rfl rfl rfl (by simp only [fr0, Nat.zero_add, Nat.reduceAdd]; exact rfl) rfl fun s0 hs0 => ?_
  refine dwp_seq ?_
  refine dwp_holes 1 (by simp only [holes, List.cons_append, List.nil_append]; exact rfl) ?_
  refine dwp_region ?_
  refine walk_w rfl rfl rfl (op_boxi 1 rfl (ev1 rfl) rfl) (by simp only [upd, List.set_cons_zero, List.set_cons_succ]; exact rfl) ?_
  refine walk_r rfl rfl rfl (op_move (.inr rfl) (ev1 rfl)) ?_
  refine walk_nil ?_
  refine dwp_scope ?_
  refine dwp_seq ?_
  refine dwp_region ?_
  refine walk_r rfl rfl rfl (op_move (.inl rfl) (ev1 rfl)) ?_
  refine walk_r rfl rfl rfl (op_ldo rfl tb3 (ev1 rfl) rfl rfl) ?_
  refine walk_w rfl rfl rfl (dop_call [0] [] [] rfl (ev1 rfl) (ec (ev1 rfl) (ec (ev1 rfl) en)) rfl rfl (need2_ok _ _ _ w h) rfl rfl rfl rfl rfl rfl) (by simp only [upd, List.set_cons_zero, List.set_cons_succ]; exact rfl) ?_
  refine walk_nil ?_
  refine dwp_seq ?_
  refine dwp_holes 1 (by simp only [holes, List.cons_append, List.nil_append]; exact rfl) ?_
  refine dwp_region ?_
  refine walk_w rfl rfl rfl (op_alloc 2 rfl zr55 rfl) (by simp only [upd, List.set_cons_zero, List.set_cons_succ]; exact rfl) ?_
  refine walk_s rfl rfl (op_stwi rfl tb55 (ev1 rfl) (ev1 rfl) rfl) (by simp only [upd, List.set_cons_zero, List.set_cons_succ]; exact rfl) ?_
  refine walk_nil ?_
  refine dwp_seq ?_
  refine dwp_label ?_
  refine dwp_seq ?_
  refine dwp_seq ?_
  refine dwp_holes 1 (by simp only [holes, List.cons_append, List.nil_append]; exact rfl) ?_
  refine dwp_region ?_
  refine walk_r rfl rfl rfl (op_move (.inl rfl) (ev1 rfl)) ?_
  refine walk_w rfl rfl rfl (dop_call [0] [] [3] rfl (ev1 rfl) (ec (ev1 rfl) en) rfl rfl (ahead_d _ _ _) rfl rfl rfl rfl rfl rfl) (by simp only [upd, List.set_cons_zero, List.set_cons_succ]; exact rfl) ?_
  refine walk_nil ?_
  refine dwp_block ?_
  refine dwp_hole ?_
  simp only [List.cons_append, List.nil_append]
  refine dwp_rf (FL := [(3, _), (5, _)]) (st := (rst (decide (l.length ≤ w)))) (pe := (rpe (.exit 0) (decide (l.length ≤ w)))) [4, 1, 2, 3, 0] [] [] 4 rfl rfl (ev1 rfl) rfl (subF_lk ⟨rfl, rfl, trivial⟩) rfl rfl rfl (ahead_num _ l hL e w) rfl rfl rfl rfl rfl rfl rfl (rst_busy _) (fun e => ?_) (fun c e => ?_)
  · simp only [upd, List.set_cons_zero, List.set_cons_succ]
    refine dwp_seq ?_
    refine dwp_region ?_
    refine walk_r rfl rfl rfl (op_ldo rfl tb55 (ev1 rfl) rfl rfl) ?_
    refine walk_r rfl rfl rfl (op_move (.inr rfl) (ev1 rfl)) ?_
    refine walk_nil ?_
    refine dwp_ret ?_
    refine kend [0] (rs1 rfl (rv_t rfl)) rfl rfl ?_ ⟨rfl, trivial⟩
    rfl
  · obtain ⟨e1, rfl⟩ : decide (l.length ≤ w) = false ∧ c = .exit 0 := by
      cases h : decide (l.length ≤ w) <;> simp_all [rpe]
    simp only [upd, List.set_cons_zero, List.set_cons_succ]
    refine dwp_exit ?_
    refine dwp_seq ?_
    refine dwp_region ?_
    refine walk_r rfl rfl rfl (op_ldo rfl tb55 (ev1 rfl) rfl rfl) ?_
    refine walk_r rfl rfl rfl (op_move (.inr rfl) (ev1 rfl)) ?_
    refine walk_nil ?_
    refine dwp_ret ?_
    refine kend [0] (rs1 rfl (rv_t rfl)) rfl rfl ?_ ⟨rfl, trivial⟩
    rfl

set_option maxRecDepth 4000 in
set_option maxHeartbeats 1000000 in
theorem number_d (T : TypeId) (l : List Int) (hL : l.length ≤ 9223372036854775807) (e : Int) (w : Nat) (h : w ≤ l.length) : DFun Try.prog 55 [.loc 0 0, .val (.int .i64 (w : Int))] [.mix T [.slf 1 (l).length ((l).flatMap uc8), .val (.int .i64 e)]] (.val (.int .u64 (numN w l))) [.mix T [.slf 1 (l.drop w).length ((l.drop w).flatMap uc8), .val (.int .i64 e)]] := by
  refine dcalls_go (N := 19) 1 (by kernel_rfl) Try.func55 rfl rfl rfl (by simp only [fr0, Nat.zero_add, Nat.reduceAdd]; exact rfl) rfl fun s0 hs0 => ?_
  refine dwp_seq ?_
  refine dwp_region ?_
  refine walk_r rfl rfl rfl (op_move (.inr rfl) (ev1 rfl)) ?_
  refine walk_nil ?_
  refine dwp_seq ?_
  refine dwp_region ?_
  refine walk_r rfl rfl rfl (op_move (.inl rfl) (ev1 rfl)) ?_
  refine walk_r rfl rfl rfl (op_move (.inl rfl) (ev1 rfl)) ?_
  refine walk_w rfl rfl rfl (dop_call [0] [] [] rfl (ev1 rfl) (ec (ev1 rfl) (ec (ev1 rfl) en)) rfl rfl (peek_d _ _ hL _ w h) rfl rfl rfl rfl rfl rfl) (by simp only [upd, List.set_cons_zero, List.set_cons_succ]; exact rfl) ?_
  refine walk_r rfl rfl rfl (op_move (.inr rfl) (ev1 rfl)) ?_
  refine walk_nil ?_
  refine dwp_seq ?_
  refine dwp_region ?_
  refine walk_r rfl rfl rfl (op_move (.inl rfl) (ev1 rfl)) ?_
  refine walk_r rfl rfl rfl (op_move (.inl rfl) (ev1 rfl)) ?_
  refine walk_r rfl rfl rfl (op_nc rfl (ev1 rfl) (fun s v h => by cases h; exact ⟨_, rfl⟩)) ?_
  refine walk_r rfl rfl rfl (op_fa rfl fo95_0 (ev1 rfl)) ?_
  refine walk_r rfl rfl rfl (op_ldm rfl tb22 (ev1 rfl) rfl rfl) ?_
  refine walk_r rfl rfl rfl (op_move (.inl rfl) (ev1 rfl)) ?_
  refine walk_r rfl rfl rfl (op_sldr (i := w) rfl sl22 (ev1 rfl) (bd_some (ev1 rfl)) (fun _ => by omega) (fun _ => by omega) (fun _ => rfl)) ?_
  refine walk_r rfl rfl rfl (op_nc rfl (ev1 rfl) (fun s v h => by cases h; exact ⟨_, rfl⟩)) ?_
  refine walk_r rfl rfl rfl (op_fa rfl fo95_0 (ev1 rfl)) ?_
  refine walk_s rfl rfl (op_stm rfl tb22 (ev1 rfl) (ev1 rfl) (fun s v h => by cases h <;> exact ⟨rfl, rfl⟩) rfl (by first | decide | exact Nat.le_of_ble_eq_true rfl | simp)) (by simp only [upd, List.set_cons_zero, List.set_cons_succ]; exact rfl) ?_
  refine walk_nil ?_
  refine dwp_seq ?_
  refine dwp_region ?_
  refine walk_r rfl rfl rfl (op_move (.inl rfl) (ev1 rfl)) ?_
  refine walk_r rfl rfl rfl (op_move (.inr rfl) (ev1 rfl)) ?_
  refine walk_nil ?_
  refine dwp_ret ?_
  refine kend [0] (rs1 rfl (rv_t rfl)) rfl rfl ?_ ⟨rfl, trivial⟩
  rfl

set_option maxRecDepth 4000 in
set_option maxHeartbeats 1000000 in
theorem get1_idle (e : Int) : DDef Try.prog 52 [.loc 0 0] [.flat 35 [.int .i64 e]] none none [.flat 35 [.int .i64 0]] := by
  refine ddef_go1 (dr := .tup []) (t := 1) (N := 3) 1 (by kernel_rfl) Try.func52 rfl rfl rfl (by simp only [fr0, Nat.zero_add, Nat.reduceAdd]; exact rfl) rfl rfl rfl rfl rfl fun s0 hs0 => ?_
  refine walk_r rfl rfl rfl (dop_call [] [] [] rfl (ev1 rfl) (ec (ev1 rfl) en) rfl rfl (told_no) rfl rfl rfl rfl rfl rfl) ?_
  refine walk_s rfl rfl (op_stwi rfl tb35 (ev1 rfl) (ev1 rfl) rfl) (by simp only [upd, List.set_cons_zero, List.set_cons_succ]; exact rfl) ?_
  refine walk_nil ?_
  refine kend [0] (res_none rfl) rfl rfl ?_ ⟨rfl, trivial⟩
  rfl

set_option maxRecDepth 4000 in
set_option maxHeartbeats 1000000 in
theorem get1_caught (e n : Int) : DDef Try.prog 52 [.loc 0 0] [.flat 35 [.int .i64 e]] (some (.ifc 93 (.val (.agg #[.int .i64 n])))) none [.flat 35 [.int .i64 n]] := by
  refine ddef_go1 (dr := .tup []) (t := 1) (N := 3) 1 (by kernel_rfl) Try.func52 rfl rfl rfl (by simp only [fr0, Nat.zero_add, Nat.reduceAdd]; exact rfl) rfl rfl rfl rfl rfl fun s0 hs0 => ?_
  refine walk_r rfl rfl rfl (dop_call [] [] [] rfl (ev1 rfl) (ec (ev1 rfl) en) rfl rfl (told_w n) rfl rfl rfl rfl rfl rfl) ?_
  refine walk_s rfl rfl (op_stwi rfl tb35 (ev1 rfl) (ev1 rfl) rfl) (by simp only [upd, List.set_cons_zero, List.set_cons_succ]; exact rfl) ?_
  refine walk_nil ?_
  refine kend [0] (res_none rfl) rfl rfl ?_ ⟨rfl, trivial⟩
  rfl

set_option maxRecDepth 4000 in
set_option maxHeartbeats 1000000 in
theorem get_ok (l : List Int) (hL : l.length ≤ 9223372036854775807) (p w : Nat) (h : 1 ≤ w ∧ w ≤ 8) (hp : p + w ≤ l.length) : DFun Try.prog 42 [.slf 1 l.length (l.flatMap uc8), .val (.int .i64 (p : Int)), .val (.int .i64 (w : Int))] [] (.tup [.val (.int .u64 (numN w (l.drop p))), .val (.int .i64 0)]) [] := by
  refine dcalls_body (N := 29) 0 (by kernel_rfl) Try.func42 rfl rfl rfl (by simp only [fr0, Nat.zero_add, Nat.reduceAdd]; exact rfl) rfl fun s0 hs0 => ?_
  refine dbody_seq rfl hs0 ?_
  refine dwp_holes 1 (by simp only [holes, List.cons_append, List.nil_append]; exact rfl) ?_
  refine dwp_region ?_
  refine walk_r rfl rfl rfl (op_move (.inr rfl) (ev1 rfl)) ?_
  refine walk_w rfl rfl rfl (op_alloc 0 rfl zr35 rfl) (by simp only [upd, List.set_cons_zero, List.set_cons_succ]; exact rfl) ?_
  refine walk_nil ?_
  refine dbody_defer (l0 := [_]) rfl rfl rfl rfl rfl hs0 ?_
  refine walk_r rfl rfl rfl (op_mkf rfl en (ec (ev1 rfl) en)) ?_
  refine walk_nil ⟨_, _, _, 1, ev1 rfl, Nat.le_trans hs0 (by decide), rfl, ?_⟩
  have hs1 : s0.M.length ≤ 1 := Nat.le_trans hs0 (by decide)
  refine dbody_end rfl hs0 ?_
  refine dwp_seq ?_
  refine dwp_region ?_
  refine walk_r rfl rfl rfl (op_move (.inl rfl) (ev1 rfl)) ?_
  refine walk_r rfl rfl rfl (op_bs (ps := [(0, .tmp 10)]) rfl sl28 zr3 rfl (vc (ev1 rfl) vn) rfl (by decide) (by decide)) ?_
  refine walk_r rfl rfl rfl (dop_call [] [] [] rfl (ev1 rfl) (ec (ev1 rfl) en) rfl rfl (need_ok [(w : Int)] (by simp [isW_iff]; omega)) rfl rfl rfl rfl rfl rfl) ?_
  refine walk_nil ?_
  refine dwp_seq ?_
  refine dwp_seq ?_
  refine dwp_region ?_
  refine walk_r rfl rfl rfl (op_move (.inl rfl) (ev1 rfl)) ?_
  refine walk_r rfl rfl rfl (op_lss rfl (ev1 rfl) (ev1 rfl)) ?_
  refine walk_r rfl rfl rfl (op_move (.inl rfl) (ev1 rfl)) ?_
  refine walk_gr (gd_f rfl rfl rfl) rfl rfl rfl (op_move (.inl rfl) (ev1 rfl)) ?_
  refine walk_gr (gd_f rfl rfl rfl) rfl rfl rfl (op_move (.inl rfl) (ev1 rfl)) ?_
  refine walk_gr (gd_f rfl rfl rfl) rfl rfl rfl (op_len rfl sl22 (ev2 rfl)) ?_
  refine walk_gr (gd_f rfl rfl rfl) rfl rfl rfl (op_gtr rfl (ev2 rfl) (ev2 rfl)) ?_
  refine walk_r rfl rfl rfl (op_or rfl (ev1 rfl) (ev3 rfl id)) ?_
  refine walk_nil ?_
  refine dwp_if_f rfl (by simp; omega) ?_
  refine dwp_skip ?_
  refine dwp_seq ?_
  refine dwp_holes 1 (by simp only [holes, List.cons_append, List.nil_append]; exact rfl) ?_
  refine dwp_region ?_
  refine walk_r rfl rfl rfl (op_move (.inl rfl) (ev1 rfl)) ?_
  refine walk_r rfl rfl rfl (op_move (.inl rfl) (ev1 rfl)) ?_
  refine walk_r rfl rfl rfl (op_sldr (i := p) rfl sl22 (ev1 rfl) (bd_some (ev1 rfl)) (fun _ => by omega) (fun _ => by omega) (fun _ => rfl)) ?_
  refine walk_r rfl rfl rfl (op_bld1 rfl fl95 zr95 (ev1 rfl) rfl) ?_
  refine walk_w rfl rfl rfl (op_alloc 1 rfl zr95 rfl) (by simp only [upd, List.set_cons_zero, List.set_cons_succ]; exact rfl) ?_
  refine walk_s rfl rfl (op_stam rfl tb95 (ev1 rfl) (ev1 rfl) rfl rfl rfl rfl) (by simp only [upd, List.set_cons_zero, List.set_cons_succ]; exact rfl) ?_
  refine walk_nil ?_
  refine dwp_seq ?_
  refine dwp_region ?_
  refine walk_r rfl rfl rfl (op_move (.inl rfl) (ev1 rfl)) ?_
  refine walk_w rfl rfl rfl (dop_call [1] [] [] rfl (ev1 rfl) (ec (ev1 rfl) (ec (ev1 rfl) en)) rfl rfl (number_d _ (l.drop p) (by rw [List.length_drop]; omega) 0 w (by rw [List.length_drop]; omega)) rfl rfl rfl rfl rfl rfl) (by simp only [upd, List.set_cons_zero, List.set_cons_succ]; exact rfl) ?_
  refine walk_r rfl rfl rfl (op_move (.inr rfl) (ev1 rfl)) ?_
  refine walk_s rfl rfl (op_stwi rfl tb35 (ev1 rfl) (ev1 rfl) rfl) (by simp only [upd, List.set_cons_zero, List.set_cons_succ]; exact rfl) ?_
  refine walk_nil ?_
  refine dwp_ret ?_
  refine kdef (dturn_idle [0] [] rfl rfl (get1_idle _) rfl rfl rfl rfl rfl) ?_
  refine kend0 (rs2 rfl (rv_t rfl) (rv_1 tb35 rfl rfl rfl)) rfl ?_
  rfl

set_option maxRecDepth 4000 in
set_option maxHeartbeats 1000000 in
theorem cloneB (l : List Int) (h : l.length ≤ 2000000) : DFun Try.prog 7 [.slf 1 l.length (l.flatMap uc8)] [] (.arr 0) [.arr 5 1 l.length (l.flatMap uc8)] := by
  refine dcalls_go (N := 8) 0 (by kernel_rfl) Try.func7 rfl rfl rfl (by simp only [fr0, Nat.zero_add, Nat.reduceAdd]; exact rfl) rfl fun s0 hs0 => ?_
  refine dwp_len (t := 0) rfl fun hl0 hL0 => ?_
  refine dwp_seq ?_
  refine dwp_region ?_
  refine walk_r rfl rfl rfl (op_move (.inr rfl) (ev1 rfl)) ?_
  refine walk_nil ?_
  refine dwp_seq ?_
  refine dwp_seq ?_
  refine dwp_region ?_
  refine walk_r rfl rfl rfl (op_move (.inl rfl) (ev1 rfl)) ?_
  refine walk_nil? rfl rfl rfl rfl sl22 (ev1 rfl) fun nb4 hnb4 => ?_
  refine walk_nil ?_
  refine dwp_cond rfl (fun c1 => ?_) (fun c1 => ?_)
  · try simp only [decide_eq_true_eq, decide_eq_false_iff_not, beq_iff_eq, bne_iff_ne, beq_eq_false_iff_ne, bne_eq_false_iff_eq, Bool.not_eq_true', Bool.not_eq_false', Bool.and_eq_true, Bool.or_eq_true, Bool.or_eq_false_iff, ne_eq, Decidable.not_not, Int.not_lt, Int.not_le] at c1
    refine dwp_seq ?_
    refine dwp_region ?_
    refine walk_r rfl rfl rfl (op_move (.inr rfl) (ev1 rfl)) ?_
    refine walk_nil ?_
    refine dwp_adopt 2 5 1 rfl rfl rfl ?_
    refine dwp_ret ?_
    refine kend [0] (rs1 rfl (rv_t rfl)) rfl rfl ?_ ⟨?_, trivial⟩
    rfl
    exact (by obtain ⟨h1, h2⟩ := hnb4 c1; simp_all [MFits, vwB])
  · try simp only [decide_eq_true_eq, decide_eq_false_iff_not, beq_iff_eq, bne_iff_ne, beq_eq_false_iff_ne, bne_eq_false_iff_eq, Bool.not_eq_true', Bool.not_eq_false', Bool.and_eq_true, Bool.or_eq_true, Bool.or_eq_false_iff, ne_eq, Decidable.not_not, Int.not_lt, Int.not_le] at c1
    refine dwp_skip ?_
    refine dwp_seq ?_
    refine dwp_holes 2 (by simp only [holes, List.cons_append, List.nil_append]; exact rfl) ?_
    refine dwp_region ?_
    refine walk_w rfl rfl rfl (op_bsa (ps := []) 0 rfl sl22 zr5 rfl vn rfl (by decide) (by decide) rfl) (by simp only [upd, List.set_cons_zero, List.set_cons_succ]; exact rfl) ?_
    refine walk_r rfl rfl rfl (op_move (.inl rfl) (ev1 rfl)) ?_
    refine walk_w rfl rfl rfl (op_app (j := 1) rfl sl22 zr5 rfl (ev1 rfl) (ev1 rfl) src_slf rfl rfl (fun _ => flat_oc (fun _ => rfl) l) (fun _ => ⟨by omega, by omega⟩)) (by simp only [upd, List.set_cons_zero, List.set_cons_succ]; exact rfl) ?_
    refine walk_r rfl rfl rfl (op_move (.inr rfl) (ev1 rfl)) ?_
    refine walk_nil ?_
    refine dwp_ret ?_
    refine kend [1] (rs1 rfl (rv_t rfl)) rfl rfl ?_ ⟨?_, trivial⟩
    rfl
    simp [vwB]

theorem cloneB_f (l : List Int) (h : l.length ≤ 2000000) : DFun Try.prog 7 [.slf 1 l.length (l.flatMap uc8)] [] (.slf 1 l.length (l.flatMap uc8)) [] := freeze (cloneB l h) rfl

set_option maxRecDepth 4000 in
set_option maxHeartbeats 1000000 in
theorem equalB (l r : List Int) : DFun Try.prog 13 [.slf 1 l.length (l.flatMap uc8), .slf 1 r.length (r.flatMap uc8)] [] (.val (.bool (decide (l = r)))) [] := by
  refine dcalls_go (N := 26) 0 (by kernel_rfl) Try.func13 rfl rfl rfl (by simp only [fr0, Nat.zero_add, Nat.reduceAdd]; exact rfl) rfl fun s0 hs0 => ?_
  refine dwp_len (t := 0) rfl fun hl0 hL0 => ?_
  refine dwp_len (t := 1) rfl fun hl1 hL1 => ?_
  refine dwp_seq ?_
  refine dwp_region ?_
  refine walk_r rfl rfl rfl (op_move (.inr rfl) (ev1 rfl)) ?_
  refine walk_nil ?_
  refine dwp_seq ?_
  refine dwp_seq ?_
  refine dwp_region ?_
  refine walk_r rfl rfl rfl (op_move (.inl rfl) (ev1 rfl)) ?_
  refine walk_r rfl rfl rfl (op_len rfl sl22 (ev1 rfl)) ?_
  refine walk_r rfl rfl rfl (op_move (.inl rfl) (ev1 rfl)) ?_
  refine walk_r rfl rfl rfl (op_len rfl sl22 (ev1 rfl)) ?_
  refine walk_r rfl rfl rfl (op_neq rfl (ev1 rfl) (ev1 rfl)) ?_
  refine walk_nil ?_
  refine dwp_cond rfl (fun c1 => ?_) (fun c1 => ?_)
  · try simp only [decide_eq_true_eq, decide_eq_false_iff_not, beq_iff_eq, bne_iff_ne, beq_eq_false_iff_ne, bne_eq_false_iff_eq, Bool.not_eq_true', Bool.not_eq_false', Bool.and_eq_true, Bool.or_eq_true, Bool.or_eq_false_iff, ne_eq, Decidable.not_not, Int.not_lt, Int.not_le] at c1
    refine dwp_seq ?_
    refine dwp_region ?_
    refine walk_r rfl rfl rfl (op_move (.inr rfl) (ev1 rfl)) ?_
    refine walk_nil ?_
    refine dwp_ret ?_
    refine kend0 (rs1 rfl (rv_t rfl)) rfl ?_
    have hne : l ≠ r := fun e => by subst e; exact c1 rfl
    rw [decide_eq_false hne]
  · try simp only [decide_eq_true_eq, decide_eq_false_iff_not, beq_iff_eq, bne_iff_ne, beq_eq_false_iff_ne, bne_eq_false_iff_eq, Bool.not_eq_true', Bool.not_eq_false', Bool.and_eq_true, Bool.or_eq_true, Bool.or_eq_false_iff, ne_eq, Decidable.not_not, Int.not_lt, Int.not_le] at c1
    have hlen : l.length = r.length := by omega
    refine dwp_skip ?_
    refine dwp_seq ?_
    refine dwp_seq ?_
    refine dwp_region ?_
    refine walk_r rfl rfl rfl (op_move (.inl rfl) (ev1 rfl)) ?_
    refine walk_r rfl rfl rfl (op_len rfl sl22 (ev1 rfl)) ?_
    refine walk_r rfl rfl rfl (op_move (.inl rfl) (ev1 rfl)) ?_
    refine walk_nil ?_
    refine dwp_block ?_
    refine dwp_loopS ⟨hs0, rfl⟩ (α := Nat) (fun k => [(13, .val (.int .i64 (k : Int)))]) [(0, _), (1, _), (12, _)] (fun k => []) [] (fun k => k ≤ l.length ∧ l.take k = r.take k) (fun k => l.length - k) 0 [] (by simp) rfl ⟨rfl, rfl, rfl, trivial⟩ ⟨rfl, trivial⟩ trivial ?_
    intro k hx
    simp only [upd, List.set_cons_zero, List.set_cons_succ, List.cons_append, List.nil_append]
    obtain ⟨hk, he⟩ := hx
    refine dwp_seq ?_
    refine dwp_region ?_
    refine walk_r rfl rfl rfl (op_lss rfl (ev1 rfl) (ev1 rfl)) ?_
    refine walk_nil ?_
    refine dwp_seq ?_
    refine dwp_cond rfl (fun c2 => ?_) (fun c2 => ?_)
    · try simp only [decide_eq_true_eq, decide_eq_false_iff_not, beq_iff_eq, bne_iff_ne, beq_eq_false_iff_ne, bne_eq_false_iff_eq, Bool.not_eq_true', Bool.not_eq_false', Bool.and_eq_true, Bool.or_eq_true, Bool.or_eq_false_iff, ne_eq, Decidable.not_not, Int.not_lt, Int.not_le] at c2
      refine dwp_skip ?_
      refine dwp_seq ?_
      refine dwp_block ?_
      refine dwp_seq ?_
      refine dwp_region ?_
      refine walk_r rfl rfl rfl (op_move (.inl rfl) (ev1 rfl)) ?_
      refine walk_r rfl rfl rfl (op_move (.inr rfl) (ev1 rfl)) ?_
      refine walk_nil ?_
      refine dwp_seq ?_
      refine dwp_draw [([], []), ([], []), ([], []), ([], []), ([], []), ([], []), ([], []), ([], []), ([], [])] mixed (by kernel_rfl) ?_
      refine lex_r rfl rfl (op_move (.inl rfl) (ev1 rfl)) ?_
      refine lex_r rfl rfl (op_move (.inl rfl) (ev1 rfl)) ?_
      refine lex_r rfl rfl (op_ixsr (j := k) rfl sl22 (ev1 rfl) (ev1 rfl) (fun _ => rfl) (by decide) (by omega) (by omega)) ?_
      refine lex_r rfl rfl (op_ldod rfl tb5 (ev1 rfl) rfl) ?_
      refine lex_r rfl rfl (op_move (.inl rfl) (ev1 rfl)) ?_
      refine lex_r rfl rfl (op_move (.inl rfl) (ev1 rfl)) ?_
      refine lex_r rfl rfl (op_ixsr (j := k) rfl sl22 (ev1 rfl) (ev1 rfl) (fun _ => rfl) (by decide) (by omega) (by omega)) ?_
      refine lex_r rfl rfl (op_ldod rfl tb5 (ev1 rfl) rfl) ?_
      refine lex_r rfl rfl (op_neq rfl (ev1 rfl) (ev1 rfl)) ?_
      refine lex_nil ?_
      refine dwp_cond rfl (fun c2 => ?_) (fun c2 => ?_)
      · have c3 : l[k] ≠ r[k] := by simpa using c2
        refine dwp_seq ?_
        refine dwp_region ?_
        refine walk_r rfl rfl rfl (op_move (.inr rfl) (ev1 rfl)) ?_
        refine walk_nil ?_
        refine dwp_ret ?_
        refine kend0 (rs1 rfl (rv_t rfl)) rfl ?_
        have hne : l ≠ r := fun e => by subst e; exact c3 rfl
        rw [decide_eq_false hne]
      · have c3 : l[k] = r[k] := by simpa using c2
        refine dwp_skip ?_
        refine dwp_region ?_
        refine walk_r rfl rfl rfl (op_add' rfl (ev1 rfl) (ev1 rfl) (fun _ => IntWalk.i64_in _ (by omega))) ?_
        refine walk_r rfl rfl rfl (op_move (.inl rfl) (ev1 rfl)) ?_
        refine walk_nil ?_
        refine ⟨k + 1, [], ⟨by omega, by rw [List.take_succ_eq_append_getElem (by omega), List.take_succ_eq_append_getElem (by omega), he, c3]⟩, by simp only []; omega, rfl, ⟨rfl, rfl, rfl, rfl, trivial⟩, trivial⟩
    · try simp only [decide_eq_true_eq, decide_eq_false_iff_not, beq_iff_eq, bne_iff_ne, beq_eq_false_iff_ne, bne_eq_false_iff_eq, Bool.not_eq_true', Bool.not_eq_false', Bool.and_eq_true, Bool.or_eq_true, Bool.or_eq_false_iff, ne_eq, Decidable.not_not, Int.not_lt, Int.not_le] at c2
      refine dwp_exit ?_
      refine dwp_seq ?_
      refine dwp_region ?_
      refine walk_r rfl rfl rfl (op_move (.inr rfl) (ev1 rfl)) ?_
      refine walk_nil ?_
      refine dwp_ret ?_
      refine kend0 (rs1 rfl (rv_t rfl)) rfl ?_
      have e : l = r := by
        have h := he
        rw [List.take_of_length_le (by omega), List.take_of_length_le (by omega)] at h
        exact h
      rw [decide_eq_true e]

set_option maxRecDepth 4000 in
set_option maxHeartbeats 1000000 in
theorem peek_no (T : TypeId) (l : List Int) (e : Int) (w : Nat) (h : l.length < w) : DPan Try.prog 67 [.loc 0 0, .val (.int .i64 (w : Int))] [.mix T [.slf 1 (l).length ((l).flatMap uc8), .val (.int .i64 e)]] (.ifc 93 (.val (.agg #[.int .i64 110]))) [.mix T [.slf 1 (l).length ((l).flatMap uc8), .val (.int .i64 e)]] := by
  refine dcalls_go (N := 24) 1 (by kernel_rfl) Try.func67 rfl rfl rfl (by simp only [fr0, Nat.zero_add, Nat.reduceAdd]; exact rfl) rfl fun s0 hs0 => ?_
  refine dwp_seq ?_
  refine dwp_holes 1 (by simp only [holes, List.cons_append, List.nil_append]; exact rfl) ?_
  refine dwp_region ?_
  refine walk_w rfl rfl rfl (op_boxi 1 rfl (ev1 rfl) rfl) (by simp only [upd, List.set_cons_zero, List.set_cons_succ]; exact rfl) ?_
  refine walk_r rfl rfl rfl (op_move (.inr rfl) (ev1 rfl)) ?_
  refine walk_nil ?_
  refine dwp_scope ?_
  refine dwp_seq ?_
  refine dwp_region ?_
  refine walk_r rfl rfl rfl (op_move (.inl rfl) (ev1 rfl)) ?_
  refine walk_r rfl rfl rfl (op_ldo rfl tb3 (ev1 rfl) rfl rfl) ?_
  refine walk_p rfl (dop_callP [0] [] [] rfl (ev1 rfl) (ec (ev1 rfl) (ec (ev1 rfl) en)) rfl rfl (need2_no _ _ _ w h) rfl rfl rfl rfl rfl rfl) rfl ?_
  refine kpan [0] rfl rfl ?_ ⟨rfl, trivial⟩
  rfl

set_option maxRecDepth 4000 in
set_option maxHeartbeats 1000000 in
theorem number_no (T : TypeId) (l : List Int) (e : Int) (w : Nat) (h : l.length < w) : DPan Try.prog 55 [.loc 0 0, .val (.int .i64 (w : Int))] [.mix T [.slf 1 (l).length ((l).flatMap uc8), .val (.int .i64 e)]] (.ifc 93 (.val (.agg #[.int .i64 110]))) [.mix T [.slf 1 (l).length ((l).flatMap uc8), .val (.int .i64 e)]] := by
  refine dcalls_go (N := 19) 1 (by kernel_rfl) Try.func55 rfl rfl rfl (by simp only [fr0, Nat.zero_add, Nat.reduceAdd]; exact rfl) rfl fun s0 hs0 => ?_
  refine dwp_seq ?_
  refine dwp_region ?_
  refine walk_r rfl rfl rfl (op_move (.inr rfl) (ev1 rfl)) ?_
  refine walk_nil ?_
  refine dwp_seq ?_
  refine dwp_region ?_
  refine walk_r rfl rfl rfl (op_move (.inl rfl) (ev1 rfl)) ?_
  refine walk_r rfl rfl rfl (op_move (.inl rfl) (ev1 rfl)) ?_
  refine walk_p rfl (dop_callP [0] [] [] rfl (ev1 rfl) (ec (ev1 rfl) (ec (ev1 rfl) en)) rfl rfl (peek_no _ _ _ w h) rfl rfl rfl rfl rfl rfl) rfl ?_
  refine kpan [0] rfl rfl ?_ ⟨rfl, trivial⟩
  rfl

set_option maxRecDepth 4000 in
set_option maxHeartbeats 1000000 in
theorem get_w (l : List Int) (p w : Int) (h : isW w = false) : DFun Try.prog 42 [.slf 1 l.length (l.flatMap uc8), .val (.int .i64 p), .val (.int .i64 w)] [] (.tup [.val (.int .u64 0), .val (.int .i64 111)]) [] := by
  refine dcalls_body (N := 29) 0 (by kernel_rfl) Try.func42 rfl rfl rfl (by simp only [fr0, Nat.zero_add, Nat.reduceAdd]; exact rfl) rfl fun s0 hs0 => ?_
  refine dbody_seq rfl hs0 ?_
  refine dwp_holes 1 (by simp only [holes, List.cons_append, List.nil_append]; exact rfl) ?_
  refine dwp_region ?_
  refine walk_r rfl rfl rfl (op_move (.inr rfl) (ev1 rfl)) ?_
  refine walk_w rfl rfl rfl (op_alloc 0 rfl zr35 rfl) (by simp only [upd, List.set_cons_zero, List.set_cons_succ]; exact rfl) ?_
  refine walk_nil ?_
  refine dbody_defer (l0 := [_]) rfl rfl rfl rfl rfl hs0 ?_
  refine walk_r rfl rfl rfl (op_mkf rfl en (ec (ev1 rfl) en)) ?_
  refine walk_nil ⟨_, _, _, 1, ev1 rfl, Nat.le_trans hs0 (by decide), rfl, ?_⟩
  have hs1 : s0.M.length ≤ 1 := Nat.le_trans hs0 (by decide)
  refine dbody_end rfl hs0 ?_
  refine dwp_seq ?_
  refine dwp_region ?_
  refine walk_r rfl rfl rfl (op_move (.inl rfl) (ev1 rfl)) ?_
  refine walk_r rfl rfl rfl (op_bs (ps := [(0, .tmp 10)]) rfl sl28 zr3 rfl (vc (ev1 rfl) vn) rfl (by decide) (by decide)) ?_
  refine walk_p rfl (dop_callP [] [] [] rfl (ev1 rfl) (ec (ev1 rfl) en) rfl rfl (need_no [w] (by simp [h])) rfl rfl rfl rfl rfl rfl) rfl ?_
  refine kdef (dturn_caught [0] [] rfl rfl rfl (get1_caught _ _) rfl rfl rfl rfl rfl) ?_
  refine kend0 (rs2 rfl (rv_t rfl) (rv_1 tb35 rfl rfl rfl)) rfl ?_
  rfl

set_option maxRecDepth 4000 in
set_option maxHeartbeats 1000000 in
theorem get_arg (l : List Int) (p w : Int) (h : isW w = true) (hp : p < 0 ∨ (l.length : Int) < p) : DFun Try.prog 42 [.slf 1 l.length (l.flatMap uc8), .val (.int .i64 p), .val (.int .i64 w)] [] (.tup [.val (.int .u64 0), .val (.int .i64 2)]) [] := by
  refine dcalls_body (N := 29) 0 (by kernel_rfl) Try.func42 rfl rfl rfl (by simp only [fr0, Nat.zero_add, Nat.reduceAdd]; exact rfl) rfl fun s0 hs0 => ?_
  refine dbody_seq rfl hs0 ?_
  refine dwp_holes 1 (by simp only [holes, List.cons_append, List.nil_append]; exact rfl) ?_
  refine dwp_region ?_
  refine walk_r rfl rfl rfl (op_move (.inr rfl) (ev1 rfl)) ?_
  refine walk_w rfl rfl rfl (op_alloc 0 rfl zr35 rfl) (by simp only [upd, List.set_cons_zero, List.set_cons_succ]; exact rfl) ?_
  refine walk_nil ?_
  refine dbody_defer (l0 := [_]) rfl rfl rfl rfl rfl hs0 ?_
  refine walk_r rfl rfl rfl (op_mkf rfl en (ec (ev1 rfl) en)) ?_
  refine walk_nil ⟨_, _, _, 1, ev1 rfl, Nat.le_trans hs0 (by decide), rfl, ?_⟩
  have hs1 : s0.M.length ≤ 1 := Nat.le_trans hs0 (by decide)
  refine dbody_end rfl hs0 ?_
  refine dwp_seq ?_
  refine dwp_region ?_
  refine walk_r rfl rfl rfl (op_move (.inl rfl) (ev1 rfl)) ?_
  refine walk_r rfl rfl rfl (op_bs (ps := [(0, .tmp 10)]) rfl sl28 zr3 rfl (vc (ev1 rfl) vn) rfl (by decide) (by decide)) ?_
  refine walk_r rfl rfl rfl (dop_call [] [] [] rfl (ev1 rfl) (ec (ev1 rfl) en) rfl rfl (need_ok [w] (by simp [h])) rfl rfl rfl rfl rfl rfl) ?_
  refine walk_nil ?_
  refine dwp_seq ?_
  refine dwp_seq ?_
  refine dwp_region ?_
  refine walk_r rfl rfl rfl (op_move (.inl rfl) (ev1 rfl)) ?_
  refine walk_r rfl rfl rfl (op_lss rfl (ev1 rfl) (ev1 rfl)) ?_
  refine walk_r rfl rfl rfl (op_move (.inl rfl) (ev1 rfl)) ?_
  refine walk_gr (gd_f rfl rfl rfl) rfl rfl rfl (op_move (.inl rfl) (ev1 rfl)) ?_
  refine walk_gr (gd_f rfl rfl rfl) rfl rfl rfl (op_move (.inl rfl) (ev1 rfl)) ?_
  refine walk_gr (gd_f rfl rfl rfl) rfl rfl rfl (op_len rfl sl22 (ev2 rfl)) ?_
  refine walk_gr (gd_f rfl rfl rfl) rfl rfl rfl (op_gtr rfl (ev2 rfl) (ev2 rfl)) ?_
  refine walk_r rfl rfl rfl (op_or rfl (ev1 rfl) (ev3 rfl id)) ?_
  refine walk_nil ?_
  refine dwp_if_t rfl (by simp; omega) ?_
  refine dwp_region ?_
  refine walk_r rfl rfl rfl (op_build (ps := [(0, .const (.int .i64 2))]) rfl fl93 zr93 (vc (ev1 rfl) vn) rfl rfl) ?_
  refine walk_r rfl rfl rfl (op_mi rfl ni93 (ev1 rfl)) ?_
  refine walk_p rfl (op_pan rfl (ev1 rfl)) rfl ?_
  refine kdef (dturn_caught [0] [] rfl rfl rfl (get1_caught _ _) rfl rfl rfl rfl rfl) ?_
  refine kend0 (rs2 rfl (rv_t rfl) (rv_1 tb35 rfl rfl rfl)) rfl ?_
  rfl

set_option maxRecDepth 4000 in
set_option maxHeartbeats 1000000 in
theorem get_short (l : List Int) (hL : l.length ≤ 9223372036854775807) (p w : Nat) (h : 1 ≤ w ∧ w ≤ 8) (hp : p ≤ l.length) (hs : l.length < p + w) : DFun Try.prog 42 [.slf 1 l.length (l.flatMap uc8), .val (.int .i64 (p : Int)), .val (.int .i64 (w : Int))] [] (.tup [.val (.int .u64 0), .val (.int .i64 110)]) [] := by
  refine dcalls_body (N := 29) 0 (by kernel_rfl) Try.func42 rfl rfl rfl (by simp only [fr0, Nat.zero_add, Nat.reduceAdd]; exact rfl) rfl fun s0 hs0 => ?_
  refine dbody_seq rfl hs0 ?_
  refine dwp_holes 1 (by simp only [holes, List.cons_append, List.nil_append]; exact rfl) ?_
  refine dwp_region ?_
  refine walk_r rfl rfl rfl (op_move (.inr rfl) (ev1 rfl)) ?_
  refine walk_w rfl rfl rfl (op_alloc 0 rfl zr35 rfl) (by simp only [upd, List.set_cons_zero, List.set_cons_succ]; exact rfl) ?_
  refine walk_nil ?_
  refine dbody_defer (l0 := [_]) rfl rfl rfl rfl rfl hs0 ?_
  refine walk_r rfl rfl rfl (op_mkf rfl en (ec (ev1 rfl) en)) ?_
  refine walk_nil ⟨_, _, _, 1, ev1 rfl, Nat.le_trans hs0 (by decide), rfl, ?_⟩
  have hs1 : s0.M.length ≤ 1 := Nat.le_trans hs0 (by decide)
  refine dbody_end rfl hs0 ?_
  refine dwp_seq ?_
  refine dwp_region ?_
  refine walk_r rfl rfl rfl (op_move (.inl rfl) (ev1 rfl)) ?_
  refine walk_r rfl rfl rfl (op_bs (ps := [(0, .tmp 10)]) rfl sl28 zr3 rfl (vc (ev1 rfl) vn) rfl (by decide) (by decide)) ?_
  refine walk_r rfl rfl rfl (dop_call [] [] [] rfl (ev1 rfl) (ec (ev1 rfl) en) rfl rfl (need_ok [(w : Int)] (by simp [isW_iff]; omega)) rfl rfl rfl rfl rfl rfl) ?_
  refine walk_nil ?_
  refine dwp_seq ?_
  refine dwp_seq ?_
  refine dwp_region ?_
  refine walk_r rfl rfl rfl (op_move (.inl rfl) (ev1 rfl)) ?_
  refine walk_r rfl rfl rfl (op_lss rfl (ev1 rfl) (ev1 rfl)) ?_
  refine walk_r rfl rfl rfl (op_move (.inl rfl) (ev1 rfl)) ?_
  refine walk_gr (gd_f rfl rfl rfl) rfl rfl rfl (op_move (.inl rfl) (ev1 rfl)) ?_
  refine walk_gr (gd_f rfl rfl rfl) rfl rfl rfl (op_move (.inl rfl) (ev1 rfl)) ?_
  refine walk_gr (gd_f rfl rfl rfl) rfl rfl rfl (op_len rfl sl22 (ev2 rfl)) ?_
  refine walk_gr (gd_f rfl rfl rfl) rfl rfl rfl (op_gtr rfl (ev2 rfl) (ev2 rfl)) ?_
  refine walk_r rfl rfl rfl (op_or rfl (ev1 rfl) (ev3 rfl id)) ?_
  refine walk_nil ?_
  refine dwp_if_f rfl (by simp; omega) ?_
  refine dwp_skip ?_
  refine dwp_seq ?_
  refine dwp_holes 1 (by simp only [holes, List.cons_append, List.nil_append]; exact rfl) ?_
  refine dwp_region ?_
  refine walk_r rfl rfl rfl (op_move (.inl rfl) (ev1 rfl)) ?_
  refine walk_r rfl rfl rfl (op_move (.inl rfl) (ev1 rfl)) ?_
  refine walk_r rfl rfl rfl (op_sldr (i := p) rfl sl22 (ev1 rfl) (bd_some (ev1 rfl)) (fun _ => by omega) (fun _ => by omega) (fun _ => rfl)) ?_
  refine walk_r rfl rfl rfl (op_bld1 rfl fl95 zr95 (ev1 rfl) rfl) ?_
  refine walk_w rfl rfl rfl (op_alloc 1 rfl zr95 rfl) (by simp only [upd, List.set_cons_zero, List.set_cons_succ]; exact rfl) ?_
  refine walk_s rfl rfl (op_stam rfl tb95 (ev1 rfl) (ev1 rfl) rfl rfl rfl rfl) (by simp only [upd, List.set_cons_zero, List.set_cons_succ]; exact rfl) ?_
  refine walk_nil ?_
  refine dwp_seq ?_
  refine dwp_region ?_
  refine walk_r rfl rfl rfl (op_move (.inl rfl) (ev1 rfl)) ?_
  refine walk_p rfl (dop_callP [1] [] [] rfl (ev1 rfl) (ec (ev1 rfl) (ec (ev1 rfl) en)) rfl rfl (number_no _ (l.drop p) 0 w (by rw [List.length_drop]; omega)) rfl rfl rfl rfl rfl rfl) rfl ?_
  refine kdef (dturn_caught [0] [] rfl rfl rfl (get1_caught _ _) rfl rfl rfl rfl rfl) ?_
  refine kend0 (rs2 rfl (rv_t rfl) (rv_1 tb35 rfl rfl rfl)) rfl ?_
  rfl

theorem layR_head (a w : Nat) : layR (a : Int) (w + 1) = ((a / 256 ^ w % 256 : Nat) : Int) :: layR (a : Int) w := by
  rw [layR]
  congr 1
  have e : ((a : Int) / 256 ^ w % 256) = ((a / 256 ^ w % 256 : Nat) : Int) := by
    rw [Int.natCast_emod, Int.natCast_ediv, Int.natCast_pow]; rfl
  rw [e]
  exact IntWalk.u8_in _ (by omega)
theorem cmp_layR (a b : Nat) : ∀ w : Nat, (cmpL (layR (a : Int) w) (layR (b : Int) w) < 0 ↔ a % 256 ^ w < b % 256 ^ w) ∧ (cmpL (layR (a : Int) w) (layR (b : Int) w) = 0 ↔ a % 256 ^ w = b % 256 ^ w)
  | 0 => by
    have e : cmpL (layR (a : Int) 0) (layR (b : Int) 0) = 0 := rfl
    rw [e, Nat.pow_zero, Nat.mod_one, Nat.mod_one]
    exact ⟨⟨fun h => absurd h (by decide), fun h => absurd h (by decide)⟩, ⟨fun _ => rfl, fun _ => rfl⟩⟩
  | w + 1 => by
    obtain ⟨h1, h2⟩ := cmp_layR a b w
    rw [layR_head, layR_head, cmpL, Nat.pow_succ, Nat.mod_mul, Nat.mod_mul]
    have ha : a % 256 ^ w < 256 ^ w := Nat.mod_lt _ (Nat.pow_pos (by decide))
    have hb : b % 256 ^ w < 256 ^ w := Nat.mod_lt _ (Nat.pow_pos (by decide))
    generalize a / 256 ^ w % 256 = x at *
    generalize b / 256 ^ w % 256 = y at *
    generalize a % 256 ^ w = r at *
    generalize b % 256 ^ w = s at *
    generalize 256 ^ w = m at *
    rcases Nat.lt_trichotomy x y with h | h | h
    · have e : cmpI (x : Int) y = -1 := by unfold cmpI; rw [if_pos (by omega)]
      have h3 : m * x + m ≤ m * y := by
        have := Nat.mul_le_mul_left m (show x + 1 ≤ y from h)
        rwa [Nat.mul_add, Nat.mul_one] at this
      rw [e, if_pos (by decide)]
      constructor
      · exact ⟨fun _ => by omega, fun _ => by decide⟩
      · exact ⟨fun q => absurd q (by decide), fun q => by omega⟩
    · subst h
      have e : cmpI (x : Int) x = 0 := by unfold cmpI; rw [if_neg (by omega), if_neg (by omega)]
      rw [e, if_neg (by simp)]
      exact ⟨h1.trans (by omega), h2.trans (by omega)⟩
    · have e : cmpI (x : Int) y = 1 := by unfold cmpI; rw [if_neg (by omega), if_pos (by omega)]
      have h3 : m * y + m ≤ m * x := by
        have := Nat.mul_le_mul_left m (show y + 1 ≤ x from h)
        rwa [Nat.mul_add, Nat.mul_one] at this
      rw [e, if_pos (by decide)]
      constructor
      · exact ⟨fun q => by omega, fun q => by omega⟩
      · exact ⟨fun q => by omega, fun q => by omega⟩
theorem bytes_lay (n : Int) : ∀ w : Nat, 1 ≤ w ∧ w ≤ 8 → bytesN w n = layR n w := by
  intro w hw
  have wr : ∀ x : Int, IntKind.u8.wrap x = IntKind.u8.wrap (x % 256) := fun x => by rw [IntKind.wrap_u8, IntKind.wrap_u8]; omega
  have : w = 1 ∨ w = 2 ∨ w = 3 ∨ w = 4 ∨ w = 5 ∨ w = 6 ∨ w = 7 ∨ w = 8 := by omega
  rcases this with rfl | rfl | rfl | rfl | rfl | rfl | rfl | rfl <;> simp [bytesN, lowN, layR, ← wr]

theorem fitsN_iff {w : Nat} {n : Int} (hw : 1 ≤ w ∧ w ≤ 8) (hn : 0 ≤ n ∧ n ≤ 18446744073709551615) : fitsN w n = true ↔ n < 256 ^ w := by
  have : w = 1 ∨ w = 2 ∨ w = 3 ∨ w = 4 ∨ w = 5 ∨ w = 6 ∨ w = 7 ∨ w = 8 := by omega
  rcases this with rfl | rfl | rfl | rfl | rfl | rfl | rfl | rfl <;> simp [fitsN] <;> omega
theorem order_fin {w : Nat} {a b : Int} (hw : 1 ≤ w ∧ w ≤ 8) (ha : 0 ≤ a ∧ a ≤ 18446744073709551615) (hb : 0 ≤ b ∧ b ≤ 18446744073709551615) (fa : fitsN w a = true) (fb : fitsN w b = true) :
    decide (cmpL (bytesN w a) (bytesN w b) < 0) = decide (a < b) ∧ decide (cmpL (bytesN w a) (bytesN w b) = 0) = decide (a = b) := by
  obtain ⟨a, rfl⟩ := Int.eq_ofNat_of_zero_le ha.1
  obtain ⟨b, rfl⟩ := Int.eq_ofNat_of_zero_le hb.1
  have h1 := (fitsN_iff hw ha).1 fa
  have h2 := (fitsN_iff hw hb).1 fb
  have e : ((256 : Int) ^ w) = ((256 ^ w : Nat) : Int) := by rw [Int.natCast_pow]; rfl
  rw [e] at h1 h2
  obtain ⟨q1, q2⟩ := cmp_layR a b w
  rw [Nat.mod_eq_of_lt (by omega), Nat.mod_eq_of_lt (by omega)] at q1 q2
  rw [bytes_lay _ w hw, bytes_lay _ w hw]
  exact ⟨decide_eq_decide.2 (q1.trans (by omega)), decide_eq_decide.2 (q2.trans (by omega))⟩

theorem numR_eq {a b : Nat} (ha : a < 72057594037927936) (hb : b < 256) : numR (a : Int) (b : Int) = ((a * 256 + b : Nat) : Int) := by
  have h := or_low (n := a) (b := b) (j := 8) (by omega) (by omega)
  unfold numR
  rw [IntWalk.u64_in _ (by omega), IntWalk.u64_in _ (by omega), h]
  omega
def valD : List Nat → Nat
  | [] => 0
  | b :: r => b * 256 ^ r.length + valD r
theorem valD_lt : ∀ m : List Nat, (∀ x ∈ m, x < 256) → valD m < 256 ^ m.length
  | [], _ => by simp [valD]
  | b :: r, h => by
    have h1 := valD_lt r fun x hx => h x (List.mem_cons_of_mem _ hx)
    have h2 := h b (List.mem_cons_self ..)
    rw [valD, List.length_cons, Nat.pow_succ]
    generalize 256 ^ r.length = q at *
    have : (b + 1) * q ≤ 256 * q := Nat.mul_le_mul_right _ h2
    rw [Nat.add_mul, Nat.one_mul] at this
    omega
theorem foldV : ∀ (m : List Nat) (a : Nat), (∀ x ∈ m, x < 256) → a * 256 ^ m.length + 256 ^ m.length ≤ 18446744073709551616 → (m.map (fun x : Nat => (x : Int))).foldl numR (a : Int) = ((a * 256 ^ m.length + valD m : Nat) : Int)
  | [], a, _, _ => by simp [valD]
  | b :: r, a, h, hb => by
    have hb1 := h b (List.mem_cons_self ..)
    rw [List.length_cons, Nat.pow_succ] at hb
    have hp : 1 ≤ 256 ^ r.length := Nat.pow_pos (by decide)
    have ha : a < 72057594037927936 := by
      have h1 : (a + 1) * 256 ≤ (a + 1) * (256 ^ r.length * 256) := Nat.mul_le_mul_left _ (by omega)
      rw [Nat.add_mul a 1 (256 ^ r.length * 256), Nat.one_mul] at h1
      omega
    rw [List.map_cons, List.foldl_cons, numR_eq ha hb1, foldV r (a * 256 + b) (fun x hx => h x (List.mem_cons_of_mem _ hx)) ?_]
    · rw [valD, List.length_cons, Nat.pow_succ, Nat.add_mul, Nat.mul_assoc, Nat.mul_comm 256]
      congr 1
      omega
    · generalize 256 ^ r.length = q at *
      have h1 : (a * 256 + b + 1) * q ≤ (a * 256 + 256) * q := Nat.mul_le_mul_right _ (by omega)
      rw [Nat.add_mul (a * 256 + b) 1 q, Nat.one_mul, Nat.add_mul (a * 256) 256 q, Nat.mul_assoc, Nat.mul_comm 256 q] at h1
      omega
def digs (n : Nat) : Nat → List Nat
  | 0 => []
  | k + 1 => n / 256 ^ k % 256 :: digs n k
theorem digs_len (n : Nat) : ∀ k, (digs n k).length = k
  | 0 => rfl
  | k + 1 => by rw [digs, List.length_cons, digs_len n k]
theorem digs_lt (n : Nat) : ∀ k, ∀ x ∈ digs n k, x < 256
  | 0, x, h => by cases h
  | k + 1, x, h => by
    rw [digs, List.mem_cons] at h
    rcases h with rfl | h
    · exact Nat.mod_lt _ (by decide)
    · exact digs_lt n k x h
theorem layV (n : Nat) : ∀ k, layR (n : Int) k = (digs n k).map (fun x : Nat => (x : Int))
  | 0 => rfl
  | k + 1 => by rw [layR_head, digs, List.map_cons, layV n k]
theorem valD_digs (n : Nat) : ∀ k, valD (digs n k) = n % 256 ^ k
  | 0 => by rw [digs, valD, Nat.pow_zero, Nat.mod_one]
  | k + 1 => by
    rw [digs, valD, digs_len, valD_digs n k, Nat.pow_succ, Nat.mod_mul, Nat.mul_comm]
    omega
theorem digs_valD : ∀ (m : List Nat) (c : Nat), (∀ x ∈ m, x < 256) → digs (valD m + c * 256 ^ m.length) m.length = m
  | [], _, _ => rfl
  | b :: r, c, h => by
    have hb := h b (List.mem_cons_self ..)
    have hr := fun x hx => h x (List.mem_cons_of_mem _ hx)
    have hl := valD_lt r hr
    have hp : 0 < 256 ^ r.length := Nat.pow_pos (by decide)
    have e : valD (b :: r) + c * 256 ^ (b :: r).length = valD r + (b + 256 * c) * 256 ^ r.length := by
      rw [valD, List.length_cons, Nat.pow_succ, Nat.add_mul, Nat.mul_comm (256 ^ r.length) 256, ← Nat.mul_assoc, Nat.mul_comm c 256]
      omega
    rw [e, List.length_cons, digs, digs_valD r _ hr, Nat.add_mul_div_right _ _ hp, Nat.div_eq_of_lt hl]
    congr 1
    omega
def isBs (l : List Int) : Prop := ∀ x ∈ l, 0 ≤ x ∧ x ≤ 255
theorem nats : ∀ {l : List Int}, isBs l → ∃ m : List Nat, l = m.map (fun x : Nat => (x : Int)) ∧ ∀ x ∈ m, x < 256
  | [], _ => ⟨[], rfl, fun x h => by cases h⟩
  | b :: r, h => by
    obtain ⟨m, rfl, hm⟩ := nats (l := r) fun x hx => h x (List.mem_cons_of_mem _ hx)
    have hb := h b (List.mem_cons_self ..)
    obtain ⟨n, rfl⟩ := Int.eq_ofNat_of_zero_le hb.1
    refine ⟨n :: m, rfl, fun x hx => ?_⟩
    rcases List.mem_cons.1 hx with rfl | hx
    · omega
    · exact hm x hx
theorem isBs_take {l : List Int} (h : isBs l) (k : Nat) : isBs (l.take k) := fun x hx => h x (List.mem_of_mem_take hx)
theorem isBs_drop {l : List Int} (h : isBs l) (k : Nat) : isBs (l.drop k) := fun x hx => h x (List.mem_of_mem_drop hx)
theorem isBs_app {l r : List Int} (h : isBs l) (h2 : isBs r) : isBs (l ++ r) := fun x hx => (List.mem_append.1 hx).elim (h x) (h2 x)
theorem isBs_bytes {w : Nat} {n : Int} (hw : 1 ≤ w ∧ w ≤ 8) (hn : 0 ≤ n) : isBs (bytesN w n) := by
  obtain ⟨n, rfl⟩ := Int.eq_ofNat_of_zero_le hn
  rw [bytes_lay _ w hw, layV]
  intro x hx
  obtain ⟨y, hy, rfl⟩ := List.mem_map.1 hx
  have := digs_lt n w y hy
  omega
theorem pow8 {w : Nat} (h : w ≤ 8) : 256 ^ w ≤ 18446744073709551616 := Nat.pow_le_pow_right (n := 256) (by decide) h
theorem numN_val {w : Nat} {l : List Int} (hb : isBs l) (hw : w ≤ 8) (hl : w ≤ l.length) : ∃ m : List Nat, l.take w = m.map (fun x : Nat => (x : Int)) ∧ (∀ x ∈ m, x < 256) ∧ m.length = w ∧ numN w l = (valD m : Nat) := by
  obtain ⟨m, hm, hx⟩ := nats (isBs_take hb w)
  have hlen : m.length = w := by
    have := congrArg List.length hm
    rw [List.length_take, List.length_map] at this
    omega
  refine ⟨m, hm, hx, hlen, ?_⟩
  have h := foldV m 0 hx (by rw [hlen]; have := pow8 hw; omega)
  rw [numN, hm]
  rw [Nat.zero_mul, Nat.zero_add] at h
  exact h
theorem numN_rng {w : Nat} {l : List Int} (hb : isBs l) (hw : 1 ≤ w ∧ w ≤ 8) (hl : w ≤ l.length) : 0 ≤ numN w l ∧ numN w l ≤ 18446744073709551615 ∧ fitsN w (numN w l) = true := by
  obtain ⟨m, hm, hx, hlen, e⟩ := numN_val hb hw.2 hl
  have h1 := valD_lt m hx
  have h2 := pow8 hw.2
  rw [hlen] at h1
  rw [e]
  refine ⟨by omega, by omega, (fitsN_iff hw (by omega)).2 ?_⟩
  have : ((256 : Int) ^ w) = ((256 ^ w : Nat) : Int) := by rw [Int.natCast_pow]; rfl
  rw [this]
  omega
theorem bytes_numN {w : Nat} {l : List Int} (hb : isBs l) (hw : 1 ≤ w ∧ w ≤ 8) (hl : w ≤ l.length) : bytesN w (numN w l) = l.take w := by
  obtain ⟨m, hm, hx, hlen, e⟩ := numN_val hb hw.2 hl
  have h := digs_valD m 0 hx
  rw [Nat.zero_mul, Nat.add_zero, hlen] at h
  rw [e, bytes_lay _ w hw, layV, h, hm]
theorem numN_bytes {w : Nat} {n : Int} (r : List Int) (hw : 1 ≤ w ∧ w ≤ 8) (hn : 0 ≤ n ∧ n ≤ 18446744073709551615) (hf : fitsN w n = true) : numN w (bytesN w n ++ r) = n := by
  have h1 := (fitsN_iff hw hn).1 hf
  obtain ⟨n, rfl⟩ := Int.eq_ofNat_of_zero_le hn.1
  have e : ((256 : Int) ^ w) = ((256 ^ w : Nat) : Int) := by rw [Int.natCast_pow]; rfl
  rw [e] at h1
  have h := foldV (digs n w) 0 (digs_lt n w) (by rw [digs_len]; have := pow8 hw.2; omega)
  rw [Nat.zero_mul, Nat.zero_add, valD_digs, Nat.mod_eq_of_lt (by omega)] at h
  rw [numN, List.take_left' (bytesN_len hw.2), bytes_lay _ w hw, layV]
  exact h
def fitsA : List Int → List Int → Bool
  | w :: ws, n :: ns => fitsN w.toNat n && fitsA ws ns
  | _, _ => true
theorem fitsA_at : ∀ {ws ns : List Int}, fitsA ws ns = true → ∀ (k : Nat) (h : k < ws.length) (h2 : k < ns.length), fitsN (ws[k]).toNat ns[k] = true
  | w :: ws, n :: ns, h, 0, _, _ => by rw [fitsA, Bool.and_eq_true] at h; exact h.1
  | w :: ws, n :: ns, h, k + 1, h1, h2 => by rw [fitsA, Bool.and_eq_true] at h; exact fitsA_at h.2 k (by simpa using h1) (by simpa using h2)
  | [], _, _, k, h, _ => by simp at h
  | _ :: _, [], _, k, _, h => by simp at h
theorem fitsA_not : ∀ {ws ns : List Int}, ns.length = ws.length → fitsA ws ns = false → ∃ j, j < ws.length ∧ (∀ (k : Nat) (h : k < ws.length) (h2 : k < ns.length), k < j → fitsN (ws[k]).toNat ns[k] = true) ∧ ∀ (h : j < ws.length) (h2 : j < ns.length), fitsN (ws[j]).toNat ns[j] = false
  | [], _, _, h => by simp [fitsA] at h
  | _ :: _, [], h, _ => by simp at h
  | w :: ws, n :: ns, hl, h => by
    cases hf : fitsN w.toNat n with
    | false => exact ⟨0, by simp, fun k _ _ h => by omega, fun _ _ => hf⟩
    | true =>
      rw [fitsA, hf, Bool.true_and] at h
      obtain ⟨j, h1, h2, h3⟩ := fitsA_not (by simpa using hl) h
      refine ⟨j + 1, by simpa using h1, fun k hk hk2 hkj => ?_, fun hk hk2 => h3 (by simpa using hk) (by simpa using hk2)⟩
      match k with
      | 0 => exact hf
      | k + 1 => exact h2 k (by simpa using hk) (by simpa using hk2) (by omega)
def isNs (l : List Int) : Prop := ∀ x ∈ l, 0 ≤ x ∧ x ≤ 18446744073709551615
theorem layN_sum : ∀ {ws ns : List Int}, ws.all isW = true → ns.length = ws.length → ((layN ws ns).length : Int) = ws.sum
  | [], ns, _, h => by cases ns <;> simp [layN]
  | w :: ws, [], _, h => by simp at h
  | w :: ws, n :: ns, ha, h => by
    rw [List.all_cons, Bool.and_eq_true] at ha
    have hw := isW_iff.1 ha.1
    have ih := layN_sum (ns := ns) ha.2 (by simpa using h)
    rw [layN, List.length_append, bytesN_len (by omega), List.sum_cons]
    omega
theorem split_lay : ∀ {ws ns : List Int}, ws.all isW = true → ns.length = ws.length → isNs ns → fitsA ws ns = true → splitN ws (layN ws ns) = ns
  | [], ns, _, h, _, _ => by cases ns <;> simp_all [splitN]
  | w :: ws, [], _, h, _, _ => by simp at h
  | w :: ws, n :: ns, ha, h, hn, hf => by
    rw [List.all_cons, Bool.and_eq_true] at ha
    rw [fitsA, Bool.and_eq_true] at hf
    have hw := isW_iff.1 ha.1
    have hw' : 1 ≤ w.toNat ∧ w.toNat ≤ 8 := by omega
    rw [splitN, layN, numN_bytes _ hw' (hn n (List.mem_cons_self ..)) hf.1, List.drop_left' (bytesN_len hw'.2), split_lay ha.2 (by simpa using h) (fun x hx => hn x (List.mem_cons_of_mem _ hx)) hf.2]
theorem lay_split : ∀ {ws b : List Int}, ws.all isW = true → isBs b → (b.length : Int) = ws.sum → layN ws (splitN ws b) = b ∧ fitsA ws (splitN ws b) = true ∧ isNs (splitN ws b)
  | [], b, _, _, h => by
    have : b = [] := by simpa using h
    subst this
    exact ⟨rfl, rfl, fun x hx => by cases hx⟩
  | w :: ws, b, ha, hb, h => by
    rw [List.all_cons, Bool.and_eq_true] at ha
    have hw := isW_iff.1 ha.1
    have hw' : 1 ≤ w.toNat ∧ w.toNat ≤ 8 := by omega
    have hs := sum_bd ha.2 ws.length (Nat.le_refl _)
    rw [List.take_length] at hs
    rw [List.sum_cons] at h
    have hl : w.toNat ≤ b.length := by omega
    obtain ⟨h1, h2, h3⟩ := lay_split (ws := ws) (b := b.drop w.toNat) ha.2 (isBs_drop hb _) (by rw [List.length_drop]; omega)
    obtain ⟨r1, r2, r3⟩ := numN_rng hb hw' hl
    refine ⟨by rw [splitN, layN, bytes_numN hb hw' hl, h1, List.take_append_drop], by rw [splitN, fitsA, r3, h2]; rfl, fun x hx => ?_⟩
    rw [splitN] at hx
    rcases List.mem_cons.1 hx with rfl | hx
    · exact ⟨r1, r2⟩
    · exact h3 x hx

def gotM (l : List Int) (p w : Int) : Int × Int := if isW w then (if p < 0 ∨ (l.length : Int) < p then (0, 2) else if (l.length : Int) < p + w then (0, 110) else (numN w.toNat (l.drop p.toNat), 0)) else (0, 111)
theorem get_m (l : List Int) (p w : Int) (hl : l.length ≤ 9223372036854775807) : DFun Try.prog 42 [.slf 1 l.length (l.flatMap uc8), .val (.int .i64 p), .val (.int .i64 w)] [] (.tup [.val (.int .u64 (gotM l p w).1), .val (.int .i64 (gotM l p w).2)]) [] := by
  by_cases h : isW w = true
  · obtain ⟨h1, h2⟩ := isW_iff.1 h
    by_cases hp : p < 0 ∨ (l.length : Int) < p
    · have e : gotM l p w = (0, 2) := by simp [gotM, h, hp]
      rw [e]; exact get_arg l p w h hp
    · obtain ⟨k, rfl⟩ := Int.eq_ofNat_of_zero_le (show 0 ≤ w by omega)
      obtain ⟨q, rfl⟩ := Int.eq_ofNat_of_zero_le (show 0 ≤ p by omega)
      by_cases hs : (l.length : Int) < q + k
      · have e : gotM l q k = (0, 110) := by unfold gotM; rw [if_pos h, if_neg hp, if_pos hs]
        rw [e]; exact get_short l hl q k (by omega) (by omega) (by omega)
      · have e : gotM l q k = (numN k (l.drop q), 0) := by unfold gotM; rw [if_pos h, if_neg hp, if_neg hs]; rfl
        rw [e]; exact get_ok l hl q k (by omega) (by omega)
  · have e : gotM l p w = (0, 111) := by simp [gotM, h]
    rw [e]; exact get_w l p w (by simpa using h)

theorem numN_step {l : List Int} (hb : isBs l) {k : Nat} (hk : k < l.length) (h8 : k < 8) : IntKind.u64.wrap (IntKind.u64.wrap (256 * numN k l) + IntKind.u64.wrap l[k]) = numN (k + 1) l := by
  obtain ⟨m, hm, hx, hlen, e⟩ := numN_val hb (show k ≤ 8 by omega) (by omega)
  obtain ⟨m', hm', hx', hlen', e'⟩ := numN_val hb (show k + 1 ≤ 8 by omega) (by omega)
  have h1 := valD_lt m hx
  rw [hlen] at h1
  have h2 : 256 ^ k ≤ 72057594037927936 := Nat.pow_le_pow_right (n := 256) (by decide) (show k ≤ 7 by omega)
  have hbk := hb l[k] (List.getElem_mem _)
  obtain ⟨x, hx2⟩ := Int.eq_ofNat_of_zero_le hbk.1
  rw [numN_succ hk, e, hx2, numR_eq (by omega) (by omega)]
  have w1 : IntKind.u64.wrap (256 * (valD m : Int)) = 256 * (valD m : Int) := IntWalk.u64_in _ (by omega)
  have w2 : IntKind.u64.wrap (x : Int) = x := IntWalk.u64_in _ (by omega)
  rw [w1]
  show IntKind.u64.wrap (_ + IntKind.u64.wrap (x : Int)) = _
  rw [w2, IntWalk.u64_in _ (by omega)]
  omega
theorem fits_eq {w : Nat} {n : Int} (hw : 1 ≤ w ∧ w ≤ 8) (hn : 0 ≤ n ∧ n ≤ 18446744073709551615) : decide (n / 256 ^ w = 0) = fitsN w n := by
  rw [Bool.eq_iff_iff, decide_eq_true_iff, fitsN_iff hw hn]
  have hp : (0 : Int) < 256 ^ w := Int.pow_pos (by decide)
  constructor
  · intro h
    have h1 := Int.lt_ediv_add_one_mul_self n hp
    rw [h] at h1
    omega
  · exact fun h => Int.ediv_eq_zero_of_lt hn.1 h
theorem numN_self {l : List Int} (w : Nat) (h : w ≤ l.length) : numN (l.take w).length (l.take w) = numN w l := by
  rw [numN, numN, List.take_length]

set_option maxRecDepth 4000 in
set_option maxHeartbeats 1000000 in
theorem refNumber_d (l : List Int) (hb : isBs l) (hl : l.length ≤ 8) : DFun Try.prog 27 [.slf 1 (l).length ((l).flatMap uc8)] [] (.val (.int .u64 (numN l.length l))) [] := by
  refine dcalls_go (N := 19) 0 (by kernel_rfl) Try.func27 rfl rfl rfl (by simp only [fr0, Nat.zero_add, Nat.reduceAdd]; exact rfl) rfl fun s0 hs0 => ?_
  refine dwp_len (t := 0) rfl fun hl0 hL0 => ?_
  refine dwp_seq ?_
  refine dwp_region ?_
  refine walk_r rfl rfl rfl (op_move (.inr rfl) (ev1 rfl)) ?_
  refine walk_nil ?_
  refine dwp_seq ?_
  refine dwp_region ?_
  refine walk_r rfl rfl rfl (op_move (.inr rfl) (ev1 rfl)) ?_
  refine walk_nil ?_
  refine dwp_seq ?_
  refine dwp_seq ?_
  refine dwp_region ?_
  refine walk_r rfl rfl rfl (op_move (.inl rfl) (ev1 rfl)) ?_
  refine walk_r rfl rfl rfl (op_len rfl sl22 (ev1 rfl)) ?_
  refine walk_r rfl rfl rfl (op_move (.inl rfl) (ev1 rfl)) ?_
  refine walk_nil ?_
  refine dwp_block ?_
  refine dwp_loopS ⟨hs0, rfl⟩ (α := Nat) (fun k => [(3, .val (.int .u64 (numN k l))), (8, .val (.int .i64 (k : Int)))]) [(6, _), (7, _)] (fun k => []) [] (fun k => k ≤ l.length) (fun k => l.length - k) 0 [] (by simp) rfl ⟨rfl, rfl, trivial⟩ ⟨rfl, rfl, trivial⟩ trivial ?_
  intro k hx
  simp only [upd, List.set_cons_zero, List.set_cons_succ, List.cons_append, List.nil_append]
  have hk := hx
  refine dwp_seq ?_
  refine dwp_region ?_
  refine walk_r rfl rfl rfl (op_lss rfl (ev1 rfl) (ev1 rfl)) ?_
  refine walk_nil ?_
  refine dwp_seq ?_
  refine dwp_cond rfl (fun c1 => ?_) (fun c1 => ?_)
  · try simp only [decide_eq_true_eq, decide_eq_false_iff_not, beq_iff_eq, bne_iff_ne, beq_eq_false_iff_ne, bne_eq_false_iff_eq, Bool.not_eq_true', Bool.not_eq_false', Bool.and_eq_true, Bool.or_eq_true, Bool.or_eq_false_iff, ne_eq, Decidable.not_not, Int.not_lt, Int.not_le] at c1
    refine dwp_skip ?_
    refine dwp_seq ?_
    refine dwp_block ?_
    refine dwp_seq ?_
    refine dwp_region ?_
    refine walk_r rfl rfl rfl (op_ixsr (j := k) rfl sl22 (ev1 rfl) (ev1 rfl) (fun _ => rfl) (by decide) (by omega) (by omega)) ?_
    refine walk_r rfl rfl rfl (op_ldod rfl tb5 (ev1 rfl) rfl) ?_
    refine walk_r rfl rfl rfl (op_move (.inr rfl) (ev1 rfl)) ?_
    refine walk_nil ?_
    refine dwp_region ?_
    refine walk_r rfl rfl rfl (op_move (.inl rfl) (ev1 rfl)) ?_
    refine walk_r rfl rfl rfl (op_mul rfl (ev1 rfl) (ev1 rfl)) ?_
    refine walk_r rfl rfl rfl (op_move (.inl rfl) (ev1 rfl)) ?_
    refine walk_r rfl rfl rfl (op_conv ty5 kn55 rfl (ev1 rfl)) ?_
    refine walk_r rfl rfl rfl (op_add rfl (ev1 rfl) (ev1 rfl)) ?_
    refine walk_r rfl rfl rfl (op_move (.inr rfl) (ev1 rfl)) ?_
    refine walk_nil ?_
    refine dwp_region ?_
    refine walk_r rfl rfl rfl (op_add' rfl (ev1 rfl) (ev1 rfl) (fun _ => IntWalk.i64_in _ (by omega))) ?_
    refine walk_r rfl rfl rfl (op_move (.inl rfl) (ev1 rfl)) ?_
    refine walk_nil ?_
    refine ⟨k + 1, [], by omega, by simp only []; omega, rfl, ⟨congrArg (fun z => some (D.val (Value.int .u64 z))) (numN_step hb (by omega) (by omega)), rfl, rfl, rfl, trivial⟩, trivial⟩
  · try simp only [decide_eq_true_eq, decide_eq_false_iff_not, beq_iff_eq, bne_iff_ne, beq_eq_false_iff_ne, bne_eq_false_iff_eq, Bool.not_eq_true', Bool.not_eq_false', Bool.and_eq_true, Bool.or_eq_true, Bool.or_eq_false_iff, ne_eq, Decidable.not_not, Int.not_lt, Int.not_le] at c1
    refine dwp_exit ?_
    refine dwp_seq ?_
    refine dwp_region ?_
    refine walk_r rfl rfl rfl (op_move (.inl rfl) (ev1 rfl)) ?_
    refine walk_r rfl rfl rfl (op_move (.inr rfl) (ev1 rfl)) ?_
    refine walk_nil ?_
    refine dwp_ret ?_
    refine kend0 (rs1 rfl (rv_t rfl)) rfl ?_
    obtain rfl : k = l.length := by omega
    rfl

theorem take_self {x l : List Int} {m : Nat} (h : l = x.take (min x.length m)) : x.take l.length = l ∧ l.length ≤ m ∧ l.length ≤ x.length := by
  subst h
  rw [List.length_take, show min (min x.length m) x.length = min x.length m by omega]
  exact ⟨rfl, by omega, by omega⟩

set_option maxRecDepth 4000 in
set_option maxHeartbeats 1000000 in
theorem equalI (l r : List Int) : DFun Try.prog 11 [.slf 1 l.length (l.flatMap ic), .slf 1 r.length (r.flatMap ic)] [] (.val (.bool (decide (l = r)))) [] := by
  refine dcalls_go (N := 26) 0 (by kernel_rfl) Try.func11 rfl rfl rfl (by simp only [fr0, Nat.zero_add, Nat.reduceAdd]; exact rfl) rfl fun s0 hs0 => ?_
  refine dwp_len (t := 0) rfl fun hl0 hL0 => ?_
  refine dwp_len (t := 1) rfl fun hl1 hL1 => ?_
  refine dwp_seq ?_
  refine dwp_region ?_
  refine walk_r rfl rfl rfl (op_move (.inr rfl) (ev1 rfl)) ?_
  refine walk_nil ?_
  refine dwp_seq ?_
  refine dwp_seq ?_
  refine dwp_region ?_
  refine walk_r rfl rfl rfl (op_move (.inl rfl) (ev1 rfl)) ?_
  refine walk_r rfl rfl rfl (op_len rfl sl28 (ev1 rfl)) ?_
  refine walk_r rfl rfl rfl (op_move (.inl rfl) (ev1 rfl)) ?_
  refine walk_r rfl rfl rfl (op_len rfl sl28 (ev1 rfl)) ?_
  refine walk_r rfl rfl rfl (op_neq rfl (ev1 rfl) (ev1 rfl)) ?_
  refine walk_nil ?_
  refine dwp_cond rfl (fun c1 => ?_) (fun c1 => ?_)
  · try simp only [decide_eq_true_eq, decide_eq_false_iff_not, beq_iff_eq, bne_iff_ne, beq_eq_false_iff_ne, bne_eq_false_iff_eq, Bool.not_eq_true', Bool.not_eq_false', Bool.and_eq_true, Bool.or_eq_true, Bool.or_eq_false_iff, ne_eq, Decidable.not_not, Int.not_lt, Int.not_le] at c1
    refine dwp_seq ?_
    refine dwp_region ?_
    refine walk_r rfl rfl rfl (op_move (.inr rfl) (ev1 rfl)) ?_
    refine walk_nil ?_
    refine dwp_ret ?_
    refine kend0 (rs1 rfl (rv_t rfl)) rfl ?_
    have hne : l ≠ r := fun e => by subst e; exact c1 rfl
    rw [decide_eq_false hne]
  · try simp only [decide_eq_true_eq, decide_eq_false_iff_not, beq_iff_eq, bne_iff_ne, beq_eq_false_iff_ne, bne_eq_false_iff_eq, Bool.not_eq_true', Bool.not_eq_false', Bool.and_eq_true, Bool.or_eq_true, Bool.or_eq_false_iff, ne_eq, Decidable.not_not, Int.not_lt, Int.not_le] at c1
    have hlen : l.length = r.length := by omega
    refine dwp_skip ?_
    refine dwp_seq ?_
    refine dwp_seq ?_
    refine dwp_region ?_
    refine walk_r rfl rfl rfl (op_move (.inl rfl) (ev1 rfl)) ?_
    refine walk_r rfl rfl rfl (op_len rfl sl28 (ev1 rfl)) ?_
    refine walk_r rfl rfl rfl (op_move (.inl rfl) (ev1 rfl)) ?_
    refine walk_nil ?_
    refine dwp_block ?_
    refine dwp_loopS ⟨hs0, rfl⟩ (α := Nat) (fun k => [(13, .val (.int .i64 (k : Int)))]) [(0, _), (1, _), (12, _)] (fun k => []) [] (fun k => k ≤ l.length ∧ l.take k = r.take k) (fun k => l.length - k) 0 [] (by simp) rfl ⟨rfl, rfl, rfl, trivial⟩ ⟨rfl, trivial⟩ trivial ?_
    intro k hx
    simp only [upd, List.set_cons_zero, List.set_cons_succ, List.cons_append, List.nil_append]
    obtain ⟨hk, he⟩ := hx
    refine dwp_seq ?_
    refine dwp_region ?_
    refine walk_r rfl rfl rfl (op_lss rfl (ev1 rfl) (ev1 rfl)) ?_
    refine walk_nil ?_
    refine dwp_seq ?_
    refine dwp_cond rfl (fun c2 => ?_) (fun c2 => ?_)
    · try simp only [decide_eq_true_eq, decide_eq_false_iff_not, beq_iff_eq, bne_iff_ne, beq_eq_false_iff_ne, bne_eq_false_iff_eq, Bool.not_eq_true', Bool.not_eq_false', Bool.and_eq_true, Bool.or_eq_true, Bool.or_eq_false_iff, ne_eq, Decidable.not_not, Int.not_lt, Int.not_le] at c2
      refine dwp_skip ?_
      refine dwp_seq ?_
      refine dwp_block ?_
      refine dwp_seq ?_
      refine dwp_region ?_
      refine walk_r rfl rfl rfl (op_move (.inl rfl) (ev1 rfl)) ?_
      refine walk_r rfl rfl rfl (op_move (.inr rfl) (ev1 rfl)) ?_
      refine walk_nil ?_
      refine dwp_seq ?_
      refine dwp_draw [([], []), ([], []), ([], []), ([], []), ([], []), ([], []), ([], []), ([], []), ([], [])] mixed (by kernel_rfl) ?_
      refine lex_r rfl rfl (op_move (.inl rfl) (ev1 rfl)) ?_
      refine lex_r rfl rfl (op_move (.inl rfl) (ev1 rfl)) ?_
      refine lex_r rfl rfl (op_ixsr (j := k) rfl sl28 (ev1 rfl) (ev1 rfl) (fun _ => rfl) (by decide) (by omega) (by omega)) ?_
      refine lex_r rfl rfl (op_ldod rfl tb3 (ev1 rfl) rfl) ?_
      refine lex_r rfl rfl (op_move (.inl rfl) (ev1 rfl)) ?_
      refine lex_r rfl rfl (op_move (.inl rfl) (ev1 rfl)) ?_
      refine lex_r rfl rfl (op_ixsr (j := k) rfl sl28 (ev1 rfl) (ev1 rfl) (fun _ => rfl) (by decide) (by omega) (by omega)) ?_
      refine lex_r rfl rfl (op_ldod rfl tb3 (ev1 rfl) rfl) ?_
      refine lex_r rfl rfl (op_neq rfl (ev1 rfl) (ev1 rfl)) ?_
      refine lex_nil ?_
      refine dwp_cond rfl (fun c2 => ?_) (fun c2 => ?_)
      · have c3 : l[k] ≠ r[k] := by simpa using c2
        refine dwp_seq ?_
        refine dwp_region ?_
        refine walk_r rfl rfl rfl (op_move (.inr rfl) (ev1 rfl)) ?_
        refine walk_nil ?_
        refine dwp_ret ?_
        refine kend0 (rs1 rfl (rv_t rfl)) rfl ?_
        have hne : l ≠ r := fun e => by subst e; exact c3 rfl
        rw [decide_eq_false hne]
      · have c3 : l[k] = r[k] := by simpa using c2
        refine dwp_skip ?_
        refine dwp_region ?_
        refine walk_r rfl rfl rfl (op_add' rfl (ev1 rfl) (ev1 rfl) (fun _ => IntWalk.i64_in _ (by omega))) ?_
        refine walk_r rfl rfl rfl (op_move (.inl rfl) (ev1 rfl)) ?_
        refine walk_nil ?_
        refine ⟨k + 1, [], ⟨by omega, by rw [List.take_succ_eq_append_getElem (by omega), List.take_succ_eq_append_getElem (by omega), he, c3]⟩, by simp only []; omega, rfl, ⟨rfl, rfl, rfl, rfl, trivial⟩, trivial⟩
    · try simp only [decide_eq_true_eq, decide_eq_false_iff_not, beq_iff_eq, bne_iff_ne, beq_eq_false_iff_ne, bne_eq_false_iff_eq, Bool.not_eq_true', Bool.not_eq_false', Bool.and_eq_true, Bool.or_eq_true, Bool.or_eq_false_iff, ne_eq, Decidable.not_not, Int.not_lt, Int.not_le] at c2
      refine dwp_exit ?_
      refine dwp_seq ?_
      refine dwp_region ?_
      refine walk_r rfl rfl rfl (op_move (.inr rfl) (ev1 rfl)) ?_
      refine walk_nil ?_
      refine dwp_ret ?_
      refine kend0 (rs1 rfl (rv_t rfl)) rfl ?_
      have e : l = r := by
        have h := he
        rw [List.take_of_length_le (by omega), List.take_of_length_le (by omega)] at h
        exact h
      rw [decide_eq_true e]

structure Nm where
  at_ : Int
  w : Int
  n : Int
def nm3 (p : Nm) : List Value := [.int .i64 p.at_, .int .i64 p.w, .int .u64 p.n]
def Nm.rng (p : Nm) : Prop := (-9223372036854775808 ≤ p.at_ ∧ p.at_ ≤ 9223372036854775807) ∧ (-9223372036854775808 ≤ p.w ∧ p.w ≤ 9223372036854775807) ∧ (0 ≤ p.n ∧ p.n ≤ 18446744073709551615)
theorem numN_at {b : List Int} {i w : Nat} (h : i + w ≤ b.length) : numN ((b.drop i).take (i + w - i)).length ((b.drop i).take (i + w - i)) = numN w (b.drop i) := by
  rw [show i + w - i = w by omega, numN_self w (by rw [List.length_drop]; omega)]

set_option maxRecDepth 4000 in
set_option maxHeartbeats 1000000 in
theorem put_oo (l : List Int) (w : Nat) (n : Int) (hl : l.length ≤ 90000) (h : 1 ≤ w ∧ w ≤ 8) (hf : fitsN w n = true) : DFun Try.prog 46 [.slf 1 l.length (l.flatMap uc8), .val (.int .i64 (w : Int)), .val (.int .u64 n)] [] (.tup [.arr 0, .val (.int .i64 0)]) [.arr 5 1 (l ++ bytesN w n).length ((l ++ bytesN w n).flatMap uc8)] := by
  refine dcalls_body (N := 18) 0 (by kernel_rfl) Try.func46 rfl rfl rfl (by simp only [fr0, Nat.zero_add, Nat.reduceAdd]; exact rfl) rfl fun s0 hs0 => ?_
  refine dbody_seq rfl hs0 ?_
  refine dwp_holes 1 (by simp only [holes, List.cons_append, List.nil_append]; exact rfl) ?_
  refine dwp_region ?_
  refine walk_r rfl rfl rfl (op_move (.inr rfl) (ev1 rfl)) ?_
  refine walk_w rfl rfl rfl (op_alloc 0 rfl zr35 rfl) (by simp only [upd, List.set_cons_zero, List.set_cons_succ]; exact rfl) ?_
  refine walk_nil ?_
  refine dbody_defer (l0 := [_]) rfl rfl rfl rfl rfl hs0 ?_
  refine walk_r rfl rfl rfl (op_mkf rfl en (ec (ev1 rfl) en)) ?_
  refine walk_nil ⟨_, _, _, 1, ev1 rfl, Nat.le_trans hs0 (by decide), rfl, ?_⟩
  have hs1 : s0.M.length ≤ 1 := Nat.le_trans hs0 (by decide)
  refine dbody_end rfl hs0 ?_
  refine dwp_seq ?_
  refine dwp_region ?_
  refine walk_r rfl rfl rfl (op_move (.inl rfl) (ev1 rfl)) ?_
  refine walk_r rfl rfl rfl (op_bs (ps := [(0, .tmp 9)]) rfl sl28 zr3 rfl (vc (ev1 rfl) vn) rfl (by decide) (by decide)) ?_
  refine walk_r rfl rfl rfl (dop_call [] [] [] rfl (ev1 rfl) (ec (ev1 rfl) en) rfl rfl (need_ok [(w : Int)] (by simp [isW_iff]; omega)) rfl rfl rfl rfl rfl rfl) ?_
  refine walk_nil ?_
  refine dwp_seq ?_
  refine dwp_holes 1 (by simp only [holes, List.cons_append, List.nil_append]; exact rfl) ?_
  refine dwp_region ?_
  refine walk_r rfl rfl rfl (op_move (.inl rfl) (ev1 rfl)) ?_
  refine walk_r rfl rfl rfl (op_move (.inl rfl) (ev1 rfl)) ?_
  refine walk_r rfl rfl rfl (op_move (.inl rfl) (ev1 rfl)) ?_
  refine walk_r rfl rfl rfl (dop_call [] [] [] rfl (ev1 rfl) (ec (ev1 rfl) (ec (ev1 rfl) en)) rfl rfl (nb_ok w h n hf) rfl rfl rfl rfl rfl rfl) ?_
  refine walk_r rfl rfl rfl (op_bsm (ps := [(0, .tmp 12), (1, .tmp 15)]) rfl sl25 zr22 rfl (ec (ev1 rfl) (ec (ev1 rfl) en)) rfl (by decide)) ?_
  refine walk_w rfl rfl rfl (dop_call [] [] [1] rfl (ev1 rfl) (ec (ev1 rfl) en) rfl rfl (behind2_o _ _ (by rw [bytesN_len h.2]; omega)) rfl rfl rfl rfl rfl rfl) (by simp only [upd, List.set_cons_zero, List.set_cons_succ]; exact rfl) ?_
  refine walk_r rfl rfl rfl (op_move (.inr rfl) (ev1 rfl)) ?_
  refine walk_s rfl rfl (op_stwi rfl tb35 (ev1 rfl) (ev1 rfl) rfl) (by simp only [upd, List.set_cons_zero, List.set_cons_succ]; exact rfl) ?_
  refine walk_nil ?_
  refine dwp_ret ?_
  refine kdef (dturn_idle [0] [] rfl rfl (put1_idle _) rfl rfl rfl rfl rfl) ?_
  refine kend [1] (rs2 rfl (rv_t rfl) (rv_1 tb35 rfl rfl rfl)) rfl rfl ?_ ⟨rfl, trivial⟩
  rfl

theorem splitN_at : ∀ {ws : List Int} (b : List Int) {k : Nat} (h : k < ws.length), ws.all isW = true → (splitN ws b)[k]? = some (numN (ws[k]).toNat (b.drop (ws.take k).sum.toNat))
  | w :: ws, b, 0, _, _ => by simp [splitN]
  | w :: ws, b, k + 1, h, ha => by
    rw [List.all_cons, Bool.and_eq_true] at ha
    have hw := isW_iff.1 ha.1
    have hs := sum_bd ha.2 k (by simpa using Nat.le_of_lt h)
    rw [splitN, List.getElem?_cons_succ, splitN_at (b.drop w.toNat) (by simpa using h) ha.2, List.drop_drop, List.take_succ_cons, List.sum_cons, show (w + (ws.take k).sum).toNat = w.toNat + (ws.take k).sum.toNat by omega]
    rfl
  | [], _, k, h, _ => by simp at h

def cut40 (p : List Int) : List Int := p.take (min p.length 40)
theorem cut40_len (p : List Int) : (cut40 p).length ≤ 40 := by rw [cut40, List.length_take]; omega
def partB (p : List Int) : List Int := bytesN 2 (cut40 p).length ++ cut40 p
theorem partB_len (p : List Int) : (partB p).length = 2 + (cut40 p).length := by rw [partB, List.length_append, bytesN_len (by omega)]
def catP (ps : List (List Int)) : List Int := ps.flatMap partB
theorem catP_succ {ps : List (List Int)} {k : Nat} (h : k < ps.length) : catP (ps.take (k + 1)) = catP (ps.take k) ++ partB ps[k] := by
  rw [catP, catP, List.take_succ_eq_append_getElem h, List.flatMap_append]; simp
theorem catP_drop {ps : List (List Int)} {k : Nat} (h : k < ps.length) : catP (ps.drop k) = partB ps[k] ++ catP (ps.drop (k + 1)) := by
  rw [catP, catP, List.drop_eq_getElem_cons h, List.flatMap_cons]
theorem catP_len : ∀ ps : List (List Int), (catP ps).length ≤ 42 * ps.length
  | [] => by simp [catP]
  | p :: ps => by
    have h1 := catP_len ps
    have h2 := partB_len p
    have h3 := cut40_len p
    rw [catP, List.flatMap_cons, List.length_append, List.length_cons]
    rw [catP] at h1
    omega
theorem catP_cat (ps : List (List Int)) (k : Nat) : (catP (ps.take k)).length + (catP (ps.drop k)).length = (catP ps).length := by
  rw [← List.length_append, catP, catP, ← List.flatMap_append, List.take_append_drop]; rfl
theorem numN_part (p r : List Int) : numN 2 (partB p ++ r) = ((cut40 p).length : Int) := by
  have h := cut40_len p
  rw [partB, List.append_assoc]
  exact numN_bytes _ (by omega) (by omega) (fits2 (by omega))
theorem numN_cutp (p r : List Int) {n : Nat} (h : 2 ≤ n) : numN 2 ((partB p ++ r).take n) = ((cut40 p).length : Int) := by
  rw [← numN_part p r, numN, numN, List.take_take, Nat.min_eq_left h]
theorem res_mono {P : Program} {f : FuncId} {args : List D} {Min Mout : List Blk} {d d' : D} (hm : ∀ (s : St) v, Rep s d v → Rep s d' v) (h : DFun P f args Min d Mout) : DFun P f args Min d' Mout := by
  refine ⟨h.1, fun s vs hok hM hr => (h.2 s vs hok hM hr).mono ?_⟩
  rintro q w' ⟨s', rfl, ht, hor⟩
  rcases hor with ⟨d0, v, rfl, hrep, ⟨rfl, hMo⟩⟩ | ⟨d0, v, _, _, hf⟩
  · exact ⟨s', rfl, ht, .inl ⟨_, v, rfl, hm _ _ hrep, rfl, hMo⟩⟩
  · exact hf.elim
abbrev rB (l : List Int) : D := .slf 1 l.length (l.flatMap uc8)
def PInv (ps : List (List Int)) (c k : Nat) (L : List Int) (e : Int) (W : Nat) : Prop :=
  k ≤ ps.length ∧ ((e = 0 ∧ W = k ∧ (catP (ps.take k)).length ≤ c ∧ L = (catP (ps.drop k)).take (c - (catP (ps.take k)).length)) ∨ (e = 110 ∧ W < k))
theorem pinv_end {ps : List (List Int)} {c k : Nat} {L : List Int} {e : Int} {W : Nat} (h : PInv ps c k L e W) (hk : ps.length ≤ k) (hc : c < (catP ps).length) : e = 110 ∧ W < ps.length := by
  obtain ⟨h1, h2 | h2⟩ := h
  · have := h2.2.2.1
    rw [List.take_of_length_le hk] at this
    omega
  · exact ⟨h2.1, by omega⟩
theorem pinv_go {ps : List (List Int)} {c k : Nat} {L : List Int} {W : Nat} (h : PInv ps c k L 0 W) (hk : k < ps.length) (hn : (partB ps[k]).length ≤ c - (catP (ps.take k)).length) : PInv ps c (k + 1) ((catP (ps.drop (k + 1))).take (c - (catP (ps.take k)).length - (partB ps[k]).length)) 0 (W + 1) := by
  obtain ⟨h1, h2 | h2⟩ := h
  · have hs : (catP (ps.take (k + 1))).length = (catP (ps.take k)).length + (partB ps[k]).length := by rw [catP_succ hk, List.length_append]
    have h3 := h2.2.2.1
    refine ⟨by omega, .inl ⟨rfl, by omega, by omega, ?_⟩⟩
    rw [hs, Nat.sub_sub]
  · exact absurd h2.1 (by decide)
theorem pinv_bad {ps : List (List Int)} {c k : Nat} {L L' : List Int} {W : Nat} (h : PInv ps c k L 0 W) (hk : k < ps.length) : PInv ps c (k + 1) L' 110 W := by
  obtain ⟨h1, h2 | h2⟩ := h
  · exact ⟨by omega, .inr ⟨rfl, by omega⟩⟩
  · exact absurd h2.1 (by decide)
theorem pinv_stay {ps : List (List Int)} {c k : Nat} {L : List Int} {e : Int} {W : Nat} (h : PInv ps c k L e W) (hk : k < ps.length) (he : e ≠ 0) : PInv ps c (k + 1) L e W := by
  obtain ⟨h1, h2 | h2⟩ := h
  · exact absurd h2.1 he
  · exact ⟨by omega, .inr ⟨h2.1, by omega⟩⟩
theorem u64_nonneg (z : Int) : 0 ≤ IntKind.u64.wrap z := by rw [IntKind.wrap_u64]; omega

end Oct
end Go.Proofs.Ytfdmfklofgmpfaa
