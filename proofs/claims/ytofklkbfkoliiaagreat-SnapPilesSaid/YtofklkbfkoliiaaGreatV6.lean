/- Fields one by one; bytes of numbers; what is taken, step by step; laying: numbers and ids; laying: vectors; taking: numbers; taking: vectors; taking from the front of bytes; what laws say of bytes; what laws say of patches; what laws say of canvases read; errors by panics; numbers laid and got; rows put together; pieces and piles: which may be; piles that change; pieces put, one by one; piles: what putting makes of them; piles with a piece more. No condition. -/
import Derived.Test.YtofklkbfkoliiaaGreatV5
import Derived.Test.YtofklkbfkoliiaaGreatRows
set_option maxRecDepth 4000
set_option maxHeartbeats 1000000
open List renaming getElem?_eq_getElem → qbr, length_append → qbz, cons_append → qbD, nil_append → qbF, replicate → qbH, flatMap_cons → qbJ, length_replicate → qbN, getElem?_append_right → qbO, take_succ_eq_append_getElem → qbP, length_take → qbS, eq_nil_of_length_eq_zero → qbU, getD_eq_getElem?_getD → qbV, length_cons → qbW, append_assoc → qbY, length_drop → qbZ, mem_cons_self → qb1, mem_cons_of_mem → qb4, mem_of_getElem? → qb7, getElem_mem → qb9, getElem_of_mem → qcc, length_nil → qce, take_length → qch, append_nil → qci
open Nat renaming zero_add → qbs, reduceAdd → qbt, le_of_ble_eq_true → qbA, le_trans → qbK, le_refl → qbM, lt_of_succ_le → qb0, zero_le → qb3, mul_le_mul_right → qb6
open Bool renaming and_eq_true → qbu, or_eq_false_iff → qbv, not_eq_true' → qbx, not_eq_false' → qby, or_eq_true → qbE
open Option.some renaming inj → qbw
open Go.IntWalk renaming i64_in → qbB
open Int renaming not_lt → qbQ, not_le → qbR, toNat_natCast → qcb
namespace Go.Proofs.YtofklkbfkoliiaaGreat
set_option linter.unusedVariables false
set_option linter.unusedSimpArgs false
open Go.RowKit
section
variable {α β γ : Type}
theorem Tk.bind_bind (t : Tk α) (f : α → List Int → Tk β) (g : β → List Int → Tk γ) : (t.bind f).bind g = t.bind fun a r => (f a r).bind g := by cases t <;> rfl
theorem Tk.ok_bind (a : α) (r : List Int) (f : α → List Int → Tk β) : (Tk.ok a r).bind f = f a r := rfl
theorem Tk.err_bind (e : Int) (f : α → List Int → Tk β) : (Tk.err e : Tk α).bind f = .err e := rfl
theorem Tk.if_bind (p : Bool) (s t : Tk α) (f : α → List Int → Tk β) : (if p = true then s else t).bind f = if p = true then s.bind f else t.bind f := by split <;> rfl
theorem Tk.bind_congr {t : Tk α} {f g : α → List Int → Tk β} (h : ∀ a r, f a r = g a r) : t.bind f = t.bind g := by rw [show f = g from funext fun a => funext fun r => h a r]
theorem Tk.bind_ok {t : Tk α} {f : α → List Int → Tk β} {x : β} {r : List Int} (h : t.bind f = .ok x r) : ∃ a q, t = .ok a q ∧ f a q = .ok x r := by
 cases t with
 | ok a q => exact ⟨a, q, rfl, h⟩
 | err e => cases h
theorem Tk.bind_err {t : Tk α} {f : α → List Int → Tk β} {e : Int} (h : t.bind f = .err e) : t = .err e ∨ ∃ a q, t = .ok a q ∧ f a q = .err e := by
 cases t with
 | ok a q => exact .inr ⟨a, q, rfl, h⟩
 | err e' => cases h; exact .inl rfl
end
def okL (l : List Int) : Prop := isB l ∧ l.length ≤ 40000
theorem qaN {α : Type} {S : Int} {ok : α → Prop} {lay : α → List Int} {tk : Tkr α} (c : Cd S ok lay tk) {l r : List Int} {a : α} (h : okL l) (e : tk l = .ok a r) : okL r := by
 obtain ⟨h1, _⟩ := c.bwd l a r h.1 e
 refine ⟨(isB_app.1 (h1 ▸ h.1)).2, ?_⟩
 have := h.2
 rw [h1, qbz] at this
 omega
abbrev tN := tkN 110
abbrev tId : Tkr I3 := tkId 110 290
abbrev tCo : Tkr C4 := Xl 110
abbrev tSi : Tkr Int := tkSi 110 290
abbrev tSt : Tkr ((Int × Int) × List C4) := tkSt 110 290
abbrev tPl : Tkr Int := tkPl 110
abbrev tOp : Tkr OpM := Xm 110 290
abbrev tRow : Tkr (List OpM) := Xn 110 290
abbrev vW : Tkr Vec := Yj 110 290
theorem Ve {w : Nat} {l r : List Int} {n : Int} (h : okL l) (e : tN w l = .ok n r) : w ≤ l.length ∧ r = l.drop w ∧ n = (jC (l.take w) 0 : Int) ∧ (0 ≤ n ∧ n < (256 ^ w : Nat)) ∧ okL r := by
 refine ⟨?_, ?_, ?_, ((cdN 110 w).bwd l n r h.1 e).2, qaN (cdN 110 w) h e⟩
 all_goals
  unfold tN tkN at e
  split at e
  ·cases e
  ·cases e
   first | omega | rfl
theorem Xq {w : Nat} {l : List Int} {e : Int} (h : tN w l = .err e) : l.length < w ∧ e = 110 := by
 unfold tN tkN at h
 split at h
 ·cases h
  exact ⟨by assumption, rfl⟩
 ·cases h
def JY : Nat → List Nat
 | 1 => [0, 1, 2, 3, 4, 5]
 | 2 => [0, 1, 2, 3, 4, 5]
 | 3 => [0, 1, 2, 3, 5]
 | 4 => [0, 1, 2, 3, 5]
 | 5 => [0, 1, 4, 5]
 | 6 => [0, 1, 6]
 | 7 => [7]
 | 8 => [7]
 | _ => []
def tkF (f : Nat) (o : OpM) : Tkr OpM := fun b => match f with
 | 0 => (tPl b).bind fun a r => .ok { o with x := a } r
 | 1 => (tPl b).bind fun a r => .ok { o with y := a } r
 | 2 => (tPl b).bind fun a r => .ok { o with x2 := a } r
 | 3 => (tPl b).bind fun a r => .ok { o with y2 := a } r
 | 4 => (tN 2 b).bind fun a r => .ok { o with sz := a } r
 | 5 => (tCo b).bind fun a r => .ok { o with co := a } r
 | 6 => (tSt b).bind fun a r => .ok { o with sw := a.1.1, sh := a.1.2, px := a.2 } r
 | _ => (tId b).bind fun a r => .ok { o with tg := a } r
def Xr : List Nat → OpM → Tkr OpM
 | [], o, b => if opB o then .ok o b else .err 290
 | f :: fs, o, b => (tkF f o b).bind fun o' r => Xr fs o' r
def mk0 (k : Int) (i : I3) : OpM := ⟨i, k, 0, 0, 0, 0, 0, zC4, 0, 0, [], zI3⟩
theorem qaO (b : List Int) : tOp b = (tN 1 b).bind fun k r => if isK k = true then (tId r).bind fun i r => Xr (JY k.toNat) (mk0 k i) r else .err 290 := by
 unfold tOp Xm
 simp only [Tk.bind_bind, Tk.if_bind, Tk.ok_bind, Tk.err_bind]
 refine Tk.bind_congr fun k r => ?_
 by_cases hk : isK k = true
 ·rw [if_pos hk, if_pos hk]
  have h8 : 1 ≤ k ∧ k ≤ 8 := by unfold isK at hk; simpa using hk
  have : k = 1 ∨ k = 2 ∨ k = 3 ∨ k = 4 ∨ k = 5 ∨ k = 6 ∨ k = 7 ∨ k = 8 := by omega
  rcases this with rfl | rfl | rfl | rfl | rfl | rfl | rfl | rfl <;>
   simp [tkK, Wu, cd12, cd34, cd5, cd6, cd78, JY, Xr, tkF, mk0, Tk.bind_bind, Tk.ok_bind, Tk.if_bind, Tk.err_bind]
 ·rw [if_neg hk, if_neg hk]
theorem Z8 (b : List Int) : tRow b = (tN 1 b).bind fun a r => if isM a = true then gX tOp a.toNat r else .err 290 := by
 unfold tRow Xn
 simp only [Tk.bind_bind, Tk.if_bind, Tk.ok_bind, Tk.err_bind]
 refine Tk.bind_congr fun a r => ?_
 by_cases h : isM a = true
 ·rw [if_pos h, if_pos h]
  cases gX (Xm 110 290) a.toNat r <;> rfl
 ·rw [if_neg h, if_neg h]
def wT : Nat → Vec → Tkr Vec
 | 0, v, b => if vB v then .ok v b else .err 290
 | n + 1, v, b => (tN 8 b).bind fun x r => wT n (upV v (8 - n) x.toNat) r
theorem qaP (x1 x2 x3 x4 x5 x6 x7 x8 : Int) : mkV [x1, x2, x3, x4, x5, x6, x7, x8] = upV (upV (upV (upV (upV (upV (upV (upV z9 (8 - 7) x1.toNat) (8 - 6) x2.toNat) (8 - 5) x3.toNat) (8 - 4) x4.toNat) (8 - 3) x5.toNat) (8 - 2) x6.toNat) (8 - 1) x7.toNat) (8 - 0) x8.toNat := by
 funext i
 unfold mkV upV
 have : i = 0 ∨ i = 1 ∨ i = 2 ∨ i = 3 ∨ i = 4 ∨ i = 5 ∨ i = 6 ∨ i = 7 ∨ i = 8 ∨ 9 ≤ i := by omega
 rcases this with rfl | rfl | rfl | rfl | rfl | rfl | rfl | rfl | rfl | h
 all_goals first | rfl | skip
 rw [if_neg (by omega), if_neg (by omega), if_neg (by omega), if_neg (by omega), if_neg (by omega), if_neg (by omega), if_neg (by omega), if_neg (by omega), if_neg (by omega)]
 rfl
theorem JZ (b : List Int) : vW b = wT 8 z9 b := by
 unfold vW Yj
 simp only [gX, wT, Tk.bind_bind, Tk.ok_bind]
 refine Tk.bind_congr fun x1 r => Tk.bind_congr fun x2 r => Tk.bind_congr fun x3 r => Tk.bind_congr fun x4 r => Tk.bind_congr fun x5 r => Tk.bind_congr fun x6 r => Tk.bind_congr fun x7 r => Tk.bind_congr fun x8 r => ?_
 rw [qaP]
theorem qaQ (b : List Int) : tId b = (tN 8 b).bind fun t r => (tN 1 r).bind fun s r => (tN 8 r).bind fun q r => if uS ⟨t, s, q⟩ = true then .ok ⟨t, s, q⟩ r else .err 290 := by
 unfold tId tkId Ax
 simp only [Tk.bind_bind, Tk.ok_bind]
theorem qaR (b : List Int) : tCo b = (tN 1 b).bind fun x r => (tN 1 r).bind fun y r => (tN 1 r).bind fun z r => (tN 1 r).bind fun w r => .ok ⟨x, y, z, w⟩ r := by
 unfold tCo Xl
 simp only [Tk.bind_bind, Tk.ok_bind]
theorem qaS (b : List Int) : tSt b = (tSi b).bind fun w r => (tSi r).bind fun h r => (gX tCo (w * h).toNat r).bind fun l r => .ok ((w, h), l) r := by
 unfold tSt tkSt
 simp only [Tk.bind_bind, Tk.ok_bind]
theorem Z9 {a b : Nat} (ha : a < 72057594037927936) (hb : b < 256) : V2 (a : Int) (b : Int) = ((a * 256 + b : Nat) : Int) := by
 have h := A6 (n := a) (b := b) (j := 8) (by omega) (by omega)
 unfold V2
 rw [IntWalk.u64_in _ (by omega), IntWalk.u64_in _ (by omega), h]
 omega
theorem Yk : ∀ (l : List Int) (a : Nat), isB l → (a + 1) * 256 ^ l.length ≤ 18446744073709551616 → l.foldl V2 (a : Int) = (jC l a : Int)
 | [], a, _, _ => rfl
 | x :: l, a, h, hb => by
  have hx := h x (qb1 ..)
  have hl : isB l := fun y hy => h y (qb4 _ hy)
  have hp : 0 < 256 ^ l.length := z2 _
  rw [qbW, Nat.pow_succ] at hb
  have ha : a < 72057594037927936 := by
   have : (a + 1) * 256 ≤ (a + 1) * (256 ^ l.length * 256) := Nat.mul_le_mul_left _ (by omega)
   omega
  obtain ⟨m, rfl⟩ : ∃ m : Nat, x = m := ⟨x.toNat, by omega⟩
  rw [List.foldl_cons, Z9 ha (by omega), Yk l (a * 256 + m) hl ?_]
  ·unfold jC
   rw [List.foldl_cons, qcb]
  ·have : (a * 256 + m + 1) * 256 ^ l.length ≤ ((a + 1) * 256) * 256 ^ l.length := qb6 _ (by omega)
   rw [Nat.mul_assoc (a + 1), Nat.mul_comm 256] at this
   omega
theorem xn {w : Nat} {l : List Int} (h : isB l) (hw : w ≤ 8) (hl : w ≤ l.length) : kG w l = (jC (l.take w) 0 : Int) := by
 unfold kG
 refine Yk (l.take w) 0 (fun x hx => h x (List.mem_of_mem_take hx)) ?_
 rw [qbS, Nat.min_eq_left hl, qbs, Nat.one_mul]
 exact qbK (Nat.pow_le_pow_right (n := 256) (by decide) hw) (by decide)
theorem qaT {n : Int} (hn : 0 ≤ n) (w : Nat) : Y7 n w = k7 w n := by
 obtain ⟨m, rfl⟩ : ∃ m : Nat, n = m := ⟨n.toNat, by omega⟩
 unfold k7
 rw [qcb]
 induction w with
 | zero => rfl
 | succ w ih => rw [V4, ih]; rfl
theorem Yl {w : Nat} {n : Int} (hw : 1 ≤ w ∧ w ≤ 8) (hn : 0 ≤ n) : vH w n = k7 w n := by rw [V5 n w hw, qaT hn]
theorem Xs {w : Nat} {n : Int} (hn : 0 ≤ n ∧ n < (256 ^ w : Nat)) : KW w n = true := by
 have e : n / 2 ^ (8 * w) = 0 := Int.ediv_eq_zero_of_lt hn.1 (by
  rw [Int.pow_mul]
  have h2 := hn.2
  rw [Int.natCast_pow] at h2
  exact h2)
 unfold KW
 rw [e]
 simp
theorem gh (w : Nat) (n : Int) : (k7 w n).length = w := u0 _ _
theorem qaU {w : Nat} {l r : List Int} {n : Int} (h : okL l) (hw : w ≤ 8) (e : tN w l = .ok n r) : w ≤ l.length ∧ r = l.drop w ∧ n = kG w l ∧ (0 ≤ n ∧ n < (256 ^ w : Nat)) ∧ okL r := by
 obtain ⟨h1, h2, h3, h4, h5⟩ := Ve h e
 exact ⟨h1, h2, by rw [h3, xn h.1 hw h1], h4, h5⟩
theorem Az {k : Nat} {x : Mem} : (qbH k Mem.gone ++ [x])[k]? = some x := by
 rw [qbO (by rw [qbN]; omega), qbN, Nat.sub_self]
 rfl
theorem qaV {k : Nat} {x : Mem} : (qbH k Mem.gone ++ [x]).length = k + 1 := by
 rw [qbz, qbN]
 rfl
theorem qaW {k : Nat} {x : Mem} : (qbH k Mem.gone ++ [x]).set k .gone = qbH (k + 1) Mem.gone := by
 rw [List.set_append_right _ _ (by rw [qbN]; omega), qbN, Nat.sub_self, List.replicate_succ']
 rfl
abbrev fmY (k : Nat) (l : List Int) : Blk := .fam (qbH k .gone ++ [.arr 5 1 l.length (l.flatMap uc8)])
theorem fm_eq {k m m' : Nat} {x : Mem} {L L' : List Value} (h : m = m') (h' : L = L') : some (Blk.fam ((qbH k Mem.gone ++ [x]).set k .gone ++ [.arr 5 1 m L])) = some (Blk.fam (qbH (k + 1) .gone ++ [.arr 5 1 m' L'])) := by
 rw [qaW, h, h']
theorem qaX {k : Nat} {x : Mem} {l l2 : List Int} : some (Blk.fam ((qbH k Mem.gone ++ [x]).set k .gone ++ [.arr 5 1 (l.length + l2.length) (l.flatMap uc8 ++ l2.flatMap uc8)])) = some (fmY (k + 1) (l ++ l2)) := fm_eq (by rw [qbz]) (by rw [List.flatMap_append])
theorem AA {w : Nat} {l r : List Int} {n : Int} (h : okL l) (e : tN w l = .ok n r) : okL r := (Ve h e).2.2.2.2
theorem Ha {l : List Int} (h : okL l) : l.length ≤ 2000000 := qbK h.2 (by decide)
theorem Hb {j : Nat} (hj : j < 8) {u v : Vec} {l r : List Int} (h : wT (8 - j) u l = .ok v r) : ∃ n q, tN 8 l = .ok n q ∧ wT (8 - (j + 1)) (upV u (j + 1) n.toNat) q = .ok v r := by
 rw [show 8 - j = (8 - (j + 1)) + 1 by omega] at h
 obtain ⟨n, q, h1, h2⟩ := Tk.bind_ok h
 rw [show 8 - (8 - (j + 1)) = j + 1 by omega] at h2
 exact ⟨n, q, h1, h2⟩
theorem Hc {j : Nat} (hj : j < 8) {u : Vec} {l : List Int} {e : Int} (h : wT (8 - j) u l = .err e) : tN 8 l = .err e ∨ ∃ n q, tN 8 l = .ok n q ∧ wT (8 - (j + 1)) (upV u (j + 1) n.toNat) q = .err e := by
 rw [show 8 - j = (8 - (j + 1)) + 1 by omega] at h
 rcases Tk.bind_err h with h1 | ⟨n, q, h1, h2⟩
 ·exact .inl h1
 ·rw [show 8 - (8 - (j + 1)) = j + 1 by omega] at h2
  exact .inr ⟨n, q, h1, h2⟩
theorem qaY {j : Nat} (hj : ¬ j < 8) {u v : Vec} {l r : List Int} (h : wT (8 - j) u l = .ok v r) : vB v = true ∧ u = v ∧ l = r := by
 rw [show 8 - j = 0 by omega] at h
 unfold wT at h
 split at h
 ·cases h
  exact ⟨by assumption, rfl, rfl⟩
 ·cases h
theorem Hd {j : Nat} (hj : ¬ j < 8) {u : Vec} {l : List Int} {e : Int} (h : wT (8 - j) u l = .err e) : vB u = false ∧ e = 290 := by
 rw [show 8 - j = 0 by omega] at h
 unfold wT at h
 split at h
 ·cases h
 ·cases h
  exact ⟨by simpa using ‹¬ vB u = true›, rfl⟩
def Er {α : Type} (t : Tk α) : Prop := ∀ e, t = .err e → e = 110 ∨ e = 290
theorem Er.ok {α : Type} {a : α} {r : List Int} : Er (Tk.ok a r) := fun e h => by cases h
theorem Er.e1 {α : Type} : Er (Tk.err 110 : Tk α) := fun e h => by cases h; exact .inl rfl
theorem Er.e2 {α : Type} : Er (Tk.err 290 : Tk α) := fun e h => by cases h; exact .inr rfl
theorem Er.bind {α β : Type} {t : Tk α} {f : α → List Int → Tk β} (h : Er t) (k : ∀ a r, Er (f a r)) : Er (t.bind f) := fun e he => by
 rcases Tk.bind_err he with h1 | ⟨a, q, _, h2⟩
 ·exact h e h1
 ·exact k a q e h2
theorem Er.ite {α : Type} {p : Bool} {s t : Tk α} (h : Er s) (k : Er t) : Er (if p = true then s else t) := by
 split
 ·exact h
 ·exact k
theorem Er.N (w : Nat) (b : List Int) : Er (tN w b) := fun e h => .inl (Xq h).2
theorem Er.rep {α : Type} {tk : Tkr α} (h : ∀ b, Er (tk b)) : ∀ n b, Er (gX tk n b)
 | 0, b => Er.ok
 | n + 1, b => Er.bind (h b) fun a r => Er.bind (Er.rep h n r) fun l r => Er.ok
theorem Er.I (b : List Int) : Er (tId b) := by
 rw [qaQ]
 exact Er.bind (Er.N 8 b) fun _ r => Er.bind (Er.N 1 r) fun _ r => Er.bind (Er.N 8 r) fun _ r => Er.ite Er.ok Er.e2
theorem Er.C (b : List Int) : Er (tCo b) := by
 rw [qaR]
 exact Er.bind (Er.N 1 b) fun _ r => Er.bind (Er.N 1 r) fun _ r => Er.bind (Er.N 1 r) fun _ r => Er.bind (Er.N 1 r) fun _ r => Er.ok
theorem Er.S (b : List Int) : Er (tSt b) := by
 rw [qaS]
 exact Er.bind (Er.bind (Er.N 1 b) fun _ r => Er.ite Er.ok Er.e2) fun _ r => Er.bind (Er.bind (Er.N 1 r) fun _ r => Er.ite Er.ok Er.e2) fun _ r => Er.bind (Er.rep Er.C _ r) fun _ r => Er.ok
theorem Er.V (b : List Int) : Er (vW b) := by
 rw [JZ]
 have go : ∀ n v b, Er (wT n v b) := fun n => by
  induction n with
  | zero => exact fun v b => Er.ite Er.ok Er.e2
  | succ n ih => exact fun v b => Er.bind (Er.N 8 b) fun x r => ih _ r
 exact go 8 z9 b
theorem Er.F (f : Nat) (o : OpM) (b : List Int) : Er (tkF f o b) := by
 unfold tkF
 split
 ·exact Er.bind (Er.bind (Er.N 1 b) fun _ _ => Er.ok) fun _ _ => Er.ok
 ·exact Er.bind (Er.bind (Er.N 1 b) fun _ _ => Er.ok) fun _ _ => Er.ok
 ·exact Er.bind (Er.bind (Er.N 1 b) fun _ _ => Er.ok) fun _ _ => Er.ok
 ·exact Er.bind (Er.bind (Er.N 1 b) fun _ _ => Er.ok) fun _ _ => Er.ok
 ·exact Er.bind (Er.N 2 b) fun _ _ => Er.ok
 ·exact Er.bind (Er.C b) fun _ _ => Er.ok
 ·exact Er.bind (Er.S b) fun _ _ => Er.ok
 ·exact Er.bind (Er.I b) fun _ _ => Er.ok
theorem Er.Fs : ∀ fs o b, Er (Xr fs o b)
 | [], o, b => Er.ite Er.ok Er.e2
 | f :: fs, o, b => Er.bind (Er.F f o b) fun o' r => Er.Fs fs o' r
theorem Er.O (b : List Int) : Er (tOp b) := by
 rw [qaO]
 exact Er.bind (Er.N 1 b) fun k r => Er.ite (Er.bind (Er.I r) fun i r => Er.Fs _ _ r) Er.e2
theorem Er.R (b : List Int) : Er (tRow b) := by
 rw [Z8]
 exact Er.bind (Er.N 1 b) fun k r => Er.ite (Er.rep Er.O _ r) Er.e2
end Go.Proofs.YtofklkbfkoliiaaGreat
namespace Go.Proofs.YtofklkbfkoliiaaGreat
set_option linter.unusedVariables false
set_option linter.unusedSimpArgs false
open Go.RowKit
theorem qaZ (w : Nat) (n : Int) (hw : 1 ≤ w ∧ w ≤ 8) (hn : 0 ≤ n ∧ n < (256 ^ w : Nat)) : DFun Tryz.prog 108 [.slf 1 0 [], .val (.int .i64 (w : Int)), .val (.int .u64 n)] [] (.tup [.slf 1 (k7 w n).length ((k7 w n).flatMap uc8), .val (.int .i64 0)]) [] := by
 have h := ZR [] w n (by decide) hw (Xs hn)
 rw [qbF, Yl hw hn.1] at h
 exact h
theorem qa0 (o : OpM) (k : Nat) (l : List Int) (w : Nat) (n : Int) (hw : 1 ≤ w ∧ w ≤ 8) (hn : 0 ≤ n ∧ n < (256 ^ w : Nat)) (hl : l.length ≤ 50000) : DFun Tryz.prog 85 [.loc 0 0, .val (.int .i64 (w : Int)), .val (.int .u64 n)] [.mix 140 (opD o ++ [.farr 1 k]), fmY k (l)] (.tup []) [.mix 140 (opD o ++ [.farr 1 (k + 1)]), fmY (k + 1) (l ++ k7 w n)] := by
 refine zap (N := 23) 2 (by kernel_rfl) Tryz.func85 rfl rfl rfl (by simp only [fr0, qbs, qbt]; exact rfl) rfl fun s0 hs0 => ?_
 refine zah ?_
 refine zaa 2 rfl ?_
 refine za rfl (zaj [] [] [] rfl (ev1 rfl) (ec (Ui 1 (ev1 rfl)) (ec (ev1 rfl) (ec (ev1 rfl) en))) rfl rfl (qaZ w n hw hn) rfl rfl rfl rfl rfl rfl) ?_
 refine zaa 5 rfl ?_
 refine zab ?_
 have hlw := gh w n
 refine zao 2 ?_
 refine zac ?_
 refine zaa 2 rfl ?_
 refine za rfl (qt rfl (ev1 rfl) (fun s v h => by cases h; exact ⟨_, rfl⟩)) ?_
 refine za rfl (zam rfl JS (ev1 rfl)) ?_
 refine za rfl (zan rfl kD (ev1 rfl) rfl rfl) ?_
 refine zaa 1 rfl ?_
 refine zak rfl ((QU (j1 := 2) (j2 := 3) rfl rfl qG zr5 rfl (ev1 rfl) (ev1 rfl) rfl (Az) rfl rfl rfl (fun _ => yB (fun _ => rfl) _) (fun _ => ⟨by omega, by omega⟩)).cast (d' := .farr 1 (k + 1)) (by rw [qaV])) ?_
 refine za rfl (qt rfl (ev1 rfl) (fun s v h => by cases h; exact ⟨_, rfl⟩)) ?_
 refine za rfl (zam rfl JS (ev1 rfl)) ?_
 refine zas rfl (kJ rfl kD (ev1 rfl) (ev1 rfl) (fun s v h => by cases h <;> exact ⟨rfl, rfl⟩) rfl (by first | decide | exact qbA rfl | simp)) ?_
 refine zab ?_
 refine ko [0, 1] (qH rfl) rfl rfl ?_ ⟨?_, ?_, trivial⟩
 rfl
 rfl
 exact qaX
theorem qa1 {k k' : Nat} {l l' : List Int} (h : k = k') (h' : l = l') : some (fmY k l) = some (fmY k' l') := by rw [h, h']
end Go.Proofs.YtofklkbfkoliiaaGreat
namespace Go.Proofs.YtofklkbfkoliiaaGreat
set_option linter.unusedVariables false
set_option linter.unusedSimpArgs false
open Go.RowKit
theorem Xt {σ : List Nat} {V : Nat → Bool} {M : List Blk} {Bs : List Mem} {e : TypeId} {j k sz m : Nat} {L : List Value} (hpj : pos σ j = none) (hVj : V j = true) (hMj : M[j]? = some (.fam Bs)) (hB : Bs[k]? = some (.arr e sz m L)) : vw σ V M (.farr j k) = some (.slf sz m L) := by
 unfold vw
 rw [hpj]
 show yN V M j k = _
 unfold yN
 rw [hVj, hMj]
 show (match Bs[k]? with | some (.arr _ sz n L) => some (D.slf sz n L) | _ => none) = _
 rw [hB]
theorem He (o : OpM) (k : Nat) (l : List Int) (hl : l.length ≤ 50000) : DFun Tryz.prog 86 [.loc 0 0] [.mix 140 (opD o ++ [.farr 1 k]), fmY k (l)] (.arr 2) [.mix 140 (opD o ++ [.farr 1 k]), fmY k (l), .arr 5 1 (l).length ((l).flatMap uc8)] := by
 refine zap (N := 8) 2 (by kernel_rfl) Tryz.func86 rfl rfl rfl (by simp only [fr0, qbs, qbt]; exact rfl) rfl fun s0 hs0 => ?_
 refine zah ?_
 refine zaa 1 rfl ?_
 refine zab ?_
 refine zae ?_
 refine zao 1 ?_
 refine zac ?_
 refine zaa 1 rfl ?_
 refine za rfl (qt rfl (ev1 rfl) (fun s v h => by cases h; exact ⟨_, rfl⟩)) ?_
 refine za rfl (zam rfl JS (ev1 rfl)) ?_
 refine za rfl (zan rfl kD (ev1 rfl) rfl rfl) ?_
 refine zak rfl (zaj [] [1] [2] rfl (ev1 rfl) (ec (ev1 rfl) en) (gu (Xt rfl rfl rfl Az) rfl) rfl (Qh l (by omega)) rfl rfl rfl rfl rfl rfl) ?_
 refine zaa 1 rfl ?_
 refine zab ?_
 refine qa ?_
 refine ko [0, 1, 2] (rs1 rfl (qL rfl)) rfl rfl ?_ ⟨rfl, rfl, rfl, trivial⟩
 rfl
def zO : OpM := ⟨zI3, 0, 0, 0, 0, 0, 0, zC4, 0, 0, [], zI3⟩
theorem wkZ : WkL ([.int .u64 0, .int .i64 0, .int .u64 0, .int .i64 0, .int .i64 0, .int .i64 0, .int .i64 0, .int .i64 0, .int .i64 0, .int .u8 0, .int .u8 0, .int .u8 0, .int .u8 0, .int .i64 0, .int .i64 0, .slice none 0 0, .int .u64 0, .int .i64 0, .int .u64 0, .slice none 0 0].map D.val) (opD zO ++ [.val (.slice none 0 0)]) :=
 WkL.cons (Wk.refl _) (WkL.cons (Wk.refl _) (WkL.cons (Wk.refl _) (WkL.cons (Wk.refl _) (WkL.cons (Wk.refl _) (WkL.cons (Wk.refl _) (WkL.cons (Wk.refl _) (WkL.cons (Wk.refl _) (WkL.cons (Wk.refl _) (WkL.cons (Wk.refl _) (WkL.cons (Wk.refl _) (WkL.cons (Wk.refl _) (WkL.cons (Wk.refl _) (WkL.cons (Wk.refl _) (WkL.cons (Wk.refl _) (WkL.cons (Wk.slf0 4) (WkL.cons (Wk.refl _) (WkL.cons (Wk.refl _) (WkL.cons (Wk.refl _) (WkL.cons (Wk.refl _) (WkL.nil))))))))))))))))))))
theorem Hf {v : Vec} (hv : vB v = true) {n : Int} (h : n ∈ gY v) : 0 ≤ n ∧ n < (256 ^ 8 : Nat) := by
 have e8 : ((256 ^ 8 : Nat) : Int) = 18446744073709551616 := by decide
 rw [e8]
 have h9 := (vB_iff.1 hv).2
 unfold gY at h
 simp only [List.mem_cons, List.not_mem_nil, or_false] at h
 have a1 := h9 1 (by decide)
 have a2 := h9 2 (by decide)
 have a3 := h9 3 (by decide)
 have a4 := h9 4 (by decide)
 have a5 := h9 5 (by decide)
 have a6 := h9 6 (by decide)
 have a7 := h9 7 (by decide)
 have a8 := h9 8 (by decide)
 unfold LAST at a1 a2 a3 a4 a5 a6 a7 a8
 rcases h with h | h | h | h | h | h | h | h <;> subst h <;> omega
theorem K9 (l : List Int) : (wq l).length = 8 * l.length := by
 unfold wq
 induction l with
 | nil => rfl
 | cons a l ih => rw [qbJ, qbz, ih, gh, qbW]; omega
theorem Qj {l : List Int} {j : Nat} (h : j < l.length) : wq (l.take (j + 1)) = wq (l.take j) ++ k7 8 l[j] := by
 unfold wq
 rw [qbP h, List.flatMap_append]
 simp
theorem qa2 (v : Vec) (hv : vB v = true) : DFun Tryz.prog 50 [.val (.agg (c9 v).toArray)] [] (.tup [.arr 0, .val (.int .i64 0)]) [.arr 5 1 (vL v).length ((vL v).flatMap uc8)] := by
 refine zap (N := 26) 0 (by kernel_rfl) Tryz.func50 rfl rfl rfl (by simp only [fr0, qbs, qbt]; exact rfl) rfl fun s0 hs0 => ?_
 refine zae ?_
 refine zao 1 ?_
 refine zac ?_
 refine zak rfl (gK 0 rfl (ev1 rfl) rfl) ?_
 refine zaa 2 rfl ?_
 refine zab ?_
 refine zae ?_
 refine zah ?_
 refine za rfl (kT rfl gR (ev1 rfl) rfl rfl) ?_
 refine za rfl (zaj [] [] [] rfl (ev1 rfl) (ec (ev1 rfl) en) rfl rfl (uV v) rfl rfl rfl rfl rfl rfl) ?_
 refine zaa 1 rfl ?_
 refine zab ?_
 refine zah ?_
 refine zaa 1 rfl ?_
 refine za rfl (qT rfl (ev1 rfl) (ev1 rfl)) ?_
 refine zab ?_
 refine qc rfl (by rw [hv]; rfl) ?_
 refine zar ?_
 refine zae ?_
 refine zao 1 ?_
 refine zac ?_
 refine zak rfl (zaq 1 rfl zr140 rfl) ?_
 refine zab ?_
 refine zae ?_
 refine jg 1 yZ rfl rfl (by simp only [qbD, qbF, zaf, zag, List.map]; exact rfl) ?_
 refine jg 1 (Y2 wkZ) rfl rfl (by simp only [qbD, qbF, zaf, zag, List.map]; exact rfl) ?_
 refine yR (l' := opD zO ++ [.arr 2]) 1 19 5 1 rfl rfl rfl rfl (by simp only [qbD, qbF, zaf, zag, qbW, qce, qbs, qbt]; exact rfl) ?_
 refine jg 2 JN rfl rfl (by simp only [qbD, qbF, zaf, zag, qbW, qce, qbs, qbt]; exact rfl) ?_
 refine ym ?_
 refine JK 3 rfl (by simp only [qbD, qbF, zaf, zag, qbW, qce, qbs, qbt]; exact rfl) ?_
 refine GT 1 19 3 rfl rfl rfl rfl (by simp only [qbD, qbF, zaf, zag, qbW, qce, qbs, qbt]; exact rfl) ?_
 refine zac ?_
 refine za rfl (qV rfl (ec (ev1 rfl) en) en) ?_
 refine zaa 1 rfl ?_
 refine zab ?_
 refine zae ?_
 refine zae ?_
 refine GH ⟨hs0, rfl⟩ [1, 3] [0] [(1, _), (2, _), (3, _), (5, _), (6, _)] [_, _] rfl ⟨rfl, rfl, rfl, rfl, rfl, trivial⟩ ⟨rfl, rfl, trivial⟩ ?_
 refine zac ?_
 refine za rfl (Zt (p := 1) (q := 9) rfl ar27 (vg (ev1 rfl) (Wk.of_eq (show D.dpf (c9 v) = D.dpf ((((v 0 : Nat) : Int) :: gY v).flatMap uc) from rfl))) (jf (ev1 rfl)) wI (fun _ => rfl) (fun _ => rfl) (fun _ => by decide) (rfl) (by decide) (fun _ => rfl)) ?_
 refine za rfl ((qE rfl KX (ev1 rfl)).cast (d' := .val (.int .i64 8)) (by rfl)) ?_
 refine zaa 1 rfl ?_
 refine zab ?_
 refine zat ?_
 refine qai 15 rfl (Wk.of_eq (show _ = .slf 1 (gY v).length ((gY v).flatMap uc) from rfl)) ?_
 refine qI ⟨hs0, rfl⟩ (α := Nat) (fun j => [(17, .val (.int .i64 (j : Int)))]) [(5, _), (6, _), (15, _), (16, _)] (fun j => [(0, .mix 140 (opD zO ++ [.farr 1 j])), (1, fmY j (wq ((gY v).take j)))]) [.hole, .hole] (fun j => j ≤ 8) (fun j => 8 - j) 0 [0, 1] (by omega) rfl ⟨rfl, rfl, rfl, rfl, trivial⟩ ⟨rfl, trivial⟩ ⟨rfl, rfl, trivial⟩ ?_
 intro j hx
 simp only [upd, zaf, zag, qbD, qbF]
 have hj := hx
 have hn8 : (gY v).length = 8 := rfl
 have hlj := K9 ((gY v).take j)
 rw [qbS] at hlj
 refine zah ?_
 refine za rfl (qv rfl (ev1 rfl) (ev1 rfl)) ?_
 refine zab ?_
 refine zae ?_
 refine qh rfl (fun c2 => ?_) (fun c2 => ?_)
 ·try simp only [decide_eq_true_eq, decide_eq_false_iff_not, beq_iff_eq, bne_iff_ne, beq_eq_false_iff_ne, bne_eq_false_iff_eq, qbx, qby, qbu, qbE, qbv, ne_eq, Decidable.not_not, qbQ, qbR] at c2
  refine zar ?_
  refine zae ?_
  refine zat ?_
  refine zah ?_
  refine za rfl (q0 (l := gY v) (en := uc) (j := j) rfl KX (ev1 rfl) (ev1 rfl) (fun _ => rfl) (by decide) (by omega) (by rw [hn8]; omega)) ?_
  refine za rfl (ke rfl qZ (ev1 rfl) rfl) ?_
  refine zaa 1 rfl ?_
  refine zab ?_
  refine zac ?_
  refine zaa 2 rfl ?_
  refine zak rfl (zaj [0, 1] [] [] rfl (ev1 rfl) (ec (ev1 rfl) (ec (ev1 rfl) en)) rfl rfl (qa0 zO j (wq ((gY v).take j)) 8 (gY v)[j] (by decide) (Hf hv (qb9 _)) (by omega)) rfl rfl rfl rfl rfl rfl) ?_
  refine zab ?_
  refine zac ?_
  refine za rfl (ql rfl (ev1 rfl) (ev1 rfl) (fun _ => qbB _ (by omega))) ?_
  refine zaa 1 rfl ?_
  refine zab ?_
  refine ⟨j + 1, [0, 1], by omega, by simp only []; omega, rfl, ⟨rfl, rfl, rfl, rfl, rfl, trivial⟩, ⟨rfl, qa1 rfl (by rw [Qj (by rw [hn8]; omega)]), trivial⟩⟩
 ·try simp only [decide_eq_true_eq, decide_eq_false_iff_not, beq_iff_eq, bne_iff_ne, beq_eq_false_iff_ne, bne_eq_false_iff_eq, qbx, qby, qbu, qbE, qbv, ne_eq, Decidable.not_not, qbQ, qbR] at c2
  refine qD ?_
  refine zae ?_
  obtain rfl : j = 8 := by omega
  refine zao 1 ?_
  refine zac ?_
  refine zak rfl (zaj [0, 1] [] [2] rfl (ev1 rfl) (ec (ev1 rfl) en) rfl rfl (He zO (8) (wq ((gY v).take 8)) (by omega)) rfl rfl rfl rfl rfl rfl) ?_
  refine zaa 2 rfl ?_
  refine zab ?_
  refine qa ?_
  refine ko [2] (rs2 rfl (qL rfl) (qL rfl)) rfl rfl ?_ ⟨rfl, trivial⟩
  rfl
end Go.Proofs.YtofklkbfkoliiaaGreat
namespace Go.Proofs.YtofklkbfkoliiaaGreat
set_option linter.unusedVariables false
set_option linter.unusedSimpArgs false
open Go.RowKit
attribute [local irreducible] tkN jC kG
theorem Xu : DFun Tryz.prog 115 [.val .nilIface] [] (.val (.int .i64 0)) [] := by
 refine zap (N := 13) 0 (by kernel_rfl) Tryz.func115 rfl rfl rfl (by simp only [fr0, qbs, qbt]; exact rfl) rfl fun s0 hs0 => ?_
 refine zah ?_
 refine zaa 1 rfl ?_
 refine zab ?_
 refine zae ?_
 refine zae ?_
 refine zao 1 ?_
 refine zac ?_
 refine zaa 1 rfl ?_
 refine za rfl (Jz rfl UP zv203 (ev1 rfl)) ?_
 refine zaa 3 rfl ?_
 refine zak rfl (zaq 0 rfl US rfl) ?_
 refine zas rfl (qY rfl Ao (ev1 rfl) (ev1 rfl) rfl rfl rfl rfl) ?_
 refine zaa 1 rfl ?_
 refine zab ?_
 refine zah ?_
 refine zaa 1 rfl ?_
 refine zab ?_
 refine qc rfl (rfl) ?_
 refine zar ?_
 refine zah ?_
 refine zaa 1 rfl ?_
 refine zab ?_
 refine qa ?_
 refine qx (rs1 rfl (qL rfl)) rfl ?_
 rfl
theorem Hg (n : Int) : DFun Tryz.prog 115 [.ifc 203 (.val (.agg #[.int .i64 n]))] [] (.val (.int .i64 n)) [] := by
 refine zap (N := 13) 0 (by kernel_rfl) Tryz.func115 rfl rfl rfl (by simp only [fr0, qbs, qbt]; exact rfl) rfl fun s0 hs0 => ?_
 refine zah ?_
 refine zaa 1 rfl ?_
 refine zab ?_
 refine zae ?_
 refine zae ?_
 refine zao 1 ?_
 refine zac ?_
 refine zaa 1 rfl ?_
 refine za rfl (Jy rfl UP (ev1 rfl)) ?_
 refine zaa 3 rfl ?_
 refine zak rfl (zaq 0 rfl US rfl) ?_
 refine zas rfl (qY rfl Ao (ev1 rfl) (ev1 rfl) rfl rfl rfl rfl) ?_
 refine zaa 1 rfl ?_
 refine zab ?_
 refine zah ?_
 refine zaa 1 rfl ?_
 refine zab ?_
 refine qJ rfl (rfl) ?_
 refine zah ?_
 refine za rfl (zam rfl ZP (ev1 rfl)) ?_
 refine za rfl (qB rfl qX (ev1 rfl) rfl rfl) ?_
 refine zaa 1 rfl ?_
 refine zab ?_
 refine qa ?_
 refine qx (rs1 rfl (qL rfl)) rfl ?_
 rfl
theorem u4 (b : Bool) (e : Int) (h : b = true) : DFun Tryz.prog 117 [.val (.bool b), .val (.int .i64 e)] [] (.tup []) [] := by
 refine zap (N := 9) 0 (by kernel_rfl) Tryz.func117 rfl rfl rfl (by simp only [fr0, qbs, qbt]; exact rfl) rfl fun s0 hs0 => ?_
 refine zah ?_
 refine zaa 1 rfl ?_
 refine za rfl (kv rfl (ev1 rfl)) ?_
 refine zab ?_
 refine qc rfl (by simp [h]) ?_
 refine zar ?_
 refine qx (qH rfl) rfl ?_
 rfl
theorem Ym (b : Bool) (e : Int) (h : b = false) : DPan Tryz.prog 117 [.val (.bool b), .val (.int .i64 e)] [] (.ifc 203 (.val (.agg #[.int .i64 e]))) [] := by
 refine zap (N := 9) 0 (by kernel_rfl) Tryz.func117 rfl rfl rfl (by simp only [fr0, qbs, qbt]; exact rfl) rfl fun s0 hs0 => ?_
 refine zah ?_
 refine zaa 1 rfl ?_
 refine za rfl (kv rfl (ev1 rfl)) ?_
 refine zab ?_
 refine qJ rfl (by simp [h]) ?_
 refine zac ?_
 refine zaa 1 rfl ?_
 refine za rfl (je (ps := [(0, .tmp 6)]) rfl fl203 US (vc (ev1 rfl) vn) rfl rfl) ?_
 refine za rfl (xy rfl UP (ev1 rfl)) ?_
 refine ky rfl (wg rfl (ev1 rfl)) rfl ?_
 refine Qz rfl ?_
 rfl
theorem ze (L : List Int) (e : Int) : DFun Tryz.prog 131 [.dpm [.slf 1 (L).length ((L).flatMap uc8), .val (.int .i64 e)]] [] (.val (.int .i64 e)) [] := by
 refine zap (N := 10) 0 (by kernel_rfl) Tryz.func131 rfl rfl rfl (by simp only [fr0, qbs, qbt]; exact rfl) rfl fun s0 hs0 => ?_
 refine zah ?_
 refine zaa 1 rfl ?_
 refine zab ?_
 refine zae ?_
 refine zah ?_
 refine zaa 1 rfl ?_
 refine za rfl (GM rfl Q4 (ev1 rfl)) ?_
 refine zab ?_
 refine qc rfl (rfl) ?_
 refine zar ?_
 refine zah ?_
 refine zaa 1 rfl ?_
 refine za rfl (qt rfl (ev1 rfl) (fun s v h => by cases h; exact ⟨_, rfl⟩)) ?_
 refine za rfl (xY rfl gA (ev1 rfl)) ?_
 refine za rfl (xY rfl yF (ev1 rfl)) ?_
 refine za rfl (jk rfl qX (ev1 rfl) rfl) ?_
 refine zaa 1 rfl ?_
 refine zab ?_
 refine qa ?_
 refine qx (rs1 rfl (qL rfl)) rfl ?_
 rfl
theorem Vf (o : OpM) (L : List Int) (hL : okL L) (w : Nat) (hw : 1 ≤ w ∧ w ≤ 8) (n : Int) (r : List Int) (h : tN w L = .ok n r) : DFun Tryz.prog 119 [.loc 0 0, .val (.int .i64 (w : Int))] [.mix 178 (.loc 1 0 :: opD o), .mix 206 [.slf 1 (L).length ((L).flatMap uc8), .val (.int .i64 0)]] (.val (.int .u64 n)) [.mix 178 (.loc 1 0 :: opD o), .mix 206 [.slf 1 (r).length ((r).flatMap uc8), .val (.int .i64 0)]] := by
 refine zap (N := 25) 2 (by kernel_rfl) Tryz.func119 rfl rfl rfl (by simp only [fr0, qbs, qbt]; exact rfl) rfl fun s0 hs0 => ?_
 refine zae ?_
 obtain ⟨h1, h2, h3, h4, h5⟩ := qaU hL hw.2 h
 subst h2 h3
 refine zac ?_
 refine zaa 1 rfl ?_
 refine zab ?_
 refine zah ?_
 refine zaa 1 rfl ?_
 refine za rfl (qt rfl (ev1 rfl) (fun s v h => by cases h; exact ⟨_, rfl⟩)) ?_
 refine za rfl (zam rfl vI (ev1 rfl)) ?_
 refine za rfl (zan rfl gz (ev1 rfl) rfl rfl) ?_
 refine zaa 1 rfl ?_
 refine zak rfl (zaj [1] [] [] rfl (ev1 rfl) (ec (ev1 rfl) (ec (ev1 rfl) en)) rfl rfl (Z7 L (Ha hL) w hw h1) rfl rfl rfl rfl rfl rfl) ?_
 refine zaa 1 rfl ?_
 refine zab ?_
 refine zae ?_
 refine qg [([], []), ([], []), ([], []), ([0], []), ([1], []), ([], []), ([], []), ([], []), ([], []), ([0], []), ([1], []), ([], [])] qP (by kernel_rfl) ?_
 refine zad rfl rfl (zal (.inl rfl) (ev1 rfl)) ?_
 refine zad rfl rfl (qt rfl (ev1 rfl) (fun s v h => by cases h; exact ⟨_, rfl⟩)) ?_
 refine zad rfl rfl (zam rfl vI (ev1 rfl)) ?_
 refine zad rfl rfl (zan rfl gz (ev1 rfl) rfl rfl) ?_
 refine zad rfl rfl (zaj [] [1] [] rfl (ev1 rfl) (ec (ev1 rfl) en) rfl rfl (ze (L.drop w) (0)) rfl rfl rfl rfl rfl rfl) ?_
 refine zad rfl rfl (qm rfl (ev1 rfl) (ev1 rfl)) ?_
 refine zad rfl rfl (zal (.inl rfl) (ev1 rfl)) ?_
 refine zad rfl rfl (qt rfl (ev1 rfl) (fun s v h => by cases h; exact ⟨_, rfl⟩)) ?_
 refine zad rfl rfl (zam rfl vI (ev1 rfl)) ?_
 refine zad rfl rfl (zan rfl gz (ev1 rfl) rfl rfl) ?_
 refine zad rfl rfl (zaj [] [1] [] rfl (ev1 rfl) (ec (ev1 rfl) en) rfl rfl (ze (L.drop w) (0)) rfl rfl rfl rfl rfl rfl) ?_
 refine zad rfl rfl (zaj [] [] [] rfl (ev1 rfl) (ec (ev1 rfl) (ec (ev1 rfl) en)) rfl rfl (u4 _ _ (rfl)) rfl rfl rfl rfl rfl rfl) ?_
 refine qk ?_
 refine zah ?_
 refine zaa 2 rfl ?_
 refine zab ?_
 refine qa ?_
 refine ko [0, 1] (rs1 rfl (qL rfl)) rfl rfl ?_ ⟨rfl, rfl, trivial⟩
 rfl
theorem Hh (o : OpM) (L : List Int) (hL : okL L) (w : Nat) (hw : 1 ≤ w ∧ w ≤ 8) (e : Int) (h : tN w L = .err e) : DPan Tryz.prog 119 [.loc 0 0, .val (.int .i64 (w : Int))] [.mix 178 (.loc 1 0 :: opD o), .mix 206 [.slf 1 (L).length ((L).flatMap uc8), .val (.int .i64 0)]] (.ifc 203 (.val (.agg #[.int .i64 e]))) [.mix 178 (.loc 1 0 :: opD o), .mix 206 [.slf 1 (L).length ((L).flatMap uc8), .val (.int .i64 e)]] := by
 refine zap (N := 25) 2 (by kernel_rfl) Tryz.func119 rfl rfl rfl (by simp only [fr0, qbs, qbt]; exact rfl) rfl fun s0 hs0 => ?_
 refine zae ?_
 obtain ⟨h1, rfl⟩ := Xq h
 refine zac ?_
 refine zaa 1 rfl ?_
 refine zab ?_
 refine zah ?_
 refine zaa 1 rfl ?_
 refine za rfl (qt rfl (ev1 rfl) (fun s v h => by cases h; exact ⟨_, rfl⟩)) ?_
 refine za rfl (zam rfl vI (ev1 rfl)) ?_
 refine za rfl (zan rfl gz (ev1 rfl) rfl rfl) ?_
 refine zaa 1 rfl ?_
 refine zak rfl (zaj [1] [] [] rfl (ev1 rfl) (ec (ev1 rfl) (ec (ev1 rfl) en)) rfl rfl (Xj L w hw h1) rfl rfl rfl rfl rfl rfl) ?_
 refine zaa 1 rfl ?_
 refine zab ?_
 refine zae ?_
 refine gt 11 [([], []), ([], []), ([], []), ([0], []), ([1], []), ([], []), ([], []), ([], []), ([], []), ([0], []), ([1], [])] qP (by kernel_rfl) rfl rfl ?_
 refine zad rfl rfl (zal (.inl rfl) (ev1 rfl)) ?_
 refine zad rfl rfl (qt rfl (ev1 rfl) (fun s v h => by cases h; exact ⟨_, rfl⟩)) ?_
 refine zad rfl rfl (zam rfl vI (ev1 rfl)) ?_
 refine zad rfl rfl (zan rfl gz (ev1 rfl) rfl rfl) ?_
 refine zad rfl rfl (zaj [] [1] [] rfl (ev1 rfl) (ec (ev1 rfl) en) rfl rfl (ze (L) (110)) rfl rfl rfl rfl rfl rfl) ?_
 refine zad rfl rfl (qm rfl (ev1 rfl) (ev1 rfl)) ?_
 refine zad rfl rfl (zal (.inl rfl) (ev1 rfl)) ?_
 refine zad rfl rfl (qt rfl (ev1 rfl) (fun s v h => by cases h; exact ⟨_, rfl⟩)) ?_
 refine zad rfl rfl (zam rfl vI (ev1 rfl)) ?_
 refine zad rfl rfl (zan rfl gz (ev1 rfl) rfl rfl) ?_
 refine zad rfl rfl (zaj [] [1] [] rfl (ev1 rfl) (ec (ev1 rfl) en) rfl rfl (ze (L) (110)) rfl rfl rfl rfl rfl rfl) ?_
 refine qk ⟨_, _, _, rfl, qw [] [] [] rfl (ev1 rfl) (ec (ev1 rfl) (ec (ev1 rfl) en)) rfl rfl (Ym _ _ (rfl)) rfl rfl rfl rfl rfl rfl, ?_⟩
 refine xf [0, 1] rfl rfl ?_ ⟨rfl, rfl, trivial⟩
 rfl
end Go.Proofs.YtofklkbfkoliiaaGreat
namespace Go.Proofs.YtofklkbfkoliiaaGreat
set_option linter.unusedVariables false
set_option linter.unusedSimpArgs false
open Go.RowKit
attribute [local irreducible] tkN jC kG Xl gX tkF Xr wT JY
theorem Hi (o : OpM) (L : List Int) (hL : okL L) (v : Vec) (r : List Int) (h : vW L = .ok v r) : DFun Tryz.prog 95 [.loc 0 0] [.mix 178 (.loc 1 0 :: opD o), .mix 206 [.slf 1 (L).length ((L).flatMap uc8), .val (.int .i64 0)]] (.val (.agg (c9 v).toArray)) [.mix 178 (.loc 1 0 :: opD o), .mix 206 [.slf 1 (r).length ((r).flatMap uc8), .val (.int .i64 0)]] := by
 refine zap (N := 18) 2 (by kernel_rfl) Tryz.func95 rfl rfl rfl (by simp only [fr0, qbs, qbt]; exact rfl) rfl fun s0 hs0 => ?_
 refine zae ?_
 rw [JZ] at h
 refine zao 1 ?_
 refine zac ?_
 refine zak rfl (zaq 2 rfl xJ rfl) ?_
 refine zab ?_
 refine zae ?_
 refine zao 1 ?_
 refine zac ?_
 refine zak rfl (zaq 3 rfl xJ rfl) ?_
 refine zab ?_
 refine zae ?_
 refine zah ?_
 refine zaa 1 rfl ?_
 refine zab ?_
 refine zat ?_
 refine qI ⟨hs0, rfl⟩ (α := Nat × Vec × List Int) (fun x => [(4, .val (.int .i64 ((x.1 + 1 : Nat) : Int)))]) [(0, _), (2, _), (3, _)] (fun x => [(1, .mix 206 [.slf 1 (x.2.2).length ((x.2.2).flatMap uc8), .val (.int .i64 0)]), (3, .flat 27 (c9 x.2.1))]) [_, .hole, _, .hole] (fun x => okL x.2.2 ∧ x.1 ≤ 8 ∧ wT (8 - x.1) x.2.1 x.2.2 = .ok v r) (fun x => 8 - x.1) (0, z9, L) [0, 1, 2, 3] (⟨hL, qb3 _, h⟩) rfl ⟨rfl, rfl, rfl, trivial⟩ ⟨rfl, trivial⟩ ⟨rfl, rfl, rfl, rfl, trivial⟩ ?_
 intro x hx
 simp only [upd, zaf, zag, qbD, qbF]
 obtain ⟨hk, hle, hy⟩ := hx
 refine zae ?_
 refine zah ?_
 refine zaa 1 rfl ?_
 refine za rfl (y3 rfl (ev1 rfl) (ev1 rfl)) ?_
 refine zab ?_
 refine qh rfl (fun c1 => ?_) (fun c1 => ?_)
 ·try simp only [decide_eq_true_eq, decide_eq_false_iff_not, beq_iff_eq, bne_iff_ne, beq_eq_false_iff_ne, bne_eq_false_iff_eq, qbx, qby, qbu, qbE, qbv, ne_eq, Decidable.not_not, qbQ, qbR] at c1
  refine zar ?_
  refine zae ?_
  refine zat ?_
  obtain ⟨n, q, hn, hz⟩ := Hb (by omega) hy
  have hn0 : 0 ≤ n := (Ve hk hn).2.2.2.1.1
  refine zac ?_
  refine zaa 2 rfl ?_
  refine zak rfl ((zaj [0, 1] [] [] rfl (ev1 rfl) (ec (ev1 rfl) (ec (ev1 rfl) en)) rfl rfl (Vf o (x.2.2) (hk) 8 (by decide) (n) (q) (hn)) rfl rfl rfl rfl rfl rfl).cast (d' := .val (.int .u64 ((n.toNat : Nat) : Int))) (by rw [Int.toNat_of_nonneg hn0])) ?_
  refine za rfl (YL rfl ar27 (ev1 rfl) (ev1 rfl) (fun _ => by omega)) ?_
  refine zas rfl (YM rfl qZ (ev1 rfl) (ev1 rfl) rfl (by rw [UJ]; omega) (Q0 (j := x.1 + 1) (by omega) (by omega))) ?_
  refine zab ?_
  refine zac ?_
  refine zaa 1 rfl ?_
  refine za rfl (ql rfl (ev1 rfl) (ev1 rfl) (fun _ => qbB _ (by omega))) ?_
  refine zaa 1 rfl ?_
  refine zab ?_
  refine ⟨(x.1 + 1, upV x.2.1 (x.1 + 1) n.toNat, q), [0, 1, 2, 3], ⟨AA hk hn, by show x.1 + 1 ≤ 8; omega, hz⟩, by show 8 - (x.1 + 1) < 8 - x.1; omega, rfl, ⟨rfl, rfl, rfl, rfl, trivial⟩, ⟨rfl, rfl, rfl, rfl, trivial⟩⟩
 ·try simp only [decide_eq_true_eq, decide_eq_false_iff_not, beq_iff_eq, bne_iff_ne, beq_eq_false_iff_ne, bne_eq_false_iff_eq, qbx, qby, qbu, qbE, qbv, ne_eq, Decidable.not_not, qbQ, qbR] at c1
  refine qD ?_
  refine zae ?_
  obtain ⟨hvB, hxv, hxr⟩ := qaY (by omega) hy
  rw [hxv, hxr]
  refine zac ?_
  refine za rfl (kT rfl gR (ev1 rfl) rfl rfl) ?_
  refine za rfl (zaj [] [] [] rfl (ev1 rfl) (ec (ev1 rfl) en) rfl rfl (uV v) rfl rfl rfl rfl rfl rfl) ?_
  refine za rfl (qm rfl (ev1 rfl) (ev1 rfl)) ?_
  refine za rfl (zaj [] [] [] rfl (ev1 rfl) (ec (ev1 rfl) (ec (ev1 rfl) en)) rfl rfl (u4 _ _ (by rw [hvB]; rfl)) rfl rfl rfl rfl rfl rfl) ?_
  refine zab ?_
  refine zah ?_
  refine za rfl (kT rfl gR (ev1 rfl) rfl rfl) ?_
  refine zas rfl (qY rfl gR (ev1 rfl) (ev1 rfl) rfl rfl rfl rfl) ?_
  refine zab ?_
  refine qa ?_
  refine ko [0, 1] (rs1 rfl (yv gR rfl rfl rfl)) rfl rfl ?_ ⟨rfl, rfl, trivial⟩
  rfl
theorem Xv (o : OpM) (L : List Int) (hL : okL L) (e : Int) (h : vW L = .err e) : DPanL Tryz.prog 95 [.loc 0 0] [.mix 178 (.loc 1 0 :: opD o), .mix 206 [.slf 1 (L).length ((L).flatMap uc8), .val (.int .i64 0)]] (.ifc 203 (.val (.agg #[.int .i64 e]))) := by
 refine zap (N := 18) 2 (by kernel_rfl) Tryz.func95 rfl rfl rfl (by simp only [fr0, qbs, qbt]; exact rfl) rfl fun s0 hs0 => ?_
 refine zae ?_
 rw [JZ] at h
 refine zao 1 ?_
 refine zac ?_
 refine zak rfl (zaq 2 rfl xJ rfl) ?_
 refine zab ?_
 refine zae ?_
 refine zao 1 ?_
 refine zac ?_
 refine zak rfl (zaq 3 rfl xJ rfl) ?_
 refine zab ?_
 refine zae ?_
 refine zah ?_
 refine zaa 1 rfl ?_
 refine zab ?_
 refine zat ?_
 refine qI ⟨hs0, rfl⟩ (α := Nat × Vec × List Int) (fun x => [(4, .val (.int .i64 ((x.1 + 1 : Nat) : Int)))]) [(0, _), (2, _), (3, _)] (fun x => [(1, .mix 206 [.slf 1 (x.2.2).length ((x.2.2).flatMap uc8), .val (.int .i64 0)]), (3, .flat 27 (c9 x.2.1))]) [_, .hole, _, .hole] (fun x => okL x.2.2 ∧ x.1 ≤ 8 ∧ wT (8 - x.1) x.2.1 x.2.2 = .err e) (fun x => 8 - x.1) (0, z9, L) [0, 1, 2, 3] (⟨hL, qb3 _, h⟩) rfl ⟨rfl, rfl, rfl, trivial⟩ ⟨rfl, trivial⟩ ⟨rfl, rfl, rfl, rfl, trivial⟩ ?_
 intro x hx
 simp only [upd, zaf, zag, qbD, qbF]
 obtain ⟨hk, hle, hy⟩ := hx
 refine zae ?_
 refine zah ?_
 refine zaa 1 rfl ?_
 refine za rfl (y3 rfl (ev1 rfl) (ev1 rfl)) ?_
 refine zab ?_
 refine qh rfl (fun c1 => ?_) (fun c1 => ?_)
 ·try simp only [decide_eq_true_eq, decide_eq_false_iff_not, beq_iff_eq, bne_iff_ne, beq_eq_false_iff_ne, bne_eq_false_iff_eq, qbx, qby, qbu, qbE, qbv, ne_eq, Decidable.not_not, qbQ, qbR] at c1
  refine zar ?_
  refine zae ?_
  refine zat ?_
  by_cases hs : ∃ n q, tN 8 x.2.2 = .ok n q ∧ wT (8 - (x.1 + 1)) (upV x.2.1 (x.1 + 1) n.toNat) q = .err e
  ·obtain ⟨n, q, hn, hz⟩ := hs
   have hn0 : 0 ≤ n := (Ve hk hn).2.2.2.1.1
   refine zac ?_
   refine zaa 2 rfl ?_
   refine zak rfl ((zaj [0, 1] [] [] rfl (ev1 rfl) (ec (ev1 rfl) (ec (ev1 rfl) en)) rfl rfl (Vf o (x.2.2) (hk) 8 (by decide) (n) (q) (hn)) rfl rfl rfl rfl rfl rfl).cast (d' := .val (.int .u64 ((n.toNat : Nat) : Int))) (by rw [Int.toNat_of_nonneg hn0])) ?_
   refine za rfl (YL rfl ar27 (ev1 rfl) (ev1 rfl) (fun _ => by omega)) ?_
   refine zas rfl (YM rfl qZ (ev1 rfl) (ev1 rfl) rfl (by rw [UJ]; omega) (Q0 (j := x.1 + 1) (by omega) (by omega))) ?_
   refine zab ?_
   refine zac ?_
   refine zaa 1 rfl ?_
   refine za rfl (ql rfl (ev1 rfl) (ev1 rfl) (fun _ => qbB _ (by omega))) ?_
   refine zaa 1 rfl ?_
   refine zab ?_
   refine ⟨(x.1 + 1, upV x.2.1 (x.1 + 1) n.toNat, q), [0, 1, 2, 3], ⟨AA hk hn, by show x.1 + 1 ≤ 8; omega, hz⟩, by show 8 - (x.1 + 1) < 8 - x.1; omega, rfl, ⟨rfl, rfl, rfl, rfl, trivial⟩, ⟨rfl, rfl, rfl, rfl, trivial⟩⟩
  ·have hn : tN 8 x.2.2 = .err e := by
    rcases Hc (by omega) hy with h1 | ⟨n, q, h1, h2⟩
    ·exact h1
    ·exact absurd ⟨n, q, h1, h2⟩ hs
   refine zac ?_
   refine zaa 2 rfl ?_
   refine ky rfl (qw [0, 1] [] [] rfl (ev1 rfl) (ec (ev1 rfl) (ec (ev1 rfl) en)) rfl rfl (Hh o (x.2.2) (hk) 8 (by decide) (e) (hn)) rfl rfl rfl rfl rfl rfl) rfl ?_
   refine vh (Mo := [_, _]) [0, 1] rfl rfl ?_ ⟨rfl, rfl, trivial⟩ rfl
   rfl
 ·try simp only [decide_eq_true_eq, decide_eq_false_iff_not, beq_iff_eq, bne_iff_ne, beq_eq_false_iff_ne, bne_eq_false_iff_eq, qbx, qby, qbu, qbE, qbv, ne_eq, Decidable.not_not, qbQ, qbR] at c1
  refine qD ?_
  refine zae ?_
  obtain ⟨hvB, rfl⟩ := Hd (by omega) hy
  refine zac ?_
  refine za rfl (kT rfl gR (ev1 rfl) rfl rfl) ?_
  refine za rfl (zaj [] [] [] rfl (ev1 rfl) (ec (ev1 rfl) en) rfl rfl (uV x.2.1) rfl rfl rfl rfl rfl rfl) ?_
  refine za rfl (qm rfl (ev1 rfl) (ev1 rfl)) ?_
  refine ky rfl (qw [] [] [] rfl (ev1 rfl) (ec (ev1 rfl) (ec (ev1 rfl) en)) rfl rfl (Ym _ _ (by rw [hvB]; rfl)) rfl rfl rfl rfl rfl rfl) rfl ?_
  refine vh (Mo := [_, _]) [0, 1] rfl rfl ?_ ⟨rfl, rfl, trivial⟩ rfl
  rfl
theorem Hj (o : OpM) (L : List Int) (hL : okL L) (e : Int) (h : vW L = .err e) : DPan Tryz.prog 95 [.loc 0 0] [.mix 178 (.loc 1 0 :: opD o), .mix 206 [.slf 1 (L).length ((L).flatMap uc8), .val (.int .i64 0)]] (.ifc 203 (.val (.agg #[.int .i64 e]))) [.gone, .gone] := (Xv o L hL e h).dead
theorem Yn (o : OpM) (L : List Int) (hL : okL L) (v : Vec) (r : List Int) (h : vW L = .ok v r) : DFun Tryz.prog 94 [.loc 0 0] [.mix 178 (.loc 1 0 :: opD o), .mix 206 [.slf 1 (L).length ((L).flatMap uc8), .val (.int .i64 0)]] (.val (.agg (c9 v).toArray)) [.mix 178 (.loc 1 0 :: opD o), .mix 206 [.slf 1 (r).length ((r).flatMap uc8), .val (.int .i64 0)]] := by
 refine zap (N := 5) 2 (by kernel_rfl) Tryz.func94 rfl rfl rfl (by simp only [fr0, qbs, qbt]; exact rfl) rfl fun s0 hs0 => ?_
 refine zae ?_
 refine zao 1 ?_
 refine zac ?_
 refine zak rfl (zaq 2 rfl xJ rfl) ?_
 refine zab ?_
 refine zah ?_
 refine zaa 1 rfl ?_
 refine zak rfl (zaj [0, 1] [] [] rfl (ev1 rfl) (ec (ev1 rfl) en) rfl rfl (Hi o L hL v r h) rfl rfl rfl rfl rfl rfl) ?_
 refine zas rfl (qY rfl gR (ev1 rfl) (ev1 rfl) rfl rfl rfl rfl) ?_
 refine zab ?_
 refine qa ?_
 refine ko [0, 1] (rs1 rfl (yv gR rfl rfl rfl)) rfl rfl ?_ ⟨rfl, rfl, trivial⟩
 rfl
theorem J0 (o : OpM) (L : List Int) (hL : okL L) (e : Int) (hp : DPan Tryz.prog 95 [.loc 0 0] [.mix 178 (.loc 1 0 :: opD o), .mix 206 [.slf 1 (L).length ((L).flatMap uc8), .val (.int .i64 0)]] (.ifc 203 (.val (.agg #[.int .i64 e]))) [.gone, .gone]) : DPanL Tryz.prog 94 [.loc 0 0] [.mix 178 (.loc 1 0 :: opD o), .mix 206 [.slf 1 (L).length ((L).flatMap uc8), .val (.int .i64 0)]] (.ifc 203 (.val (.agg #[.int .i64 e]))) := by
 refine zap (N := 5) 2 (by kernel_rfl) Tryz.func94 rfl rfl rfl (by simp only [fr0, qbs, qbt]; exact rfl) rfl fun s0 hs0 => ?_
 refine zae ?_
 refine zao 1 ?_
 refine zac ?_
 refine zak rfl (zaq 2 rfl xJ rfl) ?_
 refine zab ?_
 refine zah ?_
 refine zaa 1 rfl ?_
 refine ky rfl (qw [0, 1] [] [] rfl (ev1 rfl) (ec (ev1 rfl) en) rfl rfl (hp) rfl rfl rfl rfl rfl rfl) rfl ?_
 refine vh (Mo := [_, _]) [0, 1] rfl rfl ?_ ⟨rfl, rfl, trivial⟩ rfl
 rfl
theorem Yo (o : OpM) (L : List Int) (hL : okL L) (e : Int) (h : vW L = .err e) : DPan Tryz.prog 94 [.loc 0 0] [.mix 178 (.loc 1 0 :: opD o), .mix 206 [.slf 1 (L).length ((L).flatMap uc8), .val (.int .i64 0)]] (.ifc 203 (.val (.agg #[.int .i64 e]))) [.gone, .gone] := (J0 o L hL e (Hj o L hL e h)).dead
end Go.Proofs.YtofklkbfkoliiaaGreat
namespace Go.Proofs.YtofklkbfkoliiaaGreat
set_option linter.unusedVariables false
set_option linter.unusedSimpArgs false
open Go.RowKit
attribute [local irreducible] tkN jC kG gX Xm tkId Yj Xn
theorem wkZL {d : D} : WkL [d, .val (.int .u64 0), .val (.int .i64 0), .val (.int .u64 0), .val (.int .i64 0), .val (.int .i64 0), .val (.int .i64 0), .val (.int .i64 0), .val (.int .i64 0), .val (.int .i64 0), .val (.int .u8 0), .val (.int .u8 0), .val (.int .u8 0), .val (.int .u8 0), .val (.int .i64 0), .val (.int .i64 0), .val (.slice none 0 0), .val (.int .u64 0), .val (.int .i64 0), .val (.int .u64 0)] (d :: opD zO) :=
 WkL.cons (Wk.refl _) (WkL.cons (Wk.refl _) (WkL.cons (Wk.refl _) (WkL.cons (Wk.refl _) (WkL.cons (Wk.refl _) (WkL.cons (Wk.refl _) (WkL.cons (Wk.refl _) (WkL.cons (Wk.refl _) (WkL.cons (Wk.refl _) (WkL.cons (Wk.refl _) (WkL.cons (Wk.refl _) (WkL.cons (Wk.refl _) (WkL.cons (Wk.refl _) (WkL.cons (Wk.refl _) (WkL.cons (Wk.refl _) (WkL.cons (Wk.refl _) (WkL.cons (Wk.slf0 4) (WkL.cons (Wk.refl _) (WkL.cons (Wk.refl _) (WkL.cons (Wk.refl _) (WkL.nil))))))))))))))))))))
theorem Xw (L : List Int) (e : Int) : DFun Tryz.prog 118 [.dpm [.slf 1 (L).length ((L).flatMap uc8), .val (.int .i64 e)]] [] (.val (.int .i64 (L.length : Int))) [] := by
 refine zap (N := 11) 0 (by kernel_rfl) Tryz.func118 rfl rfl rfl (by simp only [fr0, qbs, qbt]; exact rfl) rfl fun s0 hs0 => ?_
 refine zah ?_
 refine zaa 1 rfl ?_
 refine zab ?_
 refine zae ?_
 refine zah ?_
 refine zaa 1 rfl ?_
 refine za rfl (GM rfl Q4 (ev1 rfl)) ?_
 refine zab ?_
 refine qc rfl (rfl) ?_
 refine zar ?_
 refine zah ?_
 refine zaa 1 rfl ?_
 refine za rfl (qt rfl (ev1 rfl) (fun s v h => by cases h; exact ⟨_, rfl⟩)) ?_
 refine za rfl (xY rfl gA (ev1 rfl)) ?_
 refine za rfl (xY rfl wL (ev1 rfl)) ?_
 refine za rfl (jk rfl kD (ev1 rfl) rfl) ?_
 refine za rfl (qE rfl qG (ev1 rfl)) ?_
 refine zaa 1 rfl ?_
 refine zab ?_
 refine qa ?_
 refine qx (rs1 rfl (qL rfl)) rfl ?_
 rfl
theorem Yp (e : Int) : DDef Tryz.prog 114 [.loc 0 0] [.flat 34 [.int .i64 e]] none none [.flat 34 [.int .i64 0]] := by
 refine jB (dr := .tup []) (t := 1) (N := 3) 1 (by kernel_rfl) Tryz.func114 rfl rfl rfl (by simp only [fr0, qbs, qbt]; exact rfl) rfl rfl rfl rfl rfl fun s0 hs0 => ?_
 refine za rfl (zaj [] [] [] rfl (ev1 rfl) (ec (ev1 rfl) en) rfl rfl (Xu) rfl rfl rfl rfl rfl rfl) ?_
 refine zas rfl (qK rfl qX (ev1 rfl) (ev1 rfl) rfl) ?_
 refine zab ?_
 refine ko [0] (qH rfl) rfl rfl ?_ ⟨rfl, trivial⟩
 rfl
theorem Ko (e n : Int) : DDef Tryz.prog 114 [.loc 0 0] [.flat 34 [.int .i64 e]] (some (.ifc 203 (.val (.agg #[.int .i64 n])))) none [.flat 34 [.int .i64 n]] := by
 refine jB (dr := .tup []) (t := 1) (N := 3) 1 (by kernel_rfl) Tryz.func114 rfl rfl rfl (by simp only [fr0, qbs, qbt]; exact rfl) rfl rfl rfl rfl rfl fun s0 hs0 => ?_
 refine za rfl (zaj [] [] [] rfl (ev1 rfl) (ec (ev1 rfl) en) rfl rfl (Hg n) rfl rfl rfl rfl rfl rfl) ?_
 refine zas rfl (qK rfl qX (ev1 rfl) (ev1 rfl) rfl) ?_
 refine zab ?_
 refine ko [0] (qH rfl) rfl rfl ?_ ⟨rfl, trivial⟩
 rfl
theorem Xx (L : List Int) (hL : okL L) (h15 : L.length ≤ 32768) (v : Vec) (r : List Int) (h : vW L = .ok v r) (hr : r.length ≤ L.length) : DFun Tryz.prog 93 [.slf 1 (L).length ((L).flatMap uc8), .fn (.func 94) [] []] [] (.tup [.val (.agg (c9 v).toArray), .val (.int .i64 ((L.length : Int) - (r.length : Int))), .val (.int .i64 0)]) [] := by
 refine qo (N := 41) 0 (by kernel_rfl) Tryz.func93 rfl rfl rfl (by simp only [fr0, qbs, qbt]; exact rfl) rfl fun s0 hs0 => ?_
 refine qz rfl hs0 ?_
 refine zao 2 ?_
 refine zac ?_
 refine zak rfl (zaq 0 rfl xJ rfl) ?_
 refine zaa 1 rfl ?_
 refine zak rfl (zaq 1 rfl jT rfl) ?_
 refine zab ?_
 refine qr (l0 := [_]) rfl rfl rfl rfl rfl hs0 ?_
 refine za rfl (qV rfl en (ec (ev1 rfl) en)) ?_
 refine zab ⟨_, _, _, 2, ev1 rfl, qbK hs0 (by decide), rfl, ?_⟩
 have hs1 : s0.M.length ≤ 2 := qbK hs0 (by decide)
 refine qy rfl hs0 ?_
 refine zah ?_
 refine zaa 1 rfl ?_
 refine za rfl (qE rfl qG (ev1 rfl)) ?_
 refine za rfl ((we rfl (ev1 rfl) (ev1 rfl)).cast (d' := .val (.int .i64 (L.length : Int))) (by congr 2; omega)) ?_
 refine zaa 1 rfl ?_
 refine zab ?_
 refine zae ?_
 refine zao 1 ?_
 refine zac ?_
 refine zaa 3 rfl ?_
 refine za rfl ((QF (j := L.length) rfl qG (ev1 rfl) (ev1 rfl) (ev1 rfl) (fun hp => by first | omega | (simp at hp; omega)) (fun hp => by first | omega | (simp at hp; omega)) (fun hp => by first | omega | (simp at hp; omega)) (fun _ => rfl)).cast (d' := .slf 1 (L).length ((L).flatMap uc8)) (by rw [qch])) ?_
 refine zak rfl (zaj [] [] [2] rfl (ev1 rfl) (ec (ev1 rfl) en) rfl rfl (Vc L (by have := hL.2; omega)) rfl rfl rfl rfl rfl rfl) ?_
 refine zaa 4 rfl ?_
 refine zas rfl (qK rfl qX (ev1 rfl) (ev1 rfl) rfl) ?_
 refine zab ?_
 refine zah ?_
 refine za rfl (qB rfl qX (ev1 rfl) rfl rfl) ?_
 refine za rfl (qm rfl (ev1 rfl) (ev1 rfl)) ?_
 refine za rfl (qB rfl qX (ev1 rfl) rfl rfl) ?_
 refine za rfl (zaj [] [] [] rfl (ev1 rfl) (ec (ev1 rfl) (ec (ev1 rfl) en)) rfl rfl (u4 _ _ (rfl)) rfl rfl rfl rfl rfl rfl) ?_
 refine zab ?_
 refine zae ?_
 refine zao 1 ?_
 refine zac ?_
 refine zaa 1 rfl ?_
 refine za rfl ((jZ (ps := [(0, .tmp 27)]) rfl Ai Aq (ec (ev1 rfl) en) rfl rfl rfl).cast (d' := .agg [.loc 2 0, .val (.int .u64 0), .val (.int .i64 0), .val (.int .u64 0), .val (.int .i64 0), .val (.int .i64 0), .val (.int .i64 0), .val (.int .i64 0), .val (.int .i64 0), .val (.int .i64 0), .val (.int .u8 0), .val (.int .u8 0), .val (.int .u8 0), .val (.int .u8 0), .val (.int .i64 0), .val (.int .i64 0), .val (.slice none 0 0), .val (.int .u64 0), .val (.int .i64 0), .val (.int .u64 0)]) (by kernel_rfl)) ?_
 refine zak rfl (qd 3 rfl (ev1 rfl) rfl) ?_
 refine zaa 1 rfl ?_
 refine zab ?_
 refine zae ?_
 refine jg 3 (Y2 wkZL) rfl rfl (by simp only [qbD, qbF, zaf, zag, List.map]; exact rfl) ?_
 refine zao 1 ?_
 refine zac ?_
 refine zaa 2 rfl ?_
 refine zak rfl (zaj [3, 2] [] [] rfl (ev1 rfl) (ec (ev1 rfl) en) rfl rfl (Yn zO L hL v r h) rfl rfl rfl rfl rfl rfl) ?_
 refine zak rfl (zaq 4 rfl xJ rfl) ?_
 refine zas rfl (qY rfl gR (ev1 rfl) (ev1 rfl) rfl rfl rfl rfl) ?_
 refine zab ?_
 refine zae ?_
 refine qg [([4], []), ([], []), ([], []), ([], []), ([], []), ([3], []), ([2], []), ([], []), ([0], [0]), ([], []), ([1], [1])] qP (by kernel_rfl) ?_
 refine zad rfl rfl (kT rfl gR (ev1 rfl) rfl rfl) ?_
 refine zad rfl rfl (zal (.inl rfl) (ev1 rfl)) ?_
 refine zad rfl rfl (zal (.inl rfl) (ev1 rfl)) ?_
 refine zad rfl rfl (qt rfl (ev1 rfl) (fun s v h => by cases h; exact ⟨_, rfl⟩)) ?_
 refine zad rfl rfl (zam rfl vI (ev1 rfl)) ?_
 refine zad rfl rfl (zan rfl gz (ev1 rfl) rfl rfl) ?_
 refine zad rfl rfl (zaj [] [2] [] rfl (ev1 rfl) (ec (ev1 rfl) en) rfl rfl (Xw r 0) rfl rfl rfl rfl rfl rfl) ?_
 refine zad rfl rfl (jV rfl (ev1 rfl) (ev1 rfl) (fun _ => qbB _ (by omega))) ?_
 refine j0 rfl rfl (qY rfl gR (ev1 rfl) (ev1 rfl) rfl rfl rfl rfl) rfl (by simp only [upd, zaf, zag]; exact rfl) ?_
 refine zad rfl rfl (zal (.inr rfl) (ev1 rfl)) ?_
 refine j0 rfl rfl (qK rfl qX (ev1 rfl) (ev1 rfl) rfl) rfl (by simp only [upd, zaf, zag]; exact rfl) ?_
 refine qk ?_
 refine qa ?_
 refine jH (kL [1] [] rfl rfl (Yp _) rfl rfl rfl rfl rfl) ?_
 refine qx (rs3 rfl (yv gR rfl rfl rfl) (qL rfl) (js qX rfl rfl rfl)) rfl ?_
 rfl
theorem Wv (L : List Int) (hL : okL L) (h15 : L.length ≤ 32768) (e : Int) (hp : DPan Tryz.prog 94 [.loc 0 0] [.mix 178 (.loc 1 0 :: opD zO), .mix 206 [.slf 1 (L).length ((L).flatMap uc8), .val (.int .i64 0)]] (.ifc 203 (.val (.agg #[.int .i64 e]))) [.gone, .gone]) : DFun Tryz.prog 93 [.slf 1 (L).length ((L).flatMap uc8), .fn (.func 94) [] []] [] (.tup [.val (.agg (c9 z9).toArray), .val (.int .i64 0), .val (.int .i64 e)]) [] := by
 refine qo (N := 41) 0 (by kernel_rfl) Tryz.func93 rfl rfl rfl (by simp only [fr0, qbs, qbt]; exact rfl) rfl fun s0 hs0 => ?_
 refine qz rfl hs0 ?_
 refine zao 2 ?_
 refine zac ?_
 refine zak rfl (zaq 0 rfl xJ rfl) ?_
 refine zaa 1 rfl ?_
 refine zak rfl (zaq 1 rfl jT rfl) ?_
 refine zab ?_
 refine qr (l0 := [_]) rfl rfl rfl rfl rfl hs0 ?_
 refine za rfl (qV rfl en (ec (ev1 rfl) en)) ?_
 refine zab ⟨_, _, _, 2, ev1 rfl, qbK hs0 (by decide), rfl, ?_⟩
 have hs1 : s0.M.length ≤ 2 := qbK hs0 (by decide)
 refine qy rfl hs0 ?_
 refine zah ?_
 refine zaa 1 rfl ?_
 refine za rfl (qE rfl qG (ev1 rfl)) ?_
 refine za rfl ((we rfl (ev1 rfl) (ev1 rfl)).cast (d' := .val (.int .i64 (L.length : Int))) (by congr 2; omega)) ?_
 refine zaa 1 rfl ?_
 refine zab ?_
 refine zae ?_
 refine zao 1 ?_
 refine zac ?_
 refine zaa 3 rfl ?_
 refine za rfl ((QF (j := L.length) rfl qG (ev1 rfl) (ev1 rfl) (ev1 rfl) (fun hp => by first | omega | (simp at hp; omega)) (fun hp => by first | omega | (simp at hp; omega)) (fun hp => by first | omega | (simp at hp; omega)) (fun _ => rfl)).cast (d' := .slf 1 (L).length ((L).flatMap uc8)) (by rw [qch])) ?_
 refine zak rfl (zaj [] [] [2] rfl (ev1 rfl) (ec (ev1 rfl) en) rfl rfl (Vc L (by have := hL.2; omega)) rfl rfl rfl rfl rfl rfl) ?_
 refine zaa 4 rfl ?_
 refine zas rfl (qK rfl qX (ev1 rfl) (ev1 rfl) rfl) ?_
 refine zab ?_
 refine zah ?_
 refine za rfl (qB rfl qX (ev1 rfl) rfl rfl) ?_
 refine za rfl (qm rfl (ev1 rfl) (ev1 rfl)) ?_
 refine za rfl (qB rfl qX (ev1 rfl) rfl rfl) ?_
 refine za rfl (zaj [] [] [] rfl (ev1 rfl) (ec (ev1 rfl) (ec (ev1 rfl) en)) rfl rfl (u4 _ _ (rfl)) rfl rfl rfl rfl rfl rfl) ?_
 refine zab ?_
 refine zae ?_
 refine zao 1 ?_
 refine zac ?_
 refine zaa 1 rfl ?_
 refine za rfl ((jZ (ps := [(0, .tmp 27)]) rfl Ai Aq (ec (ev1 rfl) en) rfl rfl rfl).cast (d' := .agg [.loc 2 0, .val (.int .u64 0), .val (.int .i64 0), .val (.int .u64 0), .val (.int .i64 0), .val (.int .i64 0), .val (.int .i64 0), .val (.int .i64 0), .val (.int .i64 0), .val (.int .i64 0), .val (.int .u8 0), .val (.int .u8 0), .val (.int .u8 0), .val (.int .u8 0), .val (.int .i64 0), .val (.int .i64 0), .val (.slice none 0 0), .val (.int .u64 0), .val (.int .i64 0), .val (.int .u64 0)]) (by kernel_rfl)) ?_
 refine zak rfl (qd 3 rfl (ev1 rfl) rfl) ?_
 refine zaa 1 rfl ?_
 refine zab ?_
 refine zae ?_
 refine jg 3 (Y2 wkZL) rfl rfl (by simp only [qbD, qbF, zaf, zag, List.map]; exact rfl) ?_
 refine zao 1 ?_
 refine zac ?_
 refine zaa 2 rfl ?_
 refine ky rfl (qw [3, 2] [] [] rfl (ev1 rfl) (ec (ev1 rfl) en) rfl rfl (hp) rfl rfl rfl rfl rfl rfl) rfl ?_
 refine jH (qQ [1] [] rfl rfl rfl (Ko _ _) rfl rfl rfl rfl rfl) ?_
 refine qx (rs3 rfl (yv gR rfl rfl rfl) (qL rfl) (js qX rfl rfl rfl)) rfl ?_
 rfl
theorem y7 (L : List Int) (hL : okL L) (h15 : L.length ≤ 32768) (v : Vec) (r : List Int) (h : vW L = .ok v r) (hr : r.length ≤ L.length) : DFun Tryz.prog 58 [.slf 1 (L).length ((L).flatMap uc8)] [] (.tup [.val (.agg (c9 v).toArray), .val (.int .i64 ((L.length : Int) - (r.length : Int))), .val (.int .i64 0)]) [] := by
 refine zap (N := 10) 0 (by kernel_rfl) Tryz.func58 rfl rfl rfl (by simp only [fr0, qbs, qbt]; exact rfl) rfl fun s0 hs0 => ?_
 refine jY (t := 0) rfl fun hl0 hL0 => ?_
 refine zae ?_
 refine zao 1 ?_
 refine zac ?_
 refine zak rfl (zaq 0 rfl xJ rfl) ?_
 refine zaa 2 rfl ?_
 refine zab ?_
 refine zah ?_
 refine zaa 1 rfl ?_
 refine za rfl (zaj [] [] [] rfl (ev1 rfl) (ec (ev1 rfl) (ec (ev1 rfl) en)) rfl rfl (Xx L hL h15 v r h hr) rfl rfl rfl rfl rfl rfl) ?_
 refine zaa 3 rfl ?_
 refine zas rfl (qY rfl gR (ev1 rfl) (ev1 rfl) rfl rfl rfl rfl) ?_
 refine zaa 2 rfl ?_
 refine zab ?_
 refine qa ?_
 refine qx (rs3 rfl (yv gR rfl rfl rfl) (qL rfl) (qL rfl)) rfl ?_
 rfl
theorem z3 (L : List Int) (hL : okL L) (h15 : L.length ≤ 32768) (e : Int) (hp : DPan Tryz.prog 94 [.loc 0 0] [.mix 178 (.loc 1 0 :: opD zO), .mix 206 [.slf 1 (L).length ((L).flatMap uc8), .val (.int .i64 0)]] (.ifc 203 (.val (.agg #[.int .i64 e]))) [.gone, .gone]) : DFun Tryz.prog 58 [.slf 1 (L).length ((L).flatMap uc8)] [] (.tup [.val (.agg (c9 z9).toArray), .val (.int .i64 0), .val (.int .i64 e)]) [] := by
 refine zap (N := 10) 0 (by kernel_rfl) Tryz.func58 rfl rfl rfl (by simp only [fr0, qbs, qbt]; exact rfl) rfl fun s0 hs0 => ?_
 refine jY (t := 0) rfl fun hl0 hL0 => ?_
 refine zae ?_
 refine zao 1 ?_
 refine zac ?_
 refine zak rfl (zaq 0 rfl xJ rfl) ?_
 refine zaa 2 rfl ?_
 refine zab ?_
 refine zah ?_
 refine zaa 1 rfl ?_
 refine za rfl (zaj [] [] [] rfl (ev1 rfl) (ec (ev1 rfl) (ec (ev1 rfl) en)) rfl rfl (Wv L hL h15 e hp) rfl rfl rfl rfl rfl rfl) ?_
 refine zaa 3 rfl ?_
 refine zas rfl (qY rfl gR (ev1 rfl) (ev1 rfl) rfl rfl rfl rfl) ?_
 refine zaa 2 rfl ?_
 refine zab ?_
 refine qa ?_
 refine qx (rs3 rfl (yv gR rfl rfl rfl) (qL rfl) (qL rfl)) rfl ?_
 rfl
theorem Kp (L : List Int) (hL : okL L) (h15 : L.length ≤ 32768) (e : Int) (h : vW L = .err e) : DFun Tryz.prog 58 [.slf 1 (L).length ((L).flatMap uc8)] [] (.tup [.val (.agg (c9 z9).toArray), .val (.int .i64 0), .val (.int .i64 e)]) [] := z3 L hL h15 e (Yo zO L hL e h)
end Go.Proofs.YtofklkbfkoliiaaGreat
namespace Go.Proofs.YtofklkbfkoliiaaGreat
set_option linter.unusedVariables false
set_option linter.unusedSimpArgs false
open Go.RowKit
def C4.rng (c : C4) : Prop := (0 ≤ c.r ∧ c.r ≤ 255) ∧ (0 ≤ c.g ∧ c.g ≤ 255) ∧ (0 ≤ c.b ∧ c.b ≤ 255) ∧ 0 ≤ c.a ∧ c.a ≤ 255
theorem Ww (t : TL) : 0 < (gI t).length := by
 obtain ⟨n, _, bs, e⟩ := xC t
 rw [e]; simp
theorem Wx {t : TL} (ht : ∀ c ∈ t.l, c.rng) : isB (gI t) := by
 intro z hz
 unfold gI ji at hz
 obtain ⟨r, hr, hz⟩ := List.mem_flatMap.1 hz
 have hc : r.2 ∈ t.l := by
  rw [← jP t.l]
  unfold kZ
  refine List.mem_flatMap.2 ⟨r, hr, ?_⟩
  have := gH (yL t.l) r hr
  exact List.mem_replicate.2 ⟨by omega, rfl⟩
 have hn : r.1 ≤ 64 := by
  have h1 : (qbH r.1 r.2).length ≤ (kZ (kP t.l)).length := by
   obtain ⟨i, hi, rfl⟩ := qcc hr
   have := Q7 hi
   rw [qbN]; omega
  rw [jP, t.h, qbN] at h1
  exact h1
 have hr2 := ht _ hc
 unfold C4.rng at hr2
 unfold G3 at hz
 simp only [List.mem_cons, List.not_mem_nil, or_false] at hz
 rcases hz with rfl | rfl | rfl | rfl | rfl <;> omega
theorem Hk {a b : List Int} (ha : isB a) (hb : isB b) : isB (a ++ b) := fun z hz => (List.mem_append.1 hz).elim (ha z) (hb z)
theorem Xy {a : List Int} (ha : isB a) (n : Nat) : isB (a.take n) := fun z hz => ha z (List.mem_of_mem_take hz)
end Go.Proofs.YtofklkbfkoliiaaGreat
namespace Go.Proofs.YtofklkbfkoliiaaGreat
set_option linter.unusedVariables false
set_option linter.unusedSimpArgs false
open Go.RowKit
def Vg (ts : List TL) : Prop := ∀ t ∈ ts, ∀ c ∈ t.l, c.rng
theorem z4 {kn : List TL → TL} : ∀ {ts acc : List TL}, Vg ts → isB (qW kn acc ts)
 | [], _, _ => by rw [ur]; intro z hz; cases hz
 | t :: ts, acc, h => by
  rw [qW]
  refine Hk ?_ (z4 fun u hu => h u (qb4 _ hu))
  split
  ·intro z hz; simp at hz; subst hz; decide
  ·exact Wx (h t (qb1 ..))
theorem J1 {w h : Int} {ts : List TL} (hr : jl w h ts = true) : w * h = (ts.length : Int) ∧ ts.length ≤ 16 ∧ gW w h = true ∧ (1 ≤ w ∧ w ≤ 4) ∧ 1 ≤ h ∧ h ≤ 4 := by
 have hm := K7 hr
 have hb := wo hm
 have hc := JO hm
 unfold jl at hr
 rw [qbu] at hr
 have := of_decide_eq_true hr.2
 exact ⟨by omega, by omega, hm, by omega, by omega⟩
theorem Wy (kn : List TL → TL) (w h : Int) (ts : List TL) (rest : List Int) : gg kn ((w :: h :: qW kn [] ts) ++ rest) ts.length [] 2 = some (ts, (w :: h :: qW kn [] ts).length) := by
 have e := zd kn ((w :: h :: qW kn [] ts) ++ rest) ts.length [] 2 (by simp)
 have e1 : ((w :: h :: qW kn [] ts) ++ rest).drop 2 = qW kn [] ts ++ rest := rfl
 rw [e1, xl] at e
 cases hx : gg kn ((w :: h :: qW kn [] ts) ++ rest) ts.length [] 2 with
 | none => rw [hx] at e; cases e
 | some x =>
  obtain ⟨l, q⟩ := x
  obtain ⟨_, _, h3⟩ := uY (by simp) hx
  rw [hx] at e
  have e : some ([] ++ ts, rest) = some (l, ((w :: h :: qW kn [] ts) ++ rest).drop q) := e
  obtain ⟨g1, g2⟩ := Prod.mk.inj (qbw e)
  have := congrArg List.length g2
  rw [qbZ] at this
  rw [qbz] at h3 this
  rw [show q = (w :: h :: qW kn [] ts).length by omega, ← g1]
  rfl
end Go.Proofs.YtofklkbfkoliiaaGreat
namespace Go.Proofs.YtofklkbfkoliiaaGreat
set_option linter.unusedVariables false
set_option linter.unusedSimpArgs false
open Go.RowKit
theorem Qk {kn : List TL → TL} {B : List Int} {n : Nat} {us : List TL} {q : Nat} (h2 : 2 ≤ B.length) (h : gg kn B n [] 2 = some (us, q)) : us.length = n ∧ B.drop 2 = qW kn [] us ++ B.drop q ∧ q ≤ B.length := by
 have e := zd kn B n [] 2 h2
 rw [h] at e
 obtain ⟨ts, g1, g2, g3⟩ := rdTs_iff.1 (show Km kn n [] (B.drop 2) = some (us, B.drop q) from e)
 rw [qbF] at g2
 subst g2
 exact ⟨g1, g3, (uY h2 h).2.2⟩
theorem Ql {kn : List TL → TL} {B : List Int} {n : Nat} {us : List TL} {q : Nat} (h2 : 2 ≤ B.length) (h : gg kn B n [] 2 = some (us, q)) : B.take q = bAt B 0 :: bAt B 1 :: qW kn [] us ∧ q = (bAt B 0 :: bAt B 1 :: qW kn [] us).length := by
 obtain ⟨_, g2, g3⟩ := Qk h2 h
 have hB : B = (bAt B 0 :: bAt B 1 :: qW kn [] us) ++ B.drop q := by
  have h0 : B = bAt B 0 :: bAt B 1 :: B.drop 2 := by
   have h1 := jr (B := B) (p := 0) (by omega)
   rw [jr (p := 0 + 1) (by omega)] at h1
   exact h1
  rw [qbD, qbD, ← g2]
  exact h0
 have hl := congrArg List.length hB
 rw [qbz, qbZ] at hl
 have hq : q = (bAt B 0 :: bAt B 1 :: qW kn [] us).length := by omega
 refine ⟨?_, hq⟩
 have h1 := congrArg (List.take q) hB
 rw [h1, hq, List.take_left']
 rfl
theorem Wz {B : List Int} {n : Nat} {us : List TL} {q : Nat} (h2 : 2 ≤ B.length) (h : gg kz B n [] 2 = some (us, q)) : B.take q = kK (bAt B 0) (bAt B 1) us := (Ql h2 h).1
theorem Ja (kn : List TL → TL) : ∀ (ts acc : List TL), ts.length ≤ (qW kn acc ts).length
 | [], _ => by rw [ur]; exact qbM _
 | t :: ts, acc => by
  have h1 := Ja kn ts (acc ++ [t])
  have h2 := Ww t
  rw [qW, qbz, qbW]
  split
  ·simp; omega
  ·omega
theorem Xz (a b : Int) (ts : List TL) : 2 + ts.length ≤ (kK a b ts).length ∧ (kK a b ts).length ≤ 2 + ts.length * 320 := by
 have h1 := Ja kz ts []
 have h2 := uq kz ts []
 have hl : (kK a b ts).length = (qW kz [] ts).length + 2 := rfl
 omega
theorem XA {a b : Int} {ts : List TL} (hr : jl a b ts = true) (h : Vg ts) : isB (kK a b ts) := by
 obtain ⟨_, _, _, h1, h2⟩ := J1 hr
 intro z hz
 rcases List.mem_cons.1 (show z ∈ a :: b :: qW kz [] ts from hz) with rfl | hz
 ·omega
 rcases List.mem_cons.1 hz with rfl | hz
 ·omega
 exact z4 h z hz
def XB (B : List Int) : Prop := ¬ (0 + 2 ≤ B.length ∧ gW (bAt B 0) (bAt B 1) = true ∧ (gg kz B (bAt B 0 * bAt B 1).toNat [] 2).isSome = true)
theorem XC {w h : Int} (hm : gW w h = true) : w * h = ((w * h).toNat : Int) ∧ (w * h).toNat ≤ 16 := by
 have := wo hm
 omega
theorem qa3 (B : List Int) (hB : B.length ≤ 4000000000000000000) (hi : isB B) (hx : XB B) : DFun Tryz.prog 59 [.slf 1 (B).length ((B).flatMap uc8)] [] (.tup [.val (.agg #[.int .i64 0, .int .i64 0, .slice none 0 0]), .val (.int .i64 0), .val (.int .i64 200)]) [] := by
 by_cases h2 : 0 + 2 ≤ B.length
 ·cases hm : gW (bAt B 0) (bAt B 1) with
  | false => exact qaJ B hB hi h2 hm
  | true =>
   cases h0 : gg kz B (bAt B 0 * bAt B 1).toNat [] 2 with
   | none => exact qaH B hB hi _ h2 hm (XC hm).1 h0
   | some x => exact absurd ⟨h2, hm, by rw [h0]; rfl⟩ hx
 ·exact qaI B hB hi h2
end Go.Proofs.YtofklkbfkoliiaaGreat
namespace Go.Proofs.YtofklkbfkoliiaaGreat
set_option linter.unusedVariables false
set_option linter.unusedSimpArgs false
open Go.RowKit
attribute [local irreducible] tkN jC kG
theorem fl125 : fdL Tryz.prog 125 = some [(0, 1)] := by kernel_rfl
theorem Hl : fdO Tryz.prog 125 0 = some 0 := by kernel_rfl
theorem XD : niF Tryz.prog 125 = true := by kernel_rfl
theorem AB : tyB Tryz.prog 125 = some (true, 1) := by kernel_rfl
theorem AC : tyB Tryz.prog 150 = some (true, 2) := by kernel_rfl
theorem XE : zrC Tryz.prog 125 = some [.int .i64 0] := by kernel_rfl
theorem zv125 : zrV Tryz.prog 125 = some (.agg #[.int .i64 0]) := by kernel_rfl
theorem vl : DFun Tryz.prog 46 [.val .nilIface] [] (.val (.int .i64 0)) [] := by
 refine zap (N := 13) 0 (by kernel_rfl) Tryz.func46 rfl rfl rfl (by simp only [fr0, qbs, qbt]; exact rfl) rfl fun s0 hs0 => ?_
 refine zah ?_
 refine zaa 1 rfl ?_
 refine zab ?_
 refine zae ?_
 refine zae ?_
 refine zao 1 ?_
 refine zac ?_
 refine zaa 1 rfl ?_
 refine za rfl (Jz rfl XD zv125 (ev1 rfl)) ?_
 refine zaa 3 rfl ?_
 refine zak rfl (zaq 0 rfl XE rfl) ?_
 refine zas rfl (qY rfl AB (ev1 rfl) (ev1 rfl) rfl rfl rfl rfl) ?_
 refine zaa 1 rfl ?_
 refine zab ?_
 refine zah ?_
 refine zaa 1 rfl ?_
 refine zab ?_
 refine qc rfl (rfl) ?_
 refine zar ?_
 refine zah ?_
 refine zaa 1 rfl ?_
 refine zab ?_
 refine qa ?_
 refine qx (rs1 rfl (qL rfl)) rfl ?_
 rfl
theorem u5 (n : Int) : DFun Tryz.prog 46 [.ifc 125 (.val (.agg #[.int .i64 n]))] [] (.val (.int .i64 n)) [] := by
 refine zap (N := 13) 0 (by kernel_rfl) Tryz.func46 rfl rfl rfl (by simp only [fr0, qbs, qbt]; exact rfl) rfl fun s0 hs0 => ?_
 refine zah ?_
 refine zaa 1 rfl ?_
 refine zab ?_
 refine zae ?_
 refine zae ?_
 refine zao 1 ?_
 refine zac ?_
 refine zaa 1 rfl ?_
 refine za rfl (Jy rfl XD (ev1 rfl)) ?_
 refine zaa 3 rfl ?_
 refine zak rfl (zaq 0 rfl XE rfl) ?_
 refine zas rfl (qY rfl AB (ev1 rfl) (ev1 rfl) rfl rfl rfl rfl) ?_
 refine zaa 1 rfl ?_
 refine zab ?_
 refine zah ?_
 refine zaa 1 rfl ?_
 refine zab ?_
 refine qJ rfl (rfl) ?_
 refine zah ?_
 refine za rfl (zam rfl Hl (ev1 rfl)) ?_
 refine za rfl (qB rfl qX (ev1 rfl) rfl rfl) ?_
 refine zaa 1 rfl ?_
 refine zab ?_
 refine qa ?_
 refine qx (rs1 rfl (qL rfl)) rfl ?_
 rfl
theorem qR (b : Bool) (e : Int) (h : b = true) : DFun Tryz.prog 47 [.val (.bool b), .val (.int .i64 e)] [] (.tup []) [] := by
 refine zap (N := 9) 0 (by kernel_rfl) Tryz.func47 rfl rfl rfl (by simp only [fr0, qbs, qbt]; exact rfl) rfl fun s0 hs0 => ?_
 refine zah ?_
 refine zaa 1 rfl ?_
 refine za rfl (kv rfl (ev1 rfl)) ?_
 refine zab ?_
 refine qc rfl (by rw [h]; rfl) ?_
 refine zar ?_
 refine qx (qH rfl) rfl ?_
 rfl
theorem jQ (b : Bool) (e : Int) (h : b = false) : DPan Tryz.prog 47 [.val (.bool b), .val (.int .i64 e)] [] (.ifc 125 (.val (.agg #[.int .i64 e]))) [] := by
 refine zap (N := 9) 0 (by kernel_rfl) Tryz.func47 rfl rfl rfl (by simp only [fr0, qbs, qbt]; exact rfl) rfl fun s0 hs0 => ?_
 refine zah ?_
 refine zaa 1 rfl ?_
 refine za rfl (kv rfl (ev1 rfl)) ?_
 refine zab ?_
 refine qJ rfl (by rw [h]; rfl) ?_
 refine zac ?_
 refine zaa 1 rfl ?_
 refine za rfl (je (ps := [(0, .tmp 6)]) rfl fl125 XE (vc (ev1 rfl) vn) rfl rfl) ?_
 refine za rfl (xy rfl XD (ev1 rfl)) ?_
 refine ky rfl (wg rfl (ev1 rfl)) rfl ?_
 refine Qz rfl ?_
 rfl
theorem z5 (l : List Int) : DFun Tryz.prog 48 [.slf 1 (l).length ((l).flatMap uc8), .val (.int .i64 0)] [] (.slf 1 (l).length ((l).flatMap uc8)) [] := by
 refine zap (N := 10) 0 (by kernel_rfl) Tryz.func48 rfl rfl rfl (by simp only [fr0, qbs, qbt]; exact rfl) rfl fun s0 hs0 => ?_
 refine jY (t := 0) rfl fun hl0 hL0 => ?_
 refine zah ?_
 refine zaa 1 rfl ?_
 refine zab ?_
 refine zah ?_
 refine zaa 1 rfl ?_
 refine za rfl (qm rfl (ev1 rfl) (ev1 rfl)) ?_
 refine zaa 1 rfl ?_
 refine za rfl (zaj [] [] [] rfl (ev1 rfl) (ec (ev1 rfl) (ec (ev1 rfl) en)) rfl rfl (qR _ _ (rfl)) rfl rfl rfl rfl rfl rfl) ?_
 refine zab ?_
 refine zah ?_
 refine zaa 2 rfl ?_
 refine zab ?_
 refine qa ?_
 refine qx (rs1 rfl (qL rfl)) rfl ?_
 rfl
theorem gT (n : Int) : DFun Tryz.prog 56 [.val (.int .u64 n), .val (.int .i64 0)] [] (.val (.int .u64 n)) [] := by
 refine zap (N := 10) 0 (by kernel_rfl) Tryz.func56 rfl rfl rfl (by simp only [fr0, qbs, qbt]; exact rfl) rfl fun s0 hs0 => ?_
 refine zah ?_
 refine zaa 1 rfl ?_
 refine zab ?_
 refine zah ?_
 refine zaa 1 rfl ?_
 refine za rfl (qm rfl (ev1 rfl) (ev1 rfl)) ?_
 refine zaa 1 rfl ?_
 refine za rfl (zaj [] [] [] rfl (ev1 rfl) (ec (ev1 rfl) (ec (ev1 rfl) en)) rfl rfl (qR _ _ (rfl)) rfl rfl rfl rfl rfl rfl) ?_
 refine zab ?_
 refine zah ?_
 refine zaa 2 rfl ?_
 refine zab ?_
 refine qa ?_
 refine qx (rs1 rfl (qL rfl)) rfl ?_
 rfl
theorem Yq (n e : Int) (h : (e == 0) = false) : DPan Tryz.prog 56 [.val (.int .u64 n), .val (.int .i64 e)] [] (.ifc 125 (.val (.agg #[.int .i64 e]))) [] := by
 refine zap (N := 10) 0 (by kernel_rfl) Tryz.func56 rfl rfl rfl (by simp only [fr0, qbs, qbt]; exact rfl) rfl fun s0 hs0 => ?_
 refine zah ?_
 refine zaa 1 rfl ?_
 refine zab ?_
 refine zah ?_
 refine zaa 1 rfl ?_
 refine za rfl (qm rfl (ev1 rfl) (ev1 rfl)) ?_
 refine zaa 1 rfl ?_
 refine ky rfl (qw [] [] [] rfl (ev1 rfl) (ec (ev1 rfl) (ec (ev1 rfl) en)) rfl rfl (jQ _ _ (h)) rfl rfl rfl rfl rfl rfl) rfl ?_
 refine Qz rfl ?_
 rfl
theorem qa4 : DFun Tryz.prog 83 [.slf 1 ([8, 8]).length (([8, 8]).flatMap ic)] [] (.val (.int .i64 16)) [] := by
 refine zap (N := 17) 0 (by kernel_rfl) Tryz.func83 rfl rfl rfl (by simp only [fr0, qbs, qbt]; exact rfl) rfl fun s0 hs0 => ?_
 refine jY (t := 0) rfl fun hl0 hL0 => ?_
 refine zah ?_
 refine zaa 1 rfl ?_
 refine zab ?_
 refine zah ?_
 refine zaa 1 rfl ?_
 refine zab ?_
 refine zae ?_
 refine zah ?_
 refine zaa 1 rfl ?_
 refine za rfl (qE rfl um (ev1 rfl)) ?_
 refine zaa 1 rfl ?_
 refine zab ?_
 refine zat ?_
 refine yK (kY ?_)
 refine zah ?_
 refine za rfl (qv rfl (ev1 rfl) (ev1 rfl)) ?_
 refine zab ?_
 refine zae ?_
 refine qJ rfl (rfl) ?_
 refine zar ?_
 refine zae ?_
 refine zat ?_
 refine zah ?_
 refine za rfl (q0 (l := ([8, 8] : List Int)) (en := ic) (j := 0) rfl um (ev1 rfl) (ev1 rfl) (fun _ => rfl) (by decide) rfl (qb0 (qbA rfl))) ?_
 refine za rfl ((ke rfl tb3 (ev1 rfl) rfl).cast (d' := .val (.int .i64 8)) (by rfl)) ?_
 refine zaa 1 rfl ?_
 refine zab ?_
 refine zac ?_
 refine zaa 2 rfl ?_
 refine za rfl (ql rfl (ev1 rfl) (ev1 rfl) (fun _ => qbB _ (by omega))) ?_
 refine zaa 1 rfl ?_
 refine zab ?_
 refine zac ?_
 refine za rfl (ql rfl (ev1 rfl) (ev1 rfl) (fun _ => qbB _ (by omega))) ?_
 refine zaa 1 rfl ?_
 refine zab ?_
 refine kY ?_
 refine zah ?_
 refine za rfl (qv rfl (ev1 rfl) (ev1 rfl)) ?_
 refine zab ?_
 refine zae ?_
 refine qJ rfl (rfl) ?_
 refine zar ?_
 refine zae ?_
 refine zat ?_
 refine zah ?_
 refine za rfl (q0 (l := ([8, 8] : List Int)) (en := ic) (j := 1) rfl um (ev1 rfl) (ev1 rfl) (fun _ => rfl) (by decide) rfl (qb0 (qbA rfl))) ?_
 refine za rfl ((ke rfl tb3 (ev1 rfl) rfl).cast (d' := .val (.int .i64 8)) (by rfl)) ?_
 refine zaa 1 rfl ?_
 refine zab ?_
 refine zac ?_
 refine zaa 2 rfl ?_
 refine za rfl (ql rfl (ev1 rfl) (ev1 rfl) (fun _ => qbB _ (by omega))) ?_
 refine zaa 1 rfl ?_
 refine zab ?_
 refine zac ?_
 refine za rfl (ql rfl (ev1 rfl) (ev1 rfl) (fun _ => qbB _ (by omega))) ?_
 refine zaa 1 rfl ?_
 refine zab ?_
 refine kY ?_
 refine zah ?_
 refine za rfl (qv rfl (ev1 rfl) (ev1 rfl)) ?_
 refine zab ?_
 refine zae ?_
 refine qc rfl (rfl) ?_
 refine qD ?_
 refine zah ?_
 refine zaa 2 rfl ?_
 refine zab ?_
 refine qa ?_
 refine qx (rs1 rfl (qL rfl)) rfl ?_
 rfl
theorem Qm (e : Int) : DDef Tryz.prog 80 [.loc 0 0] [.flat 34 [.int .i64 e]] none none [.flat 34 [.int .i64 0]] := by
 refine jB (dr := .tup []) (t := 1) (N := 3) 1 (by kernel_rfl) Tryz.func80 rfl rfl rfl (by simp only [fr0, qbs, qbt]; exact rfl) rfl rfl rfl rfl rfl fun s0 hs0 => ?_
 refine za rfl (zaj [] [] [] rfl (ev1 rfl) (ec (ev1 rfl) en) rfl rfl (vj) rfl rfl rfl rfl rfl rfl) ?_
 refine zas rfl (qK rfl qX (ev1 rfl) (ev1 rfl) rfl) ?_
 refine zab ?_
 refine ko [0] (qH rfl) rfl rfl ?_ ⟨rfl, trivial⟩
 rfl
theorem AD (w : Nat) (n : Int) (hw : 1 ≤ w ∧ w ≤ 8) (hn : 0 ≤ n ∧ n < (256 ^ w : Nat)) : DFun Tryz.prog 84 [.val (.int .i64 (w : Int)), .val (.int .u64 n)] [] (.slf 1 (k7 w n).length ((k7 w n).flatMap uc8)) [] := by
 have h := UU w hw n (Xs hn)
 rw [Yl hw hn.1] at h
 exact h
theorem Hm (a b : Int) (ha : 0 ≤ a ∧ a < (256 ^ 8 : Nat)) (hb : 0 ≤ b ∧ b < (256 ^ 8 : Nat)) : DFun Tryz.prog 49 [.slf 1 ([8, 8]).length (([8, 8]).flatMap ic), .slf 1 ([a, b]).length (([a, b]).flatMap uc)] [] (.tup [.arr 0, .val (.int .i64 0)]) [.arr 5 1 (k7 8 a ++ k7 8 b).length ((k7 8 a ++ k7 8 b).flatMap uc8)] := by
 refine qo (N := 39) 0 (by kernel_rfl) Tryz.func49 rfl rfl rfl (by simp only [fr0, qbs, qbt]; exact rfl) rfl fun s0 hs0 => ?_
 refine qz rfl hs0 ?_
 refine zao 1 ?_
 refine zac ?_
 refine zaa 1 rfl ?_
 refine zak rfl (zaq 0 rfl jT rfl) ?_
 refine zab ?_
 refine qr (l0 := [_]) rfl rfl rfl rfl rfl hs0 ?_
 refine za rfl (qV rfl en (ec (ev1 rfl) en)) ?_
 refine zab ⟨_, _, _, 1, ev1 rfl, qbK hs0 (by decide), rfl, ?_⟩
 have hs1 : s0.M.length ≤ 1 := qbK hs0 (by decide)
 refine qy rfl hs0 ?_
 refine zah ?_
 refine zaa 1 rfl ?_
 refine za rfl (zaj [] [] [] rfl (ev1 rfl) (ec (ev1 rfl) en) rfl rfl (vi [8, 8] rfl) rfl rfl rfl rfl rfl rfl) ?_
 refine zab ?_
 refine zae ?_
 refine zah ?_
 refine zaa 1 rfl ?_
 refine za rfl (qE rfl KX (ev1 rfl)) ?_
 refine zaa 1 rfl ?_
 refine za rfl (qE rfl um (ev1 rfl)) ?_
 refine za rfl (qT rfl (ev1 rfl) (ev1 rfl)) ?_
 refine zab ?_
 refine qc rfl (rfl) ?_
 refine zar ?_
 refine zae ?_
 refine zao 1 ?_
 refine zac ?_
 refine zaa 1 rfl ?_
 refine za rfl (zaj [] [] [] rfl (ev1 rfl) (ec (ev1 rfl) en) rfl rfl (qa4) rfl rfl rfl rfl rfl rfl) ?_
 refine zak rfl (A1 1 (16) rfl qG zr5 (ev1 rfl) (ev1 rfl) (fun _ => rfl) (fun _ => by omega) rfl (fun _ => by omega)) ?_
 refine zaa 1 rfl ?_
 refine zab ?_
 refine zae ?_
 refine zah ?_
 refine zaa 1 rfl ?_
 refine za rfl (qE rfl um (ev1 rfl)) ?_
 refine zaa 1 rfl ?_
 refine zab ?_
 refine zat ?_
 refine yK (kY ?_)
 refine zah ?_
 refine za rfl (qv rfl (ev1 rfl) (ev1 rfl)) ?_
 refine zab ?_
 refine zae ?_
 refine qJ rfl (rfl) ?_
 refine zar ?_
 refine zae ?_
 refine zat ?_
 refine zah ?_
 refine zaa 1 rfl ?_
 refine za rfl (q0 (l := ([8, 8] : List Int)) (en := ic) (j := 0) rfl um (ev1 rfl) (ev1 rfl) (fun _ => rfl) (by decide) rfl (qb0 (qbA rfl))) ?_
 refine za rfl ((ke rfl tb3 (ev1 rfl) rfl).cast (d' := .val (.int .i64 8)) (by rfl)) ?_
 refine zaa 2 rfl ?_
 refine zab ?_
 refine zao 1 ?_
 refine zac ?_
 refine zaa 4 rfl ?_
 refine za rfl (q0 (l := ([a, b] : List Int)) (en := uc) (j := 0) rfl KX (ev1 rfl) (ev1 rfl) (fun _ => rfl) (by decide) rfl (qb0 (qbA rfl))) ?_
 refine za rfl (ke rfl qZ (ev1 rfl) rfl) ?_
 refine za rfl (zaj [] [] [] rfl (ev1 rfl) (ec (ev1 rfl) (ec (ev1 rfl) en)) rfl rfl (AD 8 _ (by decide) (by assumption)) rfl rfl rfl rfl rfl rfl) ?_
 refine zak rfl (vC (j := 2) rfl qG zr5 rfl (ev1 rfl) (ev1 rfl) yY rfl rfl (fun _ => yB (fun _ => rfl) _) (fun _ => ⟨by simp only [qbz, gh, qce]; omega, by simp only [qbz, gh, qce]; omega⟩)) ?_
 refine zaa 1 rfl ?_
 refine zab ?_
 refine zac ?_
 refine za rfl (ql rfl (ev1 rfl) (ev1 rfl) (fun _ => qbB _ (by omega))) ?_
 refine zaa 1 rfl ?_
 refine zab ?_
 refine kY ?_
 refine zah ?_
 refine za rfl (qv rfl (ev1 rfl) (ev1 rfl)) ?_
 refine zab ?_
 refine zae ?_
 refine qJ rfl (rfl) ?_
 refine zar ?_
 refine zae ?_
 refine zat ?_
 refine zah ?_
 refine zaa 1 rfl ?_
 refine za rfl (q0 (l := ([8, 8] : List Int)) (en := ic) (j := 1) rfl um (ev1 rfl) (ev1 rfl) (fun _ => rfl) (by decide) rfl (qb0 (qbA rfl))) ?_
 refine za rfl ((ke rfl tb3 (ev1 rfl) rfl).cast (d' := .val (.int .i64 8)) (by rfl)) ?_
 refine zaa 2 rfl ?_
 refine zab ?_
 refine zao 1 ?_
 refine zac ?_
 refine zaa 4 rfl ?_
 refine za rfl (q0 (l := ([a, b] : List Int)) (en := uc) (j := 1) rfl KX (ev1 rfl) (ev1 rfl) (fun _ => rfl) (by decide) rfl (qb0 (qbA rfl))) ?_
 refine za rfl (ke rfl qZ (ev1 rfl) rfl) ?_
 refine za rfl (zaj [] [] [] rfl (ev1 rfl) (ec (ev1 rfl) (ec (ev1 rfl) en)) rfl rfl (AD 8 _ (by decide) (by assumption)) rfl rfl rfl rfl rfl rfl) ?_
 refine zak rfl (vC (j := 3) rfl qG zr5 rfl (ev1 rfl) (ev1 rfl) yY rfl rfl (fun _ => yB (fun _ => rfl) _) (fun _ => ⟨by simp only [qbz, gh, qce]; omega, by simp only [qbz, gh, qce]; omega⟩)) ?_
 refine zaa 1 rfl ?_
 refine zab ?_
 refine zac ?_
 refine za rfl (ql rfl (ev1 rfl) (ev1 rfl) (fun _ => qbB _ (by omega))) ?_
 refine zaa 1 rfl ?_
 refine zab ?_
 refine kY ?_
 refine zah ?_
 refine za rfl (qv rfl (ev1 rfl) (ev1 rfl)) ?_
 refine zab ?_
 refine zae ?_
 refine qc rfl (rfl) ?_
 refine qD ?_
 refine zah ?_
 refine zaa 2 rfl ?_
 refine zas rfl (qK rfl qX (ev1 rfl) (ev1 rfl) rfl) ?_
 refine zab ?_
 refine qa ?_
 refine jH (kL [0] [] rfl rfl (Qm _) rfl rfl rfl rfl rfl) ?_
 refine ko [3] (rs2 rfl (qL rfl) (js qX rfl rfl rfl)) rfl rfl ?_ ⟨?_, trivial⟩
 rfl
 exact vF (by simp [gh]) (by simp [List.flatMap_append])
theorem Hn (a b : Int) (ha : 0 ≤ a ∧ a < (256 ^ 8 : Nat)) (hb : 0 ≤ b ∧ b < (256 ^ 8 : Nat)) : DFun Tryz.prog 49 [.slf 1 2 [.int .i64 8, .int .i64 8], .slf 1 2 [.int .u64 a, .int .u64 b]] [] (.tup [.slf 1 (k7 8 a ++ k7 8 b).length ((k7 8 a ++ k7 8 b).flatMap uc8), .val (.int .i64 0)]) [] := yc (Hm a b ha hb) rfl
theorem Qn (e : Int) : DDef Tryz.prog 91 [.loc 0 0] [.flat 34 [.int .i64 e]] none none [.flat 34 [.int .i64 0]] := by
 refine jB (dr := .tup []) (t := 1) (N := 3) 1 (by kernel_rfl) Tryz.func91 rfl rfl rfl (by simp only [fr0, qbs, qbt]; exact rfl) rfl rfl rfl rfl rfl fun s0 hs0 => ?_
 refine za rfl (zaj [] [] [] rfl (ev1 rfl) (ec (ev1 rfl) en) rfl rfl (vj) rfl rfl rfl rfl rfl rfl) ?_
 refine zas rfl (qK rfl qX (ev1 rfl) (ev1 rfl) rfl) ?_
 refine zab ?_
 refine ko [0] (qH rfl) rfl rfl ?_ ⟨rfl, trivial⟩
 rfl
theorem J2 (e n : Int) : DDef Tryz.prog 91 [.loc 0 0] [.flat 34 [.int .i64 e]] (some (.ifc 130 (.val (.agg #[.int .i64 n])))) none [.flat 34 [.int .i64 n]] := by
 refine jB (dr := .tup []) (t := 1) (N := 3) 1 (by kernel_rfl) Tryz.func91 rfl rfl rfl (by simp only [fr0, qbs, qbt]; exact rfl) rfl rfl rfl rfl rfl fun s0 hs0 => ?_
 refine za rfl (zaj [] [] [] rfl (ev1 rfl) (ec (ev1 rfl) en) rfl rfl (zc n) rfl rfl rfl rfl rfl rfl) ?_
 refine zas rfl (qK rfl qX (ev1 rfl) (ev1 rfl) rfl) ?_
 refine zab ?_
 refine ko [0] (qH rfl) rfl rfl ?_ ⟨rfl, trivial⟩
 rfl
theorem yG (l : List Int) (hl : l.length ≤ 2000000) (p : Nat) (h : p + 8 ≤ l.length) : DFun Tryz.prog 57 [.slf 1 (l).length ((l).flatMap uc8), .val (.int .i64 (p : Int)), .val (.int .i64 8)] [] (.tup [.val (.int .u64 (kG 8 (l.drop p))), .val (.int .i64 0)]) [] := by
 refine qo (N := 29) 0 (by kernel_rfl) Tryz.func57 rfl rfl rfl (by simp only [fr0, qbs, qbt]; exact rfl) rfl fun s0 hs0 => ?_
 refine qz rfl hs0 ?_
 refine zao 1 ?_
 refine zac ?_
 refine zaa 1 rfl ?_
 refine zak rfl (zaq 0 rfl jT rfl) ?_
 refine zab ?_
 refine qr (l0 := [_]) rfl rfl rfl rfl rfl hs0 ?_
 refine za rfl (qV rfl en (ec (ev1 rfl) en)) ?_
 refine zab ⟨_, _, _, 1, ev1 rfl, qbK hs0 (by decide), rfl, ?_⟩
 have hs1 : s0.M.length ≤ 1 := qbK hs0 (by decide)
 refine qy rfl hs0 ?_
 refine zah ?_
 refine zaa 1 rfl ?_
 refine za rfl (xv (ps := [(0, .tmp 10)]) rfl um zr3 rfl (vc (ev1 rfl) vn) rfl (by decide) (by decide)) ?_
 refine za rfl (zaj [] [] [] rfl (ev1 rfl) (ec (ev1 rfl) en) rfl rfl (vi [8] rfl) rfl rfl rfl rfl rfl rfl) ?_
 refine zab ?_
 refine zae ?_
 refine zah ?_
 refine zaa 1 rfl ?_
 refine za rfl (qv rfl (ev1 rfl) (ev1 rfl)) ?_
 refine zaa 1 rfl ?_
 refine zai (qe rfl rfl rfl) rfl rfl rfl (zal (.inl rfl) (ev1 rfl)) ?_
 refine zai (qe rfl rfl rfl) rfl rfl rfl (zal (.inl rfl) (ev1 rfl)) ?_
 refine zai (qe rfl rfl rfl) rfl rfl rfl (qE rfl qG (ev2 rfl)) ?_
 refine zai (qe rfl rfl rfl) rfl rfl rfl (kA rfl (ev2 rfl) (ev2 rfl)) ?_
 refine za rfl (kx rfl (ev1 rfl) (ev3 rfl id)) ?_
 refine zab ?_
 refine qc rfl (by simp; omega) ?_
 refine zar ?_
 refine zae ?_
 refine zao 1 ?_
 refine zac ?_
 refine zaa 2 rfl ?_
 refine za rfl (yi (i := p) rfl qG (ev1 rfl) (jf (ev1 rfl)) (fun _ => by omega) (fun _ => by omega) (fun _ => rfl)) ?_
 refine za rfl (JE rfl UM GY (ev1 rfl) rfl) ?_
 refine zak rfl (zaq 1 rfl GY rfl) ?_
 refine zas rfl (kw rfl AC (ev1 rfl) (ev1 rfl) rfl rfl rfl rfl) ?_
 refine zab ?_
 refine zah ?_
 refine zaa 1 rfl ?_
 refine zak rfl (zaj [1] [] [] rfl (ev1 rfl) (ec (ev1 rfl) (ec (ev1 rfl) en)) rfl rfl (K0 _ (l.drop p) (by rw [qbZ]; omega) 0 8 (by rw [qbZ]; omega)) rfl rfl rfl rfl rfl rfl) ?_
 refine zaa 1 rfl ?_
 refine zas rfl (qK rfl qX (ev1 rfl) (ev1 rfl) rfl) ?_
 refine zab ?_
 refine qa ?_
 refine jH (kL [0] [] rfl rfl (Qn _) rfl rfl rfl rfl rfl) ?_
 refine qx (rs2 rfl (qL rfl) (js qX rfl rfl rfl)) rfl ?_
 rfl
theorem Vh (l : List Int) (hl : l.length ≤ 2000000) (p : Nat) (hp : p ≤ l.length) (h : l.length < p + 8) : DFun Tryz.prog 57 [.slf 1 (l).length ((l).flatMap uc8), .val (.int .i64 (p : Int)), .val (.int .i64 8)] [] (.tup [.val (.int .u64 0), .val (.int .i64 110)]) [] := by
 refine qo (N := 29) 0 (by kernel_rfl) Tryz.func57 rfl rfl rfl (by simp only [fr0, qbs, qbt]; exact rfl) rfl fun s0 hs0 => ?_
 refine qz rfl hs0 ?_
 refine zao 1 ?_
 refine zac ?_
 refine zaa 1 rfl ?_
 refine zak rfl (zaq 0 rfl jT rfl) ?_
 refine zab ?_
 refine qr (l0 := [_]) rfl rfl rfl rfl rfl hs0 ?_
 refine za rfl (qV rfl en (ec (ev1 rfl) en)) ?_
 refine zab ⟨_, _, _, 1, ev1 rfl, qbK hs0 (by decide), rfl, ?_⟩
 have hs1 : s0.M.length ≤ 1 := qbK hs0 (by decide)
 refine qy rfl hs0 ?_
 refine zah ?_
 refine zaa 1 rfl ?_
 refine za rfl (xv (ps := [(0, .tmp 10)]) rfl um zr3 rfl (vc (ev1 rfl) vn) rfl (by decide) (by decide)) ?_
 refine za rfl (zaj [] [] [] rfl (ev1 rfl) (ec (ev1 rfl) en) rfl rfl (vi [8] rfl) rfl rfl rfl rfl rfl rfl) ?_
 refine zab ?_
 refine zae ?_
 refine zah ?_
 refine zaa 1 rfl ?_
 refine za rfl (qv rfl (ev1 rfl) (ev1 rfl)) ?_
 refine zaa 1 rfl ?_
 refine zai (qe rfl rfl rfl) rfl rfl rfl (zal (.inl rfl) (ev1 rfl)) ?_
 refine zai (qe rfl rfl rfl) rfl rfl rfl (zal (.inl rfl) (ev1 rfl)) ?_
 refine zai (qe rfl rfl rfl) rfl rfl rfl (qE rfl qG (ev2 rfl)) ?_
 refine zai (qe rfl rfl rfl) rfl rfl rfl (kA rfl (ev2 rfl) (ev2 rfl)) ?_
 refine za rfl (kx rfl (ev1 rfl) (ev3 rfl id)) ?_
 refine zab ?_
 refine qc rfl (by simp; omega) ?_
 refine zar ?_
 refine zae ?_
 refine zao 1 ?_
 refine zac ?_
 refine zaa 2 rfl ?_
 refine za rfl (yi (i := p) rfl qG (ev1 rfl) (jf (ev1 rfl)) (fun _ => by omega) (fun _ => by omega) (fun _ => rfl)) ?_
 refine za rfl (JE rfl UM GY (ev1 rfl) rfl) ?_
 refine zak rfl (zaq 1 rfl GY rfl) ?_
 refine zas rfl (kw rfl AC (ev1 rfl) (ev1 rfl) rfl rfl rfl rfl) ?_
 refine zab ?_
 refine zah ?_
 refine zaa 1 rfl ?_
 refine ky rfl (qw [1] [] [] rfl (ev1 rfl) (ec (ev1 rfl) (ec (ev1 rfl) en)) rfl rfl (zU _ (l.drop p) 0 8 (by rw [qbZ]; omega)) rfl rfl rfl rfl rfl rfl) rfl ?_
 refine jH (qQ [0] [] rfl rfl rfl (J2 _ _) rfl rfl rfl rfl rfl) ?_
 refine qx (rs2 rfl (qL rfl) (js qX rfl rfl rfl)) rfl ?_
 rfl
end Go.Proofs.YtofklkbfkoliiaaGreat
namespace Go.Proofs.YtofklkbfkoliiaaGreat
set_option linter.unusedVariables false
set_option linter.unusedSimpArgs false
open Go.RowKit
attribute [local irreducible] tkN jC kG
theorem qa5 (n : Nat) (h : n ≤ 100000000) : DFun Tryz.prog 74 [.val (.slice none 0 0), .val (.int .i64 (n : Int))] [] (.arr 0) [.arr 5 1 (0) ((([] : List Int)).flatMap uc8)] := by
 refine zap (N := 27) 0 (by kernel_rfl) Tryz.func74 rfl rfl rfl (by simp only [fr0, qbs, qbt]; exact rfl) rfl fun s0 hs0 => ?_
 refine zah ?_
 refine zaa 1 rfl ?_
 refine zab ?_
 refine zae ?_
 refine zah ?_
 refine zaa 1 rfl ?_
 refine za rfl (qv rfl (ev1 rfl) (ev1 rfl)) ?_
 refine zab ?_
 refine qc rfl (by simp) ?_
 refine zar ?_
 refine zae ?_
 refine zah ?_
 refine zaa 2 rfl ?_
 refine za rfl (QN rfl qG (ev1 rfl)) ?_
 refine zaa 1 rfl ?_
 refine za rfl (qE rfl qG (Ui 1 (ev1 rfl))) ?_
 refine za rfl (jV rfl (ev1 rfl) (ev1 rfl) (fun _ => qbB _ (by decide))) ?_
 refine za rfl (jV rfl (ev1 rfl) (ev1 rfl) (fun _ => qbB _ (by simp; omega))) ?_
 refine zaa 1 rfl ?_
 refine zab ?_
 refine zah ?_
 refine zaa 1 rfl ?_
 refine za rfl (kA rfl (ev1 rfl) (ev1 rfl)) ?_
 refine zab ?_
 refine qh rfl (fun c2 => ?_) (fun c2 => ?_)
 ·try simp only [decide_eq_true_eq, decide_eq_false_iff_not, beq_iff_eq, bne_iff_ne, beq_eq_false_iff_ne, bne_eq_false_iff_eq, qbx, qby, qbu, qbE, qbv, ne_eq, Decidable.not_not, qbQ, qbR] at c2
  refine zao 2 ?_
  refine zac ?_
  refine zaa 2 rfl ?_
  refine za rfl (QN rfl qG (ev1 rfl)) ?_
  refine za rfl (qaa rfl qG (ev1 rfl) (jf (ev1 rfl))) ?_
  refine zaa 1 rfl ?_
  refine zak rfl (qab (n := n) (j := 0) rfl qG Tryz.underlying3 zr5 rfl (by decide) (ev1 rfl) (ev1 rfl) (fun _ => by simp) (fun _ => by simp at c2; omega) rfl (fun _ => ⟨by omega, by omega⟩)) ?_
  refine zaa 1 rfl ?_
  refine za rfl (qE rfl qG (Ui 1 (ev1 rfl))) ?_
  refine zak rfl (qac (j := 1) rfl qG (ev1 rfl) rfl (jf (ev1 rfl)) rfl) ?_
  refine zaa 1 rfl ?_
  refine zab ?_
  refine zah ?_
  refine zaa 2 rfl ?_
  refine zab ?_
  refine qa ?_
  refine ko [1] (rs1 rfl (qL rfl)) rfl rfl ?_ ⟨rfl, trivial⟩
  rfl
 ·try simp only [decide_eq_true_eq, decide_eq_false_iff_not, beq_iff_eq, bne_iff_ne, beq_eq_false_iff_ne, bne_eq_false_iff_eq, qbx, qby, qbu, qbE, qbv, ne_eq, Decidable.not_not, qbQ, qbR] at c2
  refine zar ?_
  refine zah ?_
  refine zaa 2 rfl ?_
  refine zab ?_
  refine KF 4 5 1 rfl rfl rfl ?_
  refine qa ?_
  refine ko [0] (rs1 rfl (qL rfl)) rfl rfl ?_ ⟨rfl, trivial⟩
  rfl
def tkL (ps : List (List Int)) (k : Nat) : Nat := (ps.take k).flatten.length
theorem u6 {ps : List (List Int)} {k : Nat} (h : k < ps.length) : tkL ps (k + 1) = tkL ps k + ps[k].length := by
 unfold tkL; rw [qbP h, List.flatten_append, qbz]; simp
theorem Vi (ps : List (List Int)) : tkL ps ps.length = ps.flatten.length := by unfold tkL; rw [qch]
theorem J3 (ps : List (List Int)) (k : Nat) : tkL ps k ≤ ps.flatten.length := by
 have h : (ps.take k ++ ps.drop k).flatten.length = ps.flatten.length := by rw [List.take_append_drop]
 rw [List.flatten_append, qbz] at h
 unfold tkL
 omega
theorem XF (ps : List (List Int)) (hT : ps.flatten.length ≤ 100000000) : DFun Tryz.prog 36 [.slm 1 (ps).length ((ps).flatMap fun p => [.slf 1 (p).length ((p).flatMap uc8)])] [] (.arr 0) [.arr 5 1 (ps.flatten.length) ((ps.flatten).flatMap uc8)] := by
 refine zap (N := 36) 0 (by kernel_rfl) Tryz.func36 rfl rfl rfl (by simp only [fr0, qbs, qbt]; exact rfl) rfl fun s0 hs0 => ?_
 refine gM (t := 0) rfl fun hl0 hL0 => ?_
 refine zah ?_
 refine zaa 1 rfl ?_
 refine zab ?_
 refine zah ?_
 refine zaa 1 rfl ?_
 refine zab ?_
 refine zae ?_
 refine zah ?_
 refine zaa 1 rfl ?_
 refine za rfl (kE rfl kO (ev1 rfl)) ?_
 refine zaa 1 rfl ?_
 refine zab ?_
 refine zat ?_
 refine qI ⟨hs0, rfl⟩ (α := Nat) (fun k => [(3, .val (.int .i64 (tkL ps k : Nat))), (11, .val (.int .i64 (k : Int)))]) [(0, _), (9, _), (10, _)] (fun k => []) [] (fun k => k ≤ ps.length) (fun k => ps.length - k) 0 [] (by simp) rfl ⟨rfl, rfl, rfl, trivial⟩ ⟨rfl, rfl, trivial⟩ trivial ?_
 intro k hx
 simp only [upd, zaf, zag, qbD, qbF]
 have hk := hx
 have htk := J3 ps k
 refine zah ?_
 refine za rfl (qv rfl (ev1 rfl) (ev1 rfl)) ?_
 refine zab ?_
 refine zae ?_
 refine qh rfl (fun c1 => ?_) (fun c1 => ?_)
 ·try simp only [decide_eq_true_eq, decide_eq_false_iff_not, beq_iff_eq, bne_iff_ne, beq_eq_false_iff_ne, bne_eq_false_iff_eq, qbx, qby, qbu, qbE, qbv, ne_eq, Decidable.not_not, qbQ, qbR] at c1
  refine zar ?_
  refine zae ?_
  refine zat ?_
  refine zah ?_
  refine za rfl (gd (k) rfl kO (ev1 rfl) (ev1 rfl) (fun _ => rfl) (jO (by omega))) ?_
  refine za rfl (jk rfl kD (ev1 rfl) rfl) ?_
  refine zaa 1 rfl ?_
  refine zab ?_
  refine zae ?_
  have htl := J3 ps (k + 1)
  rw [u6 (by omega)] at htl
  refine zac ?_
  refine zaa 2 rfl ?_
  refine za rfl (qE rfl qG (ev1 rfl)) ?_
  refine za rfl (ql rfl (ev1 rfl) (ev1 rfl) (fun _ => qbB _ (by omega))) ?_
  refine zaa 1 rfl ?_
  refine zab ?_
  refine zah ?_
  refine zaa 1 rfl ?_
  refine za rfl (qv rfl (ev1 rfl) (ev1 rfl)) ?_
  refine zab ?_
  refine qc rfl (by simp; omega) ?_
  refine zar ?_
  refine zac ?_
  refine za rfl (ql rfl (ev1 rfl) (ev1 rfl) (fun _ => qbB _ (by omega))) ?_
  refine zaa 1 rfl ?_
  refine zab ?_
  refine ⟨k + 1, [], by omega, by simp only []; omega, rfl, ⟨by rw [u6 (by omega)]; rfl, rfl, rfl, rfl, rfl, trivial⟩, trivial⟩
 ·try simp only [decide_eq_true_eq, decide_eq_false_iff_not, beq_iff_eq, bne_iff_ne, beq_eq_false_iff_ne, bne_eq_false_iff_eq, qbx, qby, qbu, qbE, qbv, ne_eq, Decidable.not_not, qbQ, qbR] at c1
  refine qD ?_
  refine zae ?_
  obtain rfl : k = ps.length := by omega
  rw [Vi]
  refine zao 1 ?_
  refine zac ?_
  refine zaa 1 rfl ?_
  refine zak rfl (zaj [] [] [0] rfl (ev1 rfl) (ec (ev1 rfl) (ec (ev1 rfl) en)) rfl rfl (qa5 _ hT) rfl rfl rfl rfl rfl rfl) ?_
  refine zaa 1 rfl ?_
  refine zab ?_
  refine zae ?_
  refine zah ?_
  refine zaa 1 rfl ?_
  refine za rfl (kE rfl kO (ev1 rfl)) ?_
  refine zaa 1 rfl ?_
  refine zab ?_
  refine zat ?_
  refine qI ⟨hs0, rfl⟩ (α := Nat) (fun k => [(27, .val (.int .i64 (k : Int)))]) [(6, _), (25, _), (26, _)] (fun k => [(0, .arr 5 1 ((tkL ps k)) (((ps.take k).flatten).flatMap uc8))]) [.hole] (fun k => k ≤ ps.length) (fun k => ps.length - k) 0 [0] (by simp) rfl ⟨rfl, rfl, rfl, trivial⟩ ⟨rfl, trivial⟩ ⟨rfl, trivial⟩ ?_
  intro k hx
  simp only [upd, zaf, zag, qbD, qbF]
  have hk := hx
  have htk := J3 ps k
  refine zah ?_
  refine za rfl (qv rfl (ev1 rfl) (ev1 rfl)) ?_
  refine zab ?_
  refine zae ?_
  refine qh rfl (fun c3 => ?_) (fun c3 => ?_)
  ·try simp only [decide_eq_true_eq, decide_eq_false_iff_not, beq_iff_eq, bne_iff_ne, beq_eq_false_iff_ne, bne_eq_false_iff_eq, qbx, qby, qbu, qbE, qbv, ne_eq, Decidable.not_not, qbQ, qbR] at c3
   refine zar ?_
   refine zae ?_
   refine zat ?_
   refine zah ?_
   refine za rfl (gd (k) rfl kO (ev1 rfl) (ev1 rfl) (fun _ => rfl) (jO (by omega))) ?_
   refine za rfl (jk rfl kD (ev1 rfl) rfl) ?_
   refine zaa 1 rfl ?_
   refine zab ?_
   have htl := J3 ps (k + 1)
   rw [u6 (by omega)] at htl
   refine zao 1 ?_
   refine zac ?_
   refine zaa 2 rfl ?_
   refine zak rfl (vC (j := 1) rfl qG zr5 rfl (ev1 rfl) (ev1 rfl) yY rfl rfl (fun _ => yB (fun _ => rfl) _) (fun _ => ⟨by omega, by omega⟩)) ?_
   refine zaa 1 rfl ?_
   refine zab ?_
   refine zac ?_
   refine za rfl (ql rfl (ev1 rfl) (ev1 rfl) (fun _ => qbB _ (by omega))) ?_
   refine zaa 1 rfl ?_
   refine zab ?_
   refine ⟨k + 1, [1], by omega, by simp only []; omega, rfl, ⟨rfl, rfl, rfl, rfl, trivial⟩, ⟨by rw [u6 (by omega), qbP (by omega), List.flatten_append, List.flatten_singleton]; exact vF rfl (by simp), trivial⟩⟩
  ·try simp only [decide_eq_true_eq, decide_eq_false_iff_not, beq_iff_eq, bne_iff_ne, beq_eq_false_iff_ne, bne_eq_false_iff_eq, qbx, qby, qbu, qbE, qbv, ne_eq, Decidable.not_not, qbQ, qbR] at c3
   refine qD ?_
   refine zah ?_
   refine zaa 2 rfl ?_
   refine zab ?_
   refine qa ?_
   obtain rfl : k = ps.length := by omega
   rw [Vi, qch]
   refine ko [0] (rs1 rfl (qL rfl)) rfl rfl ?_ ⟨rfl, trivial⟩
   rfl
theorem yS (ps : List (List Int)) (n : Nat) (L : List D) (h1 : n = ps.length) (h2 : L = ps.flatMap fun p => [.slf 1 (p).length ((p).flatMap uc8)]) (hT : ps.flatten.length ≤ 100000000) : DFun Tryz.prog 36 [.slm 1 n L] [] (.slf 1 (ps.flatten).length ((ps.flatten).flatMap uc8)) [] := by
 subst h1 h2; exact yc (XF ps hT) rfl
end Go.Proofs.YtofklkbfkoliiaaGreat
namespace Go.Proofs.YtofklkbfkoliiaaGreat
set_option linter.unusedVariables false
set_option linter.unusedSimpArgs false
open Go.RowKit
attribute [local irreducible] tkN jC kG
theorem fl53 : fdL Tryz.prog 53 = some [(0, 1), (1, 1), (2, 1), (3, 1)] := by kernel_rfl
theorem kN : fdO Tryz.prog 53 0 = some 0 := by kernel_rfl
theorem jv : fdO Tryz.prog 53 1 = some 1 := by kernel_rfl
theorem k9 : fdO Tryz.prog 53 2 = some 2 := by kernel_rfl
theorem yd : fdO Tryz.prog 53 3 = some 3 := by kernel_rfl
theorem kQ : fdO Tryz.prog 61 0 = some 0 := by kernel_rfl
theorem jw : fdO Tryz.prog 61 1 = some 1 := by kernel_rfl
theorem kt : fdO Tryz.prog 61 2 = some 2 := by kernel_rfl
theorem jp : tyB Tryz.prog 59 = some (false, 1) := by kernel_rfl
theorem qS : tyB Tryz.prog 61 = some (true, 3) := by kernel_rfl
theorem wu : zrC Tryz.prog 53 = some [.int .u64 0, .int .i64 0, .int .i64 0, .slice none 0 0] := by kernel_rfl
structure PcM where
 sn : Int
 ix : Int
 mn : Int
 b : List Int
deriving DecidableEq
structure PiM where
 sn : Int
 mn : Int
 ps : List (List Int)
deriving DecidableEq
def pcD (p : PcM) : List D := [.val (.int .u64 p.sn), .val (.int .i64 p.ix), .val (.int .i64 p.mn), .slf 1 (p.b).length ((p.b).flatMap uc8)]
def rwB (b : List Int) : D := .slf 1 (b).length ((b).flatMap uc8)
def piD (p : PiM) : List D := [.val (.int .u64 p.sn), .val (.int .i64 p.mn), .slm 1 p.ps.length (p.ps.flatMap fun b => [rwB b])]
def Vj (ix mn n : Int) : Bool := (n == 256) || ((ix == mn - 1) && decide (1 ≤ n) && decide (n < 256))
def snB (n : Int) : Bool := decide (1 ≤ n) && decide (n ≤ 4611686018427387904)
def pcB (p : PcM) : Bool := snB p.sn && decide (1 ≤ p.mn) && decide (p.mn ≤ 64) && decide (0 ≤ p.ix) && decide (p.ix < p.mn) && Vj p.ix p.mn p.b.length
theorem pcB_iff {p : PcM} : pcB p = true ↔ (1 ≤ p.sn ∧ p.sn ≤ 4611686018427387904) ∧ (1 ≤ p.mn ∧ p.mn ≤ 64) ∧ (0 ≤ p.ix ∧ p.ix < p.mn) ∧ (p.b.length = 256 ∨ (p.ix = p.mn - 1 ∧ 1 ≤ p.b.length ∧ p.b.length < 256)) := by
 unfold pcB snB Vj
 simp only [qbu, qbE, decide_eq_true_eq, beq_iff_eq]
 omega
def emp (b : List Int) : Bool := ((b.length : Nat) : Int) == 0
theorem emp_iff {b : List Int} : emp b = true ↔ b = [] := by
 unfold emp
 simp
def jD : List (List Int) → Int → Int
 | [], _ => -1
 | b :: r, k => if emp b = true then k else jD r (k + 1)
theorem vM {ps : List (List Int)} {k : Nat} (h : k < ps.length) : jD (ps.drop k) (k : Int) = if emp ps[k] = true then (k : Int) else jD (ps.drop (k + 1)) ((k + 1 : Nat) : Int) := by
 rw [List.drop_eq_getElem_cons h, jD]
 rfl
theorem xo {ps : List (List Int)} {k : Nat} (h : ps.length ≤ k) (i : Int) : jD (ps.drop k) i = -1 := by
 rw [List.drop_of_length_le h, jD]
def noB (p : PiM) : Bool := ((p.sn == 0) && (p.mn == 0)) && ((p.ps.length : Int) == 0)
def xM (sn mn : Int) : List (List Int) → Int → Bool
 | [], _ => true
 | b :: r, k => (emp b || pcB ⟨sn, k, mn, b⟩) && xM sn mn r (k + 1)
theorem xp {sn mn : Int} {ps : List (List Int)} {k : Nat} (h : k < ps.length) : xM sn mn (ps.drop k) (k : Int) = ((emp ps[k] || pcB ⟨sn, k, mn, ps[k]⟩) && xM sn mn (ps.drop (k + 1)) ((k + 1 : Nat) : Int)) := by
 rw [List.drop_eq_getElem_cons h, xM]
 rfl
theorem Yr {sn mn : Int} {ps : List (List Int)} {k : Nat} (h : ps.length ≤ k) (i : Int) : xM sn mn (ps.drop k) i = true := by
 rw [List.drop_of_length_le h, xM]
def wv : List (List Int) → Nat
 | [] => 0
 | b :: r => (if emp b = true then 0 else 1) + wv r
theorem Jb {ps : List (List Int)} {k : Nat} (h : k < ps.length) : wv (ps.take (k + 1)) = wv (ps.take k) + if emp ps[k] = true then 0 else 1 := by
 induction ps generalizing k with
 | nil => simp at h
 | cons b r ih =>
  cases k with
  | zero => simp [wv]
  | succ k =>
   rw [List.take_succ_cons, List.take_succ_cons, wv, wv, ih (by simpa using h), Nat.add_assoc]
   rfl
theorem Ho (ps : List (List Int)) : wv ps ≤ ps.length := by
 induction ps with
 | nil => simp [wv]
 | cons b r ih => rw [wv, qbW]; split <;> omega
def kH (p : PiM) : Bool := noB p || (xM p.sn p.mn p.ps 0 && !(((wv p.ps : Nat) : Int) == 0) && ((p.ps.length : Int) == p.mn))
theorem gB (p : PcM) : DFun Tryz.prog 24 [.agg (pcD p)] [] (.val (.int .i64 (wn (pcB p) 311))) [] := by
 refine zap (N := 55) 0 (by kernel_rfl) Tryz.func24 rfl rfl rfl (by simp only [fr0, qbs, qbt]; exact rfl) rfl fun s0 hs0 => ?_
 refine zae ?_
 refine zao 1 ?_
 refine zac ?_
 refine zak rfl (qd 0 rfl (ev1 rfl) rfl) ?_
 refine zaa 1 rfl ?_
 refine zab ?_
 refine zae ?_
 refine zah ?_
 refine za rfl (zam rfl kN (ev1 rfl)) ?_
 refine za rfl (zan rfl qZ (ev1 rfl) rfl rfl) ?_
 refine za rfl (qv rfl (ev1 rfl) (ev1 rfl)) ?_
 refine zaa 1 rfl ?_
 refine zai (qe rfl rfl rfl) rfl rfl rfl (zam rfl kN (ev1 rfl)) ?_
 refine zai (qe rfl rfl rfl) rfl rfl rfl (zan rfl qZ (ev2 rfl) rfl rfl) ?_
 refine zai (qe rfl rfl rfl) rfl rfl rfl (kA rfl (ev2 rfl) (ev1 rfl)) ?_
 refine za rfl (kx rfl (ev1 rfl) (ev3 rfl id)) ?_
 refine zaa 1 rfl ?_
 refine zai (qe rfl rfl rfl) rfl rfl rfl (zam rfl k9 (ev1 rfl)) ?_
 refine zai (qe rfl rfl rfl) rfl rfl rfl (zan rfl tb3 (ev2 rfl) rfl rfl) ?_
 refine zai (qe rfl rfl rfl) rfl rfl rfl (qv rfl (ev2 rfl) (ev1 rfl)) ?_
 refine za rfl (kx rfl (ev1 rfl) (ev3 rfl id)) ?_
 refine zaa 1 rfl ?_
 refine zai (qe rfl rfl rfl) rfl rfl rfl (zam rfl k9 (ev1 rfl)) ?_
 refine zai (qe rfl rfl rfl) rfl rfl rfl (zan rfl tb3 (ev2 rfl) rfl rfl) ?_
 refine zai (qe rfl rfl rfl) rfl rfl rfl (kA rfl (ev2 rfl) (ev1 rfl)) ?_
 refine za rfl (kx rfl (ev1 rfl) (ev3 rfl id)) ?_
 refine zaa 1 rfl ?_
 refine zai (qe rfl rfl rfl) rfl rfl rfl (zam rfl jv (ev1 rfl)) ?_
 refine zai (qe rfl rfl rfl) rfl rfl rfl (zan rfl tb3 (ev2 rfl) rfl rfl) ?_
 refine zai (qe rfl rfl rfl) rfl rfl rfl (qv rfl (ev2 rfl) (ev1 rfl)) ?_
 refine za rfl (kx rfl (ev1 rfl) (ev3 rfl id)) ?_
 refine zaa 1 rfl ?_
 refine zai (qe rfl rfl rfl) rfl rfl rfl (zam rfl jv (ev1 rfl)) ?_
 refine zai (qe rfl rfl rfl) rfl rfl rfl (zan rfl tb3 (ev2 rfl) rfl rfl) ?_
 refine zai (qe rfl rfl rfl) rfl rfl rfl (zam rfl k9 (ev1 rfl)) ?_
 refine zai (qe rfl rfl rfl) rfl rfl rfl (zan rfl tb3 (ev2 rfl) rfl rfl) ?_
 refine zai (qe rfl rfl rfl) rfl rfl rfl (jh rfl (ev2 rfl) (ev2 rfl)) ?_
 refine za rfl (kx rfl (ev1 rfl) (ev3 rfl id)) ?_
 refine zab ?_
 refine qh rfl (fun c1 => ?_) (fun c1 => ?_)
 ·try simp only [decide_eq_true_eq, decide_eq_false_iff_not, beq_iff_eq, bne_iff_ne, beq_eq_false_iff_ne, bne_eq_false_iff_eq, qbx, qby, qbu, qbE, qbv, ne_eq, Decidable.not_not, qbQ, qbR] at c1
  refine zah ?_
  refine zaa 1 rfl ?_
  refine zab ?_
  refine qa ?_
  refine qx (rs1 rfl (qL rfl)) rfl ?_
  have h : pcB p = false := by
   rw [Bool.eq_false_iff]; intro h; have h := pcB_iff.1 h; omega
  rw [h]
  rfl
 ·try simp only [decide_eq_true_eq, decide_eq_false_iff_not, beq_iff_eq, bne_iff_ne, beq_eq_false_iff_ne, bne_eq_false_iff_eq, qbx, qby, qbu, qbE, qbv, ne_eq, Decidable.not_not, qbQ, qbR] at c1
  refine zar ?_
  refine zae ?_
  refine zah ?_
  refine za rfl (zam rfl yd (ev1 rfl)) ?_
  refine za rfl (zan rfl kD (ev1 rfl) rfl rfl) ?_
  refine za rfl (qE rfl qG (ev1 rfl)) ?_
  refine zaa 1 rfl ?_
  refine zab ?_
  refine zah ?_
  refine zaa 1 rfl ?_
  refine za rfl (qv rfl (ev1 rfl) (ev1 rfl)) ?_
  refine zaa 1 rfl ?_
  refine zai (qe rfl rfl rfl) rfl rfl rfl (zal (.inl rfl) (ev1 rfl)) ?_
  refine zai (qe rfl rfl rfl) rfl rfl rfl (kA rfl (ev2 rfl) (ev1 rfl)) ?_
  refine za rfl (kx rfl (ev1 rfl) (ev3 rfl id)) ?_
  refine zaa 1 rfl ?_
  refine zai (qe rfl rfl rfl) rfl rfl rfl (zal (.inl rfl) (ev1 rfl)) ?_
  refine zai (qe rfl rfl rfl) rfl rfl rfl (qv rfl (ev2 rfl) (ev1 rfl)) ?_
  refine zai (qe rfl rfl rfl) rfl rfl rfl (zal (.inl rfl) (ev2 rfl)) ?_
  refine zai (qO rfl rfl rfl) rfl rfl rfl (zam rfl jv (ev1 rfl)) ?_
  refine zai (qO rfl rfl rfl) rfl rfl rfl (zan rfl tb3 (ev2 rfl) rfl rfl) ?_
  refine zai (qO rfl rfl rfl) rfl rfl rfl (zam rfl k9 (ev1 rfl)) ?_
  refine zai (qO rfl rfl rfl) rfl rfl rfl (zan rfl tb3 (ev2 rfl) rfl rfl) ?_
  refine zai (qO rfl rfl rfl) rfl rfl rfl (jV rfl (ev2 rfl) (ev1 rfl) (fun hp => qbB _ (by first | omega | (simp at hp; omega)))) ?_
  refine zai (qO rfl rfl rfl) rfl rfl rfl (qv rfl (ev2 rfl) (ev2 rfl)) ?_
  refine zai (qe rfl rfl rfl) rfl rfl rfl (qC rfl (ev2 rfl) (ev2 rfl)) ?_
  refine za rfl (kx rfl (ev1 rfl) (ev3 rfl id)) ?_
  refine zab ?_
  refine qh rfl (fun c2 => ?_) (fun c2 => ?_)
  ·try simp only [decide_eq_true_eq, decide_eq_false_iff_not, beq_iff_eq, bne_iff_ne, beq_eq_false_iff_ne, bne_eq_false_iff_eq, qbx, qby, qbu, qbE, qbv, ne_eq, Decidable.not_not, qbQ, qbR] at c2
   refine zah ?_
   refine zaa 1 rfl ?_
   refine zab ?_
   refine qa ?_
   refine qx (rs1 rfl (qL rfl)) rfl ?_
   have h : pcB p = false := by
    rw [Bool.eq_false_iff]; intro h; have h := pcB_iff.1 h; omega
   rw [h]
   rfl
  ·try simp only [decide_eq_true_eq, decide_eq_false_iff_not, beq_iff_eq, bne_iff_ne, beq_eq_false_iff_ne, bne_eq_false_iff_eq, qbx, qby, qbu, qbE, qbv, ne_eq, Decidable.not_not, qbQ, qbR] at c2
   refine zar ?_
   refine zah ?_
   refine zaa 1 rfl ?_
   refine zab ?_
   refine qa ?_
   refine qx (rs1 rfl (qL rfl)) rfl ?_
   have h : pcB p = true := by
    rw [pcB_iff]
    rw [Bool.and_eq_false_iff, decide_eq_false_iff_not, decide_eq_false_iff_not] at c2
    omega
   rw [h]
   rfl
theorem Hp (b : List Int) : DFun Tryz.prog 103 [.slf 1 (b).length ((b).flatMap uc8)] [] (.val (.bool (emp b))) [] := by
 refine zap (N := 6) 0 (by kernel_rfl) Tryz.func103 rfl rfl rfl (by simp only [fr0, qbs, qbt]; exact rfl) rfl fun s0 hs0 => ?_
 refine jY (t := 0) rfl fun hl0 hL0 => ?_
 refine zah ?_
 refine zaa 1 rfl ?_
 refine zab ?_
 refine zah ?_
 refine zaa 1 rfl ?_
 refine za rfl (qE rfl qG (ev1 rfl)) ?_
 refine za rfl (qm rfl (ev1 rfl) (ev1 rfl)) ?_
 refine zaa 1 rfl ?_
 refine zab ?_
 refine qa ?_
 refine qx (rs1 rfl (qL rfl)) rfl ?_
 rfl
theorem ixf_d (ps : List (List Int)) : DFun Tryz.prog 124 [.slm 1 (ps).length ((ps).flatMap fun b => [rwB b]), .fn (.func 103) [] []] [] (.val (.int .i64 (jD ps 0))) [] := by
 refine zap (N := 19) 0 (by kernel_rfl) Tryz.func124 rfl rfl rfl (by simp only [fr0, qbs, qbt]; exact rfl) rfl fun s0 hs0 => ?_
 refine gM (t := 0) rfl fun hl0 hL0 => ?_
 refine zah ?_
 refine zaa 1 rfl ?_
 refine zab ?_
 refine zae ?_
 refine zah ?_
 refine zaa 1 rfl ?_
 refine za rfl (kE rfl kO (ev1 rfl)) ?_
 refine zaa 1 rfl ?_
 refine zab ?_
 refine zat ?_
 refine qI ⟨hs0, rfl⟩ (α := Nat) (fun k => [(8, .val (.int .i64 (k : Int)))]) [(0, _), (1, _), (7, _)] (fun k => []) [] (fun k => k ≤ ps.length ∧ jD ps 0 = jD (ps.drop k) (k : Int)) (fun k => ps.length - k) 0 [] (by simp) rfl ⟨rfl, rfl, rfl, trivial⟩ ⟨rfl, trivial⟩ trivial ?_
 intro k hx
 simp only [upd, zaf, zag, qbD, qbF]
 obtain ⟨hk, he⟩ := hx
 refine zah ?_
 refine za rfl (qv rfl (ev1 rfl) (ev1 rfl)) ?_
 refine zab ?_
 refine zae ?_
 refine qh rfl (fun c1 => ?_) (fun c1 => ?_)
 ·try simp only [decide_eq_true_eq, decide_eq_false_iff_not, beq_iff_eq, bne_iff_ne, beq_eq_false_iff_ne, bne_eq_false_iff_eq, qbx, qby, qbu, qbE, qbv, ne_eq, Decidable.not_not, qbQ, qbR] at c1
  refine zar ?_
  refine zae ?_
  refine zat ?_
  refine zah ?_
  refine zaa 2 rfl ?_
  refine zab ?_
  refine zah ?_
  refine zaa 3 rfl ?_
  refine za rfl (gd (k) rfl kO (ev1 rfl) (ev1 rfl) (fun _ => rfl) (jO (by omega))) ?_
  refine za rfl (jk rfl kD (ev1 rfl) rfl) ?_
  refine za rfl (zaj [] [] [] rfl (ev1 rfl) (ec (ev1 rfl) en) rfl rfl (Hp _) rfl rfl rfl rfl rfl rfl) ?_
  refine zab ?_
  refine qh rfl (fun c2 => ?_) (fun c2 => ?_)
  ·refine zah ?_
   refine zaa 2 rfl ?_
   refine zab ?_
   refine qa ?_
   refine qx (rs1 rfl (qL rfl)) rfl ?_
   rw [he, vM (by omega), if_pos c2]
  ·refine zar ?_
   refine zac ?_
   refine za rfl (ql rfl (ev1 rfl) (ev1 rfl) (fun _ => qbB _ (by omega))) ?_
   refine zaa 1 rfl ?_
   refine zab ?_
   refine ⟨k + 1, [], ⟨by omega, by rw [he, vM (by omega), if_neg (by rw [c2]; decide)]⟩, by simp only []; omega, rfl, ⟨rfl, rfl, rfl, rfl, trivial⟩, trivial⟩
 ·try simp only [decide_eq_true_eq, decide_eq_false_iff_not, beq_iff_eq, bne_iff_ne, beq_eq_false_iff_ne, bne_eq_false_iff_eq, qbx, qby, qbu, qbE, qbv, ne_eq, Decidable.not_not, qbQ, qbR] at c1
  refine qD ?_
  refine zah ?_
  refine zaa 1 rfl ?_
  refine zab ?_
  refine qa ?_
  refine qx (rs1 rfl (qL rfl)) rfl ?_
  rw [he, xo (by omega)]
theorem Hq (ps : List (List Int)) : DFun Tryz.prog 102 [.slm 1 (ps).length ((ps).flatMap fun b => [rwB b]), .fn (.func 103) [] []] [] (.val (.int .i64 (jD ps 0))) [] := by
 refine zap (N := 8) 0 (by kernel_rfl) Tryz.func102 rfl rfl rfl (by simp only [fr0, qbs, qbt]; exact rfl) rfl fun s0 hs0 => ?_
 refine gM (t := 0) rfl fun hl0 hL0 => ?_
 refine zah ?_
 refine zaa 1 rfl ?_
 refine zab ?_
 refine zah ?_
 refine zaa 2 rfl ?_
 refine za rfl (zaj [] [] [] rfl (ev1 rfl) (ec (ev1 rfl) (ec (ev1 rfl) en)) rfl rfl (ixf_d _) rfl rfl rfl rfl rfl rfl) ?_
 refine zaa 1 rfl ?_
 refine zab ?_
 refine qa ?_
 refine qx (rs1 rfl (qL rfl)) rfl ?_
 rfl
theorem xq (p : PiM) : DFun Tryz.prog 73 [.agg (piD p)] [] (.val (.int .i64 (jD p.ps 0))) [] := by
 refine zap (N := 6) 0 (by kernel_rfl) Tryz.func73 rfl rfl rfl (by simp only [fr0, qbs, qbt]; exact rfl) rfl fun s0 hs0 => ?_
 refine zae ?_
 refine zao 1 ?_
 refine zac ?_
 refine zak rfl (qd 0 rfl (ev1 rfl) rfl) ?_
 refine zaa 1 rfl ?_
 refine zab ?_
 refine zah ?_
 refine za rfl (zam rfl kt (ev1 rfl)) ?_
 refine za rfl (zan rfl jp (ev1 rfl) rfl rfl) ?_
 refine za rfl (zaj [] [] [] rfl (ev1 rfl) (ec (ev1 rfl) (ec (ev1 rfl) en)) rfl rfl (Hq _) rfl rfl rfl rfl rfl rfl) ?_
 refine zaa 1 rfl ?_
 refine zab ?_
 refine qa ?_
 refine qx (rs1 rfl (qL rfl)) rfl ?_
 rfl
theorem wM (p : PiM) : DFun Tryz.prog 69 [.agg (piD p)] [] (.val (.bool (noB p))) [] := by
 refine zap (N := 17) 0 (by kernel_rfl) Tryz.func69 rfl rfl rfl (by simp only [fr0, qbs, qbt]; exact rfl) rfl fun s0 hs0 => ?_
 refine zae ?_
 refine zao 1 ?_
 refine zac ?_
 refine zak rfl (qd 0 rfl (ev1 rfl) rfl) ?_
 refine zaa 1 rfl ?_
 refine zab ?_
 refine zah ?_
 refine za rfl (zam rfl kQ (ev1 rfl)) ?_
 refine za rfl (zan rfl qZ (ev1 rfl) rfl rfl) ?_
 refine za rfl (qm rfl (ev1 rfl) (ev1 rfl)) ?_
 refine zaa 1 rfl ?_
 refine zai (qn rfl rfl rfl) rfl rfl rfl (zam rfl jw (ev1 rfl)) ?_
 refine zai (qn rfl rfl rfl) rfl rfl rfl (zan rfl tb3 (ev2 rfl) rfl rfl) ?_
 refine zai (qn rfl rfl rfl) rfl rfl rfl (qm rfl (ev2 rfl) (ev1 rfl)) ?_
 refine za rfl (qC rfl (ev1 rfl) (ev3 rfl id)) ?_
 refine zaa 1 rfl ?_
 refine zai (qn rfl rfl rfl) rfl rfl rfl (zam rfl kt (ev1 rfl)) ?_
 refine zai (qn rfl rfl rfl) rfl rfl rfl (zan rfl jp (ev2 rfl) rfl rfl) ?_
 refine zai (qn rfl rfl rfl) rfl rfl rfl (kE rfl kO (ev2 rfl)) ?_
 refine zai (qn rfl rfl rfl) rfl rfl rfl (qm rfl (ev2 rfl) (ev1 rfl)) ?_
 refine za rfl (qC rfl (ev1 rfl) (ev3 rfl id)) ?_
 refine zaa 1 rfl ?_
 refine zab ?_
 refine qa ?_
 refine qx (rs1 rfl (qL rfl)) rfl ?_
 rfl
theorem ww (p : PiM) (hn : p.ps.length ≤ 5000) : DFun Tryz.prog 28 [.agg (piD p)] [] (.val (.int .i64 (wn (kH p) 312))) [] := by
 refine zap (N := 41) 0 (by kernel_rfl) Tryz.func28 rfl rfl rfl (by simp only [fr0, qbs, qbt]; exact rfl) rfl fun s0 hs0 => ?_
 refine zae ?_
 refine zao 1 ?_
 refine zac ?_
 refine zak rfl (qd 0 rfl (ev1 rfl) rfl) ?_
 refine zaa 1 rfl ?_
 refine zab ?_
 refine zae ?_
 refine zah ?_
 refine za rfl (qb rfl qS (ev1 rfl) rfl rfl) ?_
 refine za rfl (zaj [] [] [] rfl (ev1 rfl) (ec (ev1 rfl) en) rfl rfl (wM _) rfl rfl rfl rfl rfl rfl) ?_
 refine zab ?_
 refine qh rfl (fun c1 => ?_) (fun c1 => ?_)
 ·refine zah ?_
  refine zaa 1 rfl ?_
  refine zab ?_
  refine qa ?_
  refine qx (rs1 rfl (qL rfl)) rfl ?_
  have h : kH p = true := by unfold kH; rw [c1]; rfl
  rw [h]
  rfl
 ·refine zar ?_
  refine zah ?_
  refine zaa 1 rfl ?_
  refine zab ?_
  refine zae ?_
  refine zah ?_
  refine za rfl (zam rfl kt (ev1 rfl)) ?_
  refine za rfl (zan rfl jp (ev1 rfl) rfl rfl) ?_
  refine za rfl (kE rfl kO (ev1 rfl)) ?_
  refine zaa 1 rfl ?_
  refine zab ?_
  refine zat ?_
  refine qI ⟨hs0, rfl⟩ (α := Nat) (fun k => [(3, .val (.int .i64 (wv (p.ps.take k) : Nat))), (11, .val (.int .i64 (k : Int)))]) [(1, _), (9, _), (10, _)] (fun k => []) [_] (fun k => k ≤ p.ps.length ∧ xM p.sn p.mn p.ps 0 = xM p.sn p.mn (p.ps.drop k) (k : Int)) (fun k => p.ps.length - k) 0 [0] (by simp) rfl ⟨rfl, rfl, rfl, trivial⟩ ⟨rfl, rfl, trivial⟩ ⟨rfl, trivial⟩ ?_
  intro k hx
  simp only [upd, zaf, zag, qbD, qbF]
  obtain ⟨hk, he⟩ := hx
  have hct := Ho (p.ps.take k)
  rw [qbS] at hct
  refine zah ?_
  refine za rfl (qv rfl (ev1 rfl) (ev1 rfl)) ?_
  refine zab ?_
  refine zae ?_
  refine qh rfl (fun c2 => ?_) (fun c2 => ?_)
  ·try simp only [decide_eq_true_eq, decide_eq_false_iff_not, beq_iff_eq, bne_iff_ne, beq_eq_false_iff_ne, bne_eq_false_iff_eq, qbx, qby, qbu, qbE, qbv, ne_eq, Decidable.not_not, qbQ, qbR] at c2
   refine zar ?_
   refine zae ?_
   refine zat ?_
   refine zah ?_
   refine zaa 1 rfl ?_
   refine za rfl (gd (k) rfl kO (ev1 rfl) (ev1 rfl) (fun _ => rfl) (jO (by omega))) ?_
   refine za rfl (jk rfl kD (ev1 rfl) rfl) ?_
   refine zaa 2 rfl ?_
   refine zab ?_
   refine zae ?_
   refine zah ?_
   refine zaa 1 rfl ?_
   refine za rfl (qE rfl qG (ev1 rfl)) ?_
   refine za rfl (qm rfl (ev1 rfl) (ev1 rfl)) ?_
   refine zab ?_
   refine qh rfl (fun c3 => ?_) (fun c3 => ?_)
   ·have c3 : emp p.ps[k] = true := c3
    refine qD ?_
    refine zac ?_
    refine za rfl (ql rfl (ev1 rfl) (ev1 rfl) (fun _ => qbB _ (by omega))) ?_
    refine zaa 1 rfl ?_
    refine zab ?_
    refine ⟨k + 1, [0], ⟨by omega, by rw [he, xp (by omega), c3, Bool.true_or, Bool.true_and]⟩, by simp only []; omega, rfl, ⟨by rw [Jb (by omega), if_pos c3]; rfl, rfl, rfl, rfl, rfl, trivial⟩, ⟨rfl, trivial⟩⟩
   ·have c3 : emp p.ps[k] = false := c3
    refine zar ?_
    refine zae ?_
    refine zah ?_
    refine za rfl (zam rfl kQ (ev1 rfl)) ?_
    refine za rfl (zan rfl qZ (ev1 rfl) rfl rfl) ?_
    refine zaa 1 rfl ?_
    refine za rfl (zam rfl jw (ev1 rfl)) ?_
    refine za rfl (zan rfl tb3 (ev1 rfl) rfl rfl) ?_
    refine zaa 1 rfl ?_
    refine za rfl (jZ (ps := [(0, .tmp 20), (1, .tmp 21), (2, .tmp 23), (3, .tmp 24)]) rfl fl53 wu (ec (ev1 rfl) (ec (ev1 rfl) (ec (ev1 rfl) (ec (ev1 rfl) en)))) rfl rfl rfl) ?_
    refine za rfl (zaj [] [] [] rfl (ev1 rfl) (ec (ev1 rfl) en) rfl rfl (gB ⟨p.sn, k, p.mn, p.ps[k]⟩) rfl rfl rfl rfl rfl rfl) ?_
    refine za rfl (qT rfl (ev1 rfl) (ev1 rfl)) ?_
    refine zab ?_
    refine qh rfl (fun c5 => ?_) (fun c5 => ?_)
    ·have c4 : pcB ⟨p.sn, k, p.mn, p.ps[k]⟩ = false := by
      cases h : pcB ⟨p.sn, k, p.mn, p.ps[k]⟩ with
      | false => rfl
      | true => rw [h] at c5; cases c5
     refine zah ?_
     refine zaa 1 rfl ?_
     refine zab ?_
     refine qa ?_
     refine qx (rs1 rfl (qL rfl)) rfl ?_
     have h : kH p = false := by
      unfold kH
      rw [he, xp (by omega), c3, c4, c1]
      rfl
     rw [h]
     rfl
    ·have c4 : pcB ⟨p.sn, k, p.mn, p.ps[k]⟩ = true := by
      cases h : pcB ⟨p.sn, k, p.mn, p.ps[k]⟩ with
      | true => rfl
      | false => rw [h] at c5; cases c5
     refine zar ?_
     refine zac ?_
     refine zaa 1 rfl ?_
     refine za rfl (ql rfl (ev1 rfl) (ev1 rfl) (fun _ => qbB _ (by omega))) ?_
     refine zaa 1 rfl ?_
     refine zab ?_
     refine zac ?_
     refine za rfl (ql rfl (ev1 rfl) (ev1 rfl) (fun _ => qbB _ (by omega))) ?_
     refine zaa 1 rfl ?_
     refine zab ?_
     refine ⟨k + 1, [0], ⟨by omega, by rw [he, xp (by omega), c4, Bool.or_true, Bool.true_and]⟩, by simp only []; omega, rfl, ⟨by rw [Jb (by omega), if_neg (by rw [c3]; decide)]; rfl, rfl, rfl, rfl, rfl, trivial⟩, ⟨rfl, trivial⟩⟩
  ·try simp only [decide_eq_true_eq, decide_eq_false_iff_not, beq_iff_eq, bne_iff_ne, beq_eq_false_iff_ne, bne_eq_false_iff_eq, qbx, qby, qbu, qbE, qbv, ne_eq, Decidable.not_not, qbQ, qbR] at c2
   refine qD ?_
   refine zae ?_
   refine zae ?_
   obtain rfl : k = p.ps.length := by omega
   rw [qch]
   refine zac ?_
   refine zaa 1 rfl ?_
   refine za rfl (qm rfl (ev1 rfl) (ev1 rfl)) ?_
   refine zaa 1 rfl ?_
   refine zai (qe rfl rfl rfl) rfl rfl rfl (zam rfl kt (ev1 rfl)) ?_
   refine zai (qe rfl rfl rfl) rfl rfl rfl (zan rfl jp (ev2 rfl) rfl rfl) ?_
   refine zai (qe rfl rfl rfl) rfl rfl rfl (kE rfl kO (ev2 rfl)) ?_
   refine zai (qe rfl rfl rfl) rfl rfl rfl (zam rfl jw (ev1 rfl)) ?_
   refine zai (qe rfl rfl rfl) rfl rfl rfl (zan rfl tb3 (ev2 rfl) rfl rfl) ?_
   refine zai (qe rfl rfl rfl) rfl rfl rfl (qT rfl (ev2 rfl) (ev2 rfl)) ?_
   refine za rfl (kx rfl (ev1 rfl) (ev3 rfl id)) ?_
   refine zab ?_
   refine qh rfl (fun c6 => ?_) (fun c6 => ?_)
   ·refine zah ?_
    refine zaa 1 rfl ?_
    refine zab ?_
    refine qa ?_
    refine qx (rs1 rfl (qL rfl)) rfl ?_
    have h : kH p = false := by
     unfold kH
     rw [c1, he, Yr (qbM _)]
     simp at c6 ⊢
     omega
    rw [h]
    rfl
   ·refine zar ?_
    refine zah ?_
    refine zaa 1 rfl ?_
    refine zab ?_
    refine qa ?_
    refine qx (rs1 rfl (qL rfl)) rfl ?_
    have h : kH p = true := by
     unfold kH
     rw [he, Yr (qbM _)]
     simp at c6 ⊢
     omega
    rw [h]
    rfl
end Go.Proofs.YtofklkbfkoliiaaGreat
namespace Go.Proofs.YtofklkbfkoliiaaGreat
set_option linter.unusedVariables false
set_option linter.unusedSimpArgs false
open Go.RowKit
attribute [local irreducible] tkN jC kG
theorem AE : fdL Tryz.prog 118 = some [(0, 3)] := by kernel_rfl
theorem J4 : fdL Tryz.prog 61 = some [(0, 1), (1, 1), (2, 1)] := by kernel_rfl
theorem ka : fdO Tryz.prog 118 0 = some 0 := by kernel_rfl
theorem kI : tyB Tryz.prog 53 = some (true, 4) := by kernel_rfl
theorem AF : zrC Tryz.prog 118 = some [.int .u64 0, .int .i64 0, .slice none 0 0] := by kernel_rfl
theorem jR : zrC Tryz.prog 61 = some [.int .u64 0, .int .i64 0, .slice none 0 0] := by kernel_rfl
theorem u7 {e : TypeId} {n : Nat} : ∀ s h, BlkOk s h (.arr e 1 n (qbH (n * 1) (Value.slice none 0 0))) → BlkOk s h (.arx e 1 (qbH n ([] : List Int)).length ((qbH n ([] : List Int)).flatMap fun b => [rwB b])) := fun s h hk => by
 rw [qbN]
 rw [Nat.mul_one] at hk
 have e0 : ((qbH n ([] : List Int)).flatMap fun b => [rwB b]) = qbH n (rwB []) := by
  clear hk
  induction n with
  | zero => rfl
  | succ n ih => rw [List.replicate_succ, qbJ, List.replicate_succ, ih]; rfl
 rw [e0]
 refine ⟨_, hk, by simp, fun j d v h1 h2 => ?_⟩
 obtain rfl := List.eq_of_mem_replicate (qb7 h1)
 obtain rfl := List.eq_of_mem_replicate (qb7 h2)
 exact Wk.slf0 1 s _ (.val _)
theorem Hr {ps : List (List Int)} {k : Nat} (h : k < ps.length) : (ps.take k ++ qbH (ps.length - k) []).set k ps[k] = ps.take (k + 1) ++ qbH (ps.length - (k + 1)) [] := by
 rw [List.set_append_right _ _ (by rw [qbS]; omega), qbS, Nat.min_eq_left (Nat.le_of_lt h), Nat.sub_self]
 rw [show ps.length - k = (ps.length - (k + 1)) + 1 by omega, List.replicate_succ, zaf, qbP h, qbY]
 rfl
theorem Hs (ps : List (List Int)) {k : Nat} (h : k ≤ ps.length) : (ps.take k ++ qbH (ps.length - k) ([] : List Int)).length = ps.length := by
 rw [qbz, qbS, qbN]
 omega
theorem uu (p : PiM) (hn : p.ps.length ≤ 5000) (hb : ∀ b ∈ p.ps, b.length ≤ 100000) (hp : kH p = true) : DFun Tryz.prog 71 [.agg (piD p)] [] (.loc 0 0) [.mix 118 [.val (.int .u64 p.sn), .val (.int .i64 p.mn), .arr 1], .arx 30 1 (p.ps).length ((p.ps).flatMap fun b => [rwB b])] := by
 refine zap (N := 33) 0 (by kernel_rfl) Tryz.func71 rfl rfl rfl (by simp only [fr0, qbs, qbt]; exact rfl) rfl fun s0 hs0 => ?_
 refine zae ?_
 refine zao 1 ?_
 refine zac ?_
 refine zak rfl (qd 0 rfl (ev1 rfl) rfl) ?_
 refine zaa 1 rfl ?_
 refine zab ?_
 refine zah ?_
 refine za rfl (qb rfl qS (ev1 rfl) rfl rfl) ?_
 refine za rfl (zaj [] [] [] rfl (ev1 rfl) (ec (ev1 rfl) en) rfl rfl (ww p hn) rfl rfl rfl rfl rfl rfl) ?_
 refine za rfl (qm rfl (ev1 rfl) (ev1 rfl)) ?_
 refine za rfl (zaj [] [] [] rfl (ev1 rfl) (ec (ev1 rfl) (ec (ev1 rfl) en)) rfl rfl (qR _ _ (by rw [hp]; rfl)) rfl rfl rfl rfl rfl rfl) ?_
 refine zab ?_
 refine zae ?_
 refine zao 1 ?_
 refine zac ?_
 refine za rfl (zam rfl kt (ev1 rfl)) ?_
 refine za rfl (zan rfl jp (ev1 rfl) rfl rfl) ?_
 refine za rfl (kE rfl kO (ev1 rfl)) ?_
 refine zak rfl (xj 1 (p.ps.length) (.slice none 0 0) rfl kO uU (rfl) (by decide) (ev1 rfl) (ev1 rfl) (fun _ => by omega) (fun _ => by omega) rfl (fun _ => by omega)) ?_
 refine zaa 1 rfl ?_
 refine zab ?_
 refine zae ?_
 refine zae ?_
 refine jg 1 u7 rfl rfl (by simp only [qbD, qbF, zaf, zag, List.map]; exact rfl) ?_
 refine zac ?_
 refine za rfl (zam rfl kt (ev1 rfl)) ?_
 refine za rfl (zan rfl jp (ev1 rfl) rfl rfl) ?_
 refine za rfl (kE rfl kO (ev1 rfl)) ?_
 refine zaa 1 rfl ?_
 refine zab ?_
 refine zat ?_
 refine qI ⟨hs0, rfl⟩ (α := Nat) (fun k => [(17, .val (.int .i64 (k : Int)))]) [(1, _), (3, _), (15, _), (16, _)] (fun k => [(1, .arx 30 1 p.ps.length ((p.ps.take k ++ qbH (p.ps.length - k) ([] : List Int)).flatMap fun b => [rwB b]))]) [_, .hole] (fun k => k ≤ p.ps.length) (fun k => p.ps.length - k) 0 [0, 1] (by simp) rfl ⟨rfl, rfl, rfl, rfl, trivial⟩ ⟨rfl, trivial⟩ ⟨rfl, qp (qbN ..) rfl (fun _ => rfl), trivial⟩ ?_
 intro k hx
 simp only [upd, zaf, zag, qbD, qbF]
 have hk := hx
 refine zah ?_
 refine za rfl (qv rfl (ev1 rfl) (ev1 rfl)) ?_
 refine zab ?_
 refine zae ?_
 refine qh rfl (fun c1 => ?_) (fun c1 => ?_)
 ·try simp only [decide_eq_true_eq, decide_eq_false_iff_not, beq_iff_eq, bne_iff_ne, beq_eq_false_iff_ne, bne_eq_false_iff_eq, qbx, qby, qbu, qbE, qbv, ne_eq, Decidable.not_not, qbQ, qbR] at c1
  refine zar ?_
  refine zae ?_
  refine zat ?_
  refine zah ?_
  refine zaa 1 rfl ?_
  refine za rfl (gd (k) rfl kO (ev1 rfl) (ev1 rfl) (fun _ => rfl) (jO (by omega))) ?_
  refine za rfl (jk rfl kD (ev1 rfl) rfl) ?_
  refine zaa 2 rfl ?_
  refine zab ?_
  refine zac ?_
  refine zaa 3 rfl ?_
  refine za rfl (zaj [] [] [] rfl (ev1 rfl) (ec (ev1 rfl) en) rfl rfl (gS p.ps[k] (by have := hb _ (qb9 (show k < p.ps.length by omega)); omega)) rfl rfl rfl rfl rfl rfl) ?_
  refine za rfl (ge (k) rfl kO (ev1 rfl) (ev1 rfl) rfl (fun _ => rfl) (fun _ => by omega)) ?_
  refine zas rfl (yD (j := k) (g := rwB) (q := p.ps[k]) rfl kD (ev1 rfl) (ev1 rfl) rfl (by rw [Hs _ (by omega)]; omega) (fun s v h => by cases h <;> exact ⟨rfl, rfl⟩)) ?_
  refine zab ?_
  refine zac ?_
  refine za rfl (ql rfl (ev1 rfl) (ev1 rfl) (fun _ => qbB _ (by omega))) ?_
  refine zaa 1 rfl ?_
  refine zab ?_
  refine ⟨k + 1, [0, 1], by omega, by simp only []; omega, rfl, ⟨rfl, rfl, rfl, rfl, rfl, trivial⟩, ⟨rfl, qp rfl (Hr (by omega)) (fun _ => rfl), trivial⟩⟩
 ·try simp only [decide_eq_true_eq, decide_eq_false_iff_not, beq_iff_eq, bne_iff_ne, beq_eq_false_iff_ne, bne_eq_false_iff_eq, qbx, qby, qbu, qbE, qbv, ne_eq, Decidable.not_not, qbQ, qbR] at c1
  refine qD ?_
  refine zae ?_
  obtain rfl : k = p.ps.length := by omega
  rw [qch, Nat.sub_self, List.replicate_zero, qci]
  refine zac ?_
  refine zaa 1 rfl ?_
  refine za rfl (zam rfl kt (ev1 rfl)) ?_
  refine zas rfl (kJ rfl jp (ev1 rfl) (ev1 rfl) (fun s v h => by cases h <;> exact ⟨rfl, rfl⟩) rfl (by first | decide | exact qbA rfl | simp)) ?_
  refine zab ?_
  refine zae ?_
  refine zao 1 ?_
  refine zac ?_
  refine za rfl (qb rfl qS (ev1 rfl) rfl rfl) ?_
  refine za rfl (JF rfl (ev1 rfl) AE AF rfl) ?_
  refine zak rfl (qd 2 rfl (ev1 rfl) rfl) ?_
  refine zaa 1 rfl ?_
  refine zab ?_
  refine qa ?_
  refine ko [2, 1] (rs1 rfl (qL rfl)) rfl rfl ?_ ⟨?_, ?_, trivial⟩
  rfl
  rfl
  exact qp rfl rfl (fun _ => rfl)
theorem Vk (p : PiM) (hn : p.ps.length ≤ 5000) (hp : kH p = false) : DPan Tryz.prog 71 [.agg (piD p)] [] (.ifc 125 (.val (.agg #[.int .i64 312]))) [] := by
 refine zap (N := 33) 0 (by kernel_rfl) Tryz.func71 rfl rfl rfl (by simp only [fr0, qbs, qbt]; exact rfl) rfl fun s0 hs0 => ?_
 refine zae ?_
 refine zao 1 ?_
 refine zac ?_
 refine zak rfl (qd 0 rfl (ev1 rfl) rfl) ?_
 refine zaa 1 rfl ?_
 refine zab ?_
 refine zah ?_
 refine za rfl (qb rfl qS (ev1 rfl) rfl rfl) ?_
 refine za rfl (zaj [] [] [] rfl (ev1 rfl) (ec (ev1 rfl) en) rfl rfl (ww p hn) rfl rfl rfl rfl rfl rfl) ?_
 refine za rfl (qm rfl (ev1 rfl) (ev1 rfl)) ?_
 refine ky rfl (qw [] [] [] rfl (ev1 rfl) (ec (ev1 rfl) (ec (ev1 rfl) en)) rfl rfl (jQ _ _ (by rw [hp]; rfl)) rfl rfl rfl rfl rfl rfl) rfl ?_
 refine Qz rfl ?_
 rfl
theorem XG {ps : List (List Int)} {j : Nat} (h : j < ps.length) : (ps.flatMap fun b => [rwB b])[j * 1]? = some (rwB ps[j]) := by
 rw [Nat.mul_one]
 induction ps generalizing j with
 | nil => simp at h
 | cons b r ih =>
  cases j with
  | zero => rfl
  | succ j =>
   rw [qbJ]
   exact ih (by simpa using h)
theorem XH (p : PiM) (x : PcM) (hx : pcB x = false) : DPan Tryz.prog 72 [.loc 0 0, .agg (pcD x)] [.mix 118 [.val (.int .u64 p.sn), .val (.int .i64 p.mn), .arr 1], .arx 30 1 (p.ps).length ((p.ps).flatMap fun b => [rwB b])] (.ifc 125 (.val (.agg #[.int .i64 311]))) [.mix 118 [.val (.int .u64 p.sn), .val (.int .i64 p.mn), .arr 1], .arx 30 1 (p.ps).length ((p.ps).flatMap fun b => [rwB b])] := by
 refine zap (N := 68) 2 (by kernel_rfl) Tryz.func72 rfl rfl rfl (by simp only [fr0, qbs, qbt]; exact rfl) rfl fun s0 hs0 => ?_
 refine zae ?_
 refine zao 1 ?_
 refine zac ?_
 refine zak rfl (qd 2 rfl (ev1 rfl) rfl) ?_
 refine zab ?_
 refine zah ?_
 refine za rfl (qb rfl kI (ev1 rfl) rfl rfl) ?_
 refine za rfl (zaj [] [] [] rfl (ev1 rfl) (ec (ev1 rfl) en) rfl rfl (gB x) rfl rfl rfl rfl rfl rfl) ?_
 refine za rfl (qm rfl (ev1 rfl) (ev1 rfl)) ?_
 refine ky rfl (qw [] [] [] rfl (ev1 rfl) (ec (ev1 rfl) (ec (ev1 rfl) en)) rfl rfl (jQ _ _ (by rw [hx]; rfl)) rfl rfl rfl rfl rfl rfl) rfl ?_
 refine xf [0, 1] rfl rfl ?_ ⟨rfl, qp rfl rfl (fun _ => rfl), trivial⟩
 rfl
theorem XI (p : PiM) (x : PcM) (hx : pcB x = true) (h2 : x.sn < p.sn) : DPan Tryz.prog 72 [.loc 0 0, .agg (pcD x)] [.mix 118 [.val (.int .u64 p.sn), .val (.int .i64 p.mn), .arr 1], .arx 30 1 (p.ps).length ((p.ps).flatMap fun b => [rwB b])] (.ifc 125 (.val (.agg #[.int .i64 241]))) [.mix 118 [.val (.int .u64 p.sn), .val (.int .i64 p.mn), .arr 1], .arx 30 1 (p.ps).length ((p.ps).flatMap fun b => [rwB b])] := by
 refine zap (N := 68) 2 (by kernel_rfl) Tryz.func72 rfl rfl rfl (by simp only [fr0, qbs, qbt]; exact rfl) rfl fun s0 hs0 => ?_
 refine zae ?_
 refine zao 1 ?_
 refine zac ?_
 refine zak rfl (qd 2 rfl (ev1 rfl) rfl) ?_
 refine zab ?_
 refine zah ?_
 refine za rfl (qb rfl kI (ev1 rfl) rfl rfl) ?_
 refine za rfl (zaj [] [] [] rfl (ev1 rfl) (ec (ev1 rfl) en) rfl rfl (gB x) rfl rfl rfl rfl rfl rfl) ?_
 refine za rfl (qm rfl (ev1 rfl) (ev1 rfl)) ?_
 refine za rfl (zaj [] [] [] rfl (ev1 rfl) (ec (ev1 rfl) (ec (ev1 rfl) en)) rfl rfl (qR _ _ (by rw [hx]; rfl)) rfl rfl rfl rfl rfl rfl) ?_
 refine zab ?_
 refine zae ?_
 refine gt 8 [([], []), ([2], []), ([], []), ([], []), ([], []), ([], []), ([0], []), ([], [])] qP (by kernel_rfl) rfl rfl ?_
 refine zad rfl rfl (zam rfl kN (ev1 rfl)) ?_
 refine zad rfl rfl (zan rfl qZ (ev1 rfl) rfl rfl) ?_
 refine zad rfl rfl (zal (.inl rfl) (ev1 rfl)) ?_
 refine zad rfl rfl (qt rfl (ev1 rfl) (fun s v h => by cases h; exact ⟨_, rfl⟩)) ?_
 refine zad rfl rfl (zam rfl ka (ev1 rfl)) ?_
 refine zad rfl rfl (zam rfl kQ (ev1 rfl)) ?_
 refine zad rfl rfl (zan rfl qZ (ev1 rfl) rfl rfl) ?_
 refine zad rfl rfl (jh rfl (ev1 rfl) (ev1 rfl)) ?_
 refine qk ⟨_, _, _, rfl, qw [] [] [] rfl (ev1 rfl) (ec (ev1 rfl) (ec (ev1 rfl) en)) rfl rfl (jQ _ _ (by simp; omega)) rfl rfl rfl rfl rfl rfl, ?_⟩
 refine xf [0, 1] rfl rfl ?_ ⟨rfl, qp rfl rfl (fun _ => rfl), trivial⟩
 rfl
theorem XJ (p : PiM) (x : PcM) (hx : pcB x = true) (h2 : x.sn = p.sn) (h3 : x.mn ≠ p.mn) : DPan Tryz.prog 72 [.loc 0 0, .agg (pcD x)] [.mix 118 [.val (.int .u64 p.sn), .val (.int .i64 p.mn), .arr 1], .arx 30 1 (p.ps).length ((p.ps).flatMap fun b => [rwB b])] (.ifc 125 (.val (.agg #[.int .i64 311]))) [.mix 118 [.val (.int .u64 p.sn), .val (.int .i64 p.mn), .arr 1], .arx 30 1 (p.ps).length ((p.ps).flatMap fun b => [rwB b])] := by
 refine zap (N := 68) 2 (by kernel_rfl) Tryz.func72 rfl rfl rfl (by simp only [fr0, qbs, qbt]; exact rfl) rfl fun s0 hs0 => ?_
 refine zae ?_
 refine zao 1 ?_
 refine zac ?_
 refine zak rfl (qd 2 rfl (ev1 rfl) rfl) ?_
 refine zab ?_
 refine zah ?_
 refine za rfl (qb rfl kI (ev1 rfl) rfl rfl) ?_
 refine za rfl (zaj [] [] [] rfl (ev1 rfl) (ec (ev1 rfl) en) rfl rfl (gB x) rfl rfl rfl rfl rfl rfl) ?_
 refine za rfl (qm rfl (ev1 rfl) (ev1 rfl)) ?_
 refine za rfl (zaj [] [] [] rfl (ev1 rfl) (ec (ev1 rfl) (ec (ev1 rfl) en)) rfl rfl (qR _ _ (by rw [hx]; rfl)) rfl rfl rfl rfl rfl rfl) ?_
 refine zab ?_
 refine zae ?_
 refine qg [([], []), ([2], []), ([], []), ([], []), ([], []), ([], []), ([0], []), ([], []), ([], [])] qP (by kernel_rfl) ?_
 refine zad rfl rfl (zam rfl kN (ev1 rfl)) ?_
 refine zad rfl rfl (zan rfl qZ (ev1 rfl) rfl rfl) ?_
 refine zad rfl rfl (zal (.inl rfl) (ev1 rfl)) ?_
 refine zad rfl rfl (qt rfl (ev1 rfl) (fun s v h => by cases h; exact ⟨_, rfl⟩)) ?_
 refine zad rfl rfl (zam rfl ka (ev1 rfl)) ?_
 refine zad rfl rfl (zam rfl kQ (ev1 rfl)) ?_
 refine zad rfl rfl (zan rfl qZ (ev1 rfl) rfl rfl) ?_
 refine zad rfl rfl (jh rfl (ev1 rfl) (ev1 rfl)) ?_
 refine zad rfl rfl (zaj [] [] [] rfl (ev1 rfl) (ec (ev1 rfl) (ec (ev1 rfl) en)) rfl rfl (qR _ _ (by simp; omega)) rfl rfl rfl rfl rfl rfl) ?_
 refine qk ?_
 refine zae ?_
 refine zae ?_
 refine qg [([], []), ([2], []), ([], []), ([], []), ([], []), ([], []), ([0], []), ([], [])] qP (by kernel_rfl) ?_
 refine zad rfl rfl (zam rfl kN (ev1 rfl)) ?_
 refine zad rfl rfl (zan rfl qZ (ev1 rfl) rfl rfl) ?_
 refine zad rfl rfl (zal (.inl rfl) (ev1 rfl)) ?_
 refine zad rfl rfl (qt rfl (ev1 rfl) (fun s v h => by cases h; exact ⟨_, rfl⟩)) ?_
 refine zad rfl rfl (zam rfl ka (ev1 rfl)) ?_
 refine zad rfl rfl (zam rfl kQ (ev1 rfl)) ?_
 refine zad rfl rfl (zan rfl qZ (ev1 rfl) rfl rfl) ?_
 refine zad rfl rfl (kA rfl (ev1 rfl) (ev1 rfl)) ?_
 refine qk ?_
 refine qc rfl (by simp; omega) ?_
 refine zar ?_
 refine zae ?_
 refine gt 8 [([], []), ([2], []), ([], []), ([], []), ([], []), ([], []), ([0], []), ([], [])] qP (by kernel_rfl) rfl rfl ?_
 refine zad rfl rfl (zam rfl k9 (ev1 rfl)) ?_
 refine zad rfl rfl (zan rfl tb3 (ev1 rfl) rfl rfl) ?_
 refine zad rfl rfl (zal (.inl rfl) (ev1 rfl)) ?_
 refine zad rfl rfl (qt rfl (ev1 rfl) (fun s v h => by cases h; exact ⟨_, rfl⟩)) ?_
 refine zad rfl rfl (zam rfl ka (ev1 rfl)) ?_
 refine zad rfl rfl (zam rfl jw (ev1 rfl)) ?_
 refine zad rfl rfl (zan rfl tb3 (ev1 rfl) rfl rfl) ?_
 refine zad rfl rfl (qm rfl (ev1 rfl) (ev1 rfl)) ?_
 refine qk ⟨_, _, _, rfl, qw [] [] [] rfl (ev1 rfl) (ec (ev1 rfl) (ec (ev1 rfl) en)) rfl rfl (jQ _ _ (by simpa using h3)) rfl rfl rfl rfl rfl rfl, ?_⟩
 refine xf [0, 1] rfl rfl ?_ ⟨rfl, qp rfl rfl (fun _ => rfl), trivial⟩
 rfl
theorem XK (p : PiM) (x : PcM) (hx : pcB x = true) (h2 : x.sn = p.sn) (h3 : x.mn = p.mn) (h4 : x.ix.toNat < p.ps.length) (h5 : emp p.ps[x.ix.toNat] = false) : DPan Tryz.prog 72 [.loc 0 0, .agg (pcD x)] [.mix 118 [.val (.int .u64 p.sn), .val (.int .i64 p.mn), .arr 1], .arx 30 1 (p.ps).length ((p.ps).flatMap fun b => [rwB b])] (.ifc 125 (.val (.agg #[.int .i64 5]))) [.mix 118 [.val (.int .u64 p.sn), .val (.int .i64 p.mn), .arr 1], .arx 30 1 (p.ps).length ((p.ps).flatMap fun b => [rwB b])] := by
 refine zap (N := 68) 2 (by kernel_rfl) Tryz.func72 rfl rfl rfl (by simp only [fr0, qbs, qbt]; exact rfl) rfl fun s0 hs0 => ?_
 refine zae ?_
 have hpx := pcB_iff.1 hx
 refine zao 1 ?_
 refine zac ?_
 refine zak rfl (qd 2 rfl (ev1 rfl) rfl) ?_
 refine zab ?_
 refine zah ?_
 refine za rfl (qb rfl kI (ev1 rfl) rfl rfl) ?_
 refine za rfl (zaj [] [] [] rfl (ev1 rfl) (ec (ev1 rfl) en) rfl rfl (gB x) rfl rfl rfl rfl rfl rfl) ?_
 refine za rfl (qm rfl (ev1 rfl) (ev1 rfl)) ?_
 refine za rfl (zaj [] [] [] rfl (ev1 rfl) (ec (ev1 rfl) (ec (ev1 rfl) en)) rfl rfl (qR _ _ (by rw [hx]; rfl)) rfl rfl rfl rfl rfl rfl) ?_
 refine zab ?_
 refine zae ?_
 refine qg [([], []), ([2], []), ([], []), ([], []), ([], []), ([], []), ([0], []), ([], []), ([], [])] qP (by kernel_rfl) ?_
 refine zad rfl rfl (zam rfl kN (ev1 rfl)) ?_
 refine zad rfl rfl (zan rfl qZ (ev1 rfl) rfl rfl) ?_
 refine zad rfl rfl (zal (.inl rfl) (ev1 rfl)) ?_
 refine zad rfl rfl (qt rfl (ev1 rfl) (fun s v h => by cases h; exact ⟨_, rfl⟩)) ?_
 refine zad rfl rfl (zam rfl ka (ev1 rfl)) ?_
 refine zad rfl rfl (zam rfl kQ (ev1 rfl)) ?_
 refine zad rfl rfl (zan rfl qZ (ev1 rfl) rfl rfl) ?_
 refine zad rfl rfl (jh rfl (ev1 rfl) (ev1 rfl)) ?_
 refine zad rfl rfl (zaj [] [] [] rfl (ev1 rfl) (ec (ev1 rfl) (ec (ev1 rfl) en)) rfl rfl (qR _ _ (by simp; omega)) rfl rfl rfl rfl rfl rfl) ?_
 refine qk ?_
 refine zae ?_
 refine zae ?_
 refine qg [([], []), ([2], []), ([], []), ([], []), ([], []), ([], []), ([0], []), ([], [])] qP (by kernel_rfl) ?_
 refine zad rfl rfl (zam rfl kN (ev1 rfl)) ?_
 refine zad rfl rfl (zan rfl qZ (ev1 rfl) rfl rfl) ?_
 refine zad rfl rfl (zal (.inl rfl) (ev1 rfl)) ?_
 refine zad rfl rfl (qt rfl (ev1 rfl) (fun s v h => by cases h; exact ⟨_, rfl⟩)) ?_
 refine zad rfl rfl (zam rfl ka (ev1 rfl)) ?_
 refine zad rfl rfl (zam rfl kQ (ev1 rfl)) ?_
 refine zad rfl rfl (zan rfl qZ (ev1 rfl) rfl rfl) ?_
 refine zad rfl rfl (kA rfl (ev1 rfl) (ev1 rfl)) ?_
 refine qk ?_
 refine qc rfl (by simp; omega) ?_
 refine zar ?_
 refine zae ?_
 refine qg [([], []), ([2], []), ([], []), ([], []), ([], []), ([], []), ([0], []), ([], []), ([], [])] qP (by kernel_rfl) ?_
 refine zad rfl rfl (zam rfl k9 (ev1 rfl)) ?_
 refine zad rfl rfl (zan rfl tb3 (ev1 rfl) rfl rfl) ?_
 refine zad rfl rfl (zal (.inl rfl) (ev1 rfl)) ?_
 refine zad rfl rfl (qt rfl (ev1 rfl) (fun s v h => by cases h; exact ⟨_, rfl⟩)) ?_
 refine zad rfl rfl (zam rfl ka (ev1 rfl)) ?_
 refine zad rfl rfl (zam rfl jw (ev1 rfl)) ?_
 refine zad rfl rfl (zan rfl tb3 (ev1 rfl) rfl rfl) ?_
 refine zad rfl rfl (qm rfl (ev1 rfl) (ev1 rfl)) ?_
 refine zad rfl rfl (zaj [] [] [] rfl (ev1 rfl) (ec (ev1 rfl) (ec (ev1 rfl) en)) rfl rfl (qR _ _ (by simpa using h3)) rfl rfl rfl rfl rfl rfl) ?_
 refine qk ?_
 refine zae ?_
 refine gt 11 [([], []), ([], []), ([], []), ([], []), ([0], []), ([], []), ([2], []), ([1], []), ([1], []), ([], []), ([], [])] qP (by kernel_rfl) rfl rfl ?_
 refine zad rfl rfl (zal (.inl rfl) (ev1 rfl)) ?_
 refine zad rfl rfl (qt rfl (ev1 rfl) (fun s v h => by cases h; exact ⟨_, rfl⟩)) ?_
 refine zad rfl rfl (zam rfl ka (ev1 rfl)) ?_
 refine zad rfl rfl (zam rfl kt (ev1 rfl)) ?_
 refine zad rfl rfl (zan rfl jp (ev1 rfl) rfl rfl) ?_
 refine zad rfl rfl (zam rfl jv (ev1 rfl)) ?_
 refine zad rfl rfl (zan rfl tb3 (ev1 rfl) rfl rfl) ?_
 refine zad rfl rfl (ge (x.ix.toNat) rfl kO (ev1 rfl) (ev1 rfl) rfl (fun _ => by omega) (fun _ => by omega)) ?_
 refine zad rfl rfl (wm rfl kD (ev1 rfl) rfl (XG h4)) ?_
 refine zad rfl rfl (qE rfl qG (ev1 rfl)) ?_
 refine zad rfl rfl (qm rfl (ev1 rfl) (ev1 rfl)) ?_
 refine qk ⟨_, _, _, rfl, qw [] [] [] rfl (ev1 rfl) (ec (ev1 rfl) (ec (ev1 rfl) en)) rfl rfl (jQ _ _ (h5)) rfl rfl rfl rfl rfl rfl, ?_⟩
 refine xf [0, 1] rfl rfl ?_ ⟨rfl, qp rfl rfl (fun _ => rfl), trivial⟩
 rfl
theorem AG (p : PiM) (x : PcM) (hx : pcB x = true) (h2 : x.sn = p.sn) (h3 : x.mn = p.mn) (h4 : x.ix.toNat < p.ps.length) (h5 : emp p.ps[x.ix.toNat] = true) : DFun Tryz.prog 72 [.loc 0 0, .agg (pcD x)] [.mix 118 [.val (.int .u64 p.sn), .val (.int .i64 p.mn), .arr 1], .arx 30 1 (p.ps).length ((p.ps).flatMap fun b => [rwB b])] (.tup []) [.mix 118 [.val (.int .u64 p.sn), .val (.int .i64 p.mn), .arr 1], .arx 30 1 p.ps.length ((p.ps.set x.ix.toNat x.b).flatMap fun b => [rwB b])] := by
 refine zap (N := 68) 2 (by kernel_rfl) Tryz.func72 rfl rfl rfl (by simp only [fr0, qbs, qbt]; exact rfl) rfl fun s0 hs0 => ?_
 refine zae ?_
 have hpx := pcB_iff.1 hx
 refine zao 1 ?_
 refine zac ?_
 refine zak rfl (qd 2 rfl (ev1 rfl) rfl) ?_
 refine zab ?_
 refine zah ?_
 refine za rfl (qb rfl kI (ev1 rfl) rfl rfl) ?_
 refine za rfl (zaj [] [] [] rfl (ev1 rfl) (ec (ev1 rfl) en) rfl rfl (gB x) rfl rfl rfl rfl rfl rfl) ?_
 refine za rfl (qm rfl (ev1 rfl) (ev1 rfl)) ?_
 refine za rfl (zaj [] [] [] rfl (ev1 rfl) (ec (ev1 rfl) (ec (ev1 rfl) en)) rfl rfl (qR _ _ (by rw [hx]; rfl)) rfl rfl rfl rfl rfl rfl) ?_
 refine zab ?_
 refine zae ?_
 refine qg [([], []), ([2], []), ([], []), ([], []), ([], []), ([], []), ([0], []), ([], []), ([], [])] qP (by kernel_rfl) ?_
 refine zad rfl rfl (zam rfl kN (ev1 rfl)) ?_
 refine zad rfl rfl (zan rfl qZ (ev1 rfl) rfl rfl) ?_
 refine zad rfl rfl (zal (.inl rfl) (ev1 rfl)) ?_
 refine zad rfl rfl (qt rfl (ev1 rfl) (fun s v h => by cases h; exact ⟨_, rfl⟩)) ?_
 refine zad rfl rfl (zam rfl ka (ev1 rfl)) ?_
 refine zad rfl rfl (zam rfl kQ (ev1 rfl)) ?_
 refine zad rfl rfl (zan rfl qZ (ev1 rfl) rfl rfl) ?_
 refine zad rfl rfl (jh rfl (ev1 rfl) (ev1 rfl)) ?_
 refine zad rfl rfl (zaj [] [] [] rfl (ev1 rfl) (ec (ev1 rfl) (ec (ev1 rfl) en)) rfl rfl (qR _ _ (by simp; omega)) rfl rfl rfl rfl rfl rfl) ?_
 refine qk ?_
 refine zae ?_
 refine zae ?_
 refine qg [([], []), ([2], []), ([], []), ([], []), ([], []), ([], []), ([0], []), ([], [])] qP (by kernel_rfl) ?_
 refine zad rfl rfl (zam rfl kN (ev1 rfl)) ?_
 refine zad rfl rfl (zan rfl qZ (ev1 rfl) rfl rfl) ?_
 refine zad rfl rfl (zal (.inl rfl) (ev1 rfl)) ?_
 refine zad rfl rfl (qt rfl (ev1 rfl) (fun s v h => by cases h; exact ⟨_, rfl⟩)) ?_
 refine zad rfl rfl (zam rfl ka (ev1 rfl)) ?_
 refine zad rfl rfl (zam rfl kQ (ev1 rfl)) ?_
 refine zad rfl rfl (zan rfl qZ (ev1 rfl) rfl rfl) ?_
 refine zad rfl rfl (kA rfl (ev1 rfl) (ev1 rfl)) ?_
 refine qk ?_
 refine qc rfl (by simp; omega) ?_
 refine zar ?_
 refine zae ?_
 refine qg [([], []), ([2], []), ([], []), ([], []), ([], []), ([], []), ([0], []), ([], []), ([], [])] qP (by kernel_rfl) ?_
 refine zad rfl rfl (zam rfl k9 (ev1 rfl)) ?_
 refine zad rfl rfl (zan rfl tb3 (ev1 rfl) rfl rfl) ?_
 refine zad rfl rfl (zal (.inl rfl) (ev1 rfl)) ?_
 refine zad rfl rfl (qt rfl (ev1 rfl) (fun s v h => by cases h; exact ⟨_, rfl⟩)) ?_
 refine zad rfl rfl (zam rfl ka (ev1 rfl)) ?_
 refine zad rfl rfl (zam rfl jw (ev1 rfl)) ?_
 refine zad rfl rfl (zan rfl tb3 (ev1 rfl) rfl rfl) ?_
 refine zad rfl rfl (qm rfl (ev1 rfl) (ev1 rfl)) ?_
 refine zad rfl rfl (zaj [] [] [] rfl (ev1 rfl) (ec (ev1 rfl) (ec (ev1 rfl) en)) rfl rfl (qR _ _ (by simpa using h3)) rfl rfl rfl rfl rfl rfl) ?_
 refine qk ?_
 refine zae ?_
 refine qg [([], []), ([], []), ([], []), ([], []), ([0], []), ([], []), ([2], []), ([1], []), ([1], []), ([], []), ([], []), ([], [])] qP (by kernel_rfl) ?_
 refine zad rfl rfl (zal (.inl rfl) (ev1 rfl)) ?_
 refine zad rfl rfl (qt rfl (ev1 rfl) (fun s v h => by cases h; exact ⟨_, rfl⟩)) ?_
 refine zad rfl rfl (zam rfl ka (ev1 rfl)) ?_
 refine zad rfl rfl (zam rfl kt (ev1 rfl)) ?_
 refine zad rfl rfl (zan rfl jp (ev1 rfl) rfl rfl) ?_
 refine zad rfl rfl (zam rfl jv (ev1 rfl)) ?_
 refine zad rfl rfl (zan rfl tb3 (ev1 rfl) rfl rfl) ?_
 refine zad rfl rfl (ge (x.ix.toNat) rfl kO (ev1 rfl) (ev1 rfl) rfl (fun _ => by omega) (fun _ => by omega)) ?_
 refine zad rfl rfl (wm rfl kD (ev1 rfl) rfl (XG h4)) ?_
 refine zad rfl rfl (qE rfl qG (ev1 rfl)) ?_
 refine zad rfl rfl (qm rfl (ev1 rfl) (ev1 rfl)) ?_
 refine zad rfl rfl (zaj [] [] [] rfl (ev1 rfl) (ec (ev1 rfl) (ec (ev1 rfl) en)) rfl rfl (qR _ _ (h5)) rfl rfl rfl rfl rfl rfl) ?_
 refine qk ?_
 refine qg [([], []), ([], []), ([], []), ([], []), ([0], []), ([], []), ([2], []), ([], []), ([2], []), ([], []), ([1], []), ([1], [1])] qP (by kernel_rfl) ?_
 refine zad rfl rfl (zal (.inl rfl) (ev1 rfl)) ?_
 refine zad rfl rfl (qt rfl (ev1 rfl) (fun s v h => by cases h; exact ⟨_, rfl⟩)) ?_
 refine zad rfl rfl (zam rfl ka (ev1 rfl)) ?_
 refine zad rfl rfl (zam rfl kt (ev1 rfl)) ?_
 refine zad rfl rfl (zan rfl jp (ev1 rfl) rfl rfl) ?_
 refine zad rfl rfl (zam rfl jv (ev1 rfl)) ?_
 refine zad rfl rfl (zan rfl tb3 (ev1 rfl) rfl rfl) ?_
 refine zad rfl rfl (zam rfl yd (ev1 rfl)) ?_
 refine zad rfl rfl (zan rfl kD (ev1 rfl) rfl rfl) ?_
 refine zad rfl rfl (zaj [] [] [] rfl (ev1 rfl) (ec (ev1 rfl) en) rfl rfl (gS x.b (by omega)) rfl rfl rfl rfl rfl rfl) ?_
 refine zad rfl rfl (ge (x.ix.toNat) rfl kO (ev1 rfl) (ev1 rfl) rfl (fun _ => by omega) (fun _ => by omega)) ?_
 refine j0 rfl rfl (yD (j := x.ix.toNat) (g := rwB) (q := x.b) rfl kD (ev1 rfl) (ev1 rfl) rfl (by omega) (fun s v h => by cases h <;> exact ⟨rfl, rfl⟩)) rfl (by simp only [upd, zaf, zag]; exact rfl) ?_
 refine qk ?_
 refine ko [0, 1] (qH rfl) rfl rfl ?_ ⟨?_, ?_, trivial⟩
 rfl
 rfl
 exact qp rfl rfl (fun _ => rfl)
theorem AH (p : PiM) (x : PcM) (hx : pcB x = true) (h2 : p.sn < x.sn) : DFun Tryz.prog 72 [.loc 0 0, .agg (pcD x)] [.mix 118 [.val (.int .u64 p.sn), .val (.int .i64 p.mn), .arr 1], .arx 30 1 (p.ps).length ((p.ps).flatMap fun b => [rwB b])] (.tup []) [.mix 118 [.val (.int .u64 x.sn), .val (.int .i64 x.mn), .arr 2], .arx 30 1 (p.ps).length ((p.ps).flatMap fun b => [rwB b]), .arx 30 1 x.mn.toNat (((qbH x.mn.toNat ([] : List Int)).set x.ix.toNat x.b).flatMap fun b => [rwB b])] := by
 refine zap (N := 68) 2 (by kernel_rfl) Tryz.func72 rfl rfl rfl (by simp only [fr0, qbs, qbt]; exact rfl) rfl fun s0 hs0 => ?_
 refine zae ?_
 have hpx := pcB_iff.1 hx
 refine zao 1 ?_
 refine zac ?_
 refine zak rfl (qd 2 rfl (ev1 rfl) rfl) ?_
 refine zab ?_
 refine zah ?_
 refine za rfl (qb rfl kI (ev1 rfl) rfl rfl) ?_
 refine za rfl (zaj [] [] [] rfl (ev1 rfl) (ec (ev1 rfl) en) rfl rfl (gB x) rfl rfl rfl rfl rfl rfl) ?_
 refine za rfl (qm rfl (ev1 rfl) (ev1 rfl)) ?_
 refine za rfl (zaj [] [] [] rfl (ev1 rfl) (ec (ev1 rfl) (ec (ev1 rfl) en)) rfl rfl (qR _ _ (by rw [hx]; rfl)) rfl rfl rfl rfl rfl rfl) ?_
 refine zab ?_
 refine zae ?_
 refine qg [([], []), ([2], []), ([], []), ([], []), ([], []), ([], []), ([0], []), ([], []), ([], [])] qP (by kernel_rfl) ?_
 refine zad rfl rfl (zam rfl kN (ev1 rfl)) ?_
 refine zad rfl rfl (zan rfl qZ (ev1 rfl) rfl rfl) ?_
 refine zad rfl rfl (zal (.inl rfl) (ev1 rfl)) ?_
 refine zad rfl rfl (qt rfl (ev1 rfl) (fun s v h => by cases h; exact ⟨_, rfl⟩)) ?_
 refine zad rfl rfl (zam rfl ka (ev1 rfl)) ?_
 refine zad rfl rfl (zam rfl kQ (ev1 rfl)) ?_
 refine zad rfl rfl (zan rfl qZ (ev1 rfl) rfl rfl) ?_
 refine zad rfl rfl (jh rfl (ev1 rfl) (ev1 rfl)) ?_
 refine zad rfl rfl (zaj [] [] [] rfl (ev1 rfl) (ec (ev1 rfl) (ec (ev1 rfl) en)) rfl rfl (qR _ _ (by simp; omega)) rfl rfl rfl rfl rfl rfl) ?_
 refine qk ?_
 refine zae ?_
 refine zae ?_
 refine qg [([], []), ([2], []), ([], []), ([], []), ([], []), ([], []), ([0], []), ([], [])] qP (by kernel_rfl) ?_
 refine zad rfl rfl (zam rfl kN (ev1 rfl)) ?_
 refine zad rfl rfl (zan rfl qZ (ev1 rfl) rfl rfl) ?_
 refine zad rfl rfl (zal (.inl rfl) (ev1 rfl)) ?_
 refine zad rfl rfl (qt rfl (ev1 rfl) (fun s v h => by cases h; exact ⟨_, rfl⟩)) ?_
 refine zad rfl rfl (zam rfl ka (ev1 rfl)) ?_
 refine zad rfl rfl (zam rfl kQ (ev1 rfl)) ?_
 refine zad rfl rfl (zan rfl qZ (ev1 rfl) rfl rfl) ?_
 refine zad rfl rfl (kA rfl (ev1 rfl) (ev1 rfl)) ?_
 refine qk ?_
 refine qJ rfl (by simp; omega) ?_
 refine zao 1 ?_
 refine qg [([], []), ([], []), ([2], []), ([], []), ([2], []), ([], []), ([2], []), ([3], [3]), ([], []), ([], []), ([], []), ([0], [0])] qP (by kernel_rfl) ?_
 refine zad rfl rfl (zal (.inl rfl) (ev1 rfl)) ?_
 refine zad rfl rfl (zam rfl kN (ev1 rfl)) ?_
 refine zad rfl rfl (zan rfl qZ (ev1 rfl) rfl rfl) ?_
 refine zad rfl rfl (zam rfl k9 (ev1 rfl)) ?_
 refine zad rfl rfl (zan rfl tb3 (ev1 rfl) rfl rfl) ?_
 refine zad rfl rfl (zam rfl k9 (ev1 rfl)) ?_
 refine zad rfl rfl (zan rfl tb3 (ev1 rfl) rfl rfl) ?_
 refine gE rfl rfl (xj 3 (x.mn.toNat) (.slice none 0 0) rfl kO uU (rfl) (by decide) (ev1 rfl) (ev1 rfl) (fun _ => by omega) (fun _ => by omega) rfl (fun _ => by omega)) rfl (by simp only [upd, zaf, zag]; exact rfl) ?_
 refine zad rfl rfl (jZ (ps := [(0, .tmp 27), (1, .tmp 29), (2, .tmp 32)]) rfl J4 jR (ec (ev1 rfl) (ec (ev1 rfl) (ec (ev1 rfl) en))) rfl rfl rfl) ?_
 refine zad rfl rfl (qt rfl (ev1 rfl) (fun s v h => by cases h; exact ⟨_, rfl⟩)) ?_
 refine zad rfl rfl (zam rfl ka (ev1 rfl)) ?_
 refine j0 rfl rfl (wK rfl qS (ev1 rfl) (ev1 rfl) rfl rfl rfl rfl) rfl (by simp only [upd, zaf, zag]; exact rfl) ?_
 refine qk ?_
 refine zae ?_
 refine jg 3 u7 rfl rfl (by simp only [qbD, qbF, zaf, zag, List.map]; exact rfl) ?_
 refine qg [([], []), ([2], []), ([], []), ([], []), ([], []), ([], []), ([0], []), ([], []), ([], [])] qP (by kernel_rfl) ?_
 refine zad rfl rfl (zam rfl k9 (ev1 rfl)) ?_
 refine zad rfl rfl (zan rfl tb3 (ev1 rfl) rfl rfl) ?_
 refine zad rfl rfl (zal (.inl rfl) (ev1 rfl)) ?_
 refine zad rfl rfl (qt rfl (ev1 rfl) (fun s v h => by cases h; exact ⟨_, rfl⟩)) ?_
 refine zad rfl rfl (zam rfl ka (ev1 rfl)) ?_
 refine zad rfl rfl (zam rfl jw (ev1 rfl)) ?_
 refine zad rfl rfl (zan rfl tb3 (ev1 rfl) rfl rfl) ?_
 refine zad rfl rfl (qm rfl (ev1 rfl) (ev1 rfl)) ?_
 refine zad rfl rfl (zaj [] [] [] rfl (ev1 rfl) (ec (ev1 rfl) (ec (ev1 rfl) en)) rfl rfl (qR _ _ (by simp)) rfl rfl rfl rfl rfl rfl) ?_
 refine qk ?_
 refine zae ?_
 refine qg [([], []), ([], []), ([], []), ([], []), ([0], []), ([], []), ([2], []), ([3], []), ([3], []), ([], []), ([], []), ([], [])] qP (by kernel_rfl) ?_
 refine zad rfl rfl (zal (.inl rfl) (ev1 rfl)) ?_
 refine zad rfl rfl (qt rfl (ev1 rfl) (fun s v h => by cases h; exact ⟨_, rfl⟩)) ?_
 refine zad rfl rfl (zam rfl ka (ev1 rfl)) ?_
 refine zad rfl rfl (zam rfl kt (ev1 rfl)) ?_
 refine zad rfl rfl (zan rfl jp (ev1 rfl) rfl rfl) ?_
 refine zad rfl rfl (zam rfl jv (ev1 rfl)) ?_
 refine zad rfl rfl (zan rfl tb3 (ev1 rfl) rfl rfl) ?_
 refine zad rfl rfl (ge (x.ix.toNat) rfl kO (ev1 rfl) (ev1 rfl) rfl (fun _ => by omega) (fun _ => by rw [qbN]; omega)) ?_
 refine zad rfl rfl (wm rfl kD (ev1 rfl) rfl (XG (by rw [qbN]; omega))) ?_
 refine zad rfl rfl (qE rfl qG (ev1 rfl)) ?_
 refine zad rfl rfl (qm rfl (ev1 rfl) (ev1 rfl)) ?_
 refine zad rfl rfl (zaj [] [] [] rfl (ev1 rfl) (ec (ev1 rfl) (ec (ev1 rfl) en)) rfl rfl (qR _ _ (by rw [List.getElem_replicate]; rfl)) rfl rfl rfl rfl rfl rfl) ?_
 refine qk ?_
 refine qg [([], []), ([], []), ([], []), ([], []), ([0], []), ([], []), ([2], []), ([], []), ([2], []), ([], []), ([3], []), ([3], [3])] qP (by kernel_rfl) ?_
 refine zad rfl rfl (zal (.inl rfl) (ev1 rfl)) ?_
 refine zad rfl rfl (qt rfl (ev1 rfl) (fun s v h => by cases h; exact ⟨_, rfl⟩)) ?_
 refine zad rfl rfl (zam rfl ka (ev1 rfl)) ?_
 refine zad rfl rfl (zam rfl kt (ev1 rfl)) ?_
 refine zad rfl rfl (zan rfl jp (ev1 rfl) rfl rfl) ?_
 refine zad rfl rfl (zam rfl jv (ev1 rfl)) ?_
 refine zad rfl rfl (zan rfl tb3 (ev1 rfl) rfl rfl) ?_
 refine zad rfl rfl (zam rfl yd (ev1 rfl)) ?_
 refine zad rfl rfl (zan rfl kD (ev1 rfl) rfl rfl) ?_
 refine zad rfl rfl (zaj [] [] [] rfl (ev1 rfl) (ec (ev1 rfl) en) rfl rfl (gS x.b (by omega)) rfl rfl rfl rfl rfl rfl) ?_
 refine zad rfl rfl (ge (x.ix.toNat) rfl kO (ev1 rfl) (ev1 rfl) rfl (fun _ => by omega) (fun _ => by rw [qbN]; omega)) ?_
 refine j0 rfl rfl (yD (j := x.ix.toNat) (g := rwB) (q := x.b) rfl kD (ev1 rfl) (ev1 rfl) rfl (by rw [qbN]; omega) (fun s v h => by cases h <;> exact ⟨rfl, rfl⟩)) rfl (by simp only [upd, zaf, zag]; exact rfl) ?_
 refine qk ?_
 refine ko [0, 1, 3] (qH rfl) rfl rfl ?_ ⟨?_, ?_, ?_, trivial⟩
 rfl
 rfl
 exact qp rfl rfl (fun _ => rfl)
 exact qp (qbN ..) rfl (fun _ => rfl)
end Go.Proofs.YtofklkbfkoliiaaGreat
namespace Go.Proofs.YtofklkbfkoliiaaGreat
set_option linter.unusedVariables false
set_option linter.unusedSimpArgs false
open Go.RowKit
attribute [local irreducible] tkN jC kG
theorem wN (e : Int) : DDef Tryz.prog 104 [.loc 0 0] [.flat 34 [.int .i64 e]] none none [.flat 34 [.int .i64 0]] := by
 refine jB (dr := .tup []) (t := 1) (N := 3) 1 (by kernel_rfl) Tryz.func104 rfl rfl rfl (by simp only [fr0, qbs, qbt]; exact rfl) rfl rfl rfl rfl rfl fun s0 hs0 => ?_
 refine za rfl (zaj [] [] [] rfl (ev1 rfl) (ec (ev1 rfl) en) rfl rfl (vl) rfl rfl rfl rfl rfl rfl) ?_
 refine zas rfl (qK rfl qX (ev1 rfl) (ev1 rfl) rfl) ?_
 refine zab ?_
 refine ko [0] (qH rfl) rfl rfl ?_ ⟨rfl, trivial⟩
 rfl
theorem jU (e n : Int) : DDef Tryz.prog 104 [.loc 0 0] [.flat 34 [.int .i64 e]] (some (.ifc 125 (.val (.agg #[.int .i64 n])))) none [.flat 34 [.int .i64 n]] := by
 refine jB (dr := .tup []) (t := 1) (N := 3) 1 (by kernel_rfl) Tryz.func104 rfl rfl rfl (by simp only [fr0, qbs, qbt]; exact rfl) rfl rfl rfl rfl rfl fun s0 hs0 => ?_
 refine za rfl (zaj [] [] [] rfl (ev1 rfl) (ec (ev1 rfl) en) rfl rfl (u5 n) rfl rfl rfl rfl rfl rfl) ?_
 refine zas rfl (qK rfl qX (ev1 rfl) (ev1 rfl) rfl) ?_
 refine zab ?_
 refine ko [0] (qH rfl) rfl rfl ?_ ⟨rfl, trivial⟩
 rfl
theorem z6 (e : Int) : DDef Tryz.prog 70 [.loc 0 0] [.flat 34 [.int .i64 e]] none none [.flat 34 [.int .i64 0]] := by
 refine jB (dr := .tup []) (t := 1) (N := 3) 1 (by kernel_rfl) Tryz.func70 rfl rfl rfl (by simp only [fr0, qbs, qbt]; exact rfl) rfl rfl rfl rfl rfl fun s0 hs0 => ?_
 refine za rfl (zaj [] [] [] rfl (ev1 rfl) (ec (ev1 rfl) en) rfl rfl (vl) rfl rfl rfl rfl rfl rfl) ?_
 refine zas rfl (qK rfl qX (ev1 rfl) (ev1 rfl) rfl) ?_
 refine zab ?_
 refine ko [0] (qH rfl) rfl rfl ?_ ⟨rfl, trivial⟩
 rfl
theorem gU (e n : Int) : DDef Tryz.prog 70 [.loc 0 0] [.flat 34 [.int .i64 e]] (some (.ifc 125 (.val (.agg #[.int .i64 n])))) none [.flat 34 [.int .i64 n]] := by
 refine jB (dr := .tup []) (t := 1) (N := 3) 1 (by kernel_rfl) Tryz.func70 rfl rfl rfl (by simp only [fr0, qbs, qbt]; exact rfl) rfl rfl rfl rfl rfl fun s0 hs0 => ?_
 refine za rfl (zaj [] [] [] rfl (ev1 rfl) (ec (ev1 rfl) en) rfl rfl (u5 n) rfl rfl rfl rfl rfl rfl) ?_
 refine zas rfl (qK rfl qX (ev1 rfl) (ev1 rfl) rfl) ?_
 refine zab ?_
 refine ko [0] (qH rfl) rfl rfl ?_ ⟨rfl, trivial⟩
 rfl
theorem xE (e : Int) : DDef Tryz.prog 75 [.loc 0 0] [.flat 34 [.int .i64 e]] none none [.flat 34 [.int .i64 0]] := by
 refine jB (dr := .tup []) (t := 1) (N := 3) 1 (by kernel_rfl) Tryz.func75 rfl rfl rfl (by simp only [fr0, qbs, qbt]; exact rfl) rfl rfl rfl rfl rfl fun s0 hs0 => ?_
 refine za rfl (zaj [] [] [] rfl (ev1 rfl) (ec (ev1 rfl) en) rfl rfl (vl) rfl rfl rfl rfl rfl rfl) ?_
 refine zas rfl (qK rfl qX (ev1 rfl) (ev1 rfl) rfl) ?_
 refine zab ?_
 refine ko [0] (qH rfl) rfl rfl ?_ ⟨rfl, trivial⟩
 rfl
theorem Kq (e n : Int) : DDef Tryz.prog 75 [.loc 0 0] [.flat 34 [.int .i64 e]] (some (.ifc 125 (.val (.agg #[.int .i64 n])))) none [.flat 34 [.int .i64 n]] := by
 refine jB (dr := .tup []) (t := 1) (N := 3) 1 (by kernel_rfl) Tryz.func75 rfl rfl rfl (by simp only [fr0, qbs, qbt]; exact rfl) rfl rfl rfl rfl rfl fun s0 hs0 => ?_
 refine za rfl (zaj [] [] [] rfl (ev1 rfl) (ec (ev1 rfl) en) rfl rfl (u5 n) rfl rfl rfl rfl rfl rfl) ?_
 refine zas rfl (qK rfl qX (ev1 rfl) (ev1 rfl) rfl) ?_
 refine zab ?_
 refine ko [0] (qH rfl) rfl rfl ?_ ⟨rfl, trivial⟩
 rfl
theorem Qo (e : Int) : DDef Tryz.prog 63 [.loc 0 0] [.flat 34 [.int .i64 e]] none none [.flat 34 [.int .i64 0]] := by
 refine jB (dr := .tup []) (t := 1) (N := 3) 1 (by kernel_rfl) Tryz.func63 rfl rfl rfl (by simp only [fr0, qbs, qbt]; exact rfl) rfl rfl rfl rfl rfl fun s0 hs0 => ?_
 refine za rfl (zaj [] [] [] rfl (ev1 rfl) (ec (ev1 rfl) en) rfl rfl (vl) rfl rfl rfl rfl rfl rfl) ?_
 refine zas rfl (qK rfl qX (ev1 rfl) (ev1 rfl) rfl) ?_
 refine zab ?_
 refine ko [0] (qH rfl) rfl rfl ?_ ⟨rfl, trivial⟩
 rfl
theorem J5 (e : Int) : DDef Tryz.prog 45 [.loc 0 0] [.flat 34 [.int .i64 e]] none none [.flat 34 [.int .i64 0]] := by
 refine jB (dr := .tup []) (t := 1) (N := 3) 1 (by kernel_rfl) Tryz.func45 rfl rfl rfl (by simp only [fr0, qbs, qbt]; exact rfl) rfl rfl rfl rfl rfl fun s0 hs0 => ?_
 refine za rfl (zaj [] [] [] rfl (ev1 rfl) (ec (ev1 rfl) en) rfl rfl (vl) rfl rfl rfl rfl rfl rfl) ?_
 refine zas rfl (qK rfl qX (ev1 rfl) (ev1 rfl) rfl) ?_
 refine zab ?_
 refine ko [0] (qH rfl) rfl rfl ?_ ⟨rfl, trivial⟩
 rfl
theorem qa6 (p : PiM) (x : PcM) (hx : pcB x = false) : DFun Tryz.prog 76 [.loc 0 0, .agg (pcD x)] [.mix 118 [.val (.int .u64 p.sn), .val (.int .i64 p.mn), .arr 1], .arx 30 1 (p.ps).length ((p.ps).flatMap fun b => [rwB b])] (.val (.int .i64 311)) [.mix 118 [.val (.int .u64 p.sn), .val (.int .i64 p.mn), .arr 1], .arx 30 1 (p.ps).length ((p.ps).flatMap fun b => [rwB b])] := by
 refine qo (N := 9) 2 (by kernel_rfl) Tryz.func76 rfl rfl rfl (by simp only [fr0, qbs, qbt]; exact rfl) rfl fun s0 hs0 => ?_
 refine qz rfl hs0 ?_
 refine zao 2 ?_
 refine zac ?_
 refine zak rfl (qd 2 rfl (ev1 rfl) rfl) ?_
 refine zak rfl (zaq 3 rfl jT rfl) ?_
 refine zab ?_
 refine qr (l0 := [_]) rfl rfl rfl rfl rfl hs0 ?_
 refine za rfl (qV rfl en (ec (ev1 rfl) en)) ?_
 refine zab ⟨_, _, _, 4, ev1 rfl, qbK hs0 (by decide), rfl, ?_⟩
 have hs1 : s0.M.length ≤ 4 := qbK hs0 (by decide)
 refine qy rfl hs0 ?_
 refine zah ?_
 refine zaa 1 rfl ?_
 refine za rfl (qb rfl kI (ev1 rfl) rfl rfl) ?_
 refine ky rfl (qw [0, 1] [] [] rfl (ev1 rfl) (ec (ev1 rfl) (ec (ev1 rfl) en)) rfl (by exact jd _ _ ⟨rfl, (by first | exact rfl | exact arx_fits rfl rfl (vwL_flat (fun _ => rfl) _) | exact kp rfl rfl (qf (fun _ => rfl) _) | exact qp rfl rfl (fun _ => rfl) | exact kr rfl rfl (fun _ => rfl)), trivial⟩) (XH p x hx) rfl rfl rfl (by exact (wrc rfl (wrc (by first | exact rfl | exact kB (fun _ => rfl) | exact kg (qf (fun _ => rfl) _) | exact q9 (fun _ => rfl) | exact ki (fun _ => rfl)) rfl))) rfl rfl) rfl ?_
 refine jH (qQ [3] [] rfl rfl rfl (jU _ _) rfl rfl rfl rfl rfl) ?_
 refine ko [0, 1] (rs1 rfl (js qX rfl rfl rfl)) rfl rfl ?_ ⟨rfl, qp rfl rfl (fun _ => rfl), trivial⟩
 rfl
theorem qa7 (p : PiM) (x : PcM) (hx : pcB x = true) (h2 : x.sn < p.sn) : DFun Tryz.prog 76 [.loc 0 0, .agg (pcD x)] [.mix 118 [.val (.int .u64 p.sn), .val (.int .i64 p.mn), .arr 1], .arx 30 1 (p.ps).length ((p.ps).flatMap fun b => [rwB b])] (.val (.int .i64 241)) [.mix 118 [.val (.int .u64 p.sn), .val (.int .i64 p.mn), .arr 1], .arx 30 1 (p.ps).length ((p.ps).flatMap fun b => [rwB b])] := by
 refine qo (N := 9) 2 (by kernel_rfl) Tryz.func76 rfl rfl rfl (by simp only [fr0, qbs, qbt]; exact rfl) rfl fun s0 hs0 => ?_
 refine qz rfl hs0 ?_
 refine zao 2 ?_
 refine zac ?_
 refine zak rfl (qd 2 rfl (ev1 rfl) rfl) ?_
 refine zak rfl (zaq 3 rfl jT rfl) ?_
 refine zab ?_
 refine qr (l0 := [_]) rfl rfl rfl rfl rfl hs0 ?_
 refine za rfl (qV rfl en (ec (ev1 rfl) en)) ?_
 refine zab ⟨_, _, _, 4, ev1 rfl, qbK hs0 (by decide), rfl, ?_⟩
 have hs1 : s0.M.length ≤ 4 := qbK hs0 (by decide)
 refine qy rfl hs0 ?_
 refine zah ?_
 refine zaa 1 rfl ?_
 refine za rfl (qb rfl kI (ev1 rfl) rfl rfl) ?_
 refine ky rfl (qw [0, 1] [] [] rfl (ev1 rfl) (ec (ev1 rfl) (ec (ev1 rfl) en)) rfl (by exact jd _ _ ⟨rfl, (by first | exact rfl | exact arx_fits rfl rfl (vwL_flat (fun _ => rfl) _) | exact kp rfl rfl (qf (fun _ => rfl) _) | exact qp rfl rfl (fun _ => rfl) | exact kr rfl rfl (fun _ => rfl)), trivial⟩) (XI p x hx h2) rfl rfl rfl (by exact (wrc rfl (wrc (by first | exact rfl | exact kB (fun _ => rfl) | exact kg (qf (fun _ => rfl) _) | exact q9 (fun _ => rfl) | exact ki (fun _ => rfl)) rfl))) rfl rfl) rfl ?_
 refine jH (qQ [3] [] rfl rfl rfl (jU _ _) rfl rfl rfl rfl rfl) ?_
 refine ko [0, 1] (rs1 rfl (js qX rfl rfl rfl)) rfl rfl ?_ ⟨rfl, qp rfl rfl (fun _ => rfl), trivial⟩
 rfl
theorem qa8 (p : PiM) (x : PcM) (hx : pcB x = true) (h2 : x.sn = p.sn) (h3 : x.mn ≠ p.mn) : DFun Tryz.prog 76 [.loc 0 0, .agg (pcD x)] [.mix 118 [.val (.int .u64 p.sn), .val (.int .i64 p.mn), .arr 1], .arx 30 1 (p.ps).length ((p.ps).flatMap fun b => [rwB b])] (.val (.int .i64 311)) [.mix 118 [.val (.int .u64 p.sn), .val (.int .i64 p.mn), .arr 1], .arx 30 1 (p.ps).length ((p.ps).flatMap fun b => [rwB b])] := by
 refine qo (N := 9) 2 (by kernel_rfl) Tryz.func76 rfl rfl rfl (by simp only [fr0, qbs, qbt]; exact rfl) rfl fun s0 hs0 => ?_
 refine qz rfl hs0 ?_
 refine zao 2 ?_
 refine zac ?_
 refine zak rfl (qd 2 rfl (ev1 rfl) rfl) ?_
 refine zak rfl (zaq 3 rfl jT rfl) ?_
 refine zab ?_
 refine qr (l0 := [_]) rfl rfl rfl rfl rfl hs0 ?_
 refine za rfl (qV rfl en (ec (ev1 rfl) en)) ?_
 refine zab ⟨_, _, _, 4, ev1 rfl, qbK hs0 (by decide), rfl, ?_⟩
 have hs1 : s0.M.length ≤ 4 := qbK hs0 (by decide)
 refine qy rfl hs0 ?_
 refine zah ?_
 refine zaa 1 rfl ?_
 refine za rfl (qb rfl kI (ev1 rfl) rfl rfl) ?_
 refine ky rfl (qw [0, 1] [] [] rfl (ev1 rfl) (ec (ev1 rfl) (ec (ev1 rfl) en)) rfl (by exact jd _ _ ⟨rfl, (by first | exact rfl | exact arx_fits rfl rfl (vwL_flat (fun _ => rfl) _) | exact kp rfl rfl (qf (fun _ => rfl) _) | exact qp rfl rfl (fun _ => rfl) | exact kr rfl rfl (fun _ => rfl)), trivial⟩) (XJ p x hx h2 h3) rfl rfl rfl (by exact (wrc rfl (wrc (by first | exact rfl | exact kB (fun _ => rfl) | exact kg (qf (fun _ => rfl) _) | exact q9 (fun _ => rfl) | exact ki (fun _ => rfl)) rfl))) rfl rfl) rfl ?_
 refine jH (qQ [3] [] rfl rfl rfl (jU _ _) rfl rfl rfl rfl rfl) ?_
 refine ko [0, 1] (rs1 rfl (js qX rfl rfl rfl)) rfl rfl ?_ ⟨rfl, qp rfl rfl (fun _ => rfl), trivial⟩
 rfl
theorem qa9 (p : PiM) (x : PcM) (hx : pcB x = true) (h2 : x.sn = p.sn) (h3 : x.mn = p.mn) (h4 : x.ix.toNat < p.ps.length) (h5 : emp p.ps[x.ix.toNat] = false) : DFun Tryz.prog 76 [.loc 0 0, .agg (pcD x)] [.mix 118 [.val (.int .u64 p.sn), .val (.int .i64 p.mn), .arr 1], .arx 30 1 (p.ps).length ((p.ps).flatMap fun b => [rwB b])] (.val (.int .i64 5)) [.mix 118 [.val (.int .u64 p.sn), .val (.int .i64 p.mn), .arr 1], .arx 30 1 (p.ps).length ((p.ps).flatMap fun b => [rwB b])] := by
 refine qo (N := 9) 2 (by kernel_rfl) Tryz.func76 rfl rfl rfl (by simp only [fr0, qbs, qbt]; exact rfl) rfl fun s0 hs0 => ?_
 refine qz rfl hs0 ?_
 refine zao 2 ?_
 refine zac ?_
 refine zak rfl (qd 2 rfl (ev1 rfl) rfl) ?_
 refine zak rfl (zaq 3 rfl jT rfl) ?_
 refine zab ?_
 refine qr (l0 := [_]) rfl rfl rfl rfl rfl hs0 ?_
 refine za rfl (qV rfl en (ec (ev1 rfl) en)) ?_
 refine zab ⟨_, _, _, 4, ev1 rfl, qbK hs0 (by decide), rfl, ?_⟩
 have hs1 : s0.M.length ≤ 4 := qbK hs0 (by decide)
 refine qy rfl hs0 ?_
 refine zah ?_
 refine zaa 1 rfl ?_
 refine za rfl (qb rfl kI (ev1 rfl) rfl rfl) ?_
 refine ky rfl (qw [0, 1] [] [] rfl (ev1 rfl) (ec (ev1 rfl) (ec (ev1 rfl) en)) rfl (by exact jd _ _ ⟨rfl, (by first | exact rfl | exact arx_fits rfl rfl (vwL_flat (fun _ => rfl) _) | exact kp rfl rfl (qf (fun _ => rfl) _) | exact qp rfl rfl (fun _ => rfl) | exact kr rfl rfl (fun _ => rfl)), trivial⟩) (XK p x hx h2 h3 h4 h5) rfl rfl rfl (by exact (wrc rfl (wrc (by first | exact rfl | exact kB (fun _ => rfl) | exact kg (qf (fun _ => rfl) _) | exact q9 (fun _ => rfl) | exact ki (fun _ => rfl)) rfl))) rfl rfl) rfl ?_
 refine jH (qQ [3] [] rfl rfl rfl (jU _ _) rfl rfl rfl rfl rfl) ?_
 refine ko [0, 1] (rs1 rfl (js qX rfl rfl rfl)) rfl rfl ?_ ⟨rfl, qp rfl rfl (fun _ => rfl), trivial⟩
 rfl
theorem try_s (p : PiM) (x : PcM) (hx : pcB x = true) (h2 : x.sn = p.sn) (h3 : x.mn = p.mn) (h4 : x.ix.toNat < p.ps.length) (h5 : emp p.ps[x.ix.toNat] = true) : DFun Tryz.prog 76 [.loc 0 0, .agg (pcD x)] [.mix 118 [.val (.int .u64 p.sn), .val (.int .i64 p.mn), .arr 1], .arx 30 1 (p.ps).length ((p.ps).flatMap fun b => [rwB b])] (.val (.int .i64 0)) [.mix 118 [.val (.int .u64 p.sn), .val (.int .i64 p.mn), .arr 1], .arx 30 1 p.ps.length ((p.ps.set x.ix.toNat x.b).flatMap fun b => [rwB b])] := by
 refine qo (N := 9) 2 (by kernel_rfl) Tryz.func76 rfl rfl rfl (by simp only [fr0, qbs, qbt]; exact rfl) rfl fun s0 hs0 => ?_
 refine qz rfl hs0 ?_
 refine zao 2 ?_
 refine zac ?_
 refine zak rfl (qd 2 rfl (ev1 rfl) rfl) ?_
 refine zak rfl (zaq 3 rfl jT rfl) ?_
 refine zab ?_
 refine qr (l0 := [_]) rfl rfl rfl rfl rfl hs0 ?_
 refine za rfl (qV rfl en (ec (ev1 rfl) en)) ?_
 refine zab ⟨_, _, _, 4, ev1 rfl, qbK hs0 (by decide), rfl, ?_⟩
 have hs1 : s0.M.length ≤ 4 := qbK hs0 (by decide)
 refine qy rfl hs0 ?_
 refine zah ?_
 refine zaa 1 rfl ?_
 refine za rfl (qb rfl kI (ev1 rfl) rfl rfl) ?_
 refine zak rfl (zaj [0, 1] [] [] rfl (ev1 rfl) (ec (ev1 rfl) (ec (ev1 rfl) en)) rfl (by exact jd _ _ ⟨rfl, (by first | exact rfl | exact arx_fits rfl rfl (vwL_flat (fun _ => rfl) _) | exact kp rfl rfl (qf (fun _ => rfl) _) | exact qp rfl rfl (fun _ => rfl) | exact kr rfl rfl (fun _ => rfl)), trivial⟩) (AG p x hx h2 h3 h4 h5) rfl rfl rfl (by exact (wrc rfl (wrc (by first | exact rfl | exact kB (fun _ => rfl) | exact kg (qf (fun _ => rfl) _) | exact q9 (fun _ => rfl) | exact ki (fun _ => rfl)) rfl))) rfl rfl) ?_
 refine zab ?_
 refine zah ?_
 refine zas rfl (qK rfl qX (ev1 rfl) (ev1 rfl) rfl) ?_
 refine zab ?_
 refine qa ?_
 refine jH (kL [3] [] rfl rfl (wN _) rfl rfl rfl rfl rfl) ?_
 refine ko [0, 1] (rs1 rfl (js qX rfl rfl rfl)) rfl rfl ?_ ⟨rfl, qp rfl rfl (fun _ => rfl), trivial⟩
 rfl
theorem try_n (p : PiM) (x : PcM) (hx : pcB x = true) (h2 : p.sn < x.sn) : DFun Tryz.prog 76 [.loc 0 0, .agg (pcD x)] [.mix 118 [.val (.int .u64 p.sn), .val (.int .i64 p.mn), .arr 1], .arx 30 1 (p.ps).length ((p.ps).flatMap fun b => [rwB b])] (.val (.int .i64 0)) [.mix 118 [.val (.int .u64 x.sn), .val (.int .i64 x.mn), .arr 2], .arx 30 1 (p.ps).length ((p.ps).flatMap fun b => [rwB b]), .arx 30 1 x.mn.toNat (((qbH x.mn.toNat ([] : List Int)).set x.ix.toNat x.b).flatMap fun b => [rwB b])] := by
 refine qo (N := 9) 2 (by kernel_rfl) Tryz.func76 rfl rfl rfl (by simp only [fr0, qbs, qbt]; exact rfl) rfl fun s0 hs0 => ?_
 refine qz rfl hs0 ?_
 refine zao 2 ?_
 refine zac ?_
 refine zak rfl (qd 2 rfl (ev1 rfl) rfl) ?_
 refine zak rfl (zaq 3 rfl jT rfl) ?_
 refine zab ?_
 refine qr (l0 := [_]) rfl rfl rfl rfl rfl hs0 ?_
 refine za rfl (qV rfl en (ec (ev1 rfl) en)) ?_
 refine zab ⟨_, _, _, 4, ev1 rfl, qbK hs0 (by decide), rfl, ?_⟩
 have hs1 : s0.M.length ≤ 4 := qbK hs0 (by decide)
 refine qy rfl hs0 ?_
 refine zae ?_
 refine zao 1 ?_
 refine zac ?_
 refine zaa 1 rfl ?_
 refine za rfl (qb rfl kI (ev1 rfl) rfl rfl) ?_
 refine zak rfl (zaj [0, 1] [] [4] rfl (ev1 rfl) (ec (ev1 rfl) (ec (ev1 rfl) en)) rfl (by exact jd _ _ ⟨rfl, (by first | exact rfl | exact arx_fits rfl rfl (vwL_flat (fun _ => rfl) _) | exact kp rfl rfl (qf (fun _ => rfl) _) | exact qp rfl rfl (fun _ => rfl) | exact kr rfl rfl (fun _ => rfl)), trivial⟩) (AH p x hx h2) rfl rfl rfl (by exact (wrc rfl (wrc (by first | exact rfl | exact kB (fun _ => rfl) | exact kg (qf (fun _ => rfl) _) | exact q9 (fun _ => rfl) | exact ki (fun _ => rfl)) (wrc (by first | exact rfl | exact kB (fun _ => rfl) | exact kg (qf (fun _ => rfl) _) | exact q9 (fun _ => rfl) | exact ki (fun _ => rfl)) rfl)))) rfl rfl) ?_
 refine zab ?_
 refine zah ?_
 refine zas rfl (qK rfl qX (ev1 rfl) (ev1 rfl) rfl) ?_
 refine zab ?_
 refine qa ?_
 refine jH (kL [3] [] rfl rfl (wN _) rfl rfl rfl rfl rfl) ?_
 refine ko [0, 1, 4] (rs1 rfl (js qX rfl rfl rfl)) rfl rfl ?_ ⟨rfl, qp rfl rfl (fun _ => rfl), qp rfl rfl (fun _ => rfl), trivial⟩
 rfl
end Go.Proofs.YtofklkbfkoliiaaGreat
namespace Go.Proofs.YtofklkbfkoliiaaGreat
set_option linter.unusedVariables false
set_option linter.unusedSimpArgs false
open Go.RowKit
theorem vm (b : Bool) {n : Int} (hn : n ≠ 0) : (wn b n != 0) = !b := by cases b <;> simp [wn, hn]
theorem Ys (b : Bool) {n : Int} (hn : n ≠ 0) : (wn b n == 0) = b := by cases b <;> simp [wn, hn]
def zPi : PiM := ⟨0, 0, []⟩
def kU (p : PiM) (x : PcM) : Int × PiM :=
 if pcB x = true then
  if x.sn < p.sn then (241, p)
  else if p.sn < x.sn then (0, ⟨x.sn, x.mn, (qbH x.mn.toNat []).set x.ix.toNat x.b⟩)
  else if x.mn ≠ p.mn then (311, p)
  else if emp (p.ps.getD x.ix.toNat []) = true then (0, { p with ps := p.ps.set x.ix.toNat x.b }) else (5, p)
 else (311, p)
theorem Yt {sn mn : Int} : ∀ {ps : List (List Int)} {k : Int}, xM sn mn ps k = true ↔ ∀ (i : Nat) (h : i < ps.length), emp ps[i] = true ∨ pcB ⟨sn, k + i, mn, ps[i]⟩ = true
 | [], k => by simp [xM]
 | b :: r, k => by
  rw [xM, qbu, qbE, Yt]
  constructor
  ·rintro ⟨h1, h2⟩ i hi
   cases i with
   | zero => simpa using h1
   | succ i =>
    have := h2 i (by simpa using hi)
    rw [show k + ((i + 1 : Nat) : Int) = k + 1 + i by omega]
    exact this
  ·intro h
   refine ⟨?_, fun i hi => ?_⟩
   ·have := h 0 (by simp)
    rw [show k + ((0 : Nat) : Int) = k by omega] at this
    exact this
   ·have := h (i + 1) (by simpa using hi)
    rw [show k + ((i + 1 : Nat) : Int) = k + 1 + i by omega] at this
    exact this
theorem cntE_zero : ∀ {ps : List (List Int)}, wv ps = 0 ↔ ∀ (i : Nat) (h : i < ps.length), emp ps[i] = true
 | [] => by simp [wv]
 | b :: r => by
  rw [wv]
  constructor
  ·intro h i hi
   have hb : emp b = true := by
    cases hb : emp b with
    | true => rfl
    | false => rw [hb] at h; simp at h
   rw [if_pos hb, qbs] at h
   cases i with
   | zero => exact hb
   | succ i => exact cntE_zero.1 h i (by simpa using hi)
  ·intro h
   rw [if_pos (show emp b = true from h 0 (by simp)), qbs]
   exact cntE_zero.2 fun i hi => h (i + 1) (by simpa using hi)
theorem piOk_iff {p : PiM} : kH p = true ↔ noB p = true ∨ ((∀ (i : Nat) (h : i < p.ps.length), emp p.ps[i] = true ∨ pcB ⟨p.sn, i, p.mn, p.ps[i]⟩ = true) ∧ (∃ (i : Nat) (h : i < p.ps.length), emp p.ps[i] = false) ∧ (p.ps.length : Int) = p.mn) := by
 unfold kH
 rw [qbE, qbu, qbu, Yt, beq_iff_eq]
 have h1 : (!(((wv p.ps : Nat) : Int) == 0)) = true ↔ ∃ (i : Nat) (h : i < p.ps.length), emp p.ps[i] = false := by
  constructor
  ·intro h
   refine Classical.byContradiction fun hn => ?_
   have h0 : wv p.ps = 0 := cntE_zero.2 fun i hi => by
    cases he : emp p.ps[i] with
    | true => rfl
    | false => exact absurd ⟨i, hi, he⟩ hn
   rw [h0] at h
   exact absurd h (by decide)
  ·rintro ⟨i, hi, he⟩
   have h0 : wv p.ps ≠ 0 := fun h => by
    rw [cntE_zero.1 h i hi] at he
    cases he
   simp
   exact h0
 rw [h1]
 simp only [Int.zero_add]
 constructor
 ·rintro (h | ⟨⟨h2, h3⟩, h4⟩)
  ·exact .inl h
  ·exact .inr ⟨h2, h3, h4⟩
 ·rintro (h | ⟨h2, h3, h4⟩)
  ·exact .inl h
  ·exact .inr ⟨⟨h2, h3⟩, h4⟩
theorem noB_iff {p : PiM} : noB p = true ↔ p = zPi := by
 obtain ⟨sn, mn, ps⟩ := p
 unfold noB zPi
 simp only [qbu, beq_iff_eq, PiM.mk.injEq]
 constructor
 ·rintro ⟨⟨h1, h2⟩, h3⟩
  exact ⟨h1, h2, qbU (by omega)⟩
 ·rintro ⟨h1, h2, h3⟩
  exact ⟨⟨h1, h2⟩, by rw [h3]; rfl⟩
theorem Qp {p : PiM} (hp : kH p = true) : (p.ps.length : Int) = p.mn := by
 rcases piOk_iff.1 hp with h | ⟨_, _, h⟩
 ·rw [noB_iff.1 h]; rfl
 ·exact h
theorem AI {p : PiM} (hp : kH p = true) : (p = zPi) ∨ (1 ≤ p.sn ∧ p.sn ≤ 4611686018427387904 ∧ 1 ≤ p.mn ∧ p.mn ≤ 64) := by
 rcases piOk_iff.1 hp with h | ⟨h1, ⟨i, hi, he⟩, h3⟩
 ·exact .inl (noB_iff.1 h)
 ·right
  rcases h1 i hi with h | h
  ·rw [he] at h; cases h
  ·have := pcB_iff.1 h
   dsimp only at this
   omega
theorem gV {p : PiM} (hp : kH p = true) : p.ps.length ≤ 64 ∧ ∀ b ∈ p.ps, b.length ≤ 256 := by
 have hl := Qp hp
 rcases AI hp with rfl | h
 ·exact ⟨by decide, fun b hb => by cases hb⟩
 ·refine ⟨by omega, fun b hb => ?_⟩
  obtain ⟨i, hi, rfl⟩ := qcc hb
  rcases piOk_iff.1 hp with h0 | ⟨h1, _, _⟩
  ·rw [noB_iff.1 h0] at h; exact absurd h (by decide)
  ·rcases h1 i hi with he | he
   ·rw [emp_iff.1 he]; simp
   ·have := pcB_iff.1 he
    dsimp only at this
    omega
theorem Vl {x : PcM} (h : pcB x = true) : emp x.b = false := by
 have := pcB_iff.1 h
 cases he : emp x.b with
 | false => rfl
 | true =>
  rw [emp_iff.1 he] at this
  simp at this
theorem j7 {p : PiM} (hp : kH p = true) (x : PcM) :
  (pcB x = true ∧ p.sn < x.sn ∧ kU p x = (0, ⟨x.sn, x.mn, (qbH x.mn.toNat []).set x.ix.toNat x.b⟩)) ∨
  (pcB x = true ∧ x.sn = p.sn ∧ x.mn = p.mn ∧ (∃ h : x.ix.toNat < p.ps.length, emp p.ps[x.ix.toNat] = true) ∧ kU p x = (0, { p with ps := p.ps.set x.ix.toNat x.b })) ∨
  (∃ e : Int, e ≠ 0 ∧ kU p x = (e, p) ∧ ((pcB x = false ∧ e = 311) ∨ (pcB x = true ∧ x.sn < p.sn ∧ e = 241) ∨ (pcB x = true ∧ x.sn = p.sn ∧ x.mn ≠ p.mn ∧ e = 311) ∨ (pcB x = true ∧ x.sn = p.sn ∧ x.mn = p.mn ∧ (∃ h : x.ix.toNat < p.ps.length, emp p.ps[x.ix.toNat] = false) ∧ e = 5))) := by
 unfold kU
 cases hx : pcB x with
 | false => exact .inr (.inr ⟨311, by decide, rfl, .inl ⟨rfl, rfl⟩⟩)
 | true =>
  rw [if_pos rfl]
  by_cases h1 : x.sn < p.sn
  ·rw [if_pos h1]
   exact .inr (.inr ⟨241, by decide, rfl, .inr (.inl ⟨rfl, h1, rfl⟩)⟩)
  rw [if_neg h1]
  by_cases h2 : p.sn < x.sn
  ·rw [if_pos h2]
   exact .inl ⟨rfl, h2, rfl⟩
  rw [if_neg h2]
  have hs : x.sn = p.sn := by omega
  by_cases h3 : x.mn ≠ p.mn
  ·rw [if_pos h3]
   exact .inr (.inr ⟨311, by decide, rfl, .inr (.inr (.inl ⟨rfl, hs, h3, rfl⟩))⟩)
  rw [if_neg h3]
  have hm : x.mn = p.mn := by simpa using h3
  have hl := Qp hp
  have hpx := pcB_iff.1 hx
  have hi : x.ix.toNat < p.ps.length := by omega
  rw [show p.ps.getD x.ix.toNat [] = p.ps[x.ix.toNat] from by rw [qbV, qbr hi]; rfl]
  cases he : emp p.ps[x.ix.toNat] with
  | true => rw [if_pos rfl]; exact .inr (.inl ⟨rfl, hs, hm, ⟨hi, he⟩, rfl⟩)
  | false => rw [if_neg (by decide)]; exact .inr (.inr ⟨5, by decide, rfl, .inr (.inr (.inr ⟨rfl, hs, hm, ⟨hi, he⟩, rfl⟩))⟩)
theorem XL {p q : PiM} {x : PcM} (hp : kH p = true) (h : (kU p x).2 = q) : kH q = true := by
 subst h
 rcases j7 hp x with ⟨hx, h2, e⟩ | ⟨hx, h2, h3, ⟨h4, h5⟩, e⟩ | ⟨_, _, e, _⟩
 ·rw [e]
  have hpx := pcB_iff.1 hx
  refine piOk_iff.2 (.inr ⟨fun i hi => ?_, ⟨x.ix.toNat, by simp; omega, ?_⟩, by simp; omega⟩)
  ·by_cases hj : x.ix.toNat = i
   ·subst hj
    right
    simp only [List.getElem_set_self]
    rw [show ((x.ix.toNat : Nat) : Int) = x.ix by omega]
    exact hx
   ·left
    simp only [List.getElem_set_ne hj, List.getElem_replicate]
    rfl
  ·simp only [List.getElem_set_self]
   exact Vl hx
 ·rw [e]
  have hpx := pcB_iff.1 hx
  have hl := Qp hp
  have h0 : noB p = false := by
   cases h : noB p with
   | false => rfl
   | true => rw [noB_iff.1 h] at h4; cases h4
  rcases piOk_iff.1 hp with h | ⟨g1, _, g3⟩
  ·rw [h0] at h; cases h
  refine piOk_iff.2 (.inr ⟨fun i hi => ?_, ⟨x.ix.toNat, by simpa using h4, ?_⟩, by simp; omega⟩)
  ·by_cases hj : x.ix.toNat = i
   ·subst hj
    right
    simp only [List.getElem_set_self]
    rw [show ((x.ix.toNat : Nat) : Int) = x.ix by omega, ← h2, ← h3]
    exact hx
   ·have := g1 i (by simpa using hi)
    simp only [List.getElem_set_ne hj]
    exact this
  ·simp only [List.getElem_set_self]
   exact Vl hx
 ·rw [e]; exact hp
def qF : List PcM → PiM × Nat → PiM × Nat
 | [], s => s
 | x :: r, s => qF r ((kU s.1 x).2, if (kU s.1 x).1 = 0 then s.2 else s.2 + 1)
theorem k5 (l : List PcM) {k : Nat} (s : PiM × Nat) (h : k < l.length) : qF (l.take (k + 1)) s = ((kU (qF (l.take k) s).1 l[k]).2, if (kU (qF (l.take k) s).1 l[k]).1 = 0 then (qF (l.take k) s).2 else (qF (l.take k) s).2 + 1) := by
 induction l generalizing k s with
 | nil => simp at h
 | cons x r ih =>
  cases k with
  | zero => simp [qF]
  | succ k =>
   rw [List.take_succ_cons, List.take_succ_cons, qF, qF, ih _ (by simpa using h)]
   rfl
theorem wy {p : PiM} (hp : kH p = true) : ∀ (l : List PcM) (n : Nat), kH (qF l (p, n)).1 = true ∧ (qF l (p, n)).2 ≤ n + l.length
 | [], n => ⟨hp, qbM _⟩
 | x :: r, n => by
  rw [qF]
  have h1 := wy (XL hp (x := x) rfl) r (if (kU p x).1 = 0 then n else n + 1)
  refine ⟨h1.1, qbK h1.2 ?_⟩
  rw [qbW]
  split <;> omega
end Go.Proofs.YtofklkbfkoliiaaGreat
namespace Go.Proofs.YtofklkbfkoliiaaGreat
set_option linter.unusedVariables false
set_option linter.unusedSimpArgs false
open Go.RowKit
attribute [local irreducible] tkN jC kG kU
theorem rw_nl (l : List (List Int)) : D.nlL (l.flatMap fun b => [rwB b]) = true := by
 induction l with
 | nil => rfl
 | cons b r ih => rw [qbJ]; exact ih
theorem xr : Wk (.val (.agg #[.int .u64 0, .int .i64 0, .slice none 0 0])) (.agg (piD zPi)) := (Wk.vagg _).trans (Wk.agg (.cons (.refl _) (.cons (.refl _) (.cons (Wk.slm0 1) .nil))))
theorem AJ (e : Int) : Wk (.tup [.val (.agg #[.int .u64 0, .int .i64 0, .slice none 0 0]), .val (.int .i64 e)]) (.tup [.agg (piD zPi), .val (.int .i64 e)]) := Wk.tup (.cons xr (.cons (.refl _) .nil))
theorem wO {T : TypeId} {u v : Value} {n : Nat} {l : List (List Int)} : vw [] jS [.arx T 1 n (l.flatMap fun b => [rwB b])] (.agg [.val u, .val v, .arr 0]) = some (.agg [.val u, .val v, .slm 1 n (l.flatMap fun b => [rwB b])]) := by
 have h := ZB (σ := []) (V := jS) (M := [.arx T 1 n (l.flatMap fun b => [rwB b])]) (i := 0) rfl rfl rfl (rw_nl l)
 have h2 := gu (σ := []) (V := jS) (M := [.arx T 1 n (l.flatMap fun b => [rwB b])]) (d := .val u) rfl (gu (d := .val v) rfl (gu h (show vwL [] jS _ [] = some [] from rfl)))
 unfold vw
 rw [h2]
 rfl
theorem Ht (p : PiM) (hn : p.ps.length ≤ 5000) (hb : ∀ b ∈ p.ps, b.length ≤ 100000) (hp : kH p = true) (x : PcM) (hx : pcB x = false) : DFun Tryz.prog 30 [.agg (piD p), .agg (pcD x)] [] (.tup [.val (.agg #[.int .u64 0, .int .i64 0, .slice none 0 0]), .val (.int .i64 311)]) [] := by
 refine qo (N := 17) 0 (by kernel_rfl) Tryz.func30 rfl rfl rfl (by simp only [fr0, qbs, qbt]; exact rfl) rfl fun s0 hs0 => ?_
 refine qz rfl hs0 ?_
 refine zao 4 ?_
 refine zac ?_
 refine zak rfl (qd 0 rfl (ev1 rfl) rfl) ?_
 refine zak rfl (qd 1 rfl (ev1 rfl) rfl) ?_
 refine zak rfl (zaq 2 rfl jR rfl) ?_
 refine zak rfl (zaq 3 rfl jT rfl) ?_
 refine zab ?_
 refine qr (l0 := [_]) rfl rfl rfl rfl rfl hs0 ?_
 refine za rfl (qV rfl en (ec (ev1 rfl) en)) ?_
 refine zab ⟨_, _, _, 4, ev1 rfl, qbK hs0 (by decide), rfl, ?_⟩
 have hs1 : s0.M.length ≤ 4 := qbK hs0 (by decide)
 refine qy rfl hs0 ?_
 refine zae ?_
 refine zao 2 ?_
 refine zac ?_
 refine za rfl (qb rfl qS (ev1 rfl) rfl rfl) ?_
 refine zak rfl (zaj [] [] [4, 5] rfl (ev1 rfl) (ec (ev1 rfl) en) rfl rfl (uu p hn hb hp) rfl rfl rfl (by exact (wrc rfl (wrc (by first | exact rfl | exact kB (fun _ => rfl) | exact kg (qf (fun _ => rfl) _) | exact q9 (fun _ => rfl) | exact ki (fun _ => rfl)) rfl))) rfl rfl) ?_
 refine zaa 1 rfl ?_
 refine zab ?_
 refine zah ?_
 refine zaa 1 rfl ?_
 refine za rfl (qb rfl kI (ev1 rfl) rfl rfl) ?_
 refine ky rfl (qw [4, 5] [] [] rfl (ev1 rfl) (ec (ev1 rfl) (ec (ev1 rfl) en)) rfl (by exact jd _ _ ⟨rfl, (by first | exact rfl | exact arx_fits rfl rfl (vwL_flat (fun _ => rfl) _) | exact kp rfl rfl (qf (fun _ => rfl) _) | exact qp rfl rfl (fun _ => rfl) | exact kr rfl rfl (fun _ => rfl)), trivial⟩) (XH p x hx) rfl rfl rfl (by exact (wrc rfl (wrc (by first | exact rfl | exact kB (fun _ => rfl) | exact kg (qf (fun _ => rfl) _) | exact q9 (fun _ => rfl) | exact ki (fun _ => rfl)) rfl))) rfl rfl) rfl ?_
 refine jH (qQ [3] [] rfl rfl rfl (gU _ _) rfl rfl rfl rfl rfl) ?_
 refine qx (rs2 rfl (yv qS rfl rfl rfl) (js qX rfl rfl rfl)) rfl ?_
 rfl
theorem Hu (p : PiM) (hn : p.ps.length ≤ 5000) (hb : ∀ b ∈ p.ps, b.length ≤ 100000) (hp : kH p = true) (x : PcM) (hx : pcB x = true) (h2 : x.sn < p.sn) : DFun Tryz.prog 30 [.agg (piD p), .agg (pcD x)] [] (.tup [.val (.agg #[.int .u64 0, .int .i64 0, .slice none 0 0]), .val (.int .i64 241)]) [] := by
 refine qo (N := 17) 0 (by kernel_rfl) Tryz.func30 rfl rfl rfl (by simp only [fr0, qbs, qbt]; exact rfl) rfl fun s0 hs0 => ?_
 refine qz rfl hs0 ?_
 refine zao 4 ?_
 refine zac ?_
 refine zak rfl (qd 0 rfl (ev1 rfl) rfl) ?_
 refine zak rfl (qd 1 rfl (ev1 rfl) rfl) ?_
 refine zak rfl (zaq 2 rfl jR rfl) ?_
 refine zak rfl (zaq 3 rfl jT rfl) ?_
 refine zab ?_
 refine qr (l0 := [_]) rfl rfl rfl rfl rfl hs0 ?_
 refine za rfl (qV rfl en (ec (ev1 rfl) en)) ?_
 refine zab ⟨_, _, _, 4, ev1 rfl, qbK hs0 (by decide), rfl, ?_⟩
 have hs1 : s0.M.length ≤ 4 := qbK hs0 (by decide)
 refine qy rfl hs0 ?_
 refine zae ?_
 refine zao 2 ?_
 refine zac ?_
 refine za rfl (qb rfl qS (ev1 rfl) rfl rfl) ?_
 refine zak rfl (zaj [] [] [4, 5] rfl (ev1 rfl) (ec (ev1 rfl) en) rfl rfl (uu p hn hb hp) rfl rfl rfl (by exact (wrc rfl (wrc (by first | exact rfl | exact kB (fun _ => rfl) | exact kg (qf (fun _ => rfl) _) | exact q9 (fun _ => rfl) | exact ki (fun _ => rfl)) rfl))) rfl rfl) ?_
 refine zaa 1 rfl ?_
 refine zab ?_
 refine zah ?_
 refine zaa 1 rfl ?_
 refine za rfl (qb rfl kI (ev1 rfl) rfl rfl) ?_
 refine ky rfl (qw [4, 5] [] [] rfl (ev1 rfl) (ec (ev1 rfl) (ec (ev1 rfl) en)) rfl (by exact jd _ _ ⟨rfl, (by first | exact rfl | exact arx_fits rfl rfl (vwL_flat (fun _ => rfl) _) | exact kp rfl rfl (qf (fun _ => rfl) _) | exact qp rfl rfl (fun _ => rfl) | exact kr rfl rfl (fun _ => rfl)), trivial⟩) (XI p x hx h2) rfl rfl rfl (by exact (wrc rfl (wrc (by first | exact rfl | exact kB (fun _ => rfl) | exact kg (qf (fun _ => rfl) _) | exact q9 (fun _ => rfl) | exact ki (fun _ => rfl)) rfl))) rfl rfl) rfl ?_
 refine jH (qQ [3] [] rfl rfl rfl (gU _ _) rfl rfl rfl rfl rfl) ?_
 refine qx (rs2 rfl (yv qS rfl rfl rfl) (js qX rfl rfl rfl)) rfl ?_
 rfl
theorem Hv (p : PiM) (hn : p.ps.length ≤ 5000) (hb : ∀ b ∈ p.ps, b.length ≤ 100000) (hp : kH p = true) (x : PcM) (hx : pcB x = true) (h2 : x.sn = p.sn) (h3 : x.mn ≠ p.mn) : DFun Tryz.prog 30 [.agg (piD p), .agg (pcD x)] [] (.tup [.val (.agg #[.int .u64 0, .int .i64 0, .slice none 0 0]), .val (.int .i64 311)]) [] := by
 refine qo (N := 17) 0 (by kernel_rfl) Tryz.func30 rfl rfl rfl (by simp only [fr0, qbs, qbt]; exact rfl) rfl fun s0 hs0 => ?_
 refine qz rfl hs0 ?_
 refine zao 4 ?_
 refine zac ?_
 refine zak rfl (qd 0 rfl (ev1 rfl) rfl) ?_
 refine zak rfl (qd 1 rfl (ev1 rfl) rfl) ?_
 refine zak rfl (zaq 2 rfl jR rfl) ?_
 refine zak rfl (zaq 3 rfl jT rfl) ?_
 refine zab ?_
 refine qr (l0 := [_]) rfl rfl rfl rfl rfl hs0 ?_
 refine za rfl (qV rfl en (ec (ev1 rfl) en)) ?_
 refine zab ⟨_, _, _, 4, ev1 rfl, qbK hs0 (by decide), rfl, ?_⟩
 have hs1 : s0.M.length ≤ 4 := qbK hs0 (by decide)
 refine qy rfl hs0 ?_
 refine zae ?_
 refine zao 2 ?_
 refine zac ?_
 refine za rfl (qb rfl qS (ev1 rfl) rfl rfl) ?_
 refine zak rfl (zaj [] [] [4, 5] rfl (ev1 rfl) (ec (ev1 rfl) en) rfl rfl (uu p hn hb hp) rfl rfl rfl (by exact (wrc rfl (wrc (by first | exact rfl | exact kB (fun _ => rfl) | exact kg (qf (fun _ => rfl) _) | exact q9 (fun _ => rfl) | exact ki (fun _ => rfl)) rfl))) rfl rfl) ?_
 refine zaa 1 rfl ?_
 refine zab ?_
 refine zah ?_
 refine zaa 1 rfl ?_
 refine za rfl (qb rfl kI (ev1 rfl) rfl rfl) ?_
 refine ky rfl (qw [4, 5] [] [] rfl (ev1 rfl) (ec (ev1 rfl) (ec (ev1 rfl) en)) rfl (by exact jd _ _ ⟨rfl, (by first | exact rfl | exact arx_fits rfl rfl (vwL_flat (fun _ => rfl) _) | exact kp rfl rfl (qf (fun _ => rfl) _) | exact qp rfl rfl (fun _ => rfl) | exact kr rfl rfl (fun _ => rfl)), trivial⟩) (XJ p x hx h2 h3) rfl rfl rfl (by exact (wrc rfl (wrc (by first | exact rfl | exact kB (fun _ => rfl) | exact kg (qf (fun _ => rfl) _) | exact q9 (fun _ => rfl) | exact ki (fun _ => rfl)) rfl))) rfl rfl) rfl ?_
 refine jH (qQ [3] [] rfl rfl rfl (gU _ _) rfl rfl rfl rfl rfl) ?_
 refine qx (rs2 rfl (yv qS rfl rfl rfl) (js qX rfl rfl rfl)) rfl ?_
 rfl
theorem Hw (p : PiM) (hn : p.ps.length ≤ 5000) (hb : ∀ b ∈ p.ps, b.length ≤ 100000) (hp : kH p = true) (x : PcM) (hx : pcB x = true) (h2 : x.sn = p.sn) (h3 : x.mn = p.mn) (h4 : x.ix.toNat < p.ps.length) (h5 : emp p.ps[x.ix.toNat] = false) : DFun Tryz.prog 30 [.agg (piD p), .agg (pcD x)] [] (.tup [.val (.agg #[.int .u64 0, .int .i64 0, .slice none 0 0]), .val (.int .i64 5)]) [] := by
 refine qo (N := 17) 0 (by kernel_rfl) Tryz.func30 rfl rfl rfl (by simp only [fr0, qbs, qbt]; exact rfl) rfl fun s0 hs0 => ?_
 refine qz rfl hs0 ?_
 refine zao 4 ?_
 refine zac ?_
 refine zak rfl (qd 0 rfl (ev1 rfl) rfl) ?_
 refine zak rfl (qd 1 rfl (ev1 rfl) rfl) ?_
 refine zak rfl (zaq 2 rfl jR rfl) ?_
 refine zak rfl (zaq 3 rfl jT rfl) ?_
 refine zab ?_
 refine qr (l0 := [_]) rfl rfl rfl rfl rfl hs0 ?_
 refine za rfl (qV rfl en (ec (ev1 rfl) en)) ?_
 refine zab ⟨_, _, _, 4, ev1 rfl, qbK hs0 (by decide), rfl, ?_⟩
 have hs1 : s0.M.length ≤ 4 := qbK hs0 (by decide)
 refine qy rfl hs0 ?_
 refine zae ?_
 refine zao 2 ?_
 refine zac ?_
 refine za rfl (qb rfl qS (ev1 rfl) rfl rfl) ?_
 refine zak rfl (zaj [] [] [4, 5] rfl (ev1 rfl) (ec (ev1 rfl) en) rfl rfl (uu p hn hb hp) rfl rfl rfl (by exact (wrc rfl (wrc (by first | exact rfl | exact kB (fun _ => rfl) | exact kg (qf (fun _ => rfl) _) | exact q9 (fun _ => rfl) | exact ki (fun _ => rfl)) rfl))) rfl rfl) ?_
 refine zaa 1 rfl ?_
 refine zab ?_
 refine zah ?_
 refine zaa 1 rfl ?_
 refine za rfl (qb rfl kI (ev1 rfl) rfl rfl) ?_
 refine ky rfl (qw [4, 5] [] [] rfl (ev1 rfl) (ec (ev1 rfl) (ec (ev1 rfl) en)) rfl (by exact jd _ _ ⟨rfl, (by first | exact rfl | exact arx_fits rfl rfl (vwL_flat (fun _ => rfl) _) | exact kp rfl rfl (qf (fun _ => rfl) _) | exact qp rfl rfl (fun _ => rfl) | exact kr rfl rfl (fun _ => rfl)), trivial⟩) (XK p x hx h2 h3 h4 h5) rfl rfl rfl (by exact (wrc rfl (wrc (by first | exact rfl | exact kB (fun _ => rfl) | exact kg (qf (fun _ => rfl) _) | exact q9 (fun _ => rfl) | exact ki (fun _ => rfl)) rfl))) rfl rfl) rfl ?_
 refine jH (qQ [3] [] rfl rfl rfl (gU _ _) rfl rfl rfl rfl rfl) ?_
 refine qx (rs2 rfl (yv qS rfl rfl rfl) (js qX rfl rfl rfl)) rfl ?_
 rfl
theorem Hx (p : PiM) (hn : p.ps.length ≤ 5000) (hb : ∀ b ∈ p.ps, b.length ≤ 100000) (hp : kH p = false) (x : PcM) : DFun Tryz.prog 30 [.agg (piD p), .agg (pcD x)] [] (.tup [.val (.agg #[.int .u64 0, .int .i64 0, .slice none 0 0]), .val (.int .i64 312)]) [] := by
 refine qo (N := 17) 0 (by kernel_rfl) Tryz.func30 rfl rfl rfl (by simp only [fr0, qbs, qbt]; exact rfl) rfl fun s0 hs0 => ?_
 refine qz rfl hs0 ?_
 refine zao 4 ?_
 refine zac ?_
 refine zak rfl (qd 0 rfl (ev1 rfl) rfl) ?_
 refine zak rfl (qd 1 rfl (ev1 rfl) rfl) ?_
 refine zak rfl (zaq 2 rfl jR rfl) ?_
 refine zak rfl (zaq 3 rfl jT rfl) ?_
 refine zab ?_
 refine qr (l0 := [_]) rfl rfl rfl rfl rfl hs0 ?_
 refine za rfl (qV rfl en (ec (ev1 rfl) en)) ?_
 refine zab ⟨_, _, _, 4, ev1 rfl, qbK hs0 (by decide), rfl, ?_⟩
 have hs1 : s0.M.length ≤ 4 := qbK hs0 (by decide)
 refine qy rfl hs0 ?_
 refine zah ?_
 refine za rfl (qb rfl qS (ev1 rfl) rfl rfl) ?_
 refine ky rfl (qw [] [] [] rfl (ev1 rfl) (ec (ev1 rfl) en) rfl rfl (Vk p hn hp) rfl rfl rfl rfl rfl rfl) rfl ?_
 refine jH (qQ [3] [] rfl rfl rfl (gU _ _) rfl rfl rfl rfl rfl) ?_
 refine qx (rs2 rfl (yv qS rfl rfl rfl) (js qX rfl rfl rfl)) rfl ?_
 rfl
theorem Hy (p : PiM) (hn : p.ps.length ≤ 5000) (hb : ∀ b ∈ p.ps, b.length ≤ 100000) (hp : kH p = true) (x : PcM) (hx : pcB x = true) (h2 : x.sn = p.sn) (h3 : x.mn = p.mn) (h4 : x.ix.toNat < p.ps.length) (h5 : emp p.ps[x.ix.toNat] = true) : DFun Tryz.prog 30 [.agg (piD p), .agg (pcD x)] [] (.tup [.agg [.val (.int .u64 p.sn), .val (.int .i64 p.mn), .arr 0], .val (.int .i64 0)]) [.arx 30 1 p.ps.length ((p.ps.set x.ix.toNat x.b).flatMap fun b => [rwB b])] := by
 refine qo (N := 17) 0 (by kernel_rfl) Tryz.func30 rfl rfl rfl (by simp only [fr0, qbs, qbt]; exact rfl) rfl fun s0 hs0 => ?_
 refine qz rfl hs0 ?_
 refine zao 4 ?_
 refine zac ?_
 refine zak rfl (qd 0 rfl (ev1 rfl) rfl) ?_
 refine zak rfl (qd 1 rfl (ev1 rfl) rfl) ?_
 refine zak rfl (zaq 2 rfl jR rfl) ?_
 refine zak rfl (zaq 3 rfl jT rfl) ?_
 refine zab ?_
 refine qr (l0 := [_]) rfl rfl rfl rfl rfl hs0 ?_
 refine za rfl (qV rfl en (ec (ev1 rfl) en)) ?_
 refine zab ⟨_, _, _, 4, ev1 rfl, qbK hs0 (by decide), rfl, ?_⟩
 have hs1 : s0.M.length ≤ 4 := qbK hs0 (by decide)
 refine qy rfl hs0 ?_
 refine zae ?_
 refine zao 2 ?_
 refine zac ?_
 refine za rfl (qb rfl qS (ev1 rfl) rfl rfl) ?_
 refine zak rfl (zaj [] [] [4, 5] rfl (ev1 rfl) (ec (ev1 rfl) en) rfl rfl (uu p hn hb hp) rfl rfl rfl (by exact (wrc rfl (wrc (by first | exact rfl | exact kB (fun _ => rfl) | exact kg (qf (fun _ => rfl) _) | exact q9 (fun _ => rfl) | exact ki (fun _ => rfl)) rfl))) rfl rfl) ?_
 refine zaa 1 rfl ?_
 refine zab ?_
 refine zah ?_
 refine zaa 1 rfl ?_
 refine za rfl (qb rfl kI (ev1 rfl) rfl rfl) ?_
 refine zak rfl (zaj [4, 5] [] [] rfl (ev1 rfl) (ec (ev1 rfl) (ec (ev1 rfl) en)) rfl (by exact jd _ _ ⟨rfl, (by first | exact rfl | exact arx_fits rfl rfl (vwL_flat (fun _ => rfl) _) | exact kp rfl rfl (qf (fun _ => rfl) _) | exact qp rfl rfl (fun _ => rfl) | exact kr rfl rfl (fun _ => rfl)), trivial⟩) (AG p x hx h2 h3 h4 h5) rfl rfl rfl (by exact (wrc rfl (wrc (by first | exact rfl | exact kB (fun _ => rfl) | exact kg (qf (fun _ => rfl) _) | exact q9 (fun _ => rfl) | exact ki (fun _ => rfl)) rfl))) rfl rfl) ?_
 refine zab ?_
 refine zah ?_
 refine zaa 1 rfl ?_
 refine za rfl (qt rfl (ev1 rfl) (fun s v h => by cases h; exact ⟨_, rfl⟩)) ?_
 refine za rfl (zam rfl ka (ev1 rfl)) ?_
 refine za rfl (qb rfl qS (ev1 rfl) rfl rfl) ?_
 refine zas rfl (kw rfl qS (ev1 rfl) (ev1 rfl) rfl rfl rfl rfl) ?_
 refine zas rfl (qK rfl qX (ev1 rfl) (ev1 rfl) rfl) ?_
 refine zab ?_
 refine qa ?_
 refine jH (kL [3] [] rfl rfl (z6 _) rfl rfl rfl rfl rfl) ?_
 refine ko [5] (rs2 rfl (y0 qS rfl rfl rfl) (js qX rfl rfl rfl)) rfl rfl ?_ ⟨?_, trivial⟩
 rfl
 exact qp rfl rfl (fun _ => rfl)
theorem Hz (p : PiM) (hn : p.ps.length ≤ 5000) (hb : ∀ b ∈ p.ps, b.length ≤ 100000) (hp : kH p = true) (x : PcM) (hx : pcB x = true) (h2 : p.sn < x.sn) : DFun Tryz.prog 30 [.agg (piD p), .agg (pcD x)] [] (.tup [.agg [.val (.int .u64 x.sn), .val (.int .i64 x.mn), .arr 0], .val (.int .i64 0)]) [.arx 30 1 x.mn.toNat (((qbH x.mn.toNat ([] : List Int)).set x.ix.toNat x.b).flatMap fun b => [rwB b])] := by
 refine qo (N := 17) 0 (by kernel_rfl) Tryz.func30 rfl rfl rfl (by simp only [fr0, qbs, qbt]; exact rfl) rfl fun s0 hs0 => ?_
 refine qz rfl hs0 ?_
 refine zao 4 ?_
 refine zac ?_
 refine zak rfl (qd 0 rfl (ev1 rfl) rfl) ?_
 refine zak rfl (qd 1 rfl (ev1 rfl) rfl) ?_
 refine zak rfl (zaq 2 rfl jR rfl) ?_
 refine zak rfl (zaq 3 rfl jT rfl) ?_
 refine zab ?_
 refine qr (l0 := [_]) rfl rfl rfl rfl rfl hs0 ?_
 refine za rfl (qV rfl en (ec (ev1 rfl) en)) ?_
 refine zab ⟨_, _, _, 4, ev1 rfl, qbK hs0 (by decide), rfl, ?_⟩
 have hs1 : s0.M.length ≤ 4 := qbK hs0 (by decide)
 refine qy rfl hs0 ?_
 refine zae ?_
 refine zao 2 ?_
 refine zac ?_
 refine za rfl (qb rfl qS (ev1 rfl) rfl rfl) ?_
 refine zak rfl (zaj [] [] [4, 5] rfl (ev1 rfl) (ec (ev1 rfl) en) rfl rfl (uu p hn hb hp) rfl rfl rfl (by exact (wrc rfl (wrc (by first | exact rfl | exact kB (fun _ => rfl) | exact kg (qf (fun _ => rfl) _) | exact q9 (fun _ => rfl) | exact ki (fun _ => rfl)) rfl))) rfl rfl) ?_
 refine zaa 1 rfl ?_
 refine zab ?_
 refine zae ?_
 refine zao 1 ?_
 refine zac ?_
 refine zaa 1 rfl ?_
 refine za rfl (qb rfl kI (ev1 rfl) rfl rfl) ?_
 refine zak rfl (zaj [4, 5] [] [6] rfl (ev1 rfl) (ec (ev1 rfl) (ec (ev1 rfl) en)) rfl (by exact jd _ _ ⟨rfl, (by first | exact rfl | exact arx_fits rfl rfl (vwL_flat (fun _ => rfl) _) | exact kp rfl rfl (qf (fun _ => rfl) _) | exact qp rfl rfl (fun _ => rfl) | exact kr rfl rfl (fun _ => rfl)), trivial⟩) (AH p x hx h2) rfl rfl rfl (by exact (wrc rfl (wrc (by first | exact rfl | exact kB (fun _ => rfl) | exact kg (qf (fun _ => rfl) _) | exact q9 (fun _ => rfl) | exact ki (fun _ => rfl)) (wrc (by first | exact rfl | exact kB (fun _ => rfl) | exact kg (qf (fun _ => rfl) _) | exact q9 (fun _ => rfl) | exact ki (fun _ => rfl)) rfl)))) rfl rfl) ?_
 refine zab ?_
 refine zah ?_
 refine zaa 1 rfl ?_
 refine za rfl (qt rfl (ev1 rfl) (fun s v h => by cases h; exact ⟨_, rfl⟩)) ?_
 refine za rfl (zam rfl ka (ev1 rfl)) ?_
 refine za rfl (qb rfl qS (ev1 rfl) rfl rfl) ?_
 refine zas rfl (kw rfl qS (ev1 rfl) (ev1 rfl) rfl rfl rfl rfl) ?_
 refine zas rfl (qK rfl qX (ev1 rfl) (ev1 rfl) rfl) ?_
 refine zab ?_
 refine qa ?_
 refine jH (kL [3] [] rfl rfl (z6 _) rfl rfl rfl rfl rfl) ?_
 refine ko [6] (rs2 rfl (y0 qS rfl rfl rfl) (js qX rfl rfl rfl)) rfl rfl ?_ ⟨?_, trivial⟩
 rfl
 exact qp rfl rfl (fun _ => rfl)
theorem try_e (p : PiM) (x : PcM) (hp : kH p = true) (e : Int) (he : e ≠ 0) (h : kU p x = (e, p)) : DFun Tryz.prog 76 [.loc 0 0, .agg (pcD x)] [.mix 118 [.val (.int .u64 p.sn), .val (.int .i64 p.mn), .arr 1], .arx 30 1 (p.ps).length ((p.ps).flatMap fun b => [rwB b])] (.val (.int .i64 e)) [.mix 118 [.val (.int .u64 p.sn), .val (.int .i64 p.mn), .arr 1], .arx 30 1 (p.ps).length ((p.ps).flatMap fun b => [rwB b])] := by
 rcases j7 hp x with ⟨_, _, h1⟩ | ⟨_, _, _, _, h1⟩ | ⟨e1, _, h1, g⟩
 ·rw [h1] at h; exact absurd (congrArg Prod.fst h).symm he
 ·rw [h1] at h; exact absurd (congrArg Prod.fst h).symm he
 ·obtain rfl : e1 = e := by rw [h1] at h; exact congrArg Prod.fst h
  rcases g with ⟨a, rfl⟩ | ⟨a, b, rfl⟩ | ⟨a, b, c, rfl⟩ | ⟨a, b, c, ⟨d, f⟩, rfl⟩
  ·exact qa6 p x a
  ·exact qa7 p x a b
  ·exact qa8 p x a b c
  ·exact qa9 p x a b c d f
theorem Vm (p : PiM) (hn : p.ps.length ≤ 5000) (hb : ∀ b ∈ p.ps, b.length ≤ 100000) (hp : kH p = true) (x : PcM) (e : Int) (he : e ≠ 0) (h : (kU p x).1 = e) : DFun Tryz.prog 30 [.agg (piD p), .agg (pcD x)] [] (.tup [.agg (piD zPi), .val (.int .i64 e)]) [] := by
 refine DFun.wk ?_ (AJ e)
 rcases j7 hp x with ⟨_, _, h1⟩ | ⟨_, _, _, _, h1⟩ | ⟨e1, _, h1, g⟩
 ·rw [h1] at h; exact absurd h.symm he
 ·rw [h1] at h; exact absurd h.symm he
 ·obtain rfl : e1 = e := by rw [h1] at h; exact h
  rcases g with ⟨a, rfl⟩ | ⟨a, b, rfl⟩ | ⟨a, b, c, rfl⟩ | ⟨a, b, c, ⟨d, f⟩, rfl⟩
  ·exact Ht p hn hb hp x a
  ·exact Hu p hn hb hp x a b
  ·exact Hv p hn hb hp x a b c
  ·exact Hw p hn hb hp x a b c d f
theorem Vn (p : PiM) (hn : p.ps.length ≤ 5000) (hb : ∀ b ∈ p.ps, b.length ≤ 100000) (hp : kH p = true) (x : PcM) (h : (kU p x).1 = 0) : DFun Tryz.prog 30 [.agg (piD p), .agg (pcD x)] [] (.tup [.agg (piD (kU p x).2), .val (.int .i64 0)]) [] := by
 rcases j7 hp x with ⟨a, b, h1⟩ | ⟨a, b, c, ⟨d, f⟩, h1⟩ | ⟨e1, he, h1, _⟩
 ·have hq := yc (Hz p hn hb hp x a b) (JL wO)
  rw [h1]
  have hl : (qbH x.mn.toNat ([] : List Int)).length = x.mn.toNat := qbN
  unfold piD
  dsimp only
  rw [List.length_set, hl]
  exact hq
 ·have hq := yc (Hy p hn hb hp x a b c d f) (JL wO)
  rw [h1]
  unfold piD
  dsimp only
  rw [List.length_set]
  exact hq
 ·rw [h1] at h; exact absurd h he
theorem J6 {p : PiM} (hp : kH p = true) (x : PcM) (h0 : (kU p x).1 = 0) (h : p.sn < x.sn) : pcB x = true ∧ (kU p x).2 = ⟨x.sn, x.mn, (qbH x.mn.toNat []).set x.ix.toNat x.b⟩ := by
 rcases j7 hp x with ⟨a, _, h1⟩ | ⟨_, b, _, _, _⟩ | ⟨e1, he, h1, _⟩
 ·exact ⟨a, by rw [h1]⟩
 ·omega
 ·rw [h1] at h0; exact absurd h0 he
theorem z7 {p : PiM} (hp : kH p = true) (x : PcM) (h0 : (kU p x).1 = 0) (h : ¬ p.sn < x.sn) : pcB x = true ∧ x.sn = p.sn ∧ x.mn = p.mn ∧ (∃ h : x.ix.toNat < p.ps.length, emp p.ps[x.ix.toNat] = true) ∧ (kU p x).2 = { p with ps := p.ps.set x.ix.toNat x.b } := by
 rcases j7 hp x with ⟨_, b, _⟩ | ⟨a, b, c, d, h1⟩ | ⟨e1, he, h1, _⟩
 ·omega
 ·exact ⟨a, b, c, d, by rw [h1]⟩
 ·rw [h1] at h0; exact absurd h0 he
theorem zf {p : PiM} (hp : kH p = true) (x : PcM) (h0 : ¬ (kU p x).1 = 0) : kU p x = ((kU p x).1, p) := by
 rcases j7 hp x with ⟨_, _, h1⟩ | ⟨_, _, _, _, h1⟩ | ⟨e1, he, h1, _⟩
 ·rw [h1] at h0; exact absurd rfl h0
 ·rw [h1] at h0; exact absurd rfl h0
 ·rw [h1]
end Go.Proofs.YtofklkbfkoliiaaGreat
