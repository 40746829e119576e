/- Families, looked into and written; rows of names; appends of what is one's own; Structs of data that stay: boxed; arrays in them, looked into and cut; Variables of a family: looked into, written, told apart by their addresses; a variable joins a family; A nil slice in a cell of a variable, taken over as a row of one's own that holds data; What is known of a value, told otherwise: nil slices as rows of nothing, plain structs as lists of cells; Arrays of words that are values, read at a place; cells at a place that is not known; Rows of families that grow by append; a row that a variable's cell names joins a family; Variables that stay, named by their addresses; contracts that give one of several things; what is fresh; How many entries a map has; rows of elements whose cells are all one; A struct whose fields are rows, stored into a part of a variable; Variables that hold a row of one's ow. No condition. -/
import Derived.Test.YtofklkbfkoliiaaGreatV3
import Derived.Test.YtofklkbfkoliiaaGreatRows
import Derived.LaidEqlPtr
import Derived.Maps.RangeRun
import Derived.ArgAppend
set_option maxRecDepth 4000
set_option maxHeartbeats 1000000
open List renaming getElem?_eq_some_iff → qbq, getElem?_eq_getElem → qbr, length_append → qbz, getElem?_set_ne → qbC, cons_append → qbD, nil_append → qbF, getElem?_set_self → qbG, replicate → qbH, getElem?_append_left → qbI, flatMap_cons → qbJ, length_replicate → qbN, getElem?_append_right → qbO, take_succ_eq_append_getElem → qbP, length_take → qbS, take_of_length_le → qbT, eq_nil_of_length_eq_zero → qbU, getD_eq_getElem?_getD → qbV, length_cons → qbW, all_eq_true → qbX, append_assoc → qbY, length_drop → qbZ, mem_cons_self → qb1, getElem?_eq_none → qb2, mem_cons_of_mem → qb4, range → qb5, getElem_mem → qb9, getElem?_map → qca, getElem_of_mem → qcc, getElem?_drop → qcd, take_length → qch, append_nil → qci
open Nat renaming zero_add → qbs, reduceAdd → qbt, le_of_ble_eq_true → qbA, le_trans → qbK, le_refl → qbM, zero_le → qb3, mul_le_mul_right → qb6, succ_mul → qcg, blt → qcj
open Bool renaming and_eq_true → qbu, or_eq_false_iff → qbv, not_eq_true' → qbx, not_eq_false' → qby, or_eq_true → qbE
open Option.some renaming inj → qbw
open Go.IntWalk renaming i64_in → qbB
open Int renaming not_lt → qbQ, not_le → qbR, toNat_natCast → qcb
open Array renaming replicate → qb8
namespace Go.Proofs.YtofklkbfkoliiaaGreat
set_option linter.unusedVariables false
set_option linter.unusedSimpArgs false
open Go.RowKit
theorem x9 {s : St} (hok : Ok s) {i k sz n : Nat} {T : TypeId} {Bs : List Mem} {L : List Value} {hs : List Value} {u : Value} (hM : s.M[i]? = some (.fam Bs)) (h : s.β[i]? = some (.tuple hs.toArray)) (hB : Bs[k]? = some (.arr T sz n L)) (hk : hs[k]? = some u) : s.w.ownsRow 0 T sz u n L :=
 (w5 (k := k) hok hM h).ok k _ _ hB hk
theorem qaf {s : St} (ho : Ok s) {i k : Nat} {Bs : List Mem} {hs : List Value} {B B' : Mem} {u : Value} {b : Nat} (hi : s.M[i]? = some (.fam Bs)) (hβ : s.β[i]? = some (.tuple hs.toArray)) (hB : Bs[k]? = some B) (hl : B.live = true) (hl' : B'.live = true) (hu : hs[k]? = some u) (hub : hb u = some b) (p : Nat) (C : List Value)
  (hm : MemOk (s.w.setCells b p C) u B') : Tr s ⟨s.β.set i (.tuple hs.toArray), s.I, s.M.set i (.fam (Bs.set k B')), s.w.setCells b p C⟩ := by
 have hil := (qbq.1 hi).1
 have hf := w5 (k := k) ho hi hβ
 obtain ⟨r1, r2, r3, r4⟩ := y4 b C p s.w
 have hkl := (qbq.1 hB).1
 have old : ∀ (q : Nat) X, (Bs.set k B')[q]? = some X → X.live = true → ∃ Y, Bs[q]? = some Y ∧ Y.live = true := by
  intro q X h1 h2
  by_cases e : k = q
  ·subst e; exact ⟨B, hB, hl⟩
  ·rw [qbC e] at h1; exact ⟨X, h1, h2⟩
 have tw : ∀ b', jo (.fam (Bs.set k B')) (.tuple hs.toArray) b' → jo (.fam Bs) (.tuple hs.toArray) b' := by
  rintro b' ⟨hs', q, X, y, e1, e2, e3, e4, e5⟩
  have e1 : hs = hs' := by simpa using e1
  subst e1
  obtain ⟨Y, f1, f2⟩ := old q X e2 e3
  exact ⟨hs, q, Y, y, rfl, f1, f2, e4, e5⟩
 refine kV ho i s.M _ _ _ rfl (fun _ _ h => .inl h) hil (.inr (.inl hβ)) (by simp) ⟨hs, rfl, by rw [List.length_set]; exact hf.len, fun q X y h1 h2 => ?_, fun q q' X X' y y' b' h1 l1 h2 h3 g1 m1 g2 g3 => ?_⟩ (fun b' hb' j kj hj hne h1 h2 h3 h4 => ?_) (fun b' hb' => .inr (qq hi rfl hβ (tw b' hb'))) (fun b' hb' => ?_) (fun _ => False) (fun _ h => h.elim) (fun b' hlt hne _ => ?_) r2 r3 r4 (by rw [r1]; exact qbM _)
 ·by_cases e : k = q
  ·subst e
   rw [qbG hkl] at h1
   cases h1
   rw [hu] at h2; cases h2
   exact hm
  ·rw [qbC e] at h1
   refine (hf.ok q X y h1 h2).mono fun b' hlv hbb => kX b C p s.w b' fun e2 => ?_
   subst e2
   exact e (hf.inj k q B X u y b' hB hl hu hub h1 hlv h2 hbb)
 ·obtain ⟨Y, f1, f2⟩ := old q X h1 l1
  obtain ⟨Y', f1', f2'⟩ := old q' X' g1 m1
  exact hf.inj q q' Y Y' y y' b' f1 f2 h2 h3 f1' f2' g2 g3
 ·exact hne (ho.inj j i kj _ hj _ b' h1 h2 h3 h4 hi rfl hβ (tw b' hb'))
 ·rw [r1]; exact (ho.lt b' (qq hi rfl hβ (tw b' hb'))).1
 ·refine kX b C p s.w b' fun e => hne ?_
  rw [e]
  exact ⟨hs, k, B', u, rfl, by rw [qbG hkl], hl', hu, hub⟩
section
variable {P : Program} {pc : Bool} {o : Oper} {F : Fr} {M : List Blk}
theorem QT {T T' : TypeId} {x : Operand} {q : TypeId × Nat × Nat} {i k sz n : Nat} {Bs : List Mem} {L : List Value} (ho : o.op = .call { callee := .builtin .len, args := #[x], argTypes := #[T] }) (hT : slE P T = some q) (hx : Ev pc F x (.farr i k)) (hM : M[i]? = some (.fam Bs)) (hB : Bs[k]? = some (.arr T' sz n L)) : DOp P pc o F M [i] (.val (.int .i64 n)) [] := by
 intro hp a s hok hops hfp
 obtain ⟨e1, _⟩ := kS hT
 have hr := qu hp hx (by simp [ho, Op.operands, Call.operands]) hops
 generalize hv : a.eval x = vx at hr
 cases hr with
 | farr h hkk =>
  have hM' : s.M[i]? = some (.fam Bs) := by rw [hfp i (by simp)]; exact hM
  have hk := x9 hok hM' h hB hkk
  refine qU hok (kR ho (fun cs => rfl) ?_) (.val (.int .i64 n))
  rcases hk.2 with ⟨e2, e3⟩ | ⟨g, cap, cur, e2, _⟩
  ·cases e2; simp [Builtin.len_, hv, run_underlying e1, goInt, e3]
  ·cases e2; simp [Builtin.len_, hv, run_underlying e1, goInt]
theorem Uv {T T' e : TypeId} {x y : Operand} {i k sz by' n : Nat} {Bs : List Mem} {L : List Value} {kd : IntKind} {z : Int} (j : Nat) (ho : o.op = .indexAddr T x y) (hT : slE P T = some (e, sz, by')) (hx : Ev pc F x (.farr i k)) (hy : Ev pc F y (.val (.int kd z))) (hM : M[i]? = some (.fam Bs)) (hB : Bs[k]? = some (.arr T' sz n L)) (hz : pc = true → z = (j : Int)) (hj : pc = true → j < n) : DOp P pc o F M [i] (.faloc i k (j * sz)) [] := by
 intro hp a s hok hops hfp
 have hr := qu hp hx (by simp [ho, Op.operands]) hops
 have h2 := (qu hp hy (by simp [ho, Op.operands]) hops).val_eq
 have hz := hz hp
 have hj := hj hp
 subst hz
 generalize hv : a.eval x = vx at hr
 cases hr with
 | @farr _ _ ad n' c hs h hkk =>
  have hM' : s.M[i]? = some (.fam Bs) := by rw [hfp i (by simp)]; exact hM
  have hk := x9 hok hM' h hB hkk
  rcases hk.2 with ⟨e1, e2⟩ | ⟨g, cap, cur, e1, e2, e3, e4, e5, e6, e7⟩
  ·exfalso; omega
  ·cases e1
   refine qU hok (gq ho hT hv h2 (by omega) (by omega)) ?_
   rw [Addr.add_mid, qbs, qcb]
   exact .faloc h hkk
theorem qag {T T' : TypeId} {x : Operand} {i k p q sz n : Nat} {Bs : List Mem} {L : List Value} {v : Value} (ho : o.op = .load T x) (hT : tyB P T = some (false, q)) (hx : Ev pc F x (.faloc i k p)) (hM : M[i]? = some (.fam Bs)) (hB : Bs[k]? = some (.arr T' sz n L)) (hR : L[p]? = some v) : DOp P pc o F M [i] (.val v) [] := by
 intro hp a s hok hops hfp
 have hr := qu hp hx (by simp [ho, Op.operands]) hops
 generalize hv : a.eval x = vx at hr
 cases hr with
 | @faloc _ _ _ n' c b hs h hkk =>
  have hM' : s.M[i]? = some (.fam Bs) := by rw [hfp i (by simp)]; exact hM
  have hk := x9 hok hM' h hB hkk
  rcases hk.2 with ⟨e1, e2⟩ | ⟨g, cap, cur, e1, e2, e3, e4, e5, e6, e7⟩
  ·cases e1
  ·cases e1
   have hc0 := qN (qi e3 0) 0 (n * sz)
   have hc1 : kc s.w b 0 L := by simpa [e7] using hc0
   exact qU hok (gp ho hT hv (by simpa using hc1 p v hR)) (.val v)
theorem qah {T T' : TypeId} {x y : Operand} {i m p k sz n : Nat} {rw' : Bool} {v : Value} {Bs : List Mem} {L C L' : List Value} (ho : o.op = .store T x y) (hT : tyB P T = some (rw', k)) (hx : Ev pc F x (.faloc i m p)) (hy : Ev pc F y (.val v)) (hM : M[i]? = some (.fam Bs)) (hB : Bs[m]? = some (.arr T' sz n L)) (hC : v.cells.toList = C) (hk : C.length = k) (h1 : C.all (·.oneCell') = true)
  (hfit : p + C.length ≤ L.length) (hL : jX L p C = L') : DOp P pc o F M [i] .junk [(i, .fam (Bs.set m (.arr T' sz n L')))] := by
 intro hp a s hok hops hfp
 have hr := qu hp hx (by simp [ho, Op.operands]) hops
 have h2 := (qu hp hy (by simp [ho, Op.operands]) hops).val_eq
 have hM' : s.M[i]? = some (.fam Bs) := by rw [hfp i (by simp)]; exact hM
 subst hL
 generalize hv : a.eval x = vx at hr
 cases hr with
 | @faloc _ _ _ n' c b hs h hkk =>
  have hk' := x9 hok hM' h hB hkk
  rcases hk'.2 with ⟨e1, e2⟩ | ⟨g, cap, cur, e1, e2, e3, e4, e5, e6, e7⟩
  ·cases e1
  ·cases e1
   have hle := qb6 sz e4
   have hlL := hk'.1
   have hcell := qi e3 0
   have hrun := ya (P := P) (w := s.w) ho hT hv h2 hC hk (fun j hj => by
     have := hcell (p + j) _ (by simpa using qbr (by simp; omega : p + j < cur.toList.length))
     rw [qbs] at this
     rw [this]; rfl) (fun j hj => by simp [World.frozen?, e3]) (fun u hu => qbX.1 h1 u hu)
   refine vA (s' := ⟨s.β.set i (.tuple hs.toArray), s.I, s.M.set i (.fam (Bs.set m (.arr T' sz n (jX L p C)))), s.w.setCells b p C⟩) hrun (qaf hok hM' h hB rfl rfl hkk rfl p C ?_) rfl
   have hsl := gy C cur.toList p
   refine ⟨by rw [gy]; exact hlL, .inr ⟨b, c, (jX cur.toList p C).toArray, rfl, e2, kW b C p s.w cur.toList T' (by simpa using e3), e4, e5, by simp [hsl]; simpa using e6, ?_⟩⟩
   have hcurlen : cur.toList.length = c * sz := by simpa using e6
   rw [gr C cur.toList p (by omega), gr C L p hfit]
   have hcut : cur.toList = L ++ cur.toList.drop L.length := by
    have := List.take_append_drop (n * sz) cur.toList
    rw [e7, ← hlL] at this
    exact this.symm
   generalize cur.toList.drop L.length = R at hcut
   rw [hcut]
   have t1 : (L ++ R).take p = L.take p := List.take_append_of_le_length (by omega)
   have t2 : (L ++ R).drop (p + C.length) = L.drop (p + C.length) ++ R := List.drop_append_of_le_length (by omega)
   rw [t1, t2, ← hlL, ← qbY]
   refine List.take_left' ?_
   simp; omega
theorem ZE {T T' : TypeId} {x : Operand} {i k j q n : Nat} {Bs : List Mem} {α : Type} {en : α → List Value} {l : List α} {v : Value} (ho : o.op = .load T x) (hT : tyB P T = some (false, q)) (hx : Ev pc F x (.faloc i k (j * 1))) (hM : M[i]? = some (.fam Bs)) (hB : Bs[k]? = some (.arr T' 1 n (l.flatMap en))) (hen : ∀ a, (en a).length = 1) (hj : j < l.length) (hv : (en l[j])[0]? = some v) : DOp P pc o F M [i] (.val v) [] :=
 qag ho hT hx hM hB (by have := KA (c := 0) hen hj (by omega); rw [Nat.add_zero] at this; rw [this, hv])
theorem ZF {T T' : TypeId} {x y : Operand} {i m j n : Nat} {rw' : Bool} {v : Value} {Bs : List Mem} {α : Type} {en : α → List Value} {l : List α} (q : α) (ho : o.op = .store T x y) (hT : tyB P T = some (rw', 1)) (hx : Ev pc F x (.faloc i m (j * 1))) (hy : Ev pc F y (.val v)) (hM : M[i]? = some (.fam Bs)) (hB : Bs[m]? = some (.arr T' 1 n (l.flatMap en))) (hC : v.cells.toList = en q) (hen : ∀ a, (en a).length = 1) (hj : j < l.length) (h1 : (en q).all (·.oneCell') = true) : DOp P pc o F M [i] .junk [(i, .fam (Bs.set m (.arr T' 1 n ((l.set j q).flatMap en))))] :=
 qah ho hT hx hy hM hB hC (hen _) h1 (by
  have h2 : (j + 1) * 1 ≤ l.length * 1 := qb6 _ hj
  rw [hen, j3 hen]; omega) (Gv hen hj q)
theorem Uw {T e T2 : TypeId} {by' n m i j q : Nat} {x y : Operand} {l l2 : List D} {Z : List Value} (ho : o.op = .call { callee := .builtin .append, args := #[x, y], argTypes := #[T, T] }) (hT : slE P T = some (e, 1, by')) (hZ : zrC P e = some Z) (hZl : Z.length = 1)
  (hx : Ev pc F x (.arr i)) (hy : Ev pc F y (.arr q)) (hMq : M[q]? = some (.arx T2 1 m l2)) (hM : M[i]? = some (.arx e 1 n l)) (hj : M[j]? = some .hole) (h1 : l2.all D.oc2 = true) (hbd : pc = true → (n + m) * by' ≤ 140737488355328 ∧ n + m ≤ 140737488355328) :
  DOp P pc o F M [i, j, q] (.arr j) [(i, .gone), (j, .arx e 1 (n + m) (l ++ l2))] := by
 intro hp a s hok hops hfp
 obtain ⟨e1, ti, e2, e3, e4⟩ := kS hT
 obtain ⟨ti', z, q1, q2, q3⟩ := jA hZ
 rw [e2] at q1
 obtain rfl := qbw q1
 obtain ⟨b1, b2⟩ := hbd hp
 have hM' : s.M[i]? = some (.arx e 1 n l) := by rw [hfp i (by simp)]; exact hM
 have hj' : s.M[j]? = some .hole := by rw [hfp j (by simp)]; exact hj
 have hij : i ≠ j := fun h => by subst h; rw [hM'] at hj'; cases hj'
 have hjl : j < s.β.length := by rw [hok.len]; exact (qbq.1 hj').1
 have hrx := qu hp hx (by simp [ho, Op.operands, Call.operands]) hops
 have hry := qu hp hy (by simp [ho, Op.operands, Call.operands]) hops
 generalize hv : a.eval x = vx at hrx
 generalize hvy : a.eval y = vy at hry
 cases hry with
 | @arr _ a2 m2 cap2 hβq =>
 have hMq' : s.M[q]? = some (.arx T2 1 m l2) := by rw [hfp q (by simp)]; exact hMq
 obtain ⟨vs2, hk2, hvl2, hel2⟩ := hok.blk q _ _ hMq' hβq
 have hl2 : l2.length = m * 1 := by rw [← hvl2]; exact hk2.1
 have hso : SrcOk s (.slice a2 m2 cap2) m vs2 := by
  rcases hk2.2 with ⟨e1, e2⟩ | ⟨g, cap, cur, e1, e2, e3, e4, e5, e6, e7⟩
  ·cases e1
   exact ⟨none, 0, by rw [e2], .inl ⟨rfl, e2, rfl, qbU (by rw [hvl2, hl2, e2])⟩⟩
  ·cases e1
   refine ⟨_, _, rfl, .inr ⟨_, rfl, fun k u hk => ?_⟩⟩
   rw [Addr.add_mid]
   have hc0 := qN (qi e3 0) 0 (m * 1)
   rw [Nat.mul_one] at e7
   have hc1 : kc s.w g 0 vs2 := by simpa [e7] using hc0
   exact hc1 k u hk
 have hone : ∀ u ∈ vs2, u.oneCell' = true := fun u hu => by
  obtain ⟨k, hk, rfl⟩ := qcc hu
  have hk2 : k < l2.length := by omega
  exact QO (hel2 k _ _ (qbr hk2) (qbr hk)) (qbX.1 h1 _ (qb9 hk2))
 cases hrx with
 | @arr _ ad n' c hβ =>
  obtain ⟨vs, hk, hvl, hel⟩ := hok.blk i _ _ hM' hβ
  obtain ⟨h', w', r1, r2, r3, r4⟩ := yA (P := P) (ty := o.type) (m := m) e1 e2 e3 e4 q2 (by rw [← hZl, ← q3]; simp) hk (by rw [hvl2]; exact hl2) hso hone (by unfold maxLen; omega) b1
  have hs' : (h' = .slice none 0 0) ∨ ∃ a n c, h' = .slice (some a) n c := by
   rcases r2.2 with ⟨q, _⟩ | ⟨g, cap, cur, q, _⟩
   ·exact .inl q
   ·exact .inr ⟨_, _, _, q⟩
  have hs0 : (Value.slice ad n' c = .slice none 0 0) ∨ ∃ a n k, Value.slice ad n' c = .slice (some a) n k := by
   rcases hk.2 with ⟨q, _⟩ | ⟨g, cap, cur, q, _⟩
   ·exact .inl q
   ·exact .inr ⟨_, _, _, q⟩
  have o1 := wa hs'
  have o0 := wa hs0
  have hblk : s.w.heap.size ≤ w'.heap.size := r3.size
  have hβj : s.β[j]? = some .nilFunc := by
   have q : s.β[j]? = some s.β[j] := qbr hjl
   have : s.β[j] = .nilFunc := hok.blk j .hole _ hj' q
   rw [q, this]
  have from_ : ∀ b, hb h' = some b → s.w.heap.size ≤ b ∨ (hb (Value.slice ad n' c) = some b) := by
   intro b hbb
   rw [o1] at hbb
   rcases r4 b hbb with h | h
   ·exact .inr (by rw [o0]; exact h)
   ·exact .inl h
  have hnd' : ∀ (k : Nat) h, s.β[k]? = some h → h ≠ .nilFunc → (s.β.set j h')[k]? = some h := fun k h hk' hne => by
   by_cases e : j = k
   ·subst e; rw [hβj] at hk'; exact absurd (qbw hk').symm hne
   ·rw [qbC e]; exact hk'
  have imm' : ∀ b, s.I b → w'.heap[b]? = s.w.heap[b]? := fun b hI => r3.block b (hok.il b hI) fun h => by
   rw [← o0] at h
   exact (hok.lt b (qq hM' rfl hβ h.symm)).2 hI
  have hblkx : BlkOk ⟨s.β.set j h', s.I, (s.M.set i .gone).set j (.arx e 1 (n + m) (l ++ l2)), w'⟩ h' (.arx e 1 (n + m) (l ++ l2)) := by
   refine ⟨vs ++ vs2, r2, by simp [hvl, hvl2], fun k d v hk1 hk2 => ?_⟩
   by_cases hlt : k < l.length
   ·rw [qbI hlt] at hk1
    rw [qbI (by omega)] at hk2
    exact Rep.mono' (s' := ⟨s.β.set j h', s.I, (s.M.set i .gone).set j (.arx e 1 (n + m) (l ++ l2)), w'⟩) hnd' (fun _ h => h) imm' (hel k d v hk1 hk2)
   ·rw [qbO (by omega)] at hk1 hk2
    rw [hvl] at hk2
    exact Rep.mono' (s' := ⟨s.β.set j h', s.I, (s.M.set i .gone).set j (.arx e 1 (n + m) (l ++ l2)), w'⟩) hnd' (fun _ h => h) imm' (hel2 _ d v hk1 hk2)
  have ht : Tr s ⟨s.β.set j h', s.I, (s.M.set i .gone).set j (.arx e 1 (n + m) (l ++ l2)), w'⟩ := by
   refine kV hok j (s.M.set i .gone) h' _ w' (by simp) (fun k kb hkb => ?_) (by rw [← hok.len]; exact hjl) (.inl hβj) (by rcases hs' with rfl | ⟨_, _, _, rfl⟩ <;> simp) hblkx (fun b hbb k kb hh hne q1 q2 q3 q4 => ?_) (fun b hbb => (from_ b hbb).imp id fun h => qq hM' rfl hβ h) (fun b hbb => ?_) (fun b => hb (Value.slice ad n' c) = some b) (fun b hdr => ⟨qq hM' rfl hβ hdr, fun k kb hh hne q1 q2 q3 q4 => ?_⟩) (fun b hlt hne hnd => ?_) r3.os r3.tape r3.output hblk
   ·by_cases hki : i = k
    ·subst hki
     have hlt : i < s.M.length := (qbq.1 hM').1
     rw [qbG hlt] at hkb
     exact .inr (qbw hkb).symm
    ·rw [qbC hki] at hkb; exact .inl hkb
   ·have hki : i ≠ k := fun h => by
     subst h
     have hlt : i < s.M.length := (qbq.1 hM').1
     rw [qbG hlt] at q1
     cases q1; cases q2
    rw [qbC hki] at q1
    rcases from_ b hbb with h | h
    ·exact absurd (hok.lt b (qq q1 q2 q3 q4)).1 (Nat.not_lt.2 h)
    ·exact hki (hok.inj i k _ kb _ hh b hM' rfl hβ h q1 q2 q3 q4)
   ·replace hbb : hb h' = some b := hbb
    rw [o1] at hbb
    exact (r2.lt b hbb).2
   ·have hki : i ≠ k := fun h => by
     subst h
     have hlt : i < s.M.length := (qbq.1 hM').1
     rw [qbG hlt] at q1
     cases q1; cases q2
    rw [qbC hki] at q1
    exact hki (hok.inj i k _ kb _ hh b hM' rfl hβ hdr q1 q2 q3 q4)
   ·exact r3.block b hlt fun h => hnd (by rw [o0]; exact h.symm)
  refine ja (s' := ⟨s.β.set j h', s.I, (s.M.set i .gone).set j (.arx e 1 (n + m) (l ++ l2)), w'⟩) (kR ho (fun cs => by rfl) (by simpa [hv, hvy] using r1)) ht rfl ?_
  rcases hs' with rfl | ⟨_, _, _, rfl⟩
  ·exact .arr (by simp [hjl])
  ·exact .arr (by simp [hjl])
end
theorem KS {α : Type} {σ : List Nat} {V : Nat → Bool} {M : List Blk} {f g : α → D} (h : ∀ a, vw σ V M (f a) = some (g a)) : ∀ l : List α, vwL σ V M (l.flatMap fun a => [f a]) = some (l.flatMap fun a => [g a])
 | [] => rfl
 | a :: l => by
  rw [qbJ, qbJ]
  show vwL σ V M (f a :: l.flatMap fun a => [f a]) = some (g a :: l.flatMap fun a => [g a])
  rw [vwL, h a, KS h l]
theorem KT {α : Type} {τ : List Nat} {f g : α → D} (h : ∀ a, sb τ (f a) = some (g a)) : ∀ l : List α, sbL τ (l.flatMap fun a => [f a]) = some (l.flatMap fun a => [g a])
 | [] => rfl
 | a :: l => by
  rw [qbJ, qbJ]
  show sbL τ (f a :: l.flatMap fun a => [f a]) = some (g a :: l.flatMap fun a => [g a])
  rw [sbL, h a, KT h l]
theorem qp {α : Type} {σ : List Nat} {V : Nat → Bool} {M : List Blk} {T : TypeId} {n n' : Nat} {f g : α → D} {l l' : List α} (hn : n = n') (hl : l = l') (h : ∀ a, vw σ V M (f a) = some (g a)) : (vwL σ V M (l.flatMap fun a => [f a])).map (Blk.arx T 1 n) = some (Blk.arx T 1 n' (l'.flatMap fun a => [g a])) := by
 subst hn hl
 rw [KS h]
 rfl
theorem q9 {α : Type} {τ : List Nat} {T : TypeId} {n : Nat} {f g : α → D} {l : List α} (h : ∀ a, sb τ (f a) = some (g a)) : sbB τ (.arx T 1 n (l.flatMap fun a => [f a])) = some (.arx T 1 n (l.flatMap fun a => [g a])) := by
 show (sbL τ _).map _ = _
 rw [KT h]; rfl
theorem KU {α β : Type} (f : α → β) : ∀ l : List α, (l.flatMap fun a => [f a]) = l.map f
 | [] => rfl
 | a :: l => by rw [qbJ, KU f l]; rfl
theorem GR {σ : List Nat} {V : Nat → Bool} {M : List Blk} : ∀ (a b a' b' : List D), yk σ V M a = some a' → yk σ V M b = some b' → yk σ V M (a ++ b) = some (a' ++ b')
 | [], b, a', b', h1, h2 => by rw [yk] at h1; cases h1; exact h2
 | d :: a, b, a', b', h1, h2 => by
  rw [yk] at h1
  cases e1 : vw1 σ V M d with
  | none => rw [e1] at h1; simp at h1
  | some d1 =>
   cases e2 : yk σ V M a with
   | none => rw [e1, e2] at h1; simp at h1
   | some a1 =>
    rw [e1, e2] at h1
    obtain rfl := qbw h1
    rw [qbD, yk, e1, GR a b a1 b' e2 h2]
    rfl
theorem xA {α : Type} {σ : List Nat} {V : Nat → Bool} {M : List Blk} {f g : α → List D} : ∀ (l : List α), (∀ a ∈ l, yk σ V M (f a) = some (g a)) → yk σ V M (l.flatMap f) = some (l.flatMap g)
 | [], _ => rfl
 | a :: l, h => by
  rw [qbJ, qbJ]
  exact GR _ _ _ _ (h a (qb1 ..)) (xA l fun b hb => h b (qb4 _ hb))
theorem ZG {α : Type} {σ : List Nat} {V : Nat → Bool} {M : List Blk} {i sz : Nat} {T : TypeId} {n : Nat} {l : List α} {f g : α → List D} (hp : pos σ i = none) (hV : V i = true) (hM : M[i]? = some (.arx T sz n (l.flatMap f))) (h : ∀ a ∈ l, yk σ V M (f a) = some (g a)) : vw σ V M (.arr i) = some (.slm sz n (l.flatMap g)) := by
 rw [vw, hp]
 show uy σ V M i = _
 unfold uy
 rw [hV, hM]
 show (yk σ V M _).map _ = _
 rw [xA l h]; rfl
theorem Ux {σ : List Nat} {V : Nat → Bool} {M : List Blk} {j k sz n : Nat} {T : TypeId} {L : List Value} {Bs : List Mem} (hp : pos σ j = none) (hV : V j = true) (hM : M[j]? = some (.fam Bs)) (hB : Bs[k]? = some (.arr T sz n L)) : vw1 σ V M (.farr j k) = some (.slf sz n L) := by
 simp only [vw1, hp, yN, hV, cond_true, hM, hB]
theorem zJ {α : Type} {σ : List Nat} {V : Nat → Bool} {M : List Blk} {f g : α → List D} (h : ∀ a, vwL σ V M (f a) = some (g a)) : ∀ l : List α, vwL σ V M (l.flatMap f) = some (l.flatMap g)
 | [] => rfl
 | a :: l => by
  have app : ∀ (a b a' b' : List D), vwL σ V M a = some a' → vwL σ V M b = some b' → vwL σ V M (a ++ b) = some (a' ++ b') := by
   intro a
   induction a with
   | nil => intro b a' b' h1 h2; rw [vwL] at h1; cases h1; exact h2
   | cons d a ih =>
    intro b a' b' h1 h2
    rw [vwL] at h1
    cases e1 : vw σ V M d with
    | none => rw [e1] at h1; simp at h1
    | some d1 =>
     cases e2 : vwL σ V M a with
     | none => rw [e1, e2] at h1; simp at h1
     | some a1 =>
      rw [e1, e2] at h1
      obtain rfl := qbw h1
      rw [qbD, vwL, e1, ih b a1 b' e2 h2]
      rfl
  rw [qbJ, qbJ]
  exact app _ _ _ _ (h a) (zJ h l)
theorem zK {α : Type} {τ : List Nat} {f g : α → List D} (h : ∀ a, sbL τ (f a) = some (g a)) : ∀ l : List α, sbL τ (l.flatMap f) = some (l.flatMap g)
 | [] => rfl
 | a :: l => by
  have app : ∀ (a b a' b' : List D), sbL τ a = some a' → sbL τ b = some b' → sbL τ (a ++ b) = some (a' ++ b') := by
   intro a
   induction a with
   | nil => intro b a' b' h1 h2; rw [sbL] at h1; cases h1; exact h2
   | cons d a ih =>
    intro b a' b' h1 h2
    rw [sbL] at h1
    cases e1 : sb τ d with
    | none => rw [e1] at h1; simp at h1
    | some d1 =>
     cases e2 : sbL τ a with
     | none => rw [e1, e2] at h1; simp at h1
     | some a1 =>
      rw [e1, e2] at h1
      obtain rfl := qbw h1
      rw [qbD, sbL, e1, ih b a1 b' e2 h2]
      rfl
  rw [qbJ, qbJ]
  exact app _ _ _ _ (h a) (zK h l)
theorem kr {α : Type} {σ : List Nat} {V : Nat → Bool} {M : List Blk} {T : TypeId} {sz n n' : Nat} {f g : α → List D} {l l' : List α} (hn : n = n') (hl : l = l') (h : ∀ a, vwL σ V M (f a) = some (g a)) : (vwL σ V M (l.flatMap f)).map (Blk.arx T sz n) = some (Blk.arx T sz n' (l'.flatMap g)) := by
 subst hn hl
 rw [zJ h]; rfl
theorem ki {α : Type} {τ : List Nat} {T : TypeId} {sz n : Nat} {f g : α → List D} {l : List α} (h : ∀ a, sbL τ (f a) = some (g a)) : sbB τ (.arx T sz n (l.flatMap f)) = some (.arx T sz n (l.flatMap g)) := by
 show (sbL τ _).map _ = _
 rw [zK h]; rfl
section
variable {P : Program} {pc : Bool} {o : Oper} {F : Fr} {M : List Blk}
end
end Go.Proofs.YtofklkbfkoliiaaGreat
namespace Go.Proofs.YtofklkbfkoliiaaGreat
set_option linter.unusedVariables false
set_option linter.unusedSimpArgs false
open Go.RowKit
section
variable {P : Program} {pc : Bool} {o : Oper} {F : Fr} {M : List Blk}
theorem uQ {T T' : TypeId} {x : Operand} {i p k : Nat} {l R : List D} (ho : o.op = .load T x) (hT : tyB P T = some (true, k)) (hx : Ev pc F x (.loc i p)) (hM : M[i]? = some (.mix T' l)) (hR : (l.drop p).take k = R) (hl : R.length = k) : DOp P pc o F M [i] (.agg R) [] := by
 intro hp a s hok hops hfp
 have hr := qu hp hx (by simp [ho, Op.operands]) hops
 generalize hv : a.eval x = vx at hr
 cases hr with
 | @loc _ _ b h =>
  obtain ⟨b', vs, e1, e2, e3, e4⟩ := hok.blk i _ _ (by rw [hfp i (by simp)]; exact hM) h
  cases e1
  have hlen : ((vs.drop p).take k).length = R.length := by
   rw [← hR, qbS, qbZ, qbS, qbZ, e3]
  have hc : kc s.w b 0 vs := qi e2 0
  have hr := jG hc p k rfl
  rw [qbs] at hr
  refine qU hok (jW ho hT hv hr (by omega)) (.agg hlen fun j d v h1 h2 => ?_)
  rw [← hR] at h1
  rcases Nat.lt_or_ge j k with hjk | hjk
  ·rw [List.getElem?_take, if_pos hjk, qcd] at h1 h2
   exact e4 _ _ _ h1 h2
  ·rw [List.getElem?_take, if_neg (by omega)] at h1
   cases h1
end
theorem ZH {s : St} (ho : Ok s) (i : Nat) : Tr s ⟨s.β, s.I, s.M.set i .gone, s.w⟩ := by
 have hnd : ∀ (i : Nat) h, s.β[i]? = some h → h ≠ .nilFunc → s.β[i]? = some h := fun _ _ h _ => h
 have old : ∀ (j : Nat) k, (s.M.set i .gone)[j]? = some k → k = .gone ∨ s.M[j]? = some k := fun j k hj => by
  by_cases e : i = j
  ·subst e
   by_cases hl : i < s.M.length
   ·rw [qbG hl] at hj
    exact .inl (qbw hj).symm
   ·rw [qb2 (by simp; omega)] at hj; cases hj
  ·rw [qbC e] at hj; exact .inr hj
 have lv : ∀ b, Live ⟨s.β, s.I, s.M.set i .gone, s.w⟩ b → Live s b := by
  rintro b ⟨j, k, h, h1, h2, h3, h4⟩
  rcases old j k h1 with rfl | h1
  ·cases h2
  ·exact qq h1 h2 h3 h4
 refine ⟨⟨by simp [ho.len], fun j k h h1 h2 => ?_, fun b hb => ho.lt b (lv b hb), ?_, ho.il⟩, jI hnd, fun _ h => h, fun _ h => .inl h, fun _ _ _ => rfl, fun b h => .inr (lv b h), rfl, rfl, rfl, qbM _⟩
 ·rcases old j k h1 with rfl | h1
  ·trivial
  ·exact BlkOk.mono (s := s) (s' := ⟨s.β, s.I, s.M.set i .gone, s.w⟩) hnd (fun _ h => h) (fun _ _ => rfl) (ho.blk j k h h1 h2) (fun _ _ _ => rfl)
 ·intro j j2 k k2 x x2 b a1 a2 a3 a4 c1 c2 c3 c4
  rcases old j k a1 with rfl | a1
  ·cases a2
  ·rcases old j2 k2 c1 with rfl | c1
   ·cases c2
   ·exact ho.inj j j2 k k2 x x2 b a1 a2 a3 a4 c1 c2 c3 c4
theorem GS {s : St} (ho : Ok s) {j sz n : Nat} {T : TypeId} {L : List Value} {v : Value} (hM : s.M[j]? = some (.arr T sz n L)) (hr : Rep s (.arr j) v) : ∃ I' : Nat → Prop, Tr s ⟨s.β, I', s.M.set j .gone, s.w⟩ ∧ Rep ⟨s.β, I', s.M.set j .gone, s.w⟩ (.slf sz n L) v := by
 cases hr with
 | @arr _ ad n' c hβ =>
  have hk : s.w.ownsRow 0 T sz _ n L := ho.blk j _ _ hM hβ
  rcases hk.2 with ⟨e1, e2⟩ | ⟨g, cap, cur, e1, e2, e3, e4, e5, e6, e7⟩
  ·cases e1; subst e2
   exact ⟨s.I, ZH ho j, .slf hk.1 (qbM _) (qb3 _) (fun _ => rfl) (.inl (qbU (by simpa using hk.1)))⟩
  ·cases e1
   refine ⟨fun b => s.I b ∨ b = g, JG ho hM rfl hβ rfl s.w (fun _ _ => rfl) rfl rfl rfl rfl, .slf hk.1 e4 e5 (fun e => by cases e) (.inr ⟨g, 0, rfl, .inr rfl, ?_⟩)⟩
   have hc := qN (qi e3 0) 0 (n * sz)
   show kc s.w g 0 L
   simpa [e7] using hc
theorem DGives.map {P : Program} {s : St} {post post' : St → Value → Prop} {r : Result Next} (h : DGives P s post r) (f : ∀ s' v, Ok s' → post s' v → ∃ s'', s''.w = s'.w ∧ Tr s' s'' ∧ post' s'' v) : DGives P s post' r := by
 have key : ∀ {w' : World} {v : Value}, (∃ s', s'.w = w' ∧ Tr s s' ∧ post s' v) → ∃ s', s'.w = w' ∧ Tr s s' ∧ post' s' v := by
  rintro w' v ⟨s', rfl, a2, a3⟩
  obtain ⟨s'', b1, b2, b3⟩ := f s' v a2.ok a3
  exact ⟨s'', b1, a2.trans b2, b3⟩
 cases r with
 | halt x w' => exact h
 | ok nx w' =>
  cases nx with
  | value v => exact key h
  | skip => exact key h
  | enter g args =>
   refine ⟨h.1, h.2.mono ?_⟩
   rintro e w'' ⟨s', v, b1, b2, b3, b4⟩
   obtain ⟨s'', c1, c2, c3⟩ := key ⟨s', b2, b3, b4⟩
   exact ⟨s'', v, b1, c1, c2, c3⟩
  | round l f tmps asg body =>
   refine ⟨h.1, h.2.mono ?_⟩
   rintro e w'' ⟨s', v, b1, b2, b3, b4⟩
   obtain ⟨s'', c1, c2, c3⟩ := key ⟨s', b2, b3, b4⟩
   exact ⟨s'', v, b1, c1, c2, c3⟩
  | _ => exact h
section
variable {P : Program} {s0 : St} {n : Cx}
theorem VW {F : Fr} {M : List Blk} {a : Act} {w : World} {t i : Nat} {e : TypeId} {sz m : Nat} {L : List Value} (h : Inv s0 n F M a w) (ht : lk F t = some (.arr i)) (hM : M[i]? = some (.arr e sz m L)) : Inv s0 n ((t, .slf sz m L) :: F) (M.set i .gone) a w := by
 obtain ⟨h0, s, rfl, rfl, h3, h4, h5, h6⟩ := h
 obtain ⟨I', tt, r1⟩ := GS h3.ok hM (h4 t _ ht)
 refine ⟨h0, ⟨s.β, I', s.M.set i .gone, s.w⟩, rfl, rfl, h3.trans tt, fun x d hd => ?_, h5, h6.mono h3.ok tt⟩
 rw [jx] at hd
 split at hd
 ·rename_i e'
  subst e'
  obtain rfl := qbw hd
  exact r1
 ·exact (h4 x d hd).mono h3.ok tt
theorem VX {c : Code} {F : Fr} {M M' : List Blk} {K : Cont} (t : Nat) {i : Nat} {e : TypeId} {sz m : Nat} {L : List Value} (ht : lk F t = some (.arr i)) (hM : M[i]? = some (.arr e sz m L)) (hM' : M.set i .gone = M') (h : dwp P s0 n c ((t, .slf sz m L) :: F) M' K) : dwp P s0 n c F M K := by
 subst hM'
 exact fun a w hi => h a w (VW hi ht hM)
end
theorem Uy {s : St} (ho : Ok s) {i j k : Nat} {Bs : List Mem} {B : Mem} {hs : List Value} {u : Value} (hi : s.M[i]? = some (.fam Bs)) (hj : s.M[j]? = some .hole) (hB : Bs[k]? = some B) (hl : B.live = true) (hβi : s.β[i]? = some (.tuple hs.toArray)) (hu : hs[k]? = some u) :
  Tr s ⟨s.β.set j u, s.I, (s.M.set i (.fam (Bs.set k .gone))).set j B.blk, s.w⟩ := by
 have hne : i ≠ j := fun e => by subst e; rw [hi] at hj; cases hj
 have hil := (qbq.1 hi).1
 have hjl := (qbq.1 hj).1
 have hkl := (qbq.1 hB).1
 have hf := w5 (k := 0) ho hi hβi
 have hβj : s.β[j]? = some .nilFunc := by
  have hjb : j < s.β.length := by rw [ho.len]; exact hjl
  have e : s.β[j]? = some s.β[j] := qbr hjb
  have : s.β[j] = .nilFunc := ho.blk j .hole _ hj e
  rw [e, this]
 have hnd : ∀ (x : Nat) h, s.β[x]? = some h → h ≠ .nilFunc → (s.β.set j u)[x]? = some h := fun x h hx hn => by
  by_cases e : j = x
  ·subst e; rw [hβj] at hx; exact absurd (qbw hx).symm hn
  ·rw [qbC e]; exact hx
 have oldM : ∀ (x : Nat) kk, ((s.M.set i (.fam (Bs.set k .gone))).set j B.blk)[x]? = some kk → (x = j ∧ kk = B.blk) ∨ (x = i ∧ kk = .fam (Bs.set k .gone)) ∨ (x ≠ j ∧ x ≠ i ∧ s.M[x]? = some kk) := fun x kk h => by
  by_cases e : j = x
  ·subst e
   rw [qbG (by simpa using hjl)] at h
   exact .inl ⟨rfl, (qbw h).symm⟩
  ·rw [qbC e] at h
   by_cases e2 : i = x
   ·subst e2
    rw [qbG hil] at h
    exact .inr (.inl ⟨rfl, (qbw h).symm⟩)
   ·rw [qbC e2] at h
    exact .inr (.inr ⟨Ne.symm e, Ne.symm e2, h⟩)
 have oldβ : ∀ (x : Nat) hh, (s.β.set j u)[x]? = some hh → (x = j ∧ hh = u) ∨ (x ≠ j ∧ s.β[x]? = some hh) := fun x hh h => by
  by_cases e : j = x
  ·subst e
   rw [qbG (by rw [ho.len]; exact hjl)] at h
   exact .inl ⟨rfl, (qbw h).symm⟩
  ·rw [qbC e] at h
   exact .inr ⟨Ne.symm e, h⟩
 have cls : ∀ (x : Nat) kk hh b, ((s.M.set i (.fam (Bs.set k .gone))).set j B.blk)[x]? = some kk → kk.live = true → (s.β.set j u)[x]? = some hh → jo kk hh b →
   (x = j ∧ hb u = some b) ∨ (x = i ∧ ∃ (k' : Nat) (B' : Mem) (u' : Value), k' ≠ k ∧ Bs[k']? = some B' ∧ B'.live = true ∧ hs[k']? = some u' ∧ hb u' = some b) ∨ (x ≠ j ∧ x ≠ i ∧ s.M[x]? = some kk ∧ s.β[x]? = some hh) := by
  intro x kk hh b a1 a2 a3 a4
  rcases oldM x kk a1 with ⟨rfl, rfl⟩ | ⟨rfl, rfl⟩ | ⟨n1, n2, a1⟩
  ·rcases oldβ _ hh a3 with ⟨_, rfl⟩ | ⟨n, _⟩
   ·exact .inl ⟨rfl, blk_owns.1 a4⟩
   ·exact absurd rfl n
  ·rcases oldβ _ hh a3 with ⟨e, _⟩ | ⟨_, a3⟩
   ·exact absurd e hne
   ·rw [hβi] at a3
    obtain rfl := qbw a3
    obtain ⟨hs', k', B', u', e1, e2, e3, e4, e5⟩ := a4
    have e1 : hs = hs' := by simpa using e1
    subst e1
    by_cases e : k = k'
    ·subst e
     rw [qbG hkl] at e2
     obtain rfl := qbw e2
     cases e3
    ·rw [qbC e] at e2
     exact .inr (.inl ⟨rfl, k', B', u', Ne.symm e, e2, e3, e4, e5⟩)
  ·rcases oldβ _ hh a3 with ⟨e, _⟩ | ⟨_, a3⟩
   ·exact absurd e n1
   ·exact .inr (.inr ⟨n1, n2, a1, a3⟩)
 have fo : ∀ (k' : Nat) (B' : Mem) (u' : Value) (b : Nat), Bs[k']? = some B' → B'.live = true → hs[k']? = some u' → hb u' = some b → jo (.fam Bs) (.tuple hs.toArray) b := fun k' B' u' b e2 e3 e4 e5 => ⟨hs, k', B', u', rfl, e2, e3, e4, e5⟩
 have lv : ∀ b, Live ⟨s.β.set j u, s.I, (s.M.set i (.fam (Bs.set k .gone))).set j B.blk, s.w⟩ b → Live s b := by
  rintro b ⟨x, kk, hh, a1, a2, a3, a4⟩
  rcases cls x kk hh b a1 a2 a3 a4 with ⟨_, e⟩ | ⟨_, k', B', u', _, e2, e3, e4, e5⟩ | ⟨_, _, a1, a3⟩
  ·exact qq hi rfl hβi (fo k B u b hB hl hu e)
  ·exact qq hi rfl hβi (fo k' B' u' b e2 e3 e4 e5)
  ·exact qq a1 a2 a3 a4
 refine ⟨⟨by simp [ho.len], fun x kk hh h1 h2 => ?_, fun b hb => ho.lt b (lv b hb), ?_, ho.il⟩, jI hnd, fun _ h => h, fun _ h => .inl h, fun _ _ _ => rfl, fun b h => .inr (lv b h), rfl, rfl, rfl, qbM _⟩
 ·rcases oldM x kk h1 with ⟨rfl, rfl⟩ | ⟨rfl, rfl⟩ | ⟨n1, n2, h1⟩
  ·rcases oldβ _ hh h2 with ⟨_, rfl⟩ | ⟨n, _⟩
   ·have hm := hf.ok k B hh hB hu
    cases B <;> exact hm
   ·exact absurd rfl n
  ·rcases oldβ _ hh h2 with ⟨e, _⟩ | ⟨_, h2⟩
   ·exact absurd e hne
   ·rw [hβi] at h2
    obtain rfl := qbw h2
    refine ⟨hs, rfl, ⟨by rw [List.length_set]; exact hf.len, fun k' B' u' e2 e4 => ?_, fun k1 k2 B1 B2 u1 u2 b e1 l1 e2 e3 f1 l2 f2 f3 => ?_⟩⟩
    ·by_cases e : k = k'
     ·subst e
      rw [qbG hkl] at e2
      obtain rfl := qbw e2
      trivial
     ·rw [qbC e] at e2
      exact hf.ok k' B' u' e2 e4
    ·have un : ∀ (q : Nat) Q, (Bs.set k .gone)[q]? = some Q → Q.live = true → Bs[q]? = some Q := fun q Q g1 g2 => by
      by_cases e : k = q
      ·subst e
       rw [qbG hkl] at g1
       obtain rfl := qbw g1
       cases g2
      ·rw [qbC e] at g1; exact g1
     exact hf.inj k1 k2 B1 B2 u1 u2 b (un k1 B1 e1 l1) l1 e2 e3 (un k2 B2 f1 l2) l2 f2 f3
  ·rcases oldβ _ hh h2 with ⟨e, _⟩ | ⟨_, h2⟩
   ·exact absurd e n1
   ·exact BlkOk.mono (s := s) (s' := ⟨s.β.set j u, s.I, (s.M.set i (.fam (Bs.set k .gone))).set j B.blk, s.w⟩) hnd (fun _ h => h) (fun _ _ => rfl) (ho.blk x kk hh h1 h2) (fun _ _ _ => rfl)
 ·intro x x2 kk kk2 y y2 b a1 a2 a3 a4 c1 c2 c3 c4
  rcases cls x kk y b a1 a2 a3 a4 with ⟨ex, e⟩ | ⟨ex, k', B', u', n', e2, e3, e4, e5⟩ | ⟨m1, m2, a1, a3⟩ <;> rcases cls x2 kk2 y2 b c1 c2 c3 c4 with ⟨fx, f⟩ | ⟨fx, k2, B2, u2, n2, f2, f3, f4, f5⟩ | ⟨p1, p2, c1, c3⟩
  ·exact ex.trans fx.symm
  ·exact absurd (hf.inj k k2 B B2 u u2 b hB hl hu e f2 f3 f4 f5).symm n2
  ·exact absurd (ho.inj i x2 _ kk2 _ y2 b hi rfl hβi (fo k B u b hB hl hu e) c1 c2 c3 c4).symm p2
  ·exact absurd (hf.inj k k' B B' u u' b hB hl hu f e2 e3 e4 e5).symm n'
  ·exact ex.trans fx.symm
  ·exact absurd (ho.inj i x2 _ kk2 _ y2 b hi rfl hβi (fo k' B' u' b e2 e3 e4 e5) c1 c2 c3 c4).symm p2
  ·exact absurd (ho.inj i x _ kk _ y b hi rfl hβi (fo k B u b hB hl hu f) a1 a2 a3 a4).symm m2
  ·exact absurd (ho.inj i x _ kk _ y b hi rfl hβi (fo k2 B2 u2 b f2 f3 f4 f5) a1 a2 a3 a4).symm m2
  ·exact ho.inj x x2 kk kk2 y y2 b a1 a2 a3 a4 c1 c2 c3 c4
section
variable {P : Program} {s0 : St} {n : Cx}
theorem ZI {F : Fr} {M : List Blk} {a : Act} {w : World} {t i j k : Nat} {e : TypeId} {sz m : Nat} {L : List Value} {Bs : List Mem} (h : Inv s0 n F M a w) (ht : lk F t = some (.farr i k)) (hi : M[i]? = some (.fam Bs)) (hB : Bs[k]? = some (.arr e sz m L)) (hj : M[j]? = some .hole) : Inv s0 n ((t, .arr j) :: F) ((M.set i (.fam (Bs.set k .gone))).set j (.arr e sz m L)) a w := by
 obtain ⟨h0, s, rfl, rfl, h3, h4, h5, h6⟩ := h
 have hlen := h3.ok.len
 have hil := (qbq.1 hi).1
 have hjl := (qbq.1 hj).1
 obtain ⟨x, hx⟩ : ∃ x, s.β[i]? = some x := ⟨_, qbr (by omega)⟩
 obtain ⟨hs, rfl, hfo⟩ := h3.ok.blk i _ x hi hx
 have hkl := (qbq.1 hB).1
 obtain ⟨u, hu⟩ : ∃ u, hs[k]? = some u := ⟨_, qbr (by rw [hfo.len]; exact hkl)⟩
 have tt := Uy (B := .arr e sz m L) h3.ok hi hj hB rfl hx hu
 refine ⟨h0, ⟨s.β.set j u, s.I, (s.M.set i (.fam (Bs.set k .gone))).set j (.arr e sz m L), s.w⟩, rfl, rfl, h3.trans tt, fun z d hd => ?_, h5, h6.mono h3.ok tt⟩
 rw [jx] at hd
 split at hd
 ·rename_i e'
  subst e'
  obtain rfl := qbw hd
  have hr := h4 t _ ht
  show Rep _ _ (ju a t)
  generalize hv : ju a t = v at hr
  cases hr with
  | @farr _ _ ad n' c hs' g1 g2 =>
   rw [hx] at g1
   have e1 : hs = hs' := by simpa using g1
   subst e1
   rw [hu] at g2
   obtain rfl := qbw g2
   exact .arr (by show (s.β.set j _)[j]? = _; rw [qbG (by rw [hlen]; exact hjl)])
 ·exact (h4 z d hd).mono h3.ok tt
theorem ZJ {c : Code} {F : Fr} {M M' : List Blk} {K : Cont} (t i : Nat) {j k : Nat} {e : TypeId} {sz m : Nat} {L : List Value} {Bs : List Mem} (ht : lk F t = some (.farr i k)) (hi : M[i]? = some (.fam Bs)) (hB : Bs[k]? = some (.arr e sz m L)) (hj : M[j]? = some .hole) (hM' : (M.set i (.fam (Bs.set k .gone))).set j (.arr e sz m L) = M') (h : dwp P s0 n c ((t, .arr j) :: F) M' K) : dwp P s0 n c F M K := by
 subst hM'
 exact fun a w hh => h a w (ZI hh ht hi hB hj)
end
end Go.Proofs.YtofklkbfkoliiaaGreat
namespace Go.Proofs.YtofklkbfkoliiaaGreat
set_option linter.unusedVariables false
set_option linter.unusedSimpArgs false
open Go.RowKit
section
variable {P : Program} {pc : Bool} {o : Oper} {F : Fr} {M : List Blk}
theorem yD {α : Type} {g : α → D} {l : List α} {q : α} {T T' : TypeId} {x y : Operand} {i j n : Nat} {rw' : Bool} (ho : o.op = .store T x y) (hT : tyB P T = some (rw', 1)) (hx : Ev pc F x (.aloc i (j * 1))) (hy : Ev pc F y (g q)) (hM : M[i]? = some (.arx T' 1 n (l.flatMap fun a => [g a]))) (hj : j < l.length) (h1 : ∀ (s : St) v, Rep s (g q) v → v.cells = #[v] ∧ v.oneCell' = true) :
  DOp P pc o F M [i] .junk [(i, .arx T' 1 n ((l.set j q).flatMap fun a => [g a]))] := by
 have hmk : ∀ a, ((fun a => [g a]) a).length = 1 := fun _ => rfl
 have hmq0 : (fun a => [g a]) q = [g q] := rfl
 generalize hsz : (1 : Nat) = sz at hT hx hM hmk ⊢
 generalize (fun a => [g a]) = mk at hM hmk hmq0 ⊢
 intro hp a s hok hops hfp
 have hr := qu hp hx (by simp [ho, Op.operands]) hops
 have hry := qu hp hy (by simp [ho, Op.operands]) hops
 have hM' : s.M[i]? = some (.arx T' sz n (l.flatMap mk)) := by rw [hfp i (by simp)]; exact hM
 generalize hv : a.eval x = vx at hr
 generalize hvy : a.eval y = vy at hry
 cases hr with
 | @aloc _ _ n' c b h =>
  obtain ⟨hcel, hone⟩ := h1 s vy hry
  obtain ⟨us, hus⟩ : ∃ us, us = [vy] := ⟨_, rfl⟩
  have hul : us.length = (mk q).length := by rw [hus, hmq0]; rfl
  have hu : ∀ (p : Nat) d v, (mk q)[p]? = some d → us[p]? = some v → Rep s d v := fun p d v g1 g2 => by
   rw [hmq0] at g1
   rw [hus] at g2
   match p, g1, g2 with
   | 0, g1, g2 => cases g1; cases g2; exact hry
  have hC : vy.cells.toList = us := by rw [hcel, hus]
  have hoc0 : ∀ u ∈ us, u.oneCell' = true := fun u hu' => by
   rw [hus] at hu'
   obtain rfl := List.mem_singleton.1 hu'
   exact hone
  ·skip
   obtain ⟨vs, hk, q3, q4⟩ := hok.blk i _ _ hM' h
   rcases hk.2 with ⟨e1, e2⟩ | ⟨g, cap, cur, e1, e2, e3, e4, e5, e6, e7⟩
   ·cases e1
   ·cases e1
    have hflat : (l.flatMap mk).length = l.length * sz := ui hmk l
    have hle := qb6 sz e4
    have hjs : (j + 1) * sz ≤ l.length * sz := qb6 _ hj
    rw [qcg] at hjs
    have hlV := hk.1
    have husz : us.length = sz := by rw [hul, hmk]
    have hcell := qi e3 0
    have hoc := hoc0
    have hcurlen : cur.toList.length = c * sz := by simpa using e6
    have hrun := ya (P := P) (w := s.w) (C := us) ho hT hv hvy hC husz (fun p hp' => by
      have := hcell (j * sz + p) _ (by simpa using qbr (by simp at hcurlen ⊢; omega : j * sz + p < cur.toList.length))
      rw [qbs] at this
      rw [this]; rfl) (fun p hp' => by simp [World.frozen?, e3]) hoc
    have hβ : s.β.set i (.slice (some ⟨b, 0, none⟩) n c) = s.β := by
     apply List.ext_getElem?
     intro k
     by_cases e : i = k
     ·subst e; rw [qbG (qbq.1 h).1, h]
     ·rw [qbC e]
    have lift : ∀ {e : D} {v : Value}, Rep s e v → Rep ⟨s.β.set i (.slice (some ⟨b, 0, none⟩) n c), s.I, s.M.set i (.arx T' sz n ((l.set j q).flatMap mk)), s.w.setCells b (j * sz) us⟩ e v := by
     intro e v hr
     refine Rep.mono' (s := s) (s' := ⟨s.β.set i (.slice (some ⟨b, 0, none⟩) n c), s.I, s.M.set i (.arx T' sz n ((l.set j q).flatMap mk)), s.w.setCells b (j * sz) us⟩) (fun k x hk _ => by show (s.β.set i _)[k]? = _; rw [hβ]; exact hk) (fun _ h => h) (fun b' hI => kX b _ _ s.w b' fun e => ?_) hr
     subst e
     exact (hok.lt b' (qq hM' rfl h rfl)).2 hI
    refine vA (s' := ⟨s.β.set i (.slice (some ⟨b, 0, none⟩) n c), s.I, s.M.set i (.arx T' sz n ((l.set j q).flatMap mk)), s.w.setCells b (j * sz) us⟩) hrun (yP hok hM' rfl h rfl _ us ?_) rfl
    have hsl := gy us cur.toList (j * sz)
    refine ⟨jX vs (j * sz) us, ⟨by rw [gy]; exact hlV, .inr ⟨b, c, (jX cur.toList (j * sz) us).toArray, rfl, e2, kW b us _ s.w cur.toList T' (by simpa using e3), e4, e5, by simp [hsl]; simpa using e6, ?_⟩⟩, ?_, ?_⟩
    ·rw [gr us cur.toList _ (by omega), gr us vs _ (by omega)]
     have hcut : cur.toList = vs ++ cur.toList.drop vs.length := by
      have := List.take_append_drop (n * sz) cur.toList
      rw [e7, ← hlV] at this
      exact this.symm
     generalize cur.toList.drop vs.length = R at hcut
     rw [hcut]
     have t1 : (vs ++ R).take (j * sz) = vs.take (j * sz) := List.take_append_of_le_length (by omega)
     have t2 : (vs ++ R).drop (j * sz + us.length) = vs.drop (j * sz + us.length) ++ R := List.drop_append_of_le_length (by omega)
     rw [t1, t2, ← hlV, ← qbY]
     refine List.take_left' ?_
     simp; omega
    ·rw [gy, q3, hflat, ui hmk, List.length_set]
    ·have key : ((l.set j q).flatMap mk) = (l.flatMap mk).take (j * sz) ++ mk q ++ (l.flatMap mk).drop (j * sz + sz) := by
      rw [ug hmk, show j * sz + sz = (j + 1) * sz by rw [qcg], vG hmk, List.set_eq_take_append_cons_drop, if_pos hj, List.flatMap_append, qbJ, qbY]
     rw [key, gr us vs _ (by omega), husz]
     have hA : Reps ⟨s.β.set i (.slice (some ⟨b, 0, none⟩) n c), s.I, s.M.set i (.arx T' sz n ((l.flatMap mk).take (j * sz) ++ mk q ++ (l.flatMap mk).drop (j * sz + sz))), s.w.setCells b (j * sz) us⟩ ((l.flatMap mk).take (j * sz) ++ mk q ++ (l.flatMap mk).drop (j * sz + sz)) (vs.take (j * sz) ++ us ++ vs.drop (j * sz + sz)) := by
      rw [key] at lift
      refine xh (xh ⟨by simp [q3], fun p d v g1 g2 => ?_⟩ ⟨hul, fun p d v g1 g2 => lift (hu p d v g1 g2)⟩) ⟨by simp [q3], fun p d v g1 g2 => ?_⟩
      ·rw [List.getElem?_take] at g1 g2
       split at g1
       ·rename_i hp'
        rw [if_pos hp'] at g2
        exact lift (q4 p d v g1 g2)
       ·cases g1
      ·rw [qcd] at g1 g2
       exact lift (q4 _ d v g1 g2)
     exact hA.2
end
section
variable {P : Program} {s0 : St} {n : Cx}
end
end Go.Proofs.YtofklkbfkoliiaaGreat
namespace Go.Proofs.YtofklkbfkoliiaaGreat
set_option linter.unusedVariables false
set_option linter.unusedSimpArgs false
open Go.RowKit
section
variable {P : Program} {s0 : St} {n : Cx}
theorem Y0 {F : Fr} {M : List Blk} {a : Act} {w : World} {i q : Nat} {T : TypeId} {l : List D} (e : TypeId) (sz : Nat) (h : Inv s0 n F M a w) (hi : M[i]? = some (.mix T l)) (hq : l[q]? = some (.val (.slice none 0 0))) : Inv s0 n F ((M ++ [Blk.arx e sz 0 []]).set i (.mix T (l.set q (.arr M.length)))) a w := by
 obtain ⟨h0, s, rfl, rfl, h3, h4, h5, h6⟩ := h
 have t1 := gZ h3.ok
 have hlen := h3.ok.len
 have hn : (s.M ++ [Blk.hole])[s.M.length]? = some .hole := by simp
 have t2 : Tr ⟨s.β ++ [Value.nilFunc], s.I, s.M ++ [Blk.hole], s.w⟩ ⟨(s.β ++ [Value.nilFunc]).set s.M.length (.slice none 0 0), s.I, (s.M ++ [Blk.hole]).set s.M.length (.arx e sz 0 []), s.w⟩ :=
  g9 (s := ⟨s.β ++ [Value.nilFunc], s.I, s.M ++ [Blk.hole], s.w⟩) t1.ok (j := s.M.length) hn (.slice none 0 0) (.arx e sz 0 []) s.w (by simp) (fun b hb => by cases hb) (fun b _ => rfl) (fun b hb => by cases hb) (qbM _) rfl rfl rfl ⟨[], World.ownsRow_nil s.w 0 e sz, rfl, fun j d v h => by simp at h⟩
 have tt := t1.trans t2
 have hil : i < s.M.length := (qbq.1 hi).1
 have eM : (s.M ++ [Blk.hole]).set s.M.length (.arx e sz 0 []) = s.M ++ [.arx e sz 0 []] := by simp
 rw [eM] at tt
 generalize hS : (⟨(s.β ++ [Value.nilFunc]).set s.M.length (.slice none 0 0), s.I, s.M ++ [.arx e sz 0 []], s.w⟩ : St) = S at tt
 have hSM : S.M = s.M ++ [.arx e sz 0 []] := by rw [← hS]
 have hSw : S.w = s.w := by rw [← hS]
 have hMi : S.M[i]? = some (.mix T l) := by rw [hSM, qbI hil]; exact hi
 have hβlen : s.M.length < S.β.length := by rw [← hS]; simp [hlen]
 have hβn : S.β[s.M.length]? = some (.slice none 0 0) := by rw [← hS]; simp [hlen]
 obtain ⟨hd, hβi⟩ : ∃ hd, S.β[i]? = some hd := ⟨_, qbr (by omega)⟩
 obtain ⟨b, vs, rfl, hb, hl, hr⟩ := tt.ok.blk i _ _ hMi hβi
 have hβe : S.β.set i (.pointer (some ⟨b, 0, none⟩)) = S.β := by
  refine List.ext_getElem? fun k => ?_
  by_cases hk : i = k
  ·subst hk; rw [qbG (by omega), hβi]
  ·rw [qbC hk]
 have t3 : Tr S ⟨S.β.set i (.pointer (some ⟨b, 0, none⟩)), S.I, S.M.set i (.mix T (l.set q (.arr s.M.length))), S.w⟩ := by
  have hlv : Live S b := qq hMi rfl hβi rfl
  refine kV tt.ok i S.M (.pointer (some ⟨b, 0, none⟩)) (.mix T (l.set q (.arr s.M.length))) S.w rfl (fun _ _ h => .inl h) (qbq.1 hMi).1 (.inr (.inl hβi)) (by simp) ?_ (fun c hc j k h hne h1 h2 h3 h4 => ?_) (fun c hc => by cases hc; exact .inr hlv) (fun c hc => by cases hc; exact (tt.ok.lt b hlv).1) (fun _ => False) (fun _ h => h.elim) (fun _ _ _ _ => rfl) rfl rfl rfl (qbM _)
  ·refine ⟨b, vs, rfl, hb, by rw [List.length_set]; exact hl, fun j d v h1 h2 => ?_⟩
   have up : ∀ {d : D} {v : Value}, Rep S d v → Rep ⟨S.β.set i (.pointer (some ⟨b, 0, none⟩)), S.I, S.M.set i (.mix T (l.set q (.arr s.M.length))), S.w⟩ d v := fun h =>
    Rep.monoK (s := S) (s' := ⟨S.β.set i (.pointer (some ⟨b, 0, none⟩)), S.I, S.M.set i (.mix T (l.set q (.arr s.M.length))), S.w⟩) (by show hkeep S.β (S.β.set i _); rw [hβe]; exact hkeep.refl _) (fun _ h => h) (fun _ _ => rfl) h
   by_cases e : q = j
   ·subst e
    rw [qbG (qbq.1 hq).1] at h1
    obtain rfl := qbw h1
    have hv := (hr q _ v hq h2).val_eq
    subst hv
    exact .arr (by show (S.β.set i _)[_]? = _; rw [hβe]; exact hβn)
   ·rw [qbC e] at h1
    exact up (hr j d v h1 h2)
  ·cases hc
   exact hne (tt.ok.inj j i k _ h _ b h1 h2 h3 h4 hMi rfl hβi rfl)
 have ttt := tt.trans t3
 refine ⟨h0, ⟨S.β.set i (.pointer (some ⟨b, 0, none⟩)), S.I, S.M.set i (.mix T (l.set q (.arr s.M.length))), S.w⟩, by simp only [hSM], hSw, h3.trans ttt, fun x d hd => (h4 x d hd).mono h3.ok ttt, h5, h6.mono h3.ok ttt⟩
theorem yR {c : Code} {F : Fr} {M M' : List Blk} {K : Cont} {T : TypeId} {l l' : List D} (i q : Nat) (e : TypeId) (sz : Nat) {m : Nat} (hi : M[i]? = some (.mix T l)) (hq : l[q]? = some (.val (.slice none 0 0))) (hm : M.length = m) (hl : l.set q (.arr m) = l') (hM : (M ++ [Blk.arx e sz 0 []]).set i (.mix T l') = M') (h : dwp P s0 n c F M' K) : dwp P s0 n c F M K := by
 subst hm hl hM
 exact fun a w hv => h a w (Y0 e sz hv hi hq)
end
theorem DFun.wk {P : Program} {f : FuncId} {args : List D} {d d' : D} {Min Mout : List Blk} (h : DFun P f args Min d Mout) (hd : ∀ s v, Rep s d v → Rep s d' v) : DFun P f args Min d' Mout := by
 refine ⟨h.1, fun s vs hok hM hr => (h.2 s vs hok hM hr).mono ?_⟩
 rintro e w' ⟨s', rfl, ht, hor⟩
 rcases hor with ⟨d0, v, rfl, hrep, rfl, hMo⟩ | ⟨d0, v, _, _, hf⟩
 ·exact ⟨s', rfl, ht, .inl ⟨d', v, rfl, hd s' v hrep, rfl, hMo⟩⟩
 ·exact hf.elim
end Go.Proofs.YtofklkbfkoliiaaGreat
namespace Go.Proofs.YtofklkbfkoliiaaGreat
set_option linter.unusedVariables false
set_option linter.unusedSimpArgs false
open Go.RowKit
def Wk (d d' : D) : Prop := ∀ s v, Rep s d v → Rep s d' v
def WkL (l l' : List D) : Prop := l.length = l'.length ∧ ∀ (j : Nat) d d', l[j]? = some d → l'[j]? = some d' → Wk d d'
theorem Wk.refl (d : D) : Wk d d := fun _ _ h => h
theorem Wk.of_eq {d d' : D} (h : d = d') : Wk d d' := h ▸ Wk.refl d
theorem WkL.nil : WkL [] [] := ⟨rfl, fun j d d' h => by simp at h⟩
theorem WkL.cons {d d' : D} {l l' : List D} (h : Wk d d') (hl : WkL l l') : WkL (d :: l) (d' :: l') := by
 refine ⟨by simp [hl.1], fun j e e' h1 h2 => ?_⟩
 cases j with
 | zero => simp at h1 h2; subst h1 h2; exact h
 | succ j => exact hl.2 j e e' (by simpa using h1) (by simpa using h2)
theorem WkL.refl (l : List D) : WkL l l := ⟨rfl, fun j d d' h1 h2 => by rw [h1] at h2; cases h2; exact Wk.refl d⟩
theorem WkL.rep {s : St} {l l' : List D} {vs : List Value} (h : WkL l l') (hr : ∀ (j : Nat) d v, l[j]? = some d → vs[j]? = some v → Rep s d v) : ∀ (j : Nat) d v, l'[j]? = some d → vs[j]? = some v → Rep s d v := fun j d v h1 h2 => by
 have hj : j < l.length := by rw [h.1]; exact (qbq.1 h1).1
 exact h.2 j l[j] d (qbr hj) h1 s v (hr j _ v (qbr hj) h2)
theorem Wk.tup {l l' : List D} (h : WkL l l') : Wk (.tup l) (.tup l') := fun s v hr => by
 cases hr with
 | tup hl hr => exact .tup (hl.trans h.1) (h.rep hr)
theorem Wk.agg {l l' : List D} (h : WkL l l') : Wk (.agg l) (.agg l') := fun s v hr => by
 cases hr with
 | agg hl hr => exact .agg (hl.trans h.1) (h.rep hr)
theorem Wk.slm0 (sz : Nat) : Wk (.val (.slice none 0 0)) (.slm sz 0 []) := fun s v hr => by
 cases hr with
 | val => exact .slm (vs := []) rfl (by simp) (qbM _) (qb3 _) (fun _ => rfl) rfl (fun j d v h => by simp at h) (.inl rfl)
theorem Wk.slf0 (sz : Nat) : Wk (.val (.slice none 0 0)) (.slf sz 0 []) := fun s v hr => by
 cases hr with
 | val => exact .slf (by simp) (qbM _) (qb3 _) (fun _ => rfl) (.inl rfl)
theorem Wk.vagg (l : List Value) : Wk (.val (.agg l.toArray)) (.agg (l.map D.val)) := fun s v hr => by
 cases hr with
 | val =>
  refine .agg (by simp) fun j d v h1 h2 => ?_
  rw [qca, h2] at h1
  cases h1
  exact .val v
theorem Wk.trans {d d' d'' : D} (h : Wk d d') (k : Wk d' d'') : Wk d d'' := fun s v hr => k s v (h s v hr)
theorem DOp.wk {P : Program} {pc : Bool} {o : Oper} {F : Fr} {M : List Blk} {fp : List Nat} {d d' : D} {wr : List (Nat × Blk)} (h : DOp P pc o F M fp d wr) (hw : Wk d d') : DOp P pc o F M fp d' wr := by
 intro hp a s hok hops hfp
 exact (h hp a s hok hops hfp).map fun s' v ho' ⟨e1, e2⟩ => ⟨s', rfl, Tr.refl ho', e1, hw s' v e2⟩
theorem vg {pc : Bool} {F : Fr} {x : Operand} {d d' : D} (h : Ev pc F x d) (hw : Wk d d') : Ev pc F x d' := by
 obtain ⟨d0, e1, e2⟩ := h
 exact ⟨d0, e1, fun s v hp hr => hw _ _ (e2 s v hp hr)⟩
section
variable {P : Program} {s0 : St} {n : Cx}
theorem qai {c : Code} {F : Fr} {M : List Blk} {K : Cont} {d d' : D} (t : Nat) (ht : lk F t = some d) (hw : Wk d d') (h : dwp P s0 n c ((t, d') :: F) M K) : dwp P s0 n c F M K := by
 intro a w hi
 refine h a w ?_
 obtain ⟨h0, s, h1, h2, h3, h4, h5, h6⟩ := hi
 refine ⟨h0, s, h1, h2, h3, fun x e he => ?_, h5, h6⟩
 rw [jx] at he
 split at he
 ·rename_i e'
  subst e'
  obtain rfl := qbw he
  exact hw s _ (h4 t _ ht)
 ·exact h4 x e he
end
theorem JL {σ : List Nat} {V : Nat → Bool} {M : List Blk} {a a' : D} {b : Value} (h : vw σ V M a = some a') : vw σ V M (.tup [a, .val b]) = some (.tup [a', .val b]) := by
 unfold vw; unfold vwL; rw [h]; rfl
theorem Uz {σ : List Nat} {V : Nat → Bool} {M : List Blk} {a a' : D} {b c : Value} (h : vw σ V M a = some a') : vw σ V M (.tup [a, .val b, .val c]) = some (.tup [a', .val b, .val c]) := by
 unfold vw; unfold vwL; rw [h]; rfl
section
variable {P : Program} {pc : Bool} {o : Oper} {F : Fr} {M : List Blk} {T : TypeId} {x : Operand}
end
end Go.Proofs.YtofklkbfkoliiaaGreat
namespace Go.Proofs.YtofklkbfkoliiaaGreat
set_option linter.unusedVariables false
set_option linter.unusedSimpArgs false
open Go.RowKit
section
variable {P : Program} {pc : Bool} {o : Oper} {F : Fr} {M : List Blk} {T : TypeId} {x y : Operand} {k : IntKind} {z : Int} {n : Nat}
theorem qaj {L : List Value} {v : Value} (j : Nat) (ho : o.op = .index T x y) (hT : arW P T = some n) (hx : Ev pc F x (.val (.agg L.toArray))) (hy : Ev pc F y (.val (.int k z))) (hz : pc = true → z = (j : Int)) (hj : j < n) (hd : L[j]? = some v) : DOp P pc o F M [] (.val v) [] :=
 qad (ds := L.map D.val) j ho hT (vg hx (Wk.vagg L)) hy hz hj (by rw [qca, hd]; rfl)
end
end Go.Proofs.YtofklkbfkoliiaaGreat
namespace Go.Proofs.YtofklkbfkoliiaaGreat
set_option linter.unusedVariables false
set_option linter.unusedSimpArgs false
open Go.RowKit
theorem DGives.of_tr {P : Program} {s s1 : St} {post : St → Value → Prop} {r : Result Next} (t : Tr s s1) (hw : s1.w = s.w) (h : DGives P s1 post r) : DGives P s post r := by
 have key : ∀ {w' : World} {v : Value}, (∃ s', s'.w = w' ∧ Tr s1 s' ∧ post s' v) → ∃ s', s'.w = w' ∧ Tr s s' ∧ post s' v := by
  rintro w' v ⟨s', rfl, a2, a3⟩
  exact ⟨s', rfl, t.trans a2, a3⟩
 cases r with
 | halt x w => exact h.elim
 | ok x w =>
  cases x with
  | value v => exact key h
  | skip => exact key h
  | enter f args =>
   obtain ⟨h1, h2⟩ := h
   refine ⟨h1.trans hw, ?_⟩
   rw [← hw]
   refine h2.mono ?_
   rintro e w'' ⟨s', v, e1, e2, e3, e4⟩
   exact ⟨s', v, e1, e2, t.trans e3, e4⟩
  | round l f tmps asg body =>
   obtain ⟨h1, h2⟩ := h
   refine ⟨h1.trans hw, ?_⟩
   rw [← hw]
   refine RoundIn.mono h2 ?_
   rintro e w'' ⟨s', v, e1, e2, e3, e4⟩
   exact ⟨s', v, e1, e2, t.trans e3, e4⟩
  | _ => exact h.elim
section
variable {P : Program} {pc : Bool} {o : Oper} {F : Fr} {M : List Blk}
theorem QU {T e : TypeId} {sz by' n m f j1 j2 k t t2 : Nat} {Bs : List Mem} {L L2 Z : List Value} (ho : o.op = .call { callee := .builtin .append, args := #[.tmp t, .tmp t2], argTypes := #[T, T] }) (ht : (t == t2) = false) (hT : slE P T = some (e, sz, by')) (hZ : zrC P e = some Z) (hZl : Z.length = sz)
  (hx : Ev pc F (.tmp t) (.farr f k)) (hy : Ev pc F (.tmp t2) (.slf sz m L2)) (hM : M[f]? = some (.fam Bs)) (hB : Bs[k]? = some (.arr e sz n L)) (hj1 : M[j1]? = some .hole) (hj2 : M[j2]? = some .hole) (hne : (j1 == j2) = false) (h1 : pc = true → L2.all (·.oneCell') = true) (hbd : pc = true → (n + m) * by' ≤ 140737488355328 ∧ n + m ≤ 140737488355328) :
  DOp P pc o F M [f, j1, j2] (.farr f Bs.length) [(f, .fam (Bs.set k .gone ++ [.arr e sz (n + m) (L ++ L2)])), (j1, .gone), (j2, .gone)] := by
 intro hp a s hok hops hfp
 have ht : t ≠ t2 := by simpa using ht
 have hne : j1 ≠ j2 := by simpa using hne
 have hmem : o.op.operands = #[.tmp t, .tmp t2] := by rw [ho]; rfl
 have rx := qu hp hx (by rw [hmem]; simp) hops
 have ry := qu hp hy (by rw [hmem]; simp) hops
 have hM' : s.M[f]? = some (.fam Bs) := by rw [hfp f (by simp)]; exact hM
 have g1 : s.M[j1]? = some .hole := by rw [hfp j1 (by simp)]; exact hj1
 have g2 : s.M[j2]? = some .hole := by rw [hfp j2 (by simp)]; exact hj2
 have hf1 : f ≠ j1 := fun e => by subst e; rw [hM'] at g1; cases g1
 have hf2 : f ≠ j2 := fun e => by subst e; rw [hM'] at g2; cases g2
 have hfl := (qbq.1 hM').1
 have hl1 := (qbq.1 g1).1
 have hl2 := (qbq.1 g2).1
 generalize hvx : a.eval (.tmp t) = vx at rx
 cases rx with
 | @farr _ _ ad n' c hs q1 q2 =>
  have tt := Uy (B := .arr e sz n L) hok hM' g1 hB rfl q1 q2
  obtain ⟨s1, e1⟩ : ∃ s1 : St, s1 = ⟨s.β.set j1 (.slice ad n' c), s.I, (s.M.set f (.fam (Bs.set k .gone))).set j1 (.arr e sz n L), s.w⟩ := ⟨_, rfl⟩
  have tt : Tr s s1 := by rw [e1]; exact tt
  have hM1 : s1.M = (s.M.set f (.fam (Bs.set k .gone))).set j1 (.arr e sz n L) := by rw [e1]
  have hw1 : s1.w = s.w := by rw [e1]
  have hβ1 : s1.β[j1]? = some (.slice ad n' c) := by rw [e1]; show (s.β.set j1 _)[j1]? = _; rw [qbG (by rw [hok.len]; exact hl1)]
  have m1 : s1.M[j1]? = some (.arr e sz n L) := by rw [hM1, qbG (by simpa using hl1)]
  have m2 : s1.M[j2]? = some .hole := by rw [hM1, qbC hne, qbC hf2]; exact g2
  have m3 : s1.M[f]? = some (.fam (Bs.set k .gone)) := by rw [hM1, qbC (Ne.symm hf1), qbG hfl]
  have ra : Rep s1 (.arr j1) (a.eval (.tmp t)) := by rw [hvx]; exact .arr hβ1
  have hl : ∀ x ∈ o.op.operands, ∀ d, ev [(t, D.arr j1), (t2, .slf sz m L2)] x = some d → Rep s1 d (a.eval x) := by
   intro x hx' d hd
   rw [hmem] at hx'
   simp at hx'
   rcases hx' with rfl | rfl
   ·simp only [ev, lk, Nat.beq_refl, cond_true] at hd
    cases hd
    exact ra
   ·have hb : Nat.beq t t2 = false := by
     cases hbb : Nat.beq t t2
     ·rfl
     ·exact absurd (Nat.eq_of_beq_eq_true hbb) ht
    simp only [ev, lk, hb, Nat.beq_refl, cond_true, cond_false] at hd
    cases hd
    exact ry.mono hok tt
  have hb : Nat.beq t t2 = false := by
   cases hbb : Nat.beq t t2
   ·rfl
   ·exact absurd (Nat.eq_of_beq_eq_true hbb) ht
  have hD := vC (P := P) (pc := true) (F := [(t, D.arr j1), (t2, .slf sz m L2)]) (M := s1.M) (i := j1) (j := j2) (d := .slf sz m L2) (fp := []) ho hT hZ hZl (ev1 (by simp only [ev, lk, Nat.beq_refl, cond_true])) (ev1 (by simp only [ev, lk, hb, Nat.beq_refl, cond_true, cond_false])) yY m1 m2 (fun _ => h1 hp) (fun _ => hbd hp) rfl a s1 tt.ok hl (fun _ _ => rfl)
  rw [hw1] at hD
  refine (DGives.of_tr tt hw1 hD).map fun s' v ho' ⟨u1, u2⟩ => ?_
  have hs'M : s'.M = (s1.M.set j1 .gone).set j2 (.arr e sz (n + m) (L ++ L2)) := u1
  have k2 : s'.M[j2]? = some (.arr e sz (n + m) (L ++ L2)) := by rw [hs'M, qbG (by rw [List.length_set, hM1]; simpa using hl2)]
  have k3 : s'.M[f]? = some (.fam (Bs.set k .gone)) := by rw [hs'M, qbC (Ne.symm hf2), qbC (Ne.symm hf1)]; exact m3
  have hlen' := ho'.len
  have kf := (qbq.1 k3).1
  have kj := (qbq.1 k2).1
  obtain ⟨x, hx2⟩ : ∃ x, s'.β[f]? = some x := ⟨_, qbr (by omega)⟩
  obtain ⟨y, hy2⟩ : ∃ y, s'.β[j2]? = some y := ⟨_, qbr (by omega)⟩
  obtain ⟨hs2, rfl, hfo⟩ := ho'.blk f _ x k3 hx2
  have t3 := YZ (B := .arr e sz (n + m) (L ++ L2)) ho' k3 k2 rfl hx2 hy2
  refine ⟨⟨s'.β.set f (.tuple (hs2 ++ [y]).toArray), s'.I, (s'.M.set j2 .gone).set f (.fam (Bs.set k .gone ++ [.arr e sz (n + m) (L ++ L2)])), s'.w⟩, rfl, t3, ?_, ?_⟩
  ·show (s'.M.set j2 .gone).set f _ = ((s.M.set f _).set j1 .gone).set j2 .gone
   rw [hs'M, hM1]
   apply List.ext_getElem?
   intro i
   simp only [List.getElem?_set, List.length_set]
   by_cases a1 : f = i
   ·subst a1
    simp [hf1.symm, hf2.symm, hfl]
   ·by_cases a2 : j1 = i
    ·subst a2
     simp [a1, hne.symm, hl1]
    ·by_cases a3 : j2 = i
     ·subst a3
      simp [a1, a2, hl2]
     ·simp [a1, a2, a3]
  ·cases u2 with
   | @arr _ ad' n'' c' hβ =>
    rw [hy2] at hβ
    obtain rfl := qbw hβ
    refine .farr (hs := hs2 ++ [.slice ad' n'' c']) (by show (s'.β.set f _)[f]? = _; rw [qbG (by omega)]) ?_
    have : hs2.length = Bs.length := by rw [hfo.len]; simp
    rw [qbO (by omega), show Bs.length - hs2.length = 0 by omega]
    rfl
end
section
variable {P : Program} {s0 : St} {n : Cx}
theorem UA {F : Fr} {M : List Blk} {a : Act} {w : World} {p q j f : Nat} {T e : TypeId} {l : List D} {sz m : Nat} {L : List Value} {Bs : List Mem} (h : Inv s0 n F M a w) (hM : M[p]? = some (.mix T l)) (hq : l[q]? = some (.arr j)) (hj : M[j]? = some (.arr e sz m L)) (hf : M[f]? = some (.fam Bs)) : Inv s0 n F (((M.set j .gone).set f (.fam (Bs ++ [.arr e sz m L]))).set p (.mix T (l.set q (.farr f Bs.length)))) a w := by
 obtain ⟨h0, s, rfl, rfl, h3, h4, h5, h6⟩ := h
 have hlen := h3.ok.len
 have hfl := (qbq.1 hf).1
 have hjl := (qbq.1 hj).1
 have hpl := (qbq.1 hM).1
 have hpj : p ≠ j := fun e => by subst e; rw [hM] at hj; cases hj
 have hpf : p ≠ f := fun e => by subst e; rw [hM] at hf; cases hf
 obtain ⟨x, hx⟩ : ∃ x, s.β[f]? = some x := ⟨_, qbr (by omega)⟩
 obtain ⟨y, hy⟩ : ∃ y, s.β[j]? = some y := ⟨_, qbr (by omega)⟩
 obtain ⟨z, hz⟩ : ∃ z, s.β[p]? = some z := ⟨_, qbr (by omega)⟩
 obtain ⟨hs, rfl, hfo⟩ := h3.ok.blk f _ x hf hx
 have tt := YZ (B := .arr e sz m L) h3.ok hf hj rfl hx hy
 obtain ⟨s1, e1⟩ : ∃ s1 : St, s1 = ⟨s.β.set f (.tuple (hs ++ [y]).toArray), s.I, (s.M.set j .gone).set f (.fam (Bs ++ [.arr e sz m L])), s.w⟩ := ⟨_, rfl⟩
 have tt : Tr s s1 := by rw [e1]; exact tt
 have hM1 : s1.M = (s.M.set j .gone).set f (.fam (Bs ++ [.arr e sz m L])) := by rw [e1]
 have hw1 : s1.w = s.w := by rw [e1]
 have hp1 : s1.M[p]? = some (.mix T l) := by rw [hM1, qbC (Ne.symm hpf), qbC (Ne.symm hpj)]; exact hM
 have hz1 : s1.β[p]? = some z := by rw [e1]; show (s.β.set f _)[p]? = _; rw [qbC (Ne.symm hpf)]; exact hz
 have hpl1 : p < s1.M.length := (qbq.1 hp1).1
 have hset : s1.β.set p z = s1.β := by
  have h1 : p < s1.β.length := by rw [tt.ok.len]; exact hpl1
  have h2 : s1.β[p] = z := by
   have := qbr h1
   rw [hz1] at this
   exact (qbw this).symm
  rw [← h2]
  exact List.set_getElem_self ..
 obtain ⟨b, vs, k1, k2, k3, k4⟩ := tt.ok.blk p _ z hp1 hz1
 have hql := (qbq.1 hq).1
 have t2 : Tr s1 ⟨s1.β, s1.I, s1.M.set p (.mix T (l.set q (.farr f Bs.length))), s1.w⟩ := by
  have hst := kV tt.ok p s1.M z (.mix T (l.set q (.farr f Bs.length))) s1.w rfl (fun i k h => .inl h) hpl1 (.inr (.inl hz1)) (by rw [k1]; simp) ?_ (fun b' hb' j' kj hj' hne h1 h2 h3' h4' => ?_) (fun b' hb' => .inr (qq hp1 rfl hz1 hb')) (fun b' hb' => (tt.ok.lt b' (qq hp1 rfl hz1 hb')).1) (fun _ => False) (fun _ h => h.elim) (fun b' hlt hne _ => rfl) rfl rfl rfl (qbM _)
  ·rw [hset] at hst
   exact hst
  ·refine ⟨b, vs, k1, k2, by simp [k3], fun j' d v g1 g2 => ?_⟩
   rw [hset]
   have lift : ∀ {d v}, Rep s1 d v → Rep ⟨s1.β, s1.I, s1.M.set p (.mix T (l.set q (.farr f Bs.length))), s1.w⟩ d v := fun hr =>
    Rep.mono' (s := s1) (s' := ⟨s1.β, s1.I, s1.M.set p (.mix T (l.set q (.farr f Bs.length))), s1.w⟩) (fun _ _ h _ => h) (fun _ h => h) (fun _ _ => rfl) hr
   by_cases e : q = j'
   ·subst e
    rw [qbG hql] at g1
    cases g1
    refine lift ?_
    have hr := k4 q _ v hq g2
    have hy1 : s1.β[j]? = some y := by
     have hjf : f ≠ j := fun e => by subst e; rw [hf] at hj; cases hj
     rw [e1]; show (s.β.set f _)[j]? = _; rw [qbC hjf]; exact hy
    cases hr with
    | @arr _ ad n' c hβ =>
     rw [hy1] at hβ
     obtain rfl := qbw hβ
     refine .farr (hs := hs ++ [.slice ad n' c]) (by rw [e1]; show (s.β.set f _)[f]? = _; rw [qbG (by omega)]) ?_
     rw [qbO (by rw [hfo.len]; exact qbM _), hfo.len, Nat.sub_self]
     rfl
   ·rw [qbC e] at g1
    exact lift (k4 j' d v g1 g2)
  ·exact hne (tt.ok.inj j' p kj _ hj' _ b' h1 h2 h3' h4' hp1 rfl hz1 hb')
 refine ⟨h0, ⟨s1.β, s1.I, s1.M.set p (.mix T (l.set q (.farr f Bs.length))), s1.w⟩, by rw [hM1], hw1, (h3.trans tt).trans t2, fun x d hd => ((h4 x d hd).mono h3.ok tt).mono tt.ok t2, h5, (h6.mono h3.ok tt).mono tt.ok t2⟩
theorem GT {c : Code} {F : Fr} {M M' : List Blk} {K : Cont} (p q f : Nat) {j : Nat} {T e : TypeId} {l : List D} {sz m : Nat} {L : List Value} {Bs : List Mem} (hM : M[p]? = some (.mix T l)) (hq : l[q]? = some (.arr j)) (hj : M[j]? = some (.arr e sz m L)) (hf : M[f]? = some (.fam Bs)) (hM' : ((M.set j .gone).set f (.fam (Bs ++ [.arr e sz m L]))).set p (.mix T (l.set q (.farr f Bs.length))) = M') (h : dwp P s0 n c F M' K) : dwp P s0 n c F M K := by
 subst hM'
 exact fun a w hh => h a w (UA hh hM hq hj hf)
end
section
variable {P : Program} {pc : Bool} {o : Oper} {F : Fr} {M : List Blk} {T : TypeId} {x y : Operand} {k : IntKind} {z : Int} {n sz : Nat}
end
end Go.Proofs.YtofklkbfkoliiaaGreat
namespace Go.Proofs.YtofklkbfkoliiaaGreat
set_option linter.unusedVariables false
set_option linter.unusedSimpArgs false
open Go.RowKit
section
variable {P : Program} {s0 : St} {n : Cx}
def DCallsI (P : Program) (f : FuncId) (args : List D) (Min : List Blk) (post : (Nat → Prop) → D → List Blk → Prop) : Prop :=
 yW P f = true ∧ ∀ (s : St) (vs : List Value), Ok s → s.M = Min → Reps s args vs → Calls P f vs.toArray s.w fun e w' =>
  ∃ s', s'.w = w' ∧ Tr s s' ∧ ∃ d v, e = .returned v ∧ Rep s' d v ∧ post s.I d s'.M
def DFunI (P : Program) (f : FuncId) (args : List D) (Min : List Blk) (post : (Nat → Prop) → D → Prop) (Mout : List Blk) : Prop :=
 DCallsI P f args Min fun I d M => post I d ∧ M = Mout
theorem Y1 {f : FuncId} {fn : Func} {c : Code} {args : List D} {F0 : Fr} {Min : List Blk} {post : (Nat → Prop) → D → List Blk → Prop} {N : Nat} (m : Nat) (hcb : yW P f = true) (hf : P.funcs[f]? = some fn) (hc : fn.body = some c) (hn : fn.ntmps = N) (hle : Nat.ble args.length N = true) (hF : fr0 0 args = F0) (hm : Min.length = m)
  (h : ∀ s0 : St, s0.M.length ≤ m → dwp P s0 ⟨N, none, m, [], true⟩ c F0 Min (Kret P fn m [] (post s0.I) fun _ _ => False)) : DCallsI P f args Min post := by
 subst hF hm
 refine ⟨hcb, ?_⟩
 intro s vs ho hM hr
 obtain ⟨hl, hr⟩ := hr
 have hle := qbA hle
 have hslot : ∀ t d, lk (fr0 0 args) t = some d → Rep s d (ju { tmps := vs.toArray ++ qb8 (fn.ntmps - vs.toArray.size) undef, defers := [] } t) := by
  intro t d hd
  obtain ⟨_, h2⟩ := xc args 0 t d hd
  simp only [Nat.sub_zero] at h2
  have hlt : t < args.length := (qbq.1 h2).1
  have hv : vs[t]? = some vs[t] := qbr (by omega)
  have : ju { tmps := vs.toArray ++ qb8 (fn.ntmps - vs.toArray.size) undef, defers := [] } t = vs[t] := by
   unfold ju
   simp only [Array.getD_eq_getD_getElem?]
   rw [Array.getElem?_append_left (by simp; omega)]
   simp [show t < vs.length by omega]
  rw [this]
  exact hr t d _ h2 hv
 have hs : s.M.length ≤ Min.length := by rw [hM]; exact qbM _
 have hb : zn P s ⟨N, none, Min.length, [], true⟩ fn Min.length (post s.I) (fun _ _ => False) c (fr0 0 args) Min := qy rfl hs (h s hs)
 have hcalls := callsIn_wide.1 (callsIn_of_wp_marks (F := Fence.wide) (n := 0) hf hc trivial (hb _ _ ⟨ho, s, hM, rfl, Tr.refl ho, hslot, by simp; omega, .nil⟩))
 refine Calls.mono hcalls ?_
 rintro e w' ⟨s', h1, h2, (⟨d, v, h3, h4, h5⟩ | ⟨_, _, _, _, h5⟩)⟩
 ·exact ⟨s', h1, h2, d, v, h3, h4, h5⟩
 ·exact h5.elim
theorem DFunI.fun {f : FuncId} {args : List D} {Min Mout : List Blk} {post : (Nat → Prop) → D → Prop} {d0 : D} (h : DFunI P f args Min post Mout) (hd : ∀ I d, post I d → Wk d d0) : DFun P f args Min d0 Mout := by
 refine ⟨h.1, fun s vs ho hM hr => Calls.mono (h.2 s vs ho hM hr) ?_⟩
 rintro e w' ⟨s', h1, h2, d, v, h3, h4, h5, h6⟩
 exact ⟨s', h1, h2, .inl ⟨d0, v, h3, hd _ _ h5 s' v h4, rfl, h6⟩⟩
theorem DFunI.of {f : FuncId} {args : List D} {Min Mout : List Blk} {post post' : (Nat → Prop) → D → Prop} (h : DFunI P f args Min post Mout) (hd : ∀ I d, post I d → post' I d) : DFunI P f args Min post' Mout := by
 refine ⟨h.1, fun s vs ho hM hr => Calls.mono (h.2 s vs ho hM hr) ?_⟩
 rintro e w' ⟨s', h1, h2, d, v, h3, h4, h5, h6⟩
 exact ⟨s', h1, h2, d, v, h3, h4, hd _ _ h5, h6⟩
theorem kendI {fn : Func} {F : Fr} {M Mo : List Blk} {d d' : D} {m : Nat} {post : (Nat → Prop) → D → Prop} {I : Nat → Prop} {pan : D → List Blk → Prop} (σ : List Nat) (hr : ResD P fn F M d) (hσ : okσ m σ = true) (hv : vw σ jS M d = some d') (h : post I d') (hM : MFits σ jS M σ Mo) : DEnd P fn m ((fun I d M => post I d ∧ M = Mo) I) pan [] none F M := .ret hr hσ hv hM ⟨h, rfl⟩
end
section
variable {P : Program} {pc : Bool} {o : Oper} {F : Fr} {M : List Blk}
end
theorem UB {s : St} (ho : Ok s) {j : Nat} {k : Blk} {h : Value} (hM : s.M[j]? = some k) (hl : k.live = true) (hh : s.β[j]? = some h) : Tr s ⟨s.β, fun b => s.I b ∨ jo k h b, s.M.set j .gone, s.w⟩ := by
 have hnd : ∀ (i : Nat) h, s.β[i]? = some h → h ≠ .nilFunc → s.β[i]? = some h := fun _ _ h _ => h
 have old : ∀ (i : Nat) k', (s.M.set j .gone)[i]? = some k' → k'.live = true → i ≠ j ∧ s.M[i]? = some k' := by
  intro i k' h1 h2
  by_cases e : i = j
  ·subst e
   rw [qbG (by have := (qbq.1 hM).1; exact this)] at h1
   cases h1; cases h2
  ·rw [qbC (Ne.symm e)] at h1
   exact ⟨e, h1⟩
 have ne : ∀ (i : Nat) k' h' b, i ≠ j → s.M[i]? = some k' → k'.live = true → s.β[i]? = some h' → jo k' h' b → ¬ jo k h b := by
  intro i k' h' b e h1 h2 h3 h4 e2
  exact e (ho.inj i j k' k h' h b h1 h2 h3 h4 hM hl hh e2)
 have lv : ∀ b, Live ⟨s.β, fun b => s.I b ∨ jo k h b, s.M.set j .gone, s.w⟩ b → Live s b ∧ ¬ jo k h b := by
  rintro b ⟨i, k', h', h1, h2, h3, h4⟩
  obtain ⟨e, a⟩ := old i k' h1 h2
  exact ⟨qq a h2 h3 h4, ne i k' h' b e a h2 h3 h4⟩
 refine ⟨⟨by simp [ho.len], fun i k' h' h1 h2 => ?_, fun b hb => ?_, ?_, fun b hI => ?_⟩, jI hnd, fun _ h => .inl h, fun b h => ?_, fun b hb hn => rfl, fun b h => .inr (lv b h).1, rfl, rfl, rfl, qbM _⟩
 ·cases hk : k'.live with
  | false =>
   cases k' with
   | gone => trivial
   | hole =>
    by_cases e : i = j
    ·subst e
     rw [qbG (by have := (qbq.1 hM).1; exact this)] at h1
     cases h1
    ·rw [qbC (Ne.symm e)] at h1
     exact ho.blk i _ h' h1 h2
   | _ => cases hk
  | true =>
   obtain ⟨e, a⟩ := old i k' h1 hk
   exact BlkOk.mono (s := s) (s' := ⟨s.β, fun b => s.I b ∨ jo k h b, s.M.set j .gone, s.w⟩) hnd (fun _ h => .inl h) (fun _ _ => rfl) (ho.blk i k' h' a h2) fun b hl' hb' => rfl
 ·obtain ⟨h1, h2⟩ := lv b hb
  exact ⟨(ho.lt b h1).1, fun hI => hI.elim (ho.lt b h1).2 h2⟩
 ·intro i i2 k1 k2 x x2 b a1 a2 a3 a4 c1 c2 c3 c4
  obtain ⟨_, a1⟩ := old i k1 a1 a2
  obtain ⟨_, c1⟩ := old i2 k2 c1 c2
  exact ho.inj i i2 k1 k2 x x2 b a1 a2 a3 a4 c1 c2 c3 c4
 ·rcases hI with hI | hI
  ·exact ho.il b hI
  ·exact (ho.lt b (qq hM hl hh hI)).1
 ·rcases h with h | h
  ·exact .inl h
  ·exact .inr (.inr (qq hM hl hh h))
section
variable {P : Program} {s0 : St} {n : Cx}
theorem Tr.live_new {s s' : St} (ho : Ok s) (t : Tr s s') {b : Nat} (h : Live s' b) : ¬ s.I b := fun hI => (t.lv b h).elim (fun e => absurd (ho.il b hI) (Nat.not_lt.2 e)) fun e => (ho.lt b e).2 hI
theorem ZK {F : Fr} {M : List Blk} {a : Act} {w : World} {t j : Nat} {T : TypeId} {L : List Value} (h : Inv s0 n F M a w) (ht : lk F t = some (.loc j 0)) (hj : M[j]? = some (.flat T L)) : ∃ b, ¬ s0.I b ∧ Inv s0 n ((t, .pin b L) :: F) (M.set j .gone) a w := by
 obtain ⟨h0, s, rfl, rfl, h3, h4, h5, h6⟩ := h
 have hjl := (qbq.1 hj).1
 obtain ⟨y, hy⟩ : ∃ y, s.β[j]? = some y := ⟨_, qbr (by rw [h3.ok.len]; exact hjl)⟩
 obtain ⟨b, rfl, hc⟩ := h3.ok.blk j _ y hj hy
 have tt := UB h3.ok hj rfl hy
 have hlv : Live s b := qq hj rfl hy rfl
 refine ⟨b, h3.live_new h0 hlv, h0, ⟨s.β, fun c => s.I c ∨ jo (.flat T L) (.pointer (some ⟨b, 0, none⟩)) c, s.M.set j .gone, s.w⟩, rfl, rfl, h3.trans tt, fun z d hd => ?_, h5, h6.mono h3.ok tt⟩
 rw [jx] at hd
 split at hd
 ·rename_i e'
  subst e'
  obtain rfl := qbw hd
  have hr := h4 t _ ht
  generalize hv : ju a t = v at hr
  cases hr with
  | @loc _ _ b' hβ =>
   rw [hy] at hβ
   cases hβ
   exact .pin (.inr rfl) (by simpa using qi hc 0) hc
 ·exact (h4 z d hd).mono h3.ok tt
theorem ZL {c : Code} {F : Fr} {M M' : List Blk} {K : Cont} (t : Nat) {j : Nat} {T : TypeId} {L : List Value} (ht : lk F t = some (.loc j 0)) (hj : M[j]? = some (.flat T L)) (hM' : M.set j .gone = M') (h : ∀ b, ¬ s0.I b → dwp P s0 n c ((t, .pin b L) :: F) M' K) : dwp P s0 n c F M K := by
 subst hM'
 intro a w hi
 obtain ⟨b, hb, hi'⟩ := ZK hi ht hj
 exact h b hb a w hi'
end
section
variable {P : Program} {pc : Bool} {o : Oper} {F : Fr} {M : List Blk}
theorem VY {σ : List Nat} {V : Nat → Bool} {M : List Blk} {T : TypeId} {sz n n' : Nat} {l l' : List D} (hnl : D.nlL l = true) (hn : n = n') (hl : l = l') : (vwL σ V M l).map (Blk.arx T sz n) = some (Blk.arx T sz n' l') := by
 subst hn hl
 rw [uj σ V M l hnl]; rfl
theorem Wk.pin (b : Nat) (L : List Value) : Wk (.pin b L) (.dpf L) := fun s v hr => by cases hr with | pin hI h ho => exact .dpf hI h
theorem Wk.dpm {l l' : List D} (hw : WkL l l') (hn : D.nlL l' = true) : Wk (.dpm l) (.dpm l') := fun s v hr => by
 cases hr with
 | dpm hnl hI hc hl h => exact .dpm hn hI hc (by rw [← hw.1]; exact hl) (hw.rep h)
theorem Wk.slm {sz n : Nat} {l l' : List D} (hw : WkL l l') (hn : D.nlL l' = true) : Wk (.slm sz n l) (.slm sz n l') := fun s v hr => by
 cases hr with
 | slm hnl hl hn' hc ha hv h hm => exact .slm hn (by rw [← hw.1]; exact hl) hn' hc ha (by rw [← hw.1]; exact hv) (hw.rep h) (hm.imp (fun e => by subst e; exact qbU hw.1.symm) id)
end
end Go.Proofs.YtofklkbfkoliiaaGreat
namespace Go.Proofs.YtofklkbfkoliiaaGreat
set_option linter.unusedVariables false
set_option linter.unusedSimpArgs false
open Go.RowKit
theorem xH {Z : Array Value} {z0 : Value} (hZ : ∀ v ∈ Z, v = z0) (h0 : 0 < Z.size) (n : Nat) : (madeCells Z n).toList = qbH n z0 := by
 rw [List.eq_replicate_iff]
 refine ⟨by rw [Array.length_toList, size_madeCells], fun b hb => ?_⟩
 unfold madeCells at hb
 rw [Array.toList_map, List.mem_map] at hb
 obtain ⟨i, _, rfl⟩ := hb
 have hi : i % Z.size < Z.size := Nat.mod_lt _ h0
 rw [getElem!_pos Z (i % Z.size) hi]
 exact hZ _ (Array.getElem_mem hi)
theorem xj {P : Program} {pc : Bool} {o : Oper} {F : Fr} {M : List Blk} {T e : TypeId} {x y : Operand} {by' sz : Nat} (j n : Nat) {k k' : IntKind} {z z' : Int} (z0 : Value) {Z : List Value} (ho : o.op = .makeSlice T x y) (hT : slE P T = some (e, sz, by')) (hZ : zrC P e = some Z) (hz0 : Z = qbH sz z0) (hsz : 0 < sz) (hx : Ev pc F x (.val (.int k z))) (hy : Ev pc F y (.val (.int k' z'))) (hz : pc = true → z = (n : Int)) (hz' : pc = true → z' = (n : Int)) (hj : M[j]? = some .hole) (hb : pc = true → by' * n ≤ 281474976710656 ∧ n ≤ 9223372036854775807) :
  DOp P pc o F M [j] (.arr j) [(j, .arr e sz n (qbH (n * sz) z0))] := by
 intro hp a s hok hops hfp
 obtain ⟨e1, ti, e2, e3, e4⟩ := kS hT
 obtain ⟨ti', zv, q1, q2, q3⟩ := jA hZ
 rw [e2] at q1
 obtain rfl := qbw q1
 have h1 := (qu hp hx (by simp [ho, Op.operands]) hops).val_eq
 have h2 := (qu hp hy (by simp [ho, Op.operands]) hops).val_eq
 rw [hz hp] at h1
 rw [hz' hp] at h2
 obtain ⟨b1, b2⟩ := hb hp
 have hj' : s.M[j]? = some .hole := by rw [hfp j (by simp)]; exact hj
 have hjl : j < s.β.length := by rw [hok.len]; exact (qbq.1 hj').1
 have hb3 : (ti.bytes : Int) * (n : Int) ≤ 281474976710656 := by
  have h : ((ti.bytes * n : Nat) : Int) ≤ 281474976710656 := by rw [e4]; omega
  rwa [Int.natCast_mul] at h
 have hrun := run_make (P := P) s.w T e ti zv e1 e2 q2 k k' n n (by omega) (Int.le_refl _) hb3 (by omega)
 simp only [qcb] at hrun
 have hc : ∀ v ∈ zv.cells, v = z0 := fun v hv => by
  have h : v ∈ Z := by rw [← q3]; exact Array.mem_toList_iff.2 hv
  rw [hz0] at h
  exact List.eq_of_mem_replicate h
 have hs0 : 0 < zv.cells.size := by
  have := congrArg List.length q3
  rw [Array.length_toList, hz0, qbN] at this
  omega
 have hrow := World.ownsRow_lit (base := 0) (e := e) (size := ti.size) s.w (madeCells zv.cells (n * ti.size)) n (qb3 _) (by unfold maxLen; omega) (size_madeCells _ _)
 rw [xH hc hs0, e3] at hrow
 rw [e3] at hrun
 refine ja (s' := ⟨s.β.set j (.slice (some ⟨s.w.heap.size, 0, none⟩) n n), s.I, s.M.set j (.arr e sz n (qbH (n * sz) z0)), _⟩) (v := .slice (some ⟨s.w.heap.size, 0, none⟩) n n) ?_ (g9 hok hj' _ _ _ (by simp) (fun b hb => by cases hb; rfl) (fun b h => Below.heap_alloc _ _ _ h) (fun b hb => by cases hb; simp) (by simp) rfl rfl rfl hrow) rfl (.arr (by simp [hjl]))
 unfold execOp
 simp only [ho, h1, h2]
 exact k6 hrun
end Go.Proofs.YtofklkbfkoliiaaGreat
namespace Go.Proofs.YtofklkbfkoliiaaGreat
set_option linter.unusedVariables false
set_option linter.unusedSimpArgs false
open Go.RowKit
section
variable {P : Program} {pc : Bool} {o : Oper} {F : Fr} {M : List Blk}
theorem yE {T T' : TypeId} {x y : Operand} {i p k : Nat} {rw' : Bool} {ds l R : List D} (ho : o.op = .store T x y) (hT : tyB P T = some (rw', k)) (hx : Ev pc F x (.loc i p)) (hy : Ev pc F y (.agg ds)) (hM : M[i]? = some (.mix T' l)) (hk : ds.length = k) (hfit : Nat.ble (p + k) l.length = true) (h1 : ds.all D.oc = true) (hR : l.take p ++ ds ++ l.drop (p + k) = R) : DOp P pc o F M [i] .junk [(i, .mix T' R)] := by
 have hfit' := qbA hfit
 subst hR
 intro hp a s hok hops hfp
 have hr := qu hp hx (by simp [ho, Op.operands]) hops
 have hry := qu hp hy (by simp [ho, Op.operands]) hops
 have hM' : s.M[i]? = some (.mix T' l) := by rw [hfp i (by simp)]; exact hM
 generalize hv : a.eval x = vx at hr
 generalize hvy : a.eval y = vy at hry
 cases hr with
 | @loc _ _ b h =>
  cases hry with
  | @agg _ vs hvl hd =>
   obtain ⟨b', L, e1, e2, e3, e4⟩ := hok.blk i _ _ hM' h
   cases e1
   have hcell := qi e2 0
   have hoc : ∀ u ∈ vs, u.oneCell' = true := fun u hu => by
    obtain ⟨j, hj, rfl⟩ := qcc hu
    have hj2 : j < ds.length := by omega
    exact YU (hd j _ _ (qbr hj2) (qbr hj)) (qbX.1 h1 _ (qb9 hj2))
   have hrun := ya (P := P) (w := s.w) (C := vs) ho hT hv hvy rfl (by omega) (fun j hj => by
     have hp' : p + j < L.length := by omega
     have := hcell (p + j) L[p + j] (by simp [hp'])
     rw [qbs] at this
     rw [this]; rfl) (fun j hj => by simp [World.frozen?, e2]) hoc
   have hβ : s.β.set i (.pointer (some ⟨b, 0, none⟩)) = s.β := by
    apply List.ext_getElem?
    intro k
    by_cases e : i = k
    ·subst e; rw [qbG (qbq.1 h).1, h]
    ·rw [qbC e]
   refine vA (s' := ⟨s.β.set i (.pointer (some ⟨b, 0, none⟩)), s.I, s.M.set i (.mix T' (l.take p ++ ds ++ l.drop (p + k))), s.w.setCells b p vs⟩) hrun (yP hok hM' rfl h rfl p _ ?_) rfl
   have hlen : (l.take p ++ ds ++ l.drop (p + k)).length = l.length := by
    simp only [qbz, qbS, qbZ]
    omega
   refine ⟨b, jX L p vs, rfl, kW b vs p s.w L T' e2, by rw [gy, hlen, e3], fun j e v hj hv' => ?_⟩
   have lift : ∀ {e : D} {v : Value}, Rep s e v → Rep ⟨s.β.set i (.pointer (some ⟨b, 0, none⟩)), s.I, s.M.set i (.mix T' (l.take p ++ ds ++ l.drop (p + k))), s.w.setCells b p vs⟩ e v := by
    intro e v hr
    refine Rep.mono' (s := s) (s' := ⟨s.β.set i (.pointer (some ⟨b, 0, none⟩)), s.I, s.M.set i (.mix T' (l.take p ++ ds ++ l.drop (p + k))), s.w.setCells b p vs⟩) (fun k x hk _ => by show (s.β.set i _)[k]? = _; rw [hβ]; exact hk) (fun _ h => h) (fun b' hI => kX b _ p s.w b' fun e => ?_) hr
    subst e
    exact (hok.lt b' (qq hM' rfl h rfl)).2 hI
   rw [gr vs L p (by omega)] at hv'
   by_cases h1 : j < p
   ·rw [qbY, qbI (by simp; omega), List.getElem?_take_of_lt h1] at hj hv'
    exact lift (e4 j e v hj hv')
   ·rw [qbY, qbO (by simp; omega)] at hj hv'
    rw [qbS, Nat.min_eq_left (by omega)] at hj hv'
    by_cases h2 : j - p < k
    ·rw [qbI (by omega)] at hj hv'
     exact lift (hd _ e v hj hv')
    ·rw [qbO (by omega), qcd] at hj hv'
     rw [hvl, hk] at hv'
     rw [hk, show p + k + (j - p - k) = j by omega] at hj
     rw [show p + k + (j - p - k) = j by omega] at hv'
     exact lift (e4 j e v hj hv')
end
end Go.Proofs.YtofklkbfkoliiaaGreat
namespace Go.Proofs.YtofklkbfkoliiaaGreat
set_option linter.unusedVariables false
set_option linter.unusedSimpArgs false
open Go.RowKit
theorem JN {e : TypeId} {sz : Nat} : ∀ s h, BlkOk s h (.arx e sz 0 []) → BlkOk s h (.arr e sz 0 []) := fun s h hk => by
 obtain ⟨vs, h1, h2, _⟩ := hk
 obtain rfl : vs = [] := qbU (by simpa using h2)
 exact h1
theorem Y2 {T : TypeId} {l l' : List D} (h : WkL l l') : ∀ s hd, BlkOk s hd (.mix T l) → BlkOk s hd (.mix T l') := fun s hd hk => by
 obtain ⟨b, vs, e1, e2, e3, e4⟩ := hk
 exact ⟨b, vs, e1, e2, by rw [e3, h.1], h.rep e4⟩
theorem WkL.app {a b c d : List D} (h : WkL a b) (k : WkL c d) : WkL (a ++ c) (b ++ d) := by
 refine ⟨by rw [qbz, qbz, h.1, k.1], fun j x y h1 h2 => ?_⟩
 by_cases hj : j < a.length
 ·rw [qbI hj] at h1
  rw [qbI (by rw [← h.1]; exact hj)] at h2
  exact h.2 j x y h1 h2
 ·rw [qbO (by omega)] at h1
  rw [qbO (by rw [← h.1]; omega), ← h.1] at h2
  exact k.2 _ x y h1 h2
section
variable {P : Program} {s0 : St} {n : Cx}
theorem Y3 {F : Fr} {M : List Blk} {a : Act} {w : World} {T e : TypeId} {p q i sz m : Nat} {l : List D} {L : List Value} (h : Inv s0 n F M a w) (hM : M[p]? = some (.mix T l)) (hq : l[q]? = some (.arr i)) (hi : M[i]? = some (.arr e sz m L)) : Inv s0 n F ((M.set i .gone).set p (.mix T (l.set q (.slf sz m L)))) a w := by
 obtain ⟨h0, s, rfl, rfl, h3, h4, h5, h6⟩ := h
 have hpl : p < s.M.length := (qbq.1 hM).1
 have hil : i < s.M.length := (qbq.1 hi).1
 have hpi : p ≠ i := fun e => by subst e; rw [hM] at hi; cases hi
 have hpl' : p < s.β.length := by rw [h3.ok.len]; exact hpl
 have hil' : i < s.β.length := by rw [h3.ok.len]; exact hil
 have hβi : s.β[i]? = some s.β[i] := qbr (by rw [h3.ok.len]; exact hil)
 have hβp : s.β[p]? = some s.β[p] := qbr (by rw [h3.ok.len]; exact hpl)
 obtain ⟨b, vs, e1, e2, e3, e4⟩ := h3.ok.blk p _ _ hM hβp
 have hql : q < l.length := (qbq.1 hq).1
 have hcell : vs[q]? = some s.β[i] := by
  have hv : vs[q]? = some vs[q] := qbr (by omega)
  have := e4 q _ _ hq hv
  rw [hv]
  generalize vs[q] = x at this
  cases this with
  | arr h => exact h.symm.trans hβi
 obtain ⟨I', tt, hrep⟩ := GS h3.ok hi (e4 q _ _ hq hcell)
 have hM2 : (s.M.set i .gone)[p]? = some (.mix T l) := by rw [qbC (Ne.symm hpi)]; exact hM
 have hset : s.β.set p s.β[p] = s.β := List.set_getElem_self ..
 have t2 : Tr ⟨s.β, I', s.M.set i .gone, s.w⟩ ⟨s.β, I', (s.M.set i .gone).set p (.mix T (l.set q (.slf sz m L))), s.w⟩ := by
  have hst := kV tt.ok p (s.M.set i .gone) s.β[p] (.mix T (l.set q (.slf sz m L))) s.w rfl (fun i k h => .inl h) (by simpa using hpl) (.inr (.inl hβp)) (by rw [e1]; simp) ?_ (fun b' hb' j kj hj hne h1 h2 h3' h4' => ?_) (fun b' hb' => .inr (qq hM2 rfl hβp hb')) (fun b' hb' => (tt.ok.lt b' (qq hM2 rfl hβp hb')).1) (fun _ => False) (fun _ h => h.elim) (fun b' hlt hne _ => rfl) rfl rfl rfl (qbM _)
  ·have hst' := hst
   simp only [hset] at hst'
   exact hst'
  ·refine ⟨b, vs, e1, e2, by simp [e3], fun j d v g1 g2 => ?_⟩
   have lift : ∀ {d v}, Rep s d v → Rep ⟨s.β.set p s.β[p], I', (s.M.set i .gone).set p (.mix T (l.set q (.slf sz m L))), s.w⟩ d v := fun hr => by
    rw [hset]
    exact Rep.mono' (s := ⟨s.β, I', s.M.set i .gone, s.w⟩) (s' := ⟨s.β, I', (s.M.set i .gone).set p (.mix T (l.set q (.slf sz m L))), s.w⟩) (fun _ _ h _ => h) (fun _ h => h) (fun _ _ => rfl) (hr.mono h3.ok tt)
   by_cases e : q = j
   ·subst e
    rw [qbG hql] at g1
    cases g1
    rw [hcell] at g2
    cases g2
    rw [hset]
    exact Rep.mono' (s := ⟨s.β, I', s.M.set i .gone, s.w⟩) (s' := ⟨s.β, I', (s.M.set i .gone).set p (.mix T (l.set q (.slf sz m L))), s.w⟩) (fun _ _ h _ => h) (fun _ h => h) (fun _ _ => rfl) hrep
   ·rw [qbC e] at g1
    exact lift (e4 j d v g1 g2)
  ·exact hne (tt.ok.inj j p kj _ hj _ b' h1 h2 h3' h4' hM2 rfl hβp hb')
 exact ⟨h0, ⟨s.β, I', (s.M.set i .gone).set p (.mix T (l.set q (.slf sz m L))), s.w⟩, rfl, rfl, (h3.trans tt).trans t2, fun x d hd => ((h4 x d hd).mono h3.ok tt).mono tt.ok t2, h5, (h6.mono h3.ok tt).mono tt.ok t2⟩
theorem Y4 {c : Code} {F : Fr} {M M' : List Blk} {K : Cont} (p q : Nat) {T e : TypeId} {i sz m : Nat} {l : List D} {L : List Value} (hM : M[p]? = some (.mix T l)) (hq : l[q]? = some (.arr i)) (hi : M[i]? = some (.arr e sz m L)) (hM' : (M.set i .gone).set p (.mix T (l.set q (.slf sz m L))) = M') (h : dwp P s0 n c F M' K) : dwp P s0 n c F M K := by
 subst hM'
 exact fun a w hj => h a w (Y3 hj hM hq hi)
end
theorem QV {s : St} (h : Ok s) : Tr s ⟨s.β, s.I, s.M.map fun _ => Blk.gone, s.w⟩ := by
 have hg : ∀ (i : Nat) k, (s.M.map fun _ => Blk.gone)[i]? = some k → k = .gone := fun i k hk => by
  rw [qca] at hk
  cases hm : s.M[i]? with
  | none => rw [hm] at hk; cases hk
  | some x => rw [hm] at hk; exact (qbw hk).symm
 have nl : ∀ b, ¬ Live ⟨s.β, s.I, s.M.map fun _ => Blk.gone, s.w⟩ b := by
  rintro b ⟨i, k, hd, h1, h2, h3, h4⟩
  rw [hg i k h1] at h2
  cases h2
 refine ⟨⟨by simp [h.len], fun i k hd h1 h2 => ?_, fun b hb => (nl b hb).elim, fun i j k k' hd hd' b a1 a2 _ _ _ _ _ _ => ?_, h.il⟩, hkeep.refl _, fun _ h => h, fun _ h => .inl h, fun _ _ _ => rfl, fun b hb => (nl b hb).elim, rfl, rfl, rfl, qbM _⟩
 ·rw [hg i k h1]
  trivial
 ·rw [hg i k a1] at a2
  cases a2
abbrev DPanL (P : Program) (f : FuncId) (args : List D) (Min : List Blk) (d : D) : Prop :=
 DCalls P f args Min (fun _ _ => False) (fun d' M' => d' = d ∧ M'.length = Min.length)
theorem DPanL.dead {P : Program} {f : FuncId} {args : List D} {Min : List Blk} {d : D} (h : DPanL P f args Min d) : DPan P f args Min d (Min.map fun _ => Blk.gone) := by
 refine ⟨h.1, fun s vs hok hM hr => (h.2 s vs hok hM hr).mono ?_⟩
 rintro e w' ⟨s', rfl, ht, hor⟩
 rcases hor with ⟨d0, v, _, _, hf⟩ | ⟨d0, v, rfl, hrep, rfl, hMo⟩
 ·exact hf.elim
 ·refine ⟨⟨s'.β, s'.I, s'.M.map fun _ => Blk.gone, s'.w⟩, rfl, ht.trans (QV ht.ok), .inr ⟨d0, v, rfl, Rep.mono' (s := s') (s' := ⟨s'.β, s'.I, s'.M.map fun _ => Blk.gone, s'.w⟩) (fun _ _ h _ => h) (fun _ h => h) (fun _ _ => rfl) hrep, rfl, ?_⟩⟩
  show (s'.M.map fun _ => Blk.gone) = Min.map fun _ => Blk.gone
  rw [List.map_const', List.map_const', hMo]
theorem vh {P : Program} {fn : Func} {F : Fr} {M : List Blk} {d d' dr : D} {m k : Nat} {Mo : List Blk} {post : D → List Blk → Prop} (σ : List Nat) (hσ : okσ m σ = true) (hv : vw σ jS M d = some d') (h : d' = dr) (hM : MFits σ jS M σ Mo) (hl : Mo.length = k) : DEnd P fn m post (fun d M => d = dr ∧ M.length = k) [] (some d) F M := .pan hσ hv hM ⟨h, hl⟩
end Go.Proofs.YtofklkbfkoliiaaGreat
namespace Go.Proofs.YtofklkbfkoliiaaGreat
set_option linter.unusedVariables false
set_option linter.unusedSimpArgs false
open Go.RowKit
section
variable {P : Program} {pc : Bool} {o : Oper} {F : Fr} {M : List Blk}
theorem uk {α : Type} {en : α → List Value} {sz : Nat} (hen : ∀ a, (en a).length = sz) : ∀ (r : List α) (m : Nat), (r.take m).flatMap en = (r.flatMap en).take (m * sz)
 | r, 0 => by simp
 | [], m + 1 => by simp
 | x :: r, m + 1 => by
  have e : (en x).take (sz + m * sz) = en x := qbT (by rw [hen]; omega)
  rw [List.take_succ_cons, qbJ, qbJ, uk hen r m, Nat.add_mul, Nat.one_mul, Nat.add_comm, List.take_append, e, hen, Nat.add_sub_cancel_left]
theorem zb {α : Type} {en : α → List Value} {r : List α} {T e : TypeId} {sz by' : Nat} {x lo hi mx : Operand} {k k' k'' : IntKind} {h h' h'' : Int} {i j : Nat} (ho : o.op = .slice T x (some lo) (some hi) (some mx)) (hT : slE P T = some (e, sz, by')) (hx : Ev pc F x (.slf sz r.length (r.flatMap en))) (hlo : Ev pc F lo (.val (.int k'' h''))) (hhi : Ev pc F hi (.val (.int k h))) (hmx : Ev pc F mx (.val (.int k' h')))
  (hl : pc = true → h'' = (i : Int)) (hh : pc = true → h = (j : Int)) (hm : pc = true → h' = (j : Int)) (hi : pc = true → i ≤ j ∧ j ≤ r.length) (hen : ∀ a, (en a).length = sz) : DOp P pc o F M [] (.slf sz ((r.drop i).take (j - i)).length (((r.drop i).take (j - i)).flatMap en)) [] := by
 intro hp a s hok hops _
 have hr := qu hp hx (by simp [ho, Op.operands]) hops
 have e0 := (qu hp hlo (by simp [ho, Op.operands]) hops).val_eq
 have e1 := (qu hp hhi (by simp [ho, Op.operands]) hops).val_eq
 have e2 := (qu hp hmx (by simp [ho, Op.operands]) hops).val_eq
 rw [hl hp] at e0
 rw [hh hp] at e1
 rw [hm hp] at e2
 obtain ⟨hij, hjr⟩ := hi hp
 obtain ⟨q1, ti, q2, q3, q4⟩ := kS hT
 have hlen : ((r.drop i).take (j - i)).length = j - i := by rw [qbS, qbZ]; omega
 generalize hv : a.eval x = vx at hr
 cases hr with
 | @slf _ _ cap ad _ hl hn hc ha hL =>
  have hjc : j ≤ cap := by omega
  have hic : i ≤ cap := by omega
  have hrun : (execOp a.eval o).run P s.w = .ok (.value (.slice (if j - i = 0 then ad else ad.map (·.add (i * sz))) (j - i) (j - i))) s.w := by
   unfold execOp
   simp only [ho, hv, Option.map_some, e0, e1, e2]
   refine k6 ?_
   simp [Instr.sliceAt, Instr.slice, run_underlying q1, Sem.run_bind, Instr.sliceBounds, Instr.sliceBound, asIntOf, hjc, hij, hic, sizeOf, typeInfo, q2, q3]
   congr 1
   exact propext ⟨fun h => by omega, fun h => by omega⟩
  refine qU hok hrun ?_
  rw [hlen]
  refine .slf (by rw [j3 hen, hlen]) (qbM _) (by omega) (fun e => ?_) ?_
  ·split at e
   ·assumption
   ·rw [Option.map_eq_none_iff] at e
    have := ha e; omega
  ·rcases hL with hL | ⟨b, q, e, hI, hcl⟩
   ·left
    rw [uk hen, uh hen, hL]; simp
   ·by_cases hz : j - i = 0
    ·left
     rw [qbU (hlen.trans hz)]; rfl
    ·right
     refine ⟨b, q + i * sz, by rw [if_neg hz, e, Option.map_some, Addr.add_mid], hI, ?_⟩
     rw [uk hen, uh hen]
     exact qN hcl (i * sz) ((j - i) * sz)
end
end Go.Proofs.YtofklkbfkoliiaaGreat
namespace Go.Proofs.YtofklkbfkoliiaaGreat
set_option linter.unusedVariables false
set_option linter.unusedSimpArgs false
open Go.RowKit
section
variable {P : Program}
theorem xk {F : Fence} {k : Nat} {P : Program} {l : Nat} {f : FuncId} {fn : Func} {tmps : Array Value} {assign body : Code} {w : World} {R : Ending → World → Prop} (hF : F.fn f) (hf : P.funcs[f]? = some fn)
  (h : assign.wpIn (F.inRound l) k P (Exit.then (fun a₁ w₁ => ∃ w₂, (Instr.beginRound l).run P w₁ = .ok () w₂ ∧ body.wpIn (F.inRound l) k P (fun e a w => ∃ ch, e = .panic ch ∧ a.defers = [] ∧ R (.panicked ch) w) a₁ w₂) (fun _ _ _ => False))
   { tmps := tmps, defers := [] } w) :
  RoundIn F k P l f tmps assign body w R := by
 refine ⟨hF, fun c cs hr => ?_⟩
 let b : Frame := { (default : Frame) with fn := f, kind := .normal, roundOf := some l }
 have hb0 : Frame.round l f tmps assign body .normal = b.atR { tmps := tmps, defers := [] } [.code assign, .beginRound, .code body] := by
  simp [Frame.round, Frame.atR, b]
 have hr' : (F.inRound l).room ((c :: cs).length + 1 + k) := hr
 have hF' : (F.inRound l).fn b.fn := hF
 obtain ⟨e, a₁, w₁, hq, harr⟩ := h b [.beginRound, .code body] (c :: cs) rfl hF' hr'
 rw [← hb0] at harr
 cases e with
 | normal =>
  obtain ⟨w₂, hbr, hbody⟩ := hq
  have s1 : StepsIn (Machine.fenced P (F.inRound l)) P (lone (b.atR a₁ [.beginRound, .code body]) (c :: cs) w₁) (lone (b.atR a₁ [.code body]) (c :: cs) w₂) :=
   .one (fenced_calm (fr := b.atR a₁ [.beginRound, .code body]) hF' hr' rfl) (stepR_beginRound rfl hbr)
  obtain ⟨e₂, a₂, w₃, ⟨ch, rfl, hd, hR⟩, harr₂⟩ := hbody b [] (c :: cs) rfl hF' hr'
  obtain ⟨todo, hs⟩ := harr₂
  exact ⟨.panicked ch, w₃, hR, (StepsIn.trans harr s1).trans (StepsIn.trans hs (.one (fenced_calm hF' hr' (by simp [Frame.about, Frame.atR, hd])) (step_leave_panicked ⟨rfl, hd, fn, hf⟩)))⟩
 | exit id => exact hq.elim
 | goto t => exact hq.elim
 | ret => exact hq.elim
 | panic chain => exact hq.elim
 | outgrown => exact hq.elim
theorem GU {s0 s : St} {ds : List Deferred} (h : DfOk s0 s false [] ds) : ds = [] := by
 cases h with
 | nil => rfl
 | mark hmk => cases hmk
def DRoundP (P : Program) (i : Nat) (args : List D) (Min : List Blk) (d : D) (Mout : List Blk) : Prop :=
 ∀ (s : St) (vs : List Value) (l : Nat), Ok s → s.M = Min → s.β[i]? = some (.pointer (some ⟨l, 0, none⟩)) → Reps s args vs →
  ∃ f tmps asg body, (Instr.yield l vs.toArray).run P s.w = .ok (.round l f tmps asg body) s.w ∧
   RoundIn Fence.wide 0 P l f tmps asg body s.w fun e w' => ∃ s' v, e = .panicked [{ v := v, recovered := false }] ∧ s'.w = w' ∧ Tr s s' ∧ s'.M = Mout ∧ Rep s' d v
def KrndP (m : Nat) (d : D) : Cont
 | .panic d0, _, M => ∃ σ Mo, okσ m σ = true ∧ vw σ jS M d0 = some d ∧ MFits σ jS M σ Mo ∧ Mo.length = m
 | _, _, _ => False
theorem Y5 {d : D} {fk : FuncId} {gk : Func} {i N : Nat} {F F1 : Fr} {ps : Array Tmp} {asg body : Code} {args : List D} {Min : List Blk} (m : Nat) (hfn : P.funcs[fk]? = some gk) (hMi : Min[i]? = some (.lp (some fk) N F ps asg body .ready none)) (hps : ps.size = args.length) (hpN : ps.all (fun p => qcj p N) = true) (hF : VL ps.toList args F = F1) (hm : Min.length = m)
  (h : ∀ s0 : St, s0.M.length ≤ m → dwp P s0 ⟨N, some i, m, [], false⟩ asg F1 Min (Kseq (fun F2 M2 => M2[i]? = some (.lp (some fk) N F ps asg body .ready none) ∧ dwp P s0 ⟨N, some i, m, [], false⟩ body F2 (M2.set i (.lp (some fk) N F ps asg body .busy none)) (KrndP m d)) (fun _ _ _ => False))) :
  DRoundP P i args Min d (Min.map fun _ => Blk.gone) := by
 subst hm hF
 intro s vs l hok hM hβ hr
 subst hM
 obtain ⟨l', fn, tmps, Df, e1, e2, e3, e4⟩ := hok.blk i _ _ hMi hβ
 cases e1
 replace e2 : s.w.heap[l]? = some (yf fk tmps Df ps asg body .ready none) := e2
 have hrun := run_yield (P := P) (args := vs.toArray) e2 (by simp [hr.1, hps])
 refine ⟨fk, _, asg, body, hrun, xk trivial hfn ?_⟩
 have hρ : (Cx.mk N (some i) s.M.length [] false).ρ s = some l := by simp [Cx.ρ, hβ]
 have hs := h s (qbM _)
 have hset := JC (s := s) ps.toList args vs F { tmps, defers := [] } hr (by simpa using hps) (fun p hp => by
  have := Array.all_eq_true_iff_forall_mem.1 hpN p (by simpa using hp)
  rw [e3]; exact Nat.blt_eq.mp this) e4
 have hz : (ps.zip vs.toArray).foldl (fun t (p, v) => t.setIfInBounds p v) tmps = (ps.toList.zip vs).foldl (fun t (p, v) => t.setIfInBounds p v) tmps := by
  rw [← Array.foldl_toList]; simp
 rw [hz]
 have hinv : Inv s ⟨N, some i, s.M.length, [], false⟩ (VL ps.toList args F) s.M { tmps := (ps.toList.zip vs).foldl (fun t (p, v) => t.setIfInBounds p v) tmps, defers := [] } s.w :=
  ⟨hok, s, rfl, rfl, Tr.refl hok, hset.1, hset.2.trans e3, .nil⟩
 have h1 := hs _ _ hinv
 rw [hρ] at h1
 refine wpIn_mono h1 ?_
 intro e a w hp
 cases e with
 | normal =>
  obtain ⟨F2, M2, ⟨h0, s1, q1, q2, q3, q4, q5, q6⟩, hM2, hbody⟩ := hp
  subst q2
  have hβ1 := q3.hnd.1 i _ hβ (by simp) (by simp)
  have hM1 : s1.M[i]? = some (.lp (some fk) N F ps asg body .ready none) := by rw [q1]; exact hM2
  obtain ⟨l1, fn1, tmps1, Df1, g1, g2, g3, g4⟩ := q3.ok.blk i _ _ hM1 hβ1
  cases g1
  have ht := JB q3.ok .busy none hM1 hβ1 g2 g3 g4
  refine ⟨_, run_beginRound g2 rfl, ?_⟩
  have hb := hbody a _ ⟨h0, ⟨s1.β, s1.I, s1.M.set i (.lp (some fk) N F ps asg body .busy none), s1.w.putObj l (yf ((some fk).getD fn1) tmps1 Df1 ps asg body .busy none)⟩, by rw [q1], rfl, q3.trans ht, q4.mono q3.ok ht, q5, q6.mono q3.ok ht⟩
  rw [hρ] at hb
  refine wpIn_mono hb ?_
  intro e a w hp
  cases e with
  | normal => obtain ⟨_, _, _, hk⟩ := hp; exact hk.elim
  | ret => obtain ⟨_, _, _, hk⟩ := hp; exact hk.elim
  | exit id => obtain ⟨_, _, _, hk⟩ := hp; exact hk.elim
  | goto id => obtain ⟨_, _, _, hk⟩ := hp; exact hk.elim
  | panic ch =>
   obtain ⟨F3, M3, d3, ⟨h03, s3, v3, r0, r1, r2, r3, r4, r5, r6⟩, σ, Mo, hσ, hv, hMo, hlo⟩ := hp
   subst r0 r1
   obtain ⟨rfl, r7⟩ := r6
   have tv := vq hok r2 (jd σ Mo hMo) (qbM _) hσ
   have hr := j8 (M' := Mo) r2.ok r7 d hv
   refine ⟨_, rfl, GU r5, ⟨(vst s3 σ jS Mo).β, (vst s3 σ jS Mo).I, (vst s3 σ jS Mo).M.map fun _ => Blk.gone, (vst s3 σ jS Mo).w⟩, v3, rfl, rfl, tv.trans (QV tv.ok), ?_, Rep.mono' (s := vst s3 σ jS Mo) (s' := ⟨(vst s3 σ jS Mo).β, (vst s3 σ jS Mo).I, (vst s3 σ jS Mo).M.map fun _ => Blk.gone, (vst s3 σ jS Mo).w⟩) (fun _ _ h _ => h) (fun _ h => h) (fun _ _ => rfl) hr⟩
   show (Mo.map fun _ => Blk.gone) = s.M.map fun _ => Blk.gone
   rw [List.map_const', List.map_const', hlo]
  | outgrown => exact hp.elim
 | ret => obtain ⟨_, _, _, hk⟩ := hp; exact hk
 | exit id => obtain ⟨_, _, _, hk⟩ := hp; exact hk
 | goto id => obtain ⟨_, _, _, hk⟩ := hp; exact hk
 | panic ch => obtain ⟨_, _, _, _, hk⟩ := hp; exact hk
 | outgrown => exact hp
theorem op_yP {pc : Bool} {o : Oper} {F : Fr} {M Min Mout : List Blk} {x : Operand} {asx : List Operand} {tys : Array TypeId} {ds cargs : List D} {i j : Nat} {d0 d : D} {wr : List (Nat × Blk)} (σ V ν : List Nat)
  (ho : o.op = .call { callee := .value x, args := asx.toArray, argTypes := tys }) (hx : Ev pc F x (.yld j)) (hds : EvL pc F asx ds) (hij : σ[i]? = some j)
  (hc : vwL σ (fun i => V.contains i) M ds = some cargs) (hMin : gl σ (fun i => V.contains i) M σ = some Min) (hy : DRoundP P i cargs Min d0 Mout)
  (hlive : Min.all (·.live) = true) (hn : decide (σ ++ ν).Nodup = true) (hν : ν.all (fun i => match M[i]? with | some .hole => true | _ => false) = true)
  (hwr : yt (σ ++ ν) (σ ++ ν) Mout = some wr) (hd : sb (σ ++ ν) d0 = some d) (hfl : (V.isEmpty || (d0.fl && Mout.all (·.fl))) = true) : DOpP P pc o F M (σ ++ V ++ ν) d wr := by
 intro hp a s hok hops hfp
 have hVM : ∀ i, V.contains i = true → M[i]? = s.M[i]? := fun i hi => (hfp i (by simp at hi; simp [hi])).symm
 rw [gm hVM] at hc
 rw [vu hVM σ (fun i hi => (hfp i (by simp [hi])).symm)] at hMin
 have hopx : x ∈ o.op.operands ∧ ∀ y ∈ asx, y ∈ o.op.operands := by rw [ho]; simp [Op.operands, Call.operands]; intro y hy; exact .inr hy
 obtain ⟨dx, ex1, ex2⟩ := hx
 have hrx := ex2 s _ hp (hops x hopx.1 dx ex1)
 generalize hvx : a.eval x = vx at hrx
 cases hrx with
 | @yld _ l hβ =>
  have hn' : (σ ++ ν).Nodup := of_decide_eq_true hn
  have hreps := gv (a := a) (s := s) hp asx ds hds (fun y hy => hops y (hopx.2 y hy))
  have hreps' := JA (Min := Min) hok hreps hc
  obtain ⟨f, tmps, asg, body, e1, e2⟩ := hy (vst s σ (fun i => V.contains i) Min) (asx.map a.eval) l (vp hok hMin (List.nodup_append.1 hn').1) rfl (jj hij hβ) hreps'
  rw [KG ho hvx]
  have e1' : Sem.run P (Instr.yield l (asx.map a.eval).toArray) s.w = .ok (.round l f tmps asg body) s.w := e1
  rw [e1']
  refine ⟨rfl, RoundIn.mono e2 ?_⟩
  rintro e w'' ⟨s2, v, rfl, rfl, ht2, hM2, hrd⟩
  have hν' : ∀ i ∈ ν, s.M[i]? = some .hole := fun i hi => by
   have h1 := qbX.1 hν i hi
   rw [hfp i (by simp [hi])]
   split at h1
   ·rename_i h2; exact h2
   ·cases h1
  obtain ⟨q1, q2⟩ := gD (M3 := upd s.M wr) hok hMin hlive hn' hν' ht2 hM2 hwr rfl (fun h => (flV hfl h).2)
  exact ⟨back s s2 σ (fun i => V.contains i) ν (upd s.M wr), v, rfl, rfl, q1, rfl, q2 d0 v d hrd (fun h => (flV hfl h).1) hd⟩
section
variable {s0 : St} {n : Cx} {ops : Array Oper}
def uR (P : Program) (f : FuncId) (s0 : St) (n : Cx) (c : Code) (F : Fr) (M : List Blk) (K : Cont) : Prop :=
 ∀ a w, Inv s0 n F M a w → ∀ (b : Frame) (k : List Item) (cs : List Frame), b.roundOf = (wd (n.ρ s0)).round → b.fn = f →
  ∃ e a' w', PostK s0 n K e a' w' ∧ ArrivesIn (Machine.fenced P (wd (n.ρ s0))) P (lone (b.atR a (.code c :: k)) cs w) b k cs e a' w'
theorem gP {f : FuncId} {c : Code} {F : Fr} {M : List Blk} {K : Cont} (h : dwp P s0 n c F M K) : uR P f s0 n c F M K :=
 fun a w hi b k cs hro _ => h a w hi b k cs hro trivial (yg _ _)
theorem j4 {f : FuncId} {x y : Code} {F : Fr} {M : List Blk} {K : Cont} (h : uR P f s0 n x F M (Kseq (fun F M => uR P f s0 n y F M K) K)) : uR P f s0 n (.seq x y) F M K := by
 intro a w hi b k cs hro hb
 have h0 : (lone (b.atR a (.code (.seq x y) :: k)) cs w).fenced P (wd (n.ρ s0)) := jJ
 obtain ⟨e, a₁, w₁, hq, harr⟩ := h a w hi b (.code y :: k) cs hro hb
 cases e with
 | normal =>
  obtain ⟨F', M', hi', hk⟩ := hq
  obtain ⟨e₂, a₂, w₂, hq₂, harr₂⟩ := hk a₁ w₁ hi' b k cs hro hb
  exact ⟨e₂, a₂, w₂, hq₂, .of_steps (.head h0 stepR_seq harr) harr₂⟩
 | exit id => exact ⟨.exit id, a₁, w₁, hq, .of_steps (.one h0 stepR_seq) (.pass (x := .code y) rfl (fun _ _ => .inl (by simp)) harr)⟩
 | goto l => exact ⟨.goto l, a₁, w₁, hq, .of_steps (.one h0 stepR_seq) (.pass (x := .code y) rfl (fun _ _ => .inl (by simp)) harr)⟩
 | ret => exact ⟨.ret, a₁, w₁, hq, .of_steps (.one h0 stepR_seq) (.pass (x := .code y) rfl (fun _ _ => .inl (by simp)) harr)⟩
 | panic ch => exact ⟨.panic ch, a₁, w₁, hq, .of_steps (.one h0 stepR_seq) (.pass (x := .code y) rfl (fun _ _ => .inl (by simp)) harr)⟩
 | outgrown => exact hq.elim
theorem zL {f : FuncId} {id : Nat} {c : Code} {F : Fr} {M : List Blk} {K : Cont} (h : uR P f s0 n c F M (Kblk id K)) : uR P f s0 n (.block id c) F M K := by
 intro a w hi b k cs hro hb
 have h0 : (lone (b.atR a (.code (.block id c) :: k)) cs w).fenced P (wd (n.ρ s0)) := jJ
 obtain ⟨e, a₁, w₁, hq, harr⟩ := h a w hi b (.inBlock id :: k) cs hro hb
 cases e with
 | normal => exact ⟨.normal, a₁, w₁, hq, .head h0 stepR_block (StepsIn.trans harr (.one jJ stepR_inBlock))⟩
 | exit id' =>
  by_cases hid : id' = id
  ·obtain ⟨F', M', h1, h2⟩ := hq
   simp only [Kblk, hid, if_true] at h2
   exact ⟨.normal, a₁, w₁, ⟨F', M', h1, h2⟩, .head h0 stepR_block (harr.1 k (by simp [exitTo, hid]))⟩
  ·obtain ⟨F', M', h1, h2⟩ := hq
   simp only [Kblk, hid, if_false] at h2
   have this : (id == id') = false := by simp; exact fun h => hid h.symm
   have hx : exitTo id' (.inBlock id :: k) = exitTo id' k := by simp [exitTo, this]
   exact ⟨.exit id', a₁, w₁, ⟨F', M', h1, h2⟩, fun k' hk => .head h0 stepR_block (harr.1 k' (by rw [hx]; exact hk)),
    fun hr' hk => let ⟨k₁, h1, h2⟩ := harr.2 hr' (by rw [hx]; exact hk); ⟨k₁, h1, .head h0 stepR_block h2⟩⟩
 | goto l =>
  have hx : gotoIn l (.inBlock id :: k) = gotoIn l k := by simp [gotoIn]
  exact ⟨.goto l, a₁, w₁, hq, fun k' hk => .head h0 stepR_block (harr.1 k' (by rw [hx]; exact hk)),
   fun hr' hk => let ⟨k₁, h1, h2⟩ := harr.2 hr' (by rw [hx]; exact hk); ⟨k₁, h1, .head h0 stepR_block h2⟩⟩
 | ret => exact ⟨.ret, a₁, w₁, hq, .of_steps (.one h0 stepR_block) harr⟩
 | panic ch => exact ⟨.panic ch, a₁, w₁, hq, .of_steps (.one h0 stepR_block) harr⟩
 | outgrown => exact hq.elim
theorem QW {fk : FuncId} {g : Operand} {ps : Array Tmp} {asg body : Code} {F FL : Fr} {M M1 Min : List Blk} {K : Cont} {f : FuncId} {first caps cargs : List D} {post pan : D → List Blk → Prop} (σ V ν : List Nat) (j : Nat)
  (hr : n.r = none) (hmk : n.mks = true) (hg : Ev true F g (.fn (.func f) first caps)) (hj : M[j]? = some .hole) (hFL : ∀ t d, lk FL t = some d → lk F t = some d) (hM1 : M.set j (.lp (some fk) n.n FL ps asg body .ready none) = M1)
  (hc : vwL σ (fun i => V.contains i) M1 (first ++ [.yld j] ++ caps) = some cargs) (hMin : gl σ (fun i => V.contains i) M1 σ = some Min) (hf : DCalls P f cargs Min post pan)
  (hlive : Min.all (·.live) = true) (hn : decide (σ ++ ν).Nodup = true) (hν : ν.all (fun i => match M1[i]? with | some .hole => true | _ => false) = true)
  (hpost : ∀ d Mout, post d Mout → ∃ wr M2 st pe, yt (σ ++ ν) (σ ++ ν) Mout = some wr ∧ (V.isEmpty || Mout.all (·.fl)) = true ∧ upd M1 wr = M2 ∧ M2[j]? = some (.lp (some fk) n.n FL ps asg body st pe) ∧ st ≠ .busy ∧
   (pe = none → K .normal F (M2.set j .gone)) ∧ (∀ c, pe = some c → dwp P s0 n c F (M2.set j .gone) K))
  (hpan : ∀ d Mout, pan d Mout → ∃ wr M2 d1, yt (σ ++ ν) (σ ++ ν) Mout = some wr ∧ (V.isEmpty || (d.fl && Mout.all (·.fl))) = true ∧ upd M1 wr = M2 ∧ sb (σ ++ ν) d = some d1 ∧ K (.panic d1) F M2) :
  uR P fk s0 n (.rangeFunc g ps asg body) F M K := by
 intro a w hi b k cs hro hbf
 have hρ : n.ρ s0 = none := by unfold Cx.ρ; rw [hr]
 rw [hρ] at hro ⊢
 have hb : (wd none).fn b.fn := trivial
 obtain ⟨l, mark, w₁, d, w₁', f, args, w₂, he, hres, hlead, hinv, hn1, hF, hcall⟩ := QA (fn := b.fn) (by rw [hbf]; rfl) σ V ν j hr hmk hg hj hFL hM1 hc hMin hf hlive hn hν hpost hpan a w hi
 rw [← hro] at he
 have h0 : (lone (b.atR a (.code (.rangeFunc g ps asg body) :: k)) cs w).fenced P (wd none) := jJ
 have henter := stepR_rangeFunc (P := P) (b := b) (a := a) (k := k) (cs := cs) (w := w) he hres hinv
 obtain ⟨e, w₃, fr, hR, hsteps, hfn, hleave⟩ := hcall (b.atR { a with defers := mark ++ a.defers } (.inRangeFunc l :: k) :: cs) (yg _ _)
 cases e with
 | outgrown =>
  obtain ⟨a₀, w₀, hq⟩ := hR
  exact hq.elim
 | returned v =>
  have hl : (lone fr (b.atR { a with defers := mark ++ a.defers } (.inRangeFunc l :: k) :: cs) w₃).fenced P (wd none) := jJ
  obtain ⟨jump, w₄, hend, hj⟩ := hR
  have sback : StepsIn (Machine.fenced P (wd none)) P (lone (b.atR a (.code (.rangeFunc g ps asg body) :: k)) cs w) (lone (b.atR { a with defers := mark ++ a.defers } ((jump.map Item.code).toList ++ k)) cs w₄) := by
   refine .head h0 henter (StepsIn.trans hsteps (.head hl ?_ (.one jJ (stepR_endRangeFunc hend))))
   rw [← finish_atR_inRangeFunc l v]; exact step_leave_returned hleave
  cases jump with
  | none => exact ⟨.normal, _, w₄, hj, sback⟩
  | some c =>
   obtain ⟨e', a'', w₅, hq, harr⟩ := hj b k cs hro hb (yg _ _)
   exact ⟨e', a'', w₅, hq, .of_steps sback harr⟩
 | panicked chain =>
  have hl : (lone fr (b.atR { a with defers := mark ++ a.defers } (.inRangeFunc l :: k) :: cs) w₃).fenced P (wd none) := jJ
  refine ⟨.panic chain, _, w₃, hR, .inRangeFunc l :: k, .head h0 henter (StepsIn.trans hsteps (.one hl ?_))⟩
  rw [← Frame.raise_atR]; exact step_leave_panicked hleave
theorem zM {f : FuncId} {c : Code} {F : Fr} {M : List Blk} {K : Cont} (h : uR P f s0 n c F M (Kng K)) : uR P f s0 n (.scope c) F M K := by
 intro a w hi b k cs hro hb
 obtain ⟨e, a₁, w₁, hq, harr⟩ := h a w hi b (.inScope c :: k) cs hro hb
 have f : ∀ (m : Machine), m.fenced P (wd (n.ρ s0)) := fun _ => jJ
 cases e with
 | normal => exact ⟨.normal, a₁, w₁, hq, .head (f _) jb (StepsIn.trans harr (.one (f _) wh))⟩
 | exit id => exact ⟨.exit id, a₁, w₁, hq, fun k' hk => .head (f _) jb (harr.1 k' (by simp [exitTo, hk])), fun h1 h2 => by
   obtain ⟨k1, h3, h4⟩ := harr.2 h1 (by simp [exitTo, h2])
   exact ⟨k1, h3, .head (f _) jb h4⟩⟩
 | goto l => obtain ⟨_, _, _, hk⟩ := hq; exact hk.elim
 | ret => exact ⟨.ret, a₁, w₁, hq, .of_steps (.one (f _) jb) harr⟩
 | panic ch => exact ⟨.panic ch, a₁, w₁, hq, .of_steps (.one (f _) jb) harr⟩
 | outgrown => exact hq.elim
theorem KV {f : FuncId} {c : Code} {F : Fr} {M : List Blk} {K : Cont} (h : uR P f s0 n c F (M ++ [.hole]) K) : uR P f s0 n c F M K := fun a w hi => h a w (zp hi)
theorem UC {fk : FuncId} {g : Operand} {ps : Array Tmp} {asg body : Code} {F FL : Fr} {M M1 M2 Min Mout : List Blk} {K : Cont} {f : FuncId} {first caps cargs : List D} {d0 : D} {wr : List (Nat × Blk)} {st : LoopState} {pe : Option Code} (σ V ν : List Nat) (j : Nat)
  (hr : n.r = none) (hmk : n.mks = true) (hg : Ev true F g (.fn (.func f) first caps)) (hj : M[j]? = some .hole) (hFL : ∀ t d, lk FL t = some d → lk F t = some d) (hM1 : M.set j (.lp (some fk) n.n FL ps asg body .ready none) = M1)
  (hc : vwL σ (fun i => V.contains i) M1 (first ++ [.yld j] ++ caps) = some cargs) (hMin : gl σ (fun i => V.contains i) M1 σ = some Min) (hf : DFun P f cargs Min d0 Mout)
  (hlive : Min.all (·.live) = true) (hn : decide (σ ++ ν).Nodup = true) (hν : ν.all (fun i => match M1[i]? with | some .hole => true | _ => false) = true)
  (hwr : yt (σ ++ ν) (σ ++ ν) Mout = some wr) (hfl : (V.isEmpty || Mout.all (·.fl)) = true) (hM2 : upd M1 wr = M2) (hj2 : M2[j]? = some (.lp (some fk) n.n FL ps asg body st pe)) (hst : st ≠ .busy)
  (hk0 : pe = none → K .normal F (M2.set j .gone)) (hk1 : ∀ c, pe = some c → dwp P s0 n c F (M2.set j .gone) K) : uR P fk s0 n (.rangeFunc g ps asg body) F M K :=
 QW σ V ν j hr hmk hg hj hFL hM1 hc hMin hf hlive hn hν (by rintro d Mo ⟨rfl, rfl⟩; exact ⟨wr, M2, st, pe, hwr, hfl, hM2, hj2, hst, hk0, hk1⟩) (fun _ _ h => h.elim)
theorem UD {fk : FuncId} {g : Operand} {ps : Array Tmp} {asg body : Code} {F FL : Fr} {M M1 M2 Min Mout : List Blk} {K : Cont} {f : FuncId} {first caps cargs : List D} {d0 d1 : D} {wr : List (Nat × Blk)} (σ V ν : List Nat) (j : Nat)
  (hr : n.r = none) (hmk : n.mks = true) (hg : Ev true F g (.fn (.func f) first caps)) (hj : M[j]? = some .hole) (hFL : ∀ t d, lk FL t = some d → lk F t = some d) (hM1 : M.set j (.lp (some fk) n.n FL ps asg body .ready none) = M1)
  (hc : vwL σ (fun i => V.contains i) M1 (first ++ [.yld j] ++ caps) = some cargs) (hMin : gl σ (fun i => V.contains i) M1 σ = some Min) (hf : DPan P f cargs Min d0 Mout)
  (hlive : Min.all (·.live) = true) (hn : decide (σ ++ ν).Nodup = true) (hν : ν.all (fun i => match M1[i]? with | some .hole => true | _ => false) = true)
  (hwr : yt (σ ++ ν) (σ ++ ν) Mout = some wr) (hfl : (V.isEmpty || (d0.fl && Mout.all (·.fl))) = true) (hM2 : upd M1 wr = M2) (hd : sb (σ ++ ν) d0 = some d1) (hk : K (.panic d1) F M2) : uR P fk s0 n (.rangeFunc g ps asg body) F M K :=
 QW σ V ν j hr hmk hg hj hFL hM1 hc hMin hf hlive hn hν (fun _ _ h => h.elim) (by rintro d Mo ⟨rfl, rfl⟩; exact ⟨wr, M2, d1, hwr, hfl, hM2, hd, hk⟩)
end
section
variable {s0 : St} {n : Cx}
theorem qak {F : Fr} {M : List Blk} {a : Act} {w : World} {t j : Nat} {e : TypeId} {sz m : Nat} {L : List Value} (h : Inv s0 n F M a w) (ht : lk F t = some (.arr j)) (hj : M[j]? = some (.arr e sz m L)) : Inv s0 n ((t, .arr M.length) :: F) (M.set j .gone ++ [.arr e sz m L]) a w := by
 obtain ⟨h0, s, rfl, rfl, h3, h4, h5, h6⟩ := h
 have t1 := gZ h3.ok
 have hlen := h3.ok.len
 have hjl := (qbq.1 hj).1
 obtain ⟨y, hy⟩ : ∃ y, s.β[j]? = some y := ⟨_, qbr (by omega)⟩
 have hb := h3.ok.blk j _ y hj hy
 have hsl : ∃ ad n' c, y = .slice ad n' c := by
  have hr := h4 t _ ht
  generalize hv : ju a t = v at hr
  cases hr with
  | @arr _ ad n' c hβ => rw [hy] at hβ; exact ⟨ad, n', c, qbw hβ⟩
 obtain ⟨ad, n', c, rfl⟩ := hsl
 have hy1 : (s.β ++ [Value.nilFunc])[j]? = some (.slice ad n' c) := by rw [qbI (by omega)]; exact hy
 have hj1 : (s.M ++ [Blk.hole])[j]? = some (.arr e sz m L) := by rw [qbI hjl]; exact hj
 have eM : ((s.M ++ [Blk.hole]).set j .gone).set s.M.length (.arr e sz m L) = s.M.set j .gone ++ [.arr e sz m L] := by
  rw [List.set_append_left _ _ hjl, List.set_append_right _ _ (by simp)]
  simp
 have eβ : (s.β ++ [Value.nilFunc]).set s.M.length (.slice ad n' c) = s.β ++ [.slice ad n' c] := by
  rw [← hlen, List.set_append_right _ _ (qbM _)]
  simp
 have t2 := kV t1.ok s.M.length ((s.M ++ [Blk.hole]).set j .gone) (.slice ad n' c) (.arr e sz m L) s.w (by simp) (fun i k hk => by
   by_cases e' : j = i
   ·subst e'; rw [qbG (by simp; omega)] at hk; exact .inr (qbw hk).symm
   ·rw [qbC e'] at hk; exact .inl hk) (by simp) (.inl (by simp [hlen])) (by simp) hb
  (fun b hb' i k h hne hk hl hh ho => by
   by_cases e' : j = i
   ·subst e'; rw [qbG (by simp; omega)] at hk; obtain rfl := qbw hk; cases hl
   ·rw [qbC e'] at hk
    exact e' (t1.ok.inj j i _ k _ h b hj1 rfl hy1 hb' hk hl hh ho))
  (fun b hb' => .inr (qq hj1 rfl hy1 hb')) (fun b hb' => (t1.ok.lt b (qq hj1 rfl hy1 hb')).1) (fun _ => False) (fun _ h => h.elim) (fun _ _ _ _ => rfl) rfl rfl rfl (qbM _)
 have tt := t1.trans t2
 simp only [eM, eβ] at tt
 refine ⟨h0, ⟨s.β ++ [.slice ad n' c], s.I, s.M.set j .gone ++ [.arr e sz m L], s.w⟩, rfl, rfl, h3.trans tt, fun z d hd => ?_, h5, h6.mono h3.ok tt⟩
 rw [jx] at hd
 split at hd
 ·rename_i e'
  subst e'
  obtain rfl := qbw hd
  have hr := h4 t _ ht
  generalize hv : ju a t = v at hr
  cases hr with
  | @arr _ ad2 n2 c2 hβ =>
   rw [hy] at hβ
   obtain ⟨rfl, rfl, rfl⟩ := Value.slice.inj (qbw hβ)
   exact .arr (by show (s.β ++ [_])[s.M.length]? = _; rw [← hlen]; simp)
 ·exact (h4 z d hd).mono h3.ok tt
theorem qal {c : Code} {F : Fr} {M M' : List Blk} {K : Cont} (t : Nat) {m' j : Nat} {e : TypeId} {sz m : Nat} {L : List Value} (ht : lk F t = some (.arr j)) (hj : M[j]? = some (.arr e sz m L)) (hm : M.length = m') (hM' : M.set j .gone ++ [.arr e sz m L] = M') (h : dwp P s0 n c ((t, .arr m') :: F) M' K) : dwp P s0 n c F M K := by
 subst hM' hm
 exact fun a w hi => h a w (qak hi ht hj)
end
theorem zN {f : FuncId} {fn : Func} {c : Code} {args : List D} {F0 : Fr} {Min : List Blk} {post pan : D → List Blk → Prop} {N : Nat} (m : Nat) (hcb : yW P f = true) (hf : P.funcs[f]? = some fn) (hc : fn.body = some c) (hn : fn.ntmps = N) (hle : Nat.ble args.length N = true) (hF : fr0 0 args = F0) (hm : Min.length = m)
  (h : ∀ s0 : St, s0.M.length ≤ m → uR P f s0 ⟨N, none, m, [], true⟩ c F0 Min (Kret P fn m [] post pan)) : DCalls P f args Min post pan := by
 subst hF hm
 refine ⟨hcb, ?_⟩
 intro s vs ho hM hr
 obtain ⟨hl, hr⟩ := hr
 have hle := qbA hle
 have hslot : ∀ t d, lk (fr0 0 args) t = some d → Rep s d (ju { tmps := vs.toArray ++ qb8 (fn.ntmps - vs.toArray.size) undef, defers := [] } t) := by
  intro t d hd
  obtain ⟨_, h2⟩ := xc args 0 t d hd
  simp only [Nat.sub_zero] at h2
  have hlt : t < args.length := (qbq.1 h2).1
  have hv : vs[t]? = some vs[t] := qbr (by omega)
  have : ju { tmps := vs.toArray ++ qb8 (fn.ntmps - vs.toArray.size) undef, defers := [] } t = vs[t] := by
   unfold ju
   simp only [Array.getD_eq_getD_getElem?]
   rw [Array.getElem?_append_left (by simp; omega)]
   simp [show t < vs.length by omega]
  rw [this]
  exact hr t d _ h2 hv
 refine (callsIn_wide (n := 0)).1 ⟨trivial, fun cs hrm => ?_⟩
 let b : Frame := { (default : Frame) with fn := f, kind := .normal, roundOf := none }
 have henter : Frame.enter P f vs.toArray .normal =
   b.atR { tmps := vs.toArray ++ qb8 (fn.ntmps - vs.toArray.size) undef, defers := [] } [.code c] := by
  simp [Frame.enter, Frame.atR, hf, hc, b]
 obtain ⟨e, a', w', hq0, harr⟩ := h s (by rw [hM]; exact qbM _) _ _ ⟨ho, s, hM, rfl, Tr.refl ho, hslot, by simp; omega, .nil⟩ b [] cs rfl rfl
 have hq : bodyPostM Fence.wide 0 P fn (Lv s post pan) e a' w' := by
  cases e with
  | normal => obtain ⟨F, M, ⟨h0, s1, q1, q2, q3, q4, q5, q6⟩, hk⟩ := hq0; subst q1 q2; exact vt h0 (by rw [hM]; exact qbM _) a' _ _ none _ _ _ q6 q3 q4 rfl hk
  | ret => obtain ⟨F, M, ⟨h0, s1, q1, q2, q3, q4, q5, q6⟩, hk⟩ := hq0; subst q1 q2; exact vt h0 (by rw [hM]; exact qbM _) a' _ _ none _ _ _ q6 q3 q4 rfl hk
  | exit id => obtain ⟨_, _, _, hk⟩ := hq0; exact hk
  | goto l => obtain ⟨_, _, _, hk⟩ := hq0; exact hk
  | panic ch => obtain ⟨F, M, d, ⟨h0, s1, v, q1, q2, q3, q4, q5, q6, q7, q8⟩, hk⟩ := hq0; subst q1 q2 q7; exact vt h0 (by rw [hM]; exact qbM _) a' _ _ (some d) _ _ _ q6 q3 q4 ⟨v, rfl, q8⟩ hk
  | outgrown => exact hq0.elim
 rw [← henter] at harr
 have hF : (Fence.wide).fn f := trivial
 cases e with
 | normal =>
  obtain ⟨e', w'', fr', hR, hs, hfn, hl⟩ := leaves_stepsInM a'.defers .returning w' { b.atR a' [] with mode := .returning } cs rfl rfl rfl hf rfl hF hrm hq
  exact ⟨e', w'', fr', hR, ComesIn.of_steps (StepsIn.trans harr (.one (fenced_calm (fr := b.atR a' []) hF hrm rfl) (stepR_end rfl))) hs, hfn, hl⟩
 | ret =>
  obtain ⟨todo, hs₀⟩ := harr.1 rfl
  obtain ⟨e', w'', fr', hR, hs, hfn, hl⟩ := leaves_stepsInM a'.defers .returning w' { b.atR a' todo with mode := .returning } cs rfl rfl rfl hf rfl hF hrm hq
  exact ⟨e', w'', fr', hR, ComesIn.of_steps hs₀ hs, hfn, hl⟩
 | panic chain =>
  obtain ⟨todo, hs₀⟩ := harr
  obtain ⟨e', w'', fr', hR, hs, hfn, hl⟩ := leaves_stepsInM a'.defers (.panicking chain) w' { b.atR a' todo with mode := .panicking chain } cs rfl rfl rfl hf rfl hF hrm hq
  exact ⟨e', w'', fr', hR, ComesIn.of_steps hs₀ hs, hfn, hl⟩
 | exit id => exact hq.elim
 | goto l => exact hq.elim
 | outgrown => exact hq0.elim
end
end Go.Proofs.YtofklkbfkoliiaaGreat
namespace Go.Proofs.YtofklkbfkoliiaaGreat
set_option linter.unusedVariables false
set_option linter.unusedSimpArgs false
open Go.RowKit
theorem qP : Tryz.prog.follows .mixedOrders = true := by kernel_rfl
structure C4 where
 r : Int
 g : Int
 b : Int
 a : Int
deriving DecidableEq
def c4 (c : C4) : List Value := [.int .u8 c.r, .int .u8 c.g, .int .u8 c.b, .int .u8 c.a]
def zC4 : C4 := ⟨0, 0, 0, 0⟩
structure P2 where
 x : Int
 y : Int
deriving DecidableEq
def p2 (p : P2) : List Value := [.int .i64 p.x, .int .i64 p.y]
structure TL where
 l : List C4
 h : l.length = 64
theorem TL.ext {t u : TL} (h : t.l = u.l) : t = u := by cases t; cases u; cases h; rfl
instance : DecidableEq TL := fun t u => if h : t.l = u.l then isTrue (TL.ext h) else isFalse fun e => h (by rw [e])
abbrev tc (t : TL) : List Value := t.l.flatMap c4
abbrev tD (t : TL) : D := .val (.agg (tc t).toArray)
theorem UE (c : C4) : (c4 c).length = 4 := rfl
theorem qA (t : TL) : (tc t).length = 256 := by rw [j3 UE, t.h]
theorem yx (t : TL) : (tc t).all (·.oneCell') = true := yB (fun _ => rfl) t.l
def nT (c : C4) : TL := ⟨qbH 64 c, by simp⟩
def zT : TL := nT zC4
def TL.get (t : TL) (i : Nat) : C4 := t.l.getD i zC4
def TL.set (t : TL) (i : Nat) (c : C4) : TL := ⟨t.l.set i c, by rw [List.length_set, t.h]⟩
def wn (b : Bool) (n : Int) : Int := match b with | true => 0 | false => n
theorem UF (t : TL) (i : Nat) (c : C4) : (t.l.set i c).flatMap c4 = tc (t.set i c) := rfl
theorem QX {α : Type} {f : List Value → List Value → Option Bool} {en : α → List Value} {sz : Nat} [DecidableEq α] (hen : ∀ a, (en a).length = sz) (hf : ∀ a b, f (en a) (en b) = some (decide (a = b))) :
  ∀ (l r : List α), l.length = r.length → eqA f sz l.length (l.flatMap en) (r.flatMap en) = some (decide (l = r))
 | [], [], _ => by simp [eqA]
 | a :: l, b :: r, h => by
  have e1 : ((a :: l).flatMap en).take sz = en a := by rw [qbJ, ← hen a, List.take_left]
  have e2 : ((b :: r).flatMap en).take sz = en b := by rw [qbJ, ← hen b, List.take_left]
  have e3 : ((a :: l).flatMap en).drop sz = l.flatMap en := by rw [qbJ, ← hen a, List.drop_left]
  have e4 : ((b :: r).flatMap en).drop sz = r.flatMap en := by rw [qbJ, ← hen b, List.drop_left]
  rw [qbW, eqA, e1, e2, e3, e4, hf, QX hen hf l r (by simpa using h)]
  simp only [Option.some.injEq]
  rw [Bool.eq_iff_iff]
  simp
 | [], _ :: _, h => by simp at h
 | _ :: _, [], h => by simp at h
def eqC (a b : C4) : Bool := (a.r == b.r) && ((a.g == b.g) && ((a.b == b.b) && ((a.a == b.a) && true)))
theorem QY {u v : C4} : eqC u v = decide (u = v) := by
 obtain ⟨r, g, b, a⟩ := u
 obtain ⟨r', g', b', a'⟩ := v
 rw [Bool.eq_iff_iff]
 simp [eqC]
def zP (c : C4) : Nat → TL
 | 0 => zT
 | k + 1 => (zP c k).set k c
theorem VZ (c : C4) (k : Nat) : zP c (k + 1) = (zP c k).set k c := rfl
theorem Ag (c : C4) {i : Nat} (h : i < 64) : (nT c).l[i]? = some c := by
 show (qbH 64 c)[i]? = _
 rw [List.getElem?_replicate, if_pos h]
theorem QZ (c : C4) : ∀ (k i : Nat), i < 64 → (zP c k).l[i]? = some (if i < k then c else zC4)
 | 0, i, h => by rw [zP, zT, Ag _ h]; simp
 | k + 1, i, h => by
  rw [zP]
  show ((zP c k).l.set k c)[i]? = _
  rw [List.getElem?_set]
  by_cases e : k = i
  ·subst e; simp [(zP c k).h, h]
  ·rw [if_neg e, QZ c k i h]
   by_cases g : i < k
   ·rw [if_pos g, if_pos (by omega)]
   ·rw [if_neg g, if_neg (by omega)]
theorem UG (c : C4) : zP c 64 = nT c := by
 apply TL.ext
 apply List.ext_getElem?
 intro i
 by_cases h : i < 64
 ·rw [QZ c 64 i h, if_pos h, Ag c h]
 ·rw [qb2 (by rw [(zP c 64).h]; omega), qb2 (by rw [(nT c).h]; omega)]
theorem bn_t {b : Bool} (h : (!b) = true) : b = false := by cases b <;> simp_all
theorem bn_f {b : Bool} (h : (!b) = false) : b = true := by cases b <;> simp_all
structure Dt where
 x : Int
 y : Int
 c : C4
deriving DecidableEq
def gW (w h : Int) : Bool := decide (1 ≤ w) && decide (w ≤ 4) && decide (1 ≤ h) && decide (h ≤ 4)
theorem JO {w h : Int} (hm : gW w h = true) : (1 ≤ w ∧ w ≤ 4) ∧ (1 ≤ h ∧ h ≤ 4) := by
 unfold gW at hm
 simp at hm
 omega
def onS (w h x y : Int) : Bool := decide (0 ≤ x) && decide (x < w * 8) && decide (0 ≤ y) && decide (y < h * 8)
def plN (w x y : Int) : Nat := (y / 8 * w + x / 8).toNat
def pxN (x y : Int) : Nat := (y % 8 * 8 + x % 8).toNat
def putC (w h : Int) (ts : List TL) (d : Dt) : List TL := if onS w h d.x d.y = true then ts.set (plN w d.x d.y) ((ts.getD (plN w d.x d.y) zT).set (pxN d.x d.y) d.c) else ts
theorem UH (w h : Int) (ts : List TL) (d : Dt) : (putC w h ts d).length = ts.length := by unfold putC; split <;> simp
abbrev cvD (w h : Int) (ds : List D) : D := .dpm [.val (.int .i64 w), .val (.int .i64 h), .slm 1 ds.length ds]
abbrev shD (w h : Int) (ts : List TL) : D := .agg [.val (.int .i64 w), .val (.int .i64 h), .slf 256 ts.length (ts.flatMap tc)]
structure RowOk (ds : List D) (ts : List TL) : Prop where
 len : ds.length = ts.length
 nl : D.nlL ds = true
 oc : ds.all D.oc2 = true
 wk : ∀ (q : Nat) d t, ds[q]? = some d → ts[q]? = some t → Wk d (.dpf (tc t))
structure CvOk (w h : Int) (ts : List TL) : Prop where
 may : gW w h = true
 len : (ts.length : Int) = w * h
theorem CvOk.le {w h : Int} {ts : List TL} (hc : CvOk w h ts) : ts.length ≤ 16 ∧ 1 ≤ ts.length := by
 have hb := JO hc.may
 have h1 : w * h ≤ 4 * 4 := Int.mul_le_mul hb.1.2 hb.2.2 (by omega) (by omega)
 have h2 : 1 * 1 ≤ w * h := Int.mul_le_mul hb.1.1 hb.2.1 (by omega) (by omega)
 have := hc.len
 omega
abbrev dpR (ts : List TL) : List D := ts.map fun t => .dpf (tc t)
theorem qam (ts : List TL) : RowOk (dpR ts) ts := by
 refine ⟨by simp, ?_, by simp [D.oc2], fun q d t h1 h2 => ?_⟩
 ·induction ts with
  | nil => rfl
  | cons t ts ih => rw [dpR, List.map_cons, D.nlL]; exact ih
 ·rw [qca, h2] at h1
  cases h1
  exact Wk.refl _
theorem RowOk.at {ds : List D} {ts : List TL} (h : RowOk ds ts) {q : Nat} (hq : q < ts.length) : ∃ d, ds[q]? = some d ∧ d ∈ ds ∧ d.nl = true ∧ d.oc2 = true ∧ Wk d (.dpf (tc (ts.getD q zT))) := by
 have hq2 : q < ds.length := by rw [h.len]; exact hq
 refine ⟨ds[q], qbr hq2, qb9 hq2, jz h.nl (qbr hq2), qbX.1 h.oc _ (qb9 hq2), ?_⟩
 refine h.wk q _ _ (qbr hq2) ?_
 rw [qbV, qbr hq]
 rfl
theorem RowOk.wkd {ds : List D} {ts : List TL} (h : RowOk ds ts) (w hh : Int) : Wk (cvD w hh ds) (cvD w hh (dpR ts)) := by
 have hl : WkL ds (dpR ts) := ⟨by simp [h.len], fun j d d' h1 h2 => by
  rw [qca] at h2
  cases e : ts[j]? with
  | none => rw [e] at h2; cases h2
  | some t => rw [e] at h2; cases h2; exact h.wk j d t h1 e⟩
 have hn : D.nlL (dpR ts) = true := (qam ts).nl
 have e : (dpR ts).length = ds.length := by simp [h.len]
 rw [cvD, cvD, e]
 exact Wk.dpm (.cons (.refl _) (.cons (.refl _) (.cons (Wk.slm hl hn) .nil))) (by simp [D.nlL, D.nl])
def jl (w h : Int) (ts : List TL) : Bool := gW w h && decide ((ts.length : Int) = w * h)
theorem CvOk.right {w h : Int} {ts : List TL} (hc : CvOk w h ts) : jl w h ts = true := by
 unfold jl
 rw [hc.may, decide_eq_true hc.len]
 rfl
theorem wo {w h : Int} (hm : gW w h = true) : 1 ≤ w * h ∧ w * h ≤ 16 := by
 have hb := JO hm
 have h1 : w * h ≤ 4 * 4 := Int.mul_le_mul hb.1.2 hb.2.2 (by omega) (by omega)
 have h2 : 1 * 1 ≤ w * h := Int.mul_le_mul hb.1.1 hb.2.1 (by omega) (by omega)
 omega
theorem CvOk.put {w h : Int} {ts : List TL} (hc : CvOk w h ts) (d : Dt) : CvOk w h (putC w h ts d) := ⟨hc.may, by rw [UH]; exact hc.len⟩
structure I3 where
 t : Int
 s : Int
 q : Int
deriving DecidableEq
def UI (n : Int) : Bool := decide (1 ≤ n) && decide (n ≤ 4611686018427387904)
def isSt (n : Int) : Bool := decide (1 ≤ n) && decide (n ≤ 8)
def uS (i : I3) : Bool := UI i.t && (isSt i.s && UI i.q)
def lessR (a b : I3) : Bool := if a.t ≠ b.t then decide (a.t < b.t) else if a.s ≠ b.s then decide (a.s < b.s) else decide (a.q < b.q)
def zI3 : I3 := ⟨0, 0, 0⟩
structure OpM where
 id : I3
 kd : Int
 x : Int
 y : Int
 x2 : Int
 y2 : Int
 sz : Int
 co : C4
 sw : Int
 sh : Int
 px : List C4
 tg : I3
deriving DecidableEq
abbrev pxD (l : List C4) : D := .slf 4 l.length (l.flatMap c4)
def opD (o : OpM) : List D := [.val (.int .u64 o.id.t), .val (.int .i64 o.id.s), .val (.int .u64 o.id.q), .val (.int .i64 o.kd), .val (.int .i64 o.x), .val (.int .i64 o.y), .val (.int .i64 o.x2), .val (.int .i64 o.y2), .val (.int .i64 o.sz),
 .val (.int .u8 o.co.r), .val (.int .u8 o.co.g), .val (.int .u8 o.co.b), .val (.int .u8 o.co.a), .val (.int .i64 o.sw), .val (.int .i64 o.sh), pxD o.px, .val (.int .u64 o.tg.t), .val (.int .i64 o.tg.s), .val (.int .u64 o.tg.q)]
def drB (n : Int) : Bool := decide (-64 ≤ n) && decide (n ≤ 127)
def siD (n : Int) : Bool := decide (1 ≤ n) && decide (n ≤ 8)
def stB (w h : Int) (l : List C4) : Bool := siD w && siD h && decide ((l.length : Int) = w * h)
def mostK (k : Int) : Int := if k = 5 then 1020 else if k = 1 ∨ k = 2 then 15 else 0
def opB (o : OpM) : Bool :=
 (decide (1 ≤ o.kd) && decide (o.kd ≤ 8)) && uS o.id
 && (if o.kd ≤ 6 then drB o.x && drB o.y else decide (o.x = 0) && decide (o.y = 0))
 && (if o.kd ≤ 4 then drB o.x2 && drB o.y2 else decide (o.x2 = 0) && decide (o.y2 = 0))
 && (if o.kd = 1 ∨ o.kd = 2 ∨ o.kd = 5 then decide (0 ≤ o.sz) && decide (o.sz ≤ mostK o.kd) else decide (o.sz = 0))
 && (decide (o.kd ≤ 5) || decide (o.co = zC4))
 && (if o.kd = 6 then stB o.sw o.sh o.px else decide (o.sw = 0) && decide (o.sh = 0) && decide (o.px = []))
 && (if 7 ≤ o.kd then uS o.tg && lessR o.tg o.id else decide (o.tg = zI3))
abbrev Vec := Nat → Nat
def c9 (v : Vec) : List Value := [.int .u64 (v 0), .int .u64 (v 1), .int .u64 (v 2), .int .u64 (v 3), .int .u64 (v 4), .int .u64 (v 5), .int .u64 (v 6), .int .u64 (v 7), .int .u64 (v 8)]
def upV {α : Type} (v : Nat → α) (j : Nat) (x : α) : Nat → α := fun i => if i = j then x else v i
theorem lt9 {P : Nat → Prop} (h0 : P 0) (h1 : P 1) (h2 : P 2) (h3 : P 3) (h4 : P 4) (h5 : P 5) (h6 : P 6) (h7 : P 7) (h8 : P 8) : ∀ j, j < 9 → P j
 | 0, _ => h0 | 1, _ => h1 | 2, _ => h2 | 3, _ => h3 | 4, _ => h4 | 5, _ => h5 | 6, _ => h6 | 7, _ => h7 | 8, _ => h8
 | n + 9, h => absurd h (by omega)
theorem UJ (v : Vec) : (c9 v).length = 9 := rfl
theorem c9_at (v : Vec) : ∀ j, j < 9 → (c9 v)[j]? = some (.int .u64 (v j)) := lt9 rfl rfl rfl rfl rfl rfl rfl rfl rfl
theorem qan (v : Vec) (x : Nat) : ∀ j, j < 9 → (c9 v).set j (.int .u64 x) = c9 (upV v j x) := lt9 rfl rfl rfl rfl rfl rfl rfl rfl rfl
def z9 : Vec := fun _ => 0
structure Pl where
 inn : Bool
 fl : Nat
 fs : Nat
 has : Vec
structure FrM where
 fo : Nat
 bv : Vec
 pr : Nat
 st : Nat → Pl
def FrM.sw (f : FrM) (j : Nat) (p : Pl) : FrM := { f with st := upV f.st j p }
def eqV (v w : Vec) : Bool := (qb5 9).all fun i => v i == w i
theorem all9 {P : Nat → Bool} : (qb5 9).all P = true ↔ ∀ i, i < 9 → P i = true := by
 simp
abbrev LAST : Nat := 4611686018427387904
def vB (v : Vec) : Bool := decide (v 0 = 0) && (qb5 9).all fun i => decide (v i ≤ LAST)
theorem vB_iff {v : Vec} : vB v = true ↔ v 0 = 0 ∧ ∀ i, i < 9 → v i ≤ LAST := by
 unfold vB
 rw [qbu, all9]
 simp
def flL (n : Nat) (l : List Pl) : Nat := l.foldl (fun m q => max m q.fl) n
def GV (v : Vec) (i : Nat) : Prop := v i ≤ 4611686018427387904 ∧ (i = 0 → v i = 0)
theorem vB_all {v : Vec} : vB v = true ↔ ∀ i, i < 9 → GV v i := by
 rw [vB_iff]
 constructor
 ·intro h i hi
  exact ⟨h.2 i hi, fun e => by rw [e]; exact h.1⟩
 ·intro h
  exact ⟨(h 0 (by omega)).2 rfl, fun i hi => (h i hi).1⟩
theorem vB_no {v : Vec} {i : Nat} (hi : i < 9) (h : ¬ GV v i) : vB v = false := by
 rw [← Bool.not_eq_true, vB_all]
 exact fun e => h (e i hi)
theorem V0 {v : Vec} {k : Nat} (h : ∀ i, i < k → GV v i) (hk : GV v k) : ∀ i, i < k + 1 → GV v i := fun i hi => by
 by_cases e : i = k
 ·rw [e]; exact hk
 ·exact h i (by omega)
theorem qao {v : Vec} (h : ∀ i, i < 9 → v i = 0) : vB v = true := vB_all.2 fun i hi => ⟨by rw [h i hi]; omega, fun _ => h i hi⟩
theorem Q0 {v : Vec} {x p j : Nat} (hp : p = j) (hj : j < 9) : (c9 v).set p (.int .u64 x) = c9 (upV v j x) := by rw [hp]; exact qan v x j hj
def eqn (a b : Nat) : Bool := (a : Int) == (b : Int)
theorem qap (a b : Nat) : eqn a b = (a == b) := by
 unfold eqn
 rw [Bool.eq_iff_iff]
 simp
 omega
def eqVx (v w : Vec) : Bool := eqn (v 0) (w 0) && (eqn (v 1) (w 1) && (eqn (v 2) (w 2) && (eqn (v 3) (w 3) && (eqn (v 4) (w 4) && (eqn (v 5) (w 5) && (eqn (v 6) (w 6) && (eqn (v 7) (w 7) && (eqn (v 8) (w 8) && true))))))))
theorem ZM (v w : Vec) : eqVx v w = eqV v w := by
 unfold eqVx eqV
 simp only [qap, qb5, List.range.loop, List.all_cons, List.all_nil]
theorem qaq {v : Vec} (h : eqV v z9 = true) : vB v = true := qao fun i hi => by
 unfold eqV at h
 rw [all9] at h
 simpa [z9] using h i hi
def uc8 (n : Int) : List Value := [.int .u8 n]
def ic (n : Int) : List Value := [.int .i64 n]
def uc (n : Int) : List Value := [.int .u64 n]
def isW (n : Int) : Bool := decide (1 ≤ n) && decide (n ≤ 8)
def KW (w : Nat) (n : Int) : Bool := decide (w = 8) || decide (n / 2 ^ (8 * w) = 0)
def V1 (n : Int) : Nat → List Int
 | 0 => qbH 8 0
 | k + 1 => (V1 n k).set (7 - k) (IntKind.u8.wrap (n / 2 ^ (8 * k)))
theorem uT (n : Int) : ∀ k, (V1 n k).length = 8
 | 0 => rfl
 | k + 1 => by rw [V1, List.length_set, uT n k]
def vH (w : Nat) (n : Int) : List Int := (V1 n 8).drop (8 - w)
theorem Y6 {w : Nat} {n : Int} (h : w ≤ 8) : (vH w n).length = w := by rw [vH, qbZ, uT]; omega
theorem JP {n : Int} : isW n = true ↔ 1 ≤ n ∧ n ≤ 8 := by simp [isW]
theorem ZN (n : Int) : (uc8 n).length = 1 := rfl
theorem fl8 (l : List Int) : (l.flatMap uc8).length = l.length := by rw [j3 ZN, Nat.mul_one]
theorem Q1 {A B : List Value} {z : Value} {p m r : Nat} (hp : p = A.length) (hm : B.length = m) : jX (A ++ qbH (m + r) z) p B = A ++ B ++ qbH r z := by
 subst hp hm
 rw [gr _ _ _ (by simp), List.take_left, List.drop_append]
 congr 1
 rw [List.drop_of_length_le (by omega), qbF, List.drop_replicate]
 congr 1
 omega
theorem beh2 (l1 l2 : List Int) {z : Value} (p0 p1 k1 k2 : Nat) (h0 : p0 = 0) (h1 : k1 = l1.length) (h2 : p1 = l1.length) (h3 : k2 = l2.length) :
  jX (jX (qbH (l1.length + l2.length) z) p0 ((l1.flatMap uc8).take k1)) p1 ((l2.flatMap uc8).take k2) = (l1 ++ l2).flatMap uc8 := by
 rw [qbT (by rw [fl8]; omega), qbT (by rw [fl8]; omega)]
 have e1 := Q1 (A := []) (B := l1.flatMap uc8) (z := z) (p := p0) (m := l1.length) (r := l2.length) h0 (fl8 _)
 rw [qbF, qbF] at e1
 rw [e1]
 have e2 := Q1 (A := l1.flatMap uc8) (B := l2.flatMap uc8) (z := z) (p := p1) (m := l2.length) (r := 0) (by rw [fl8]; exact h2) (fl8 _)
 rw [Nat.add_zero] at e2
 rw [e2, List.flatMap_append]
 simp
def V2 (acc b : Int) : Int := orZ .u64 (IntKind.u64.wrap (acc * 2 ^ 8)) (IntKind.u64.wrap b)
def kG (w : Nat) (l : List Int) : Int := (l.take w).foldl V2 0
theorem V3 {k : Nat} {l : List Int} (h : k < l.length) : kG (k + 1) l = V2 (kG k l) l[k] := by
 rw [kG, qbP h, List.foldl_append]; rfl
theorem UK {w : Nat} {l : List Int} (h : l.length ≤ w) : kG w l = kG l.length l := by
 rw [kG, kG, qbT h, qch]
def Y7 (n : Int) : Nat → List Int
 | 0 => []
 | k + 1 => IntKind.u8.wrap (n / 256 ^ k % 256) :: Y7 n k
theorem V4 (a w : Nat) : Y7 (a : Int) (w + 1) = ((a / 256 ^ w % 256 : Nat) : Int) :: Y7 (a : Int) w := by
 rw [Y7]
 congr 1
 have e : ((a : Int) / 256 ^ w % 256) = ((a / 256 ^ w % 256 : Nat) : Int) := by
  rw [Int.natCast_emod, Int.natCast_ediv, Int.natCast_pow]; rfl
 rw [e]
 exact IntWalk.u8_in _ (by omega)
theorem V5 (n : Int) : ∀ w : Nat, 1 ≤ w ∧ w ≤ 8 → vH w n = Y7 n w := by
 intro w hw
 have wr : ∀ x : Int, IntKind.u8.wrap x = IntKind.u8.wrap (x % 256) := fun x => by rw [IntKind.wrap_u8, IntKind.wrap_u8]; omega
 have : w = 1 ∨ w = 2 ∨ w = 3 ∨ w = 4 ∨ w = 5 ∨ w = 6 ∨ w = 7 ∨ w = 8 := by omega
 rcases this with rfl | rfl | rfl | rfl | rfl | rfl | rfl | rfl <;> simp [vH, V1, Y7, ← wr]
theorem Ah : arE Tryz.prog 168 = some (8, 1) := by kernel_rfl
theorem ar27 : arE Tryz.prog 27 = some (9, 1) := by kernel_rfl
theorem Kk : arE Tryz.prog 84 = some (64, 4) := by kernel_rfl
theorem aw27 : arW Tryz.prog 27 = some 9 := by kernel_rfl
theorem eq27 {v w : Vec} : eqT Tryz.prog 9 27 (c9 v) (c9 w) = some (eqV v w) := by
 rw [← ZM]; kernel_rfl
theorem eq82 {a b : C4} : eqT Tryz.prog 9 82 (c4 a) (c4 b) = some (decide (a = b)) := by
 rw [← QY]
 exact (show eqT Tryz.prog 9 82 [.int .u8 a.r, .int .u8 a.g, .int .u8 a.b, .int .u8 a.a] [.int .u8 b.r, .int .u8 b.g, .int .u8 b.b, .int .u8 b.a] = some (eqC a b) by kernel_rfl)
theorem eq84 {t u : TL} : eqT Tryz.prog 9 84 (tc t) (tc u) = some (decide (t = u)) := by
 have h : ∀ a b : C4, eqT Tryz.prog 8 82 (c4 a) (c4 b) = some (decide (a = b)) := fun a b => by
  rw [← QY]
  exact (show eqT Tryz.prog 8 82 [.int .u8 a.r, .int .u8 a.g, .int .u8 a.b, .int .u8 a.a] [.int .u8 b.r, .int .u8 b.g, .int .u8 b.b, .int .u8 b.a] = some (eqC a b) by kernel_rfl)
 have h2 := QX (en := c4) UE h t.l u.l (by rw [t.h, u.h])
 rw [t.h] at h2
 have h3 : eqT Tryz.prog 9 84 (tc t) (tc u) = eqA (eqT Tryz.prog 8 82) 4 64 (tc t) (tc u) := by
  have e1 : Tryz.prog.underlying 84 = some (.array 64 82) := by kernel_rfl
  obtain ⟨_, i, _, e3, _, e4⟩ := gw (show tyB Tryz.prog 82 = some (true, 4) by kernel_rfl)
  unfold eqT
  simp only [e1, e3, e4]
 refine h3.trans (h2.trans ?_)
 congr 1
 rw [Bool.eq_iff_iff]
 simp only [decide_eq_true_eq]
 exact ⟨TL.ext, fun e => by rw [e]⟩
theorem UL : fdL Tryz.prog 122 = some [(0, 1), (1, 1)] := by kernel_rfl
theorem fl130 : fdL Tryz.prog 130 = some [(0, 1)] := by kernel_rfl
theorem UM : fdL Tryz.prog 150 = some [(0, 1), (1, 1)] := by kernel_rfl
theorem Q2 : fdL Tryz.prog 158 = some [(0, 3), (3, 1), (4, 1)] := by kernel_rfl
theorem Ai : fdL Tryz.prog 178 = some [(0, 1), (1, 19)] := by kernel_rfl
theorem GW : fdL Tryz.prog 181 = some [] := by kernel_rfl
theorem GX : fdL Tryz.prog 196 = some [(0, 1), (1, 4)] := by kernel_rfl
theorem fl203 : fdL Tryz.prog 203 = some [(0, 1)] := by kernel_rfl
theorem fl206 : fdL Tryz.prog 206 = some [(0, 2)] := by kernel_rfl
theorem fl210 : fdL Tryz.prog 210 = some [(0, 2), (2, 1)] := by kernel_rfl
theorem fl24 : fdL Tryz.prog 24 = some [(0, 1), (1, 1), (2, 1)] := by kernel_rfl
theorem UN : fdL Tryz.prog 82 = some [(0, 1), (1, 1), (2, 1), (3, 1)] := by kernel_rfl
theorem JQ : fdO Tryz.prog 122 0 = some 0 := by kernel_rfl
theorem JR : fdO Tryz.prog 122 1 = some 1 := by kernel_rfl
theorem ZO : fdO Tryz.prog 130 0 = some 0 := by kernel_rfl
theorem JS : fdO Tryz.prog 140 1 = some 19 := by kernel_rfl
theorem wL : fdO Tryz.prog 150 0 = some 0 := by kernel_rfl
theorem yF : fdO Tryz.prog 150 1 = some 1 := by kernel_rfl
theorem jm : fdO Tryz.prog 158 0 = some 0 := by kernel_rfl
theorem j9 : fdO Tryz.prog 158 1 = some 3 := by kernel_rfl
theorem jc : fdO Tryz.prog 158 2 = some 4 := by kernel_rfl
theorem vI : fdO Tryz.prog 178 0 = some 0 := by kernel_rfl
theorem gQ : fdO Tryz.prog 196 0 = some 0 := by kernel_rfl
theorem yj : fdO Tryz.prog 196 1 = some 1 := by kernel_rfl
theorem ZP : fdO Tryz.prog 203 0 = some 0 := by kernel_rfl
theorem gA : fdO Tryz.prog 206 0 = some 0 := by kernel_rfl
theorem Q3 : fdO Tryz.prog 210 1 = some 2 := by kernel_rfl
theorem y5 : fdO Tryz.prog 24 0 = some 0 := by kernel_rfl
theorem y6 : fdO Tryz.prog 24 1 = some 1 := by kernel_rfl
theorem yw : fdO Tryz.prog 24 2 = some 2 := by kernel_rfl
theorem qar : fdO Tryz.prog 82 0 = some 0 := by kernel_rfl
theorem qas : fdO Tryz.prog 82 1 = some 1 := by kernel_rfl
theorem qat : fdO Tryz.prog 82 2 = some 2 := by kernel_rfl
theorem qau : fdO Tryz.prog 82 3 = some 3 := by kernel_rfl
theorem gd27 : Tryz.prog.eqGuardType Tryz.prog.depth 27 = false := by kernel_rfl
theorem gd82 : Tryz.prog.eqGuardType Tryz.prog.depth 82 = false := by kernel_rfl
theorem gd84 : Tryz.prog.eqGuardType Tryz.prog.depth 84 = false := by kernel_rfl
theorem kn25 : knd Tryz.prog 25 = some .u64 := by kernel_rfl
theorem kn3 : knd Tryz.prog 3 = some .i64 := by kernel_rfl
theorem kn5 : knd Tryz.prog 5 = some .u8 := by kernel_rfl
theorem UO : niF Tryz.prog 130 = true := by kernel_rfl
theorem zQ : niF Tryz.prog 181 = true := by kernel_rfl
theorem UP : niF Tryz.prog 203 = true := by kernel_rfl
theorem Q4 : ptT Tryz.prog 174 = some 206 := by kernel_rfl
theorem KX : slE Tryz.prog 127 = some (25, 1, 8) := by kernel_rfl
theorem Aj : slE Tryz.prog 208 = some (194, 1, 8) := by kernel_rfl
theorem ul : slE Tryz.prog 22 = some (84, 256, 256) := by kernel_rfl
theorem qG : slE Tryz.prog 30 = some (5, 1, 1) := by kernel_rfl
theorem um : slE Tryz.prog 47 = some (3, 1, 8) := by kernel_rfl
theorem kO : slE Tryz.prog 59 = some (30, 1, 24) := by kernel_rfl
theorem zR : tyB Tryz.prog 122 = some (true, 2) := by kernel_rfl
theorem Ak : tyB Tryz.prog 130 = some (true, 1) := by kernel_rfl
theorem tb144 : tyB Tryz.prog 144 = some (false, 1) := by kernel_rfl
theorem Al : tyB Tryz.prog 146 = some (false, 1) := by kernel_rfl
theorem Q5 : tyB Tryz.prog 158 = some (true, 5) := by kernel_rfl
theorem tb173 : tyB Tryz.prog 173 = some (false, 1) := by kernel_rfl
theorem gz : tyB Tryz.prog 174 = some (false, 1) := by kernel_rfl
theorem Am : tyB Tryz.prog 181 = some (true, 0) := by kernel_rfl
theorem UQ : tyB Tryz.prog 183 = some (false, 1) := by kernel_rfl
theorem An : tyB Tryz.prog 194 = some (false, 1) := by kernel_rfl
theorem KY : tyB Tryz.prog 196 = some (true, 5) := by kernel_rfl
theorem Ao : tyB Tryz.prog 203 = some (true, 1) := by kernel_rfl
theorem Ap : tyB Tryz.prog 208 = some (false, 1) := by kernel_rfl
theorem xI : tyB Tryz.prog 22 = some (false, 1) := by kernel_rfl
theorem vV : tyB Tryz.prog 24 = some (true, 3) := by kernel_rfl
theorem qZ : tyB Tryz.prog 25 = some (false, 1) := by kernel_rfl
theorem gR : tyB Tryz.prog 27 = some (true, 9) := by kernel_rfl
theorem tb3 : tyB Tryz.prog 3 = some (false, 1) := by kernel_rfl
theorem kD : tyB Tryz.prog 30 = some (false, 1) := by kernel_rfl
theorem qX : tyB Tryz.prog 34 = some (false, 1) := by kernel_rfl
theorem tb5 : tyB Tryz.prog 5 = some (false, 1) := by kernel_rfl
theorem vJ : tyB Tryz.prog 82 = some (true, 4) := by kernel_rfl
theorem jt : tyB Tryz.prog 84 = some (true, 256) := by kernel_rfl
theorem ty25 : (tyB Tryz.prog 25).isSome = true := by kernel_rfl
theorem ty3 : (tyB Tryz.prog 3).isSome = true := by kernel_rfl
theorem ty5 : (tyB Tryz.prog 5).isSome = true := by kernel_rfl
theorem KZ : zrC Tryz.prog 122 = some [.int .i64 0, .int .i64 0] := by kernel_rfl
theorem UR : zrC Tryz.prog 130 = some [.int .i64 0] := by kernel_rfl
theorem zr140 : zrC Tryz.prog 140 = some [.int .u64 0, .int .i64 0, .int .u64 0, .int .i64 0, .int .i64 0, .int .i64 0, .int .i64 0, .int .i64 0, .int .i64 0, .int .u8 0, .int .u8 0, .int .u8 0, .int .u8 0, .int .i64 0, .int .i64 0, .slice none 0 0, .int .u64 0, .int .i64 0, .int .u64 0, .slice none 0 0] := by kernel_rfl
theorem GY : zrC Tryz.prog 150 = some [.slice none 0 0, .int .i64 0] := by kernel_rfl
theorem xB : zrC Tryz.prog 158 = some [.int .i64 0, .int .i64 0, .slice none 0 0, .slice none 0 0, .int .i64 0] := by kernel_rfl
theorem zr168 : zrC Tryz.prog 168 = some [.int .u8 0, .int .u8 0, .int .u8 0, .int .u8 0, .int .u8 0, .int .u8 0, .int .u8 0, .int .u8 0] := by kernel_rfl
theorem Aq : zrC Tryz.prog 178 = some [.pointer none, .int .u64 0, .int .i64 0, .int .u64 0, .int .i64 0, .int .i64 0, .int .i64 0, .int .i64 0, .int .i64 0, .int .i64 0, .int .u8 0, .int .u8 0, .int .u8 0, .int .u8 0, .int .i64 0, .int .i64 0, .slice none 0 0, .int .u64 0, .int .i64 0, .int .u64 0] := by kernel_rfl
theorem zS : zrC Tryz.prog 181 = some [] := by kernel_rfl
theorem Ar : zrC Tryz.prog 194 = some [.pointer none] := by kernel_rfl
theorem wY : zrC Tryz.prog 196 = some [.int .i64 0, .int .u8 0, .int .u8 0, .int .u8 0, .int .u8 0] := by kernel_rfl
theorem US : zrC Tryz.prog 203 = some [.int .i64 0] := by kernel_rfl
theorem zr206 : zrC Tryz.prog 206 = some [.slice none 0 0, .int .i64 0] := by kernel_rfl
theorem zr210 : zrC Tryz.prog 210 = some [.int .i64 0, .int .i64 0, .slice none 0 0] := by kernel_rfl
theorem V6 : zrC Tryz.prog 24 = some [.int .i64 0, .int .i64 0, .slice none 0 0] := by kernel_rfl
theorem zr25 : zrC Tryz.prog 25 = some [.int .u64 0] := by kernel_rfl
theorem xJ : zrC Tryz.prog 27 = some (c9 z9) := by kernel_rfl
theorem zr3 : zrC Tryz.prog 3 = some [.int .i64 0] := by kernel_rfl
theorem uU : zrC Tryz.prog 30 = some [.slice none 0 0] := by kernel_rfl
theorem jT : zrC Tryz.prog 34 = some [.int .i64 0] := by kernel_rfl
theorem zr5 : zrC Tryz.prog 5 = some [.int .u8 0] := by kernel_rfl
theorem UT : zrC Tryz.prog 82 = some [.int .u8 0, .int .u8 0, .int .u8 0, .int .u8 0] := by kernel_rfl
theorem yU : zrC Tryz.prog 84 = some (tc zT) := by kernel_rfl
theorem zv130 : zrV Tryz.prog 130 = some (.agg #[.int .i64 0]) := by kernel_rfl
theorem zv181 : zrV Tryz.prog 181 = some (.agg #[]) := by kernel_rfl
theorem zv203 : zrV Tryz.prog 203 = some (.agg #[.int .i64 0]) := by kernel_rfl
end Go.Proofs.YtofklkbfkoliiaaGreat
namespace Go.Proofs.YtofklkbfkoliiaaGreat
set_option linter.unusedVariables false
set_option linter.unusedSimpArgs false
open Go.RowKit
theorem uV (v : Vec) : DFun Tryz.prog 42 [.val (.agg (c9 v).toArray)] [] (.val (.int .i64 (wn (vB v) 230))) [] := by
 refine zap (N := 24) 0 (by kernel_rfl) Tryz.func42 rfl rfl rfl (by simp only [fr0, qbs, qbt]; exact rfl) rfl fun s0 hs0 => ?_
 refine zae ?_
 refine zao 1 ?_
 refine zac ?_
 refine zak rfl (gK 0 rfl (ev1 rfl) rfl) ?_
 refine zaa 1 rfl ?_
 refine zab ?_
 refine zae ?_
 refine zah ?_
 refine za rfl (kT rfl gR (ev1 rfl) rfl rfl) ?_
 refine za rfl (uf rfl ar27 xJ) ?_
 refine za rfl (vE eq27 rfl gd27 gR (ev1 rfl) (ev1 rfl)) ?_
 refine zab ?_
 refine qh rfl (fun c1 => ?_) (fun c1 => ?_)
 ·refine zah ?_
  refine zaa 1 rfl ?_
  refine zab ?_
  refine qa ?_
  refine qx (rs1 rfl (qL rfl)) rfl ?_
  rw [qaq c1]
  rfl
 ·refine zar ?_
  refine zae ?_
  refine zah ?_
  refine za rfl (kT rfl gR (ev1 rfl) rfl rfl) ?_
  refine zaa 1 rfl ?_
  refine zab ?_
  refine zat ?_
  refine qI ⟨hs0, rfl⟩ (α := Nat) (fun k => [(9, .val (.int .i64 (k : Int)))]) [(8, _)] (fun k => []) [_] (fun k => k ≤ 9 ∧ ∀ i, i < k → GV v i) (fun k => 9 - k) 0 [0] (⟨by omega, fun i hi => absurd hi (by omega)⟩) rfl ⟨rfl, trivial⟩ ⟨rfl, trivial⟩ ⟨rfl, trivial⟩ ?_
  intro k hx
  simp only [upd, zaf, zag, qbD, qbF]
  obtain ⟨hk, he⟩ := hx
  refine zah ?_
  refine za rfl (qv rfl (ev1 rfl) (ev1 rfl)) ?_
  refine zab ?_
  refine zae ?_
  refine qh rfl (fun c2 => ?_) (fun c2 => ?_)
  ·try simp only [decide_eq_true_eq, decide_eq_false_iff_not, beq_iff_eq, bne_iff_ne, beq_eq_false_iff_ne, bne_eq_false_iff_eq, qbx, qby, qbu, qbE, qbv, ne_eq, Decidable.not_not, qbQ, qbR] at c2
   refine zar ?_
   refine zae ?_
   refine zat ?_
   refine zah ?_
   refine zaa 1 rfl ?_
   refine za rfl (qaj (k) rfl aw27 (ev1 rfl) (ev1 rfl) (fun _ => rfl) (by omega) (c9_at v _ (by omega))) ?_
   refine zaa 2 rfl ?_
   refine zab ?_
   refine zah ?_
   refine zaa 1 rfl ?_
   refine za rfl (kA rfl (ev1 rfl) (ev1 rfl)) ?_
   refine zaa 1 rfl ?_
   refine zai (qe rfl rfl rfl) rfl rfl rfl (zal (.inl rfl) (ev1 rfl)) ?_
   refine zai (qe rfl rfl rfl) rfl rfl rfl (qm rfl (ev2 rfl) (ev1 rfl)) ?_
   refine zai (qe rfl rfl rfl) rfl rfl rfl (zal (.inl rfl) (ev2 rfl)) ?_
   refine zai (qO rfl rfl rfl) rfl rfl rfl (zal (.inl rfl) (ev1 rfl)) ?_
   refine zai (qO rfl rfl rfl) rfl rfl rfl (kA rfl (ev2 rfl) (ev1 rfl)) ?_
   refine zai (qe rfl rfl rfl) rfl rfl rfl (qC rfl (ev2 rfl) (ev2 rfl)) ?_
   refine za rfl (kx rfl (ev1 rfl) (ev3 rfl id)) ?_
   refine zab ?_
   refine qh rfl (fun c2 => ?_) (fun c2 => ?_)
   ·try simp only [decide_eq_true_eq, decide_eq_false_iff_not, beq_iff_eq, bne_iff_ne, beq_eq_false_iff_ne, bne_eq_false_iff_eq, qbx, qby, qbu, qbE, qbv, ne_eq, Decidable.not_not, qbQ, qbR] at c2
    refine zah ?_
    refine zaa 1 rfl ?_
    refine zab ?_
    refine qa ?_
    refine qx (rs1 rfl (qL rfl)) rfl ?_
    rw [vB_no (i := k) (by omega) (fun h => by unfold GV at h; omega)]
    rfl
   ·try simp only [decide_eq_true_eq, decide_eq_false_iff_not, beq_iff_eq, bne_iff_ne, beq_eq_false_iff_ne, bne_eq_false_iff_eq, qbx, qby, qbu, qbE, qbv, ne_eq, Decidable.not_not, qbQ, qbR] at c2
    have hov : GV v k := ⟨by simp at c2; omega, fun e => by simp at c2; omega⟩
    refine zar ?_
    refine zac ?_
    refine za rfl (ql rfl (ev1 rfl) (ev1 rfl) (fun _ => qbB _ (by omega))) ?_
    refine zaa 1 rfl ?_
    refine zab ?_
    refine ⟨k + 1, [0], ⟨by omega, V0 he hov⟩, by simp only []; omega, rfl, ⟨rfl, rfl, trivial⟩, ⟨rfl, trivial⟩⟩
  ·try simp only [decide_eq_true_eq, decide_eq_false_iff_not, beq_iff_eq, bne_iff_ne, beq_eq_false_iff_ne, bne_eq_false_iff_eq, qbx, qby, qbu, qbE, qbv, ne_eq, Decidable.not_not, qbQ, qbR] at c2
   refine qD ?_
   refine zah ?_
   refine zaa 1 rfl ?_
   refine zab ?_
   refine qa ?_
   refine qx (rs1 rfl (qL rfl)) rfl ?_
   rw [vB_all.2 fun i hi => he i (by omega)]
   rfl
end Go.Proofs.YtofklkbfkoliiaaGreat
namespace Go.Proofs.YtofklkbfkoliiaaGreat
set_option linter.unusedVariables false
set_option linter.unusedSimpArgs false
open Go.RowKit
theorem qav (n : Int) : DFun Tryz.prog 106 [.val (.int .i64 n)] [] (.val (.bool (isW n))) [] := by
 refine zap (N := 9) 0 (by kernel_rfl) Tryz.func106 rfl rfl rfl (by simp only [fr0, qbs, qbt]; exact rfl) rfl fun s0 hs0 => ?_
 refine zah ?_
 refine zaa 1 rfl ?_
 refine zab ?_
 refine zah ?_
 refine zaa 1 rfl ?_
 refine za rfl (jh rfl (ev1 rfl) (ev1 rfl)) ?_
 refine zaa 1 rfl ?_
 refine zai (qn rfl rfl rfl) rfl rfl rfl (zal (.inl rfl) (ev1 rfl)) ?_
 refine zai (qn rfl rfl rfl) rfl rfl rfl (y3 rfl (ev2 rfl) (ev1 rfl)) ?_
 refine za rfl (qC rfl (ev1 rfl) (ev3 rfl id)) ?_
 refine zaa 1 rfl ?_
 refine zab ?_
 refine qa ?_
 refine qx (rs1 rfl (qL rfl)) rfl ?_
 rfl
theorem qaw (l : List Int) : DFun Tryz.prog 105 [.slf 1 (l).length ((l).flatMap ic), .fn (.func 106) [] []] [] (.val (.bool (l.all isW))) [] := by
 refine zap (N := 18) 0 (by kernel_rfl) Tryz.func105 rfl rfl rfl (by simp only [fr0, qbs, qbt]; exact rfl) rfl fun s0 hs0 => ?_
 refine jY (t := 0) rfl fun hl0 hL0 => ?_
 refine zah ?_
 refine zaa 1 rfl ?_
 refine zab ?_
 refine zae ?_
 refine zah ?_
 refine zaa 1 rfl ?_
 refine za rfl (qE rfl um (ev1 rfl)) ?_
 refine zaa 1 rfl ?_
 refine zab ?_
 refine zat ?_
 refine qI ⟨hs0, rfl⟩ (α := Nat) (fun k => [(9, .val (.int .i64 (k : Int)))]) [(1, _), (7, _), (8, _)] (fun k => []) [] (fun k => k ≤ l.length ∧ l.all isW = (l.drop k).all isW) (fun k => l.length - k) 0 [] (by simp) rfl ⟨rfl, rfl, rfl, trivial⟩ ⟨rfl, trivial⟩ trivial ?_
 intro k hx
 simp only [upd, zaf, zag, qbD, qbF]
 obtain ⟨hk, he⟩ := hx
 refine zah ?_
 refine za rfl (qv rfl (ev1 rfl) (ev1 rfl)) ?_
 refine zab ?_
 refine zae ?_
 refine qh rfl (fun c1 => ?_) (fun c1 => ?_)
 ·try simp only [decide_eq_true_eq, decide_eq_false_iff_not, beq_iff_eq, bne_iff_ne, beq_eq_false_iff_ne, bne_eq_false_iff_eq, qbx, qby, qbu, qbE, qbv, ne_eq, Decidable.not_not, qbQ, qbR] at c1
  refine zar ?_
  refine zae ?_
  refine zat ?_
  refine zah ?_
  refine za rfl (q0 (j := k) rfl um (ev1 rfl) (ev1 rfl) (fun _ => rfl) (by decide) (by omega) (by omega)) ?_
  refine za rfl (ke rfl tb3 (ev1 rfl) rfl) ?_
  refine zaa 1 rfl ?_
  refine zab ?_
  refine zah ?_
  refine zaa 2 rfl ?_
  refine za rfl (zaj [] [] [] rfl (ev1 rfl) (ec (ev1 rfl) en) rfl rfl (qav _) rfl rfl rfl rfl rfl rfl) ?_
  refine za rfl (kv rfl (ev1 rfl)) ?_
  refine zab ?_
  refine qh rfl (fun c2 => ?_) (fun c2 => ?_)
  ·refine zah ?_
   refine zaa 1 rfl ?_
   refine zab ?_
   refine qa ?_
   refine qx (rs1 rfl (qL rfl)) rfl ?_
   rw [he, List.drop_eq_getElem_cons (show k < l.length by omega), List.all_cons, bn_t c2]; rfl
  ·refine zar ?_
   refine zac ?_
   refine za rfl (ql rfl (ev1 rfl) (ev1 rfl) (fun _ => qbB _ (by omega))) ?_
   refine zaa 1 rfl ?_
   refine zab ?_
   refine ⟨k + 1, [], ⟨by omega, by rw [he, List.drop_eq_getElem_cons (show k < l.length by omega), List.all_cons, bn_f c2, Bool.true_and]⟩, by simp only []; omega, rfl, ⟨rfl, rfl, rfl, rfl, trivial⟩, trivial⟩
 ·try simp only [decide_eq_true_eq, decide_eq_false_iff_not, beq_iff_eq, bne_iff_ne, beq_eq_false_iff_ne, bne_eq_false_iff_eq, qbx, qby, qbu, qbE, qbv, ne_eq, Decidable.not_not, qbQ, qbR] at c1
  refine qD ?_
  refine zah ?_
  refine zaa 1 rfl ?_
  refine zab ?_
  refine qa ?_
  refine qx (rs1 rfl (qL rfl)) rfl ?_
  rw [he, List.drop_of_length_le (by omega)]; rfl
theorem vi (l : List Int) (h : l.all isW = true) : DFun Tryz.prog 82 [.slf 1 (l).length ((l).flatMap ic)] [] (.tup []) [] := by
 refine zap (N := 7) 0 (by kernel_rfl) Tryz.func82 rfl rfl rfl (by simp only [fr0, qbs, qbt]; exact rfl) rfl fun s0 hs0 => ?_
 refine jY (t := 0) rfl fun hl0 hL0 => ?_
 refine zah ?_
 refine zaa 1 rfl ?_
 refine za rfl (zaj [] [] [] rfl (ev1 rfl) (ec (ev1 rfl) (ec (ev1 rfl) en)) rfl rfl (qaw _) rfl rfl rfl rfl rfl rfl) ?_
 refine za rfl (kv rfl (ev1 rfl)) ?_
 refine zab ?_
 refine qc rfl (by rw [h]; rfl) ?_
 refine zar ?_
 refine qx (qH rfl) rfl ?_
 rfl
theorem ZQ (w : Nat) (h : 1 ≤ w ∧ w ≤ 8) (n : Int) : DFun Tryz.prog 107 [.val (.int .i64 (w : Int)), .val (.int .u64 n)] [] (.val (.bool (KW w n))) [] := by
 refine zap (N := 14) 0 (by kernel_rfl) Tryz.func107 rfl rfl rfl (by simp only [fr0, qbs, qbt]; exact rfl) rfl fun s0 hs0 => ?_
 refine zah ?_
 refine zaa 1 rfl ?_
 refine zab ?_
 refine zah ?_
 refine zaa 1 rfl ?_
 refine za rfl (qm rfl (ev1 rfl) (ev1 rfl)) ?_
 refine zaa 1 rfl ?_
 refine zai (qe rfl rfl rfl) rfl rfl rfl (zal (.inl rfl) (ev1 rfl)) ?_
 refine zai (qe rfl rfl rfl) rfl rfl rfl (zal (.inl rfl) (ev1 rfl)) ?_
 refine zai (qe rfl rfl rfl) rfl rfl rfl (yz rfl (ev1 rfl) (ev2 rfl) (fun hp => qbB _ (by first | omega | (simp at hp; omega)))) ?_
 refine zai (qe rfl rfl rfl) rfl rfl rfl (Uc (8 * w) rfl (ev2 rfl) (ev2 rfl) (fun _ => ⟨by omega, by simp [IntKind.bits]; omega⟩)) ?_
 refine zai (qe rfl rfl rfl) rfl rfl rfl (qm rfl (ev2 rfl) (ev1 rfl)) ?_
 refine za rfl (kx rfl (ev1 rfl) (ev3 rfl id)) ?_
 refine zaa 1 rfl ?_
 refine zab ?_
 refine qa ?_
 refine qx (rs1 rfl (qL rfl)) rfl ?_
 rw [D.val.injEq, Value.bool.injEq]
 unfold KW
 congr 1
 rw [Bool.eq_iff_iff]; simp; omega
theorem UU (w : Nat) (h : 1 ≤ w ∧ w ≤ 8) (n : Int) (hf : KW w n = true) : DFun Tryz.prog 84 [.val (.int .i64 (w : Int)), .val (.int .u64 n)] [] (.slf 1 (vH w n).length ((vH w n).flatMap uc8)) [] := by
 refine zap (N := 28) 0 (by kernel_rfl) Tryz.func84 rfl rfl rfl (by simp only [fr0, qbs, qbt]; exact rfl) rfl fun s0 hs0 => ?_
 refine zah ?_
 refine zaa 1 rfl ?_
 refine zab ?_
 refine zae ?_
 refine zah ?_
 refine zaa 2 rfl ?_
 refine za rfl (zaj [] [] [] rfl (ev1 rfl) (ec (ev1 rfl) (ec (ev1 rfl) en)) rfl rfl (ZQ _ (by assumption) _) rfl rfl rfl rfl rfl rfl) ?_
 refine za rfl (kv rfl (ev1 rfl)) ?_
 refine zab ?_
 refine qc rfl (by rw [hf]; rfl) ?_
 refine zar ?_
 refine zae ?_
 refine zao 1 ?_
 refine zac ?_
 refine zak rfl (zaq 0 rfl zr168 rfl) ?_
 refine zab ?_
 refine zae ?_
 refine zah ?_
 refine zaa 1 rfl ?_
 refine zab ?_
 refine zat ?_
 refine qI ⟨hs0, rfl⟩ (α := Nat) (fun k => [(13, .val (.int .i64 (k : Int)))]) [(0, _), (1, _), (5, _)] (fun k => [(0, .flat 168 ((V1 n k).flatMap uc8))]) [.hole] (fun k => k ≤ 8) (fun k => 8 - k) 0 [0] (by simp) rfl ⟨rfl, rfl, rfl, trivial⟩ ⟨rfl, trivial⟩ ⟨rfl, trivial⟩ ?_
 intro k hx
 simp only [upd, zaf, zag, qbD, qbF]
 have hk := hx
 refine zah ?_
 refine za rfl (qv rfl (ev1 rfl) (ev1 rfl)) ?_
 refine zab ?_
 refine zae ?_
 refine qh rfl (fun c2 => ?_) (fun c2 => ?_)
 ·try simp only [decide_eq_true_eq, decide_eq_false_iff_not, beq_iff_eq, bne_iff_ne, beq_eq_false_iff_ne, bne_eq_false_iff_eq, qbx, qby, qbu, qbE, qbv, ne_eq, Decidable.not_not, qbQ, qbR] at c2
  refine zar ?_
  refine zae ?_
  refine zat ?_
  refine zah ?_
  refine zaa 2 rfl ?_
  refine zab ?_
  refine zac ?_
  refine zaa 1 rfl ?_
  refine za rfl (jV rfl (ev1 rfl) (ev1 rfl) (fun _ => qbB _ (by omega))) ?_
  refine zaa 2 rfl ?_
  refine za rfl (yz rfl (ev1 rfl) (ev1 rfl) (fun _ => qbB _ (by omega))) ?_
  refine za rfl (Uc (8 * k) rfl (ev1 rfl) (ev1 rfl) (fun _ => ⟨by omega, by simp [IntKind.bits]; omega⟩)) ?_
  refine za rfl (Jw ty25 kn5 rfl (ev1 rfl)) ?_
  refine za rfl (yC (j := 7 - k) rfl Ah (ev1 rfl) (ev1 rfl) (fun _ => by omega) (fun _ => by omega)) ?_
  refine zas rfl (xX (q := IntKind.u8.wrap (n / 2 ^ (8 * k))) rfl tb5 (ev1 rfl) (ev1 rfl) rfl rfl rfl (fun _ => rfl) (fun _ => by first | omega | (rw [uT]; omega))) ?_
  refine zab ?_
  refine zac ?_
  refine za rfl (ql rfl (ev1 rfl) (ev1 rfl) (fun _ => qbB _ (by omega))) ?_
  refine zaa 1 rfl ?_
  refine zab ?_
  refine ⟨k + 1, [0], by omega, by simp only []; omega, rfl, ⟨rfl, rfl, rfl, rfl, trivial⟩, ⟨rfl, trivial⟩⟩
 ·try simp only [decide_eq_true_eq, decide_eq_false_iff_not, beq_iff_eq, bne_iff_ne, beq_eq_false_iff_ne, bne_eq_false_iff_eq, qbx, qby, qbu, qbE, qbv, ne_eq, Decidable.not_not, qbQ, qbR] at c2
  refine qD ?_
  refine zae ?_
  refine GH ⟨hs0, rfl⟩ [] [0] [(0, _), (5, _)] [] rfl ⟨rfl, rfl, trivial⟩ trivial ?_
  refine zac ?_
  refine zaa 1 rfl ?_
  refine za rfl (jV rfl (ev1 rfl) (ev1 rfl) (fun _ => qbB _ (by omega))) ?_
  refine za rfl (Ud (8 - w) rfl Ah (ev1 rfl) (ev1 rfl) (ev1 rfl) (ev1 rfl) (fun _ => by omega) (fun _ => rfl) (fun _ => rfl) (fun _ => by omega) ((uT _ _)) (by decide) (fun _ => rfl)) ?_
  refine zaa 1 rfl ?_
  refine zab ?_
  refine qa ?_
  refine qx (rs1 rfl (qL rfl)) rfl ?_
  obtain rfl : k = 8 := by omega
  rfl
end Go.Proofs.YtofklkbfkoliiaaGreat
namespace Go.Proofs.YtofklkbfkoliiaaGreat
set_option linter.unusedVariables false
set_option linter.unusedSimpArgs false
open Go.RowKit
theorem qax (l1 l2 : List Int) (h : l1.length + l2.length ≤ 100000) : DFun Tryz.prog 126 [.slm 1 2 [.slf 1 (l1).length ((l1).flatMap uc8), .slf 1 (l2).length ((l2).flatMap uc8)]] [] (.arr 0) [.arr 5 1 (l1 ++ l2).length ((l1 ++ l2).flatMap uc8)] := by
 refine zap (N := 38) 0 (by kernel_rfl) Tryz.func126 rfl rfl rfl (by simp only [fr0, qbs, qbt]; exact rfl) rfl fun s0 hs0 => ?_
 refine gM (t := 0) rfl fun hl0 hL0 => ?_
 refine zah ?_
 refine zaa 1 rfl ?_
 refine zab ?_
 refine zah ?_
 refine zaa 1 rfl ?_
 refine zab ?_
 refine zae ?_
 refine zah ?_
 refine zaa 1 rfl ?_
 refine za rfl (kE rfl kO (ev1 rfl)) ?_
 refine zaa 1 rfl ?_
 refine zab ?_
 refine zat ?_
 refine yK (kY ?_)
 refine zah ?_
 refine za rfl (qv rfl (ev1 rfl) (ev1 rfl)) ?_
 refine zab ?_
 refine zae ?_
 refine qJ rfl (rfl) ?_
 refine zar ?_
 refine zae ?_
 refine zat ?_
 refine zah ?_
 refine za rfl (gd (0) rfl kO (ev1 rfl) (ev1 rfl) (fun _ => rfl) rfl) ?_
 refine za rfl (jk rfl kD (ev1 rfl) rfl) ?_
 refine zaa 1 rfl ?_
 refine zab ?_
 refine zac ?_
 refine zaa 2 rfl ?_
 refine za rfl (qE rfl qG (ev1 rfl)) ?_
 refine za rfl (ql rfl (ev1 rfl) (ev1 rfl) (fun _ => qbB _ (by omega))) ?_
 refine zaa 1 rfl ?_
 refine zab ?_
 refine zac ?_
 refine za rfl (ql rfl (ev1 rfl) (ev1 rfl) (fun _ => qbB _ (by omega))) ?_
 refine zaa 1 rfl ?_
 refine zab ?_
 refine kY ?_
 refine zah ?_
 refine za rfl (qv rfl (ev1 rfl) (ev1 rfl)) ?_
 refine zab ?_
 refine zae ?_
 refine qJ rfl (rfl) ?_
 refine zar ?_
 refine zae ?_
 refine zat ?_
 refine zah ?_
 refine za rfl (gd (1) rfl kO (ev1 rfl) (ev1 rfl) (fun _ => rfl) rfl) ?_
 refine za rfl (jk rfl kD (ev1 rfl) rfl) ?_
 refine zaa 1 rfl ?_
 refine zab ?_
 refine zac ?_
 refine zaa 2 rfl ?_
 refine za rfl (qE rfl qG (ev1 rfl)) ?_
 refine za rfl (ql rfl (ev1 rfl) (ev1 rfl) (fun _ => qbB _ (by omega))) ?_
 refine zaa 1 rfl ?_
 refine zab ?_
 refine zac ?_
 refine za rfl (ql rfl (ev1 rfl) (ev1 rfl) (fun _ => qbB _ (by omega))) ?_
 refine zaa 1 rfl ?_
 refine zab ?_
 refine kY ?_
 refine zah ?_
 refine za rfl (qv rfl (ev1 rfl) (ev1 rfl)) ?_
 refine zab ?_
 refine zae ?_
 refine qc rfl (rfl) ?_
 refine qD ?_
 refine zae ?_
 refine zao 1 ?_
 refine zac ?_
 refine zaa 1 rfl ?_
 refine zak rfl (A0 0 (l1.length + l2.length) (.int .u8 0) rfl qG zr5 (ev1 rfl) (ev1 rfl) (fun _ => by omega) (fun _ => by omega) rfl (fun _ => by omega)) ?_
 refine zaa 1 rfl ?_
 refine zab ?_
 refine zah ?_
 refine zaa 1 rfl ?_
 refine zab ?_
 refine zae ?_
 refine zah ?_
 refine zaa 1 rfl ?_
 refine za rfl (kE rfl kO (ev1 rfl)) ?_
 refine zaa 1 rfl ?_
 refine zab ?_
 refine zat ?_
 refine yK (kY ?_)
 refine zah ?_
 refine za rfl (qv rfl (ev1 rfl) (ev1 rfl)) ?_
 refine zab ?_
 refine zae ?_
 refine qJ rfl (rfl) ?_
 refine zar ?_
 refine zae ?_
 refine zat ?_
 refine zah ?_
 refine za rfl (gd (0) rfl kO (ev1 rfl) (ev1 rfl) (fun _ => rfl) rfl) ?_
 refine za rfl (jk rfl kD (ev1 rfl) rfl) ?_
 refine zaa 1 rfl ?_
 refine zab ?_
 refine zac ?_
 refine zaa 3 rfl ?_
 refine za rfl (WY rfl qG (ev1 rfl) rfl (jf (ev1 rfl)) wI (fun _ => by omega)) ?_
 refine zaa 1 rfl ?_
 refine zak rfl (Ua rfl qG (ev1 rfl) (ev1 rfl) yY rfl (fun _ => yB (fun _ => rfl) _)) ?_
 refine za rfl (ql rfl (ev1 rfl) (ev1 rfl) (fun _ => qbB _ (by omega))) ?_
 refine zaa 1 rfl ?_
 refine zab ?_
 refine zac ?_
 refine za rfl (ql rfl (ev1 rfl) (ev1 rfl) (fun _ => qbB _ (by omega))) ?_
 refine zaa 1 rfl ?_
 refine zab ?_
 refine kY ?_
 refine zah ?_
 refine za rfl (qv rfl (ev1 rfl) (ev1 rfl)) ?_
 refine zab ?_
 refine zae ?_
 refine qJ rfl (rfl) ?_
 refine zar ?_
 refine zae ?_
 refine zat ?_
 refine zah ?_
 refine za rfl (gd (1) rfl kO (ev1 rfl) (ev1 rfl) (fun _ => rfl) rfl) ?_
 refine za rfl (jk rfl kD (ev1 rfl) rfl) ?_
 refine zaa 1 rfl ?_
 refine zab ?_
 refine zac ?_
 refine zaa 3 rfl ?_
 refine za rfl (WY rfl qG (ev1 rfl) rfl (jf (ev1 rfl)) wI (fun _ => by omega)) ?_
 refine zaa 1 rfl ?_
 refine zak rfl (Ua rfl qG (ev1 rfl) (ev1 rfl) yY rfl (fun _ => yB (fun _ => rfl) _)) ?_
 refine za rfl (ql rfl (ev1 rfl) (ev1 rfl) (fun _ => qbB _ (by omega))) ?_
 refine zaa 1 rfl ?_
 refine zab ?_
 refine zac ?_
 refine za rfl (ql rfl (ev1 rfl) (ev1 rfl) (fun _ => qbB _ (by omega))) ?_
 refine zaa 1 rfl ?_
 refine zab ?_
 refine kY ?_
 refine zah ?_
 refine za rfl (qv rfl (ev1 rfl) (ev1 rfl)) ?_
 refine zab ?_
 refine zae ?_
 refine qc rfl (rfl) ?_
 refine qD ?_
 refine zah ?_
 refine zaa 2 rfl ?_
 refine zab ?_
 refine qa ?_
 refine ko [0] (rs1 rfl (qL rfl)) rfl rfl ?_ ⟨?_, trivial⟩
 rfl
 exact vF (by simp; try omega) (beh2 _ _ _ _ _ _ (by omega) (by omega) (by omega) (by omega))
theorem qay (l1 l2 : List Int) (h : l1.length + l2.length ≤ 100000) : DFun Tryz.prog 126 [.slm 1 2 [.slf 1 (l1).length ((l1).flatMap uc8), .slf 1 (l2).length ((l2).flatMap uc8)]] [] (.slf 1 (l1 ++ l2).length ((l1 ++ l2).flatMap uc8)) [] := yc (qax l1 l2 h) rfl
end Go.Proofs.YtofklkbfkoliiaaGreat
namespace Go.Proofs.YtofklkbfkoliiaaGreat
set_option linter.unusedVariables false
set_option linter.unusedSimpArgs false
open Go.RowKit
theorem vj : DFun Tryz.prog 81 [.val .nilIface] [] (.val (.int .i64 0)) [] := by
 refine zap (N := 13) 0 (by kernel_rfl) Tryz.func81 rfl rfl rfl (by simp only [fr0, qbs, qbt]; exact rfl) rfl fun s0 hs0 => ?_
 refine zah ?_
 refine zaa 1 rfl ?_
 refine zab ?_
 refine zae ?_
 refine zae ?_
 refine zao 1 ?_
 refine zac ?_
 refine zaa 1 rfl ?_
 refine za rfl (Jz rfl UO zv130 (ev1 rfl)) ?_
 refine zaa 3 rfl ?_
 refine zak rfl (zaq 0 rfl UR rfl) ?_
 refine zas rfl (qY rfl Ak (ev1 rfl) (ev1 rfl) rfl rfl rfl rfl) ?_
 refine zaa 1 rfl ?_
 refine zab ?_
 refine zah ?_
 refine zaa 1 rfl ?_
 refine zab ?_
 refine qc rfl (rfl) ?_
 refine zar ?_
 refine zah ?_
 refine zaa 1 rfl ?_
 refine zab ?_
 refine qa ?_
 refine qx (rs1 rfl (qL rfl)) rfl ?_
 rfl
theorem zc (n : Int) : DFun Tryz.prog 81 [.ifc 130 (.val (.agg #[.int .i64 n]))] [] (.val (.int .i64 n)) [] := by
 refine zap (N := 13) 0 (by kernel_rfl) Tryz.func81 rfl rfl rfl (by simp only [fr0, qbs, qbt]; exact rfl) rfl fun s0 hs0 => ?_
 refine zah ?_
 refine zaa 1 rfl ?_
 refine zab ?_
 refine zae ?_
 refine zae ?_
 refine zao 1 ?_
 refine zac ?_
 refine zaa 1 rfl ?_
 refine za rfl (Jy rfl UO (ev1 rfl)) ?_
 refine zaa 3 rfl ?_
 refine zak rfl (zaq 0 rfl UR rfl) ?_
 refine zas rfl (qY rfl Ak (ev1 rfl) (ev1 rfl) rfl rfl rfl rfl) ?_
 refine zaa 1 rfl ?_
 refine zab ?_
 refine zah ?_
 refine zaa 1 rfl ?_
 refine zab ?_
 refine qJ rfl (rfl) ?_
 refine zah ?_
 refine za rfl (zam rfl ZO (ev1 rfl)) ?_
 refine za rfl (qB rfl qX (ev1 rfl) rfl rfl) ?_
 refine zaa 1 rfl ?_
 refine zab ?_
 refine qa ?_
 refine qx (rs1 rfl (qL rfl)) rfl ?_
 rfl
theorem Y8 (e : Int) : DDef Tryz.prog 125 [.loc 0 0] [.flat 34 [.int .i64 e]] none none [.flat 34 [.int .i64 0]] := by
 refine jB (dr := .tup []) (t := 1) (N := 3) 1 (by kernel_rfl) Tryz.func125 rfl rfl rfl (by simp only [fr0, qbs, qbt]; exact rfl) rfl rfl rfl rfl rfl fun s0 hs0 => ?_
 refine za rfl (zaj [] [] [] rfl (ev1 rfl) (ec (ev1 rfl) en) rfl rfl (vj) rfl rfl rfl rfl rfl rfl) ?_
 refine zas rfl (qK rfl qX (ev1 rfl) (ev1 rfl) rfl) ?_
 refine zab ?_
 refine ko [0] (qH rfl) rfl rfl ?_ ⟨rfl, trivial⟩
 rfl
theorem ZR (l : List Int) (w : Nat) (n : Int) (hl : l.length ≤ 90000) (h : 1 ≤ w ∧ w ≤ 8) (hf : KW w n = true) : DFun Tryz.prog 108 [.slf 1 l.length (l.flatMap uc8), .val (.int .i64 (w : Int)), .val (.int .u64 n)] [] (.tup [.slf 1 (l ++ vH w n).length ((l ++ vH w n).flatMap uc8), .val (.int .i64 0)]) [] := by
 refine qo (N := 18) 0 (by kernel_rfl) Tryz.func108 rfl rfl rfl (by simp only [fr0, qbs, qbt]; exact rfl) rfl fun s0 hs0 => ?_
 refine qz rfl hs0 ?_
 refine zao 1 ?_
 refine zac ?_
 refine zaa 1 rfl ?_
 refine zak rfl (zaq 0 rfl jT rfl) ?_
 refine zab ?_
 refine qr (l0 := [_]) rfl rfl rfl rfl rfl hs0 ?_
 refine za rfl (qV rfl en (ec (ev1 rfl) en)) ?_
 refine zab ⟨_, _, _, 1, ev1 rfl, qbK hs0 (by decide), rfl, ?_⟩
 have hs1 : s0.M.length ≤ 1 := qbK hs0 (by decide)
 refine qy rfl hs0 ?_
 refine zah ?_
 refine zaa 1 rfl ?_
 refine za rfl (xv (ps := [(0, .tmp 9)]) rfl um zr3 rfl (vc (ev1 rfl) vn) rfl (by decide) (by decide)) ?_
 refine za rfl (zaj [] [] [] rfl (ev1 rfl) (ec (ev1 rfl) en) rfl rfl (vi [(w : Int)] (by simp [JP]; omega)) rfl rfl rfl rfl rfl rfl) ?_
 refine zab ?_
 refine zah ?_
 refine zaa 3 rfl ?_
 refine za rfl (zaj [] [] [] rfl (ev1 rfl) (ec (ev1 rfl) (ec (ev1 rfl) en)) rfl rfl (UU w h n hf) rfl rfl rfl rfl rfl rfl) ?_
 refine za rfl (YT (ps := [(0, .tmp 12), (1, .tmp 15)]) rfl kO uU rfl (ec (ev1 rfl) (ec (ev1 rfl) en)) rfl (by decide)) ?_
 refine za rfl (zaj [] [] [] rfl (ev1 rfl) (ec (ev1 rfl) en) rfl rfl (qay _ _ (by rw [Y6 h.2]; omega)) rfl rfl rfl rfl rfl rfl) ?_
 refine zaa 1 rfl ?_
 refine zas rfl (qK rfl qX (ev1 rfl) (ev1 rfl) rfl) ?_
 refine zab ?_
 refine qa ?_
 refine jH (kL [0] [] rfl rfl (Y8 _) rfl rfl rfl rfl rfl) ?_
 refine qx (rs2 rfl (qL rfl) (js qX rfl rfl rfl)) rfl ?_
 rfl
end Go.Proofs.YtofklkbfkoliiaaGreat
namespace Go.Proofs.YtofklkbfkoliiaaGreat
set_option linter.unusedVariables false
set_option linter.unusedSimpArgs false
open Go.RowKit
theorem V7 (T : TypeId) (l : List Int) (e : Int) (n : Nat) (h : n ≤ l.length) : DFun Tryz.prog 128 [.loc 0 0, .val (.int .i64 (n : Int))] [.mix T [.slf 1 (l).length ((l).flatMap uc8), .val (.int .i64 e)]] (.tup []) [.mix T [.slf 1 (l).length ((l).flatMap uc8), .val (.int .i64 e)]] := by
 refine zap (N := 13) 1 (by kernel_rfl) Tryz.func128 rfl rfl rfl (by simp only [fr0, qbs, qbt]; exact rfl) rfl fun s0 hs0 => ?_
 refine zah ?_
 refine zaa 1 rfl ?_
 refine za rfl (qt rfl (ev1 rfl) (fun s v h => by cases h; exact ⟨_, rfl⟩)) ?_
 refine za rfl (zam rfl wL (ev1 rfl)) ?_
 refine za rfl (zan rfl kD (ev1 rfl) rfl rfl) ?_
 refine za rfl (qE rfl qG (ev1 rfl)) ?_
 refine zaa 1 rfl ?_
 refine za rfl (qv rfl (ev1 rfl) (ev1 rfl)) ?_
 refine zab ?_
 refine qc rfl (decide_eq_false (by omega)) ?_
 refine zar ?_
 refine ko [0] (qH rfl) rfl rfl ?_ ⟨rfl, trivial⟩
 rfl
theorem V8 (T : TypeId) (l : List Int) (e : Int) (n : Nat) (h : l.length < n) : DPan Tryz.prog 128 [.loc 0 0, .val (.int .i64 (n : Int))] [.mix T [.slf 1 (l).length ((l).flatMap uc8), .val (.int .i64 e)]] (.ifc 130 (.val (.agg #[.int .i64 110]))) [.mix T [.slf 1 (l).length ((l).flatMap uc8), .val (.int .i64 e)]] := by
 refine zap (N := 13) 1 (by kernel_rfl) Tryz.func128 rfl rfl rfl (by simp only [fr0, qbs, qbt]; exact rfl) rfl fun s0 hs0 => ?_
 refine zah ?_
 refine zaa 1 rfl ?_
 refine za rfl (qt rfl (ev1 rfl) (fun s v h => by cases h; exact ⟨_, rfl⟩)) ?_
 refine za rfl (zam rfl wL (ev1 rfl)) ?_
 refine za rfl (zan rfl kD (ev1 rfl) rfl rfl) ?_
 refine za rfl (qE rfl qG (ev1 rfl)) ?_
 refine zaa 1 rfl ?_
 refine za rfl (qv rfl (ev1 rfl) (ev1 rfl)) ?_
 refine zab ?_
 refine qJ rfl (decide_eq_true (by omega)) ?_
 refine zac ?_
 refine za rfl (je (ps := [(0, .const (.int .i64 110))]) rfl fl130 UR (vc (ev1 rfl) vn) rfl rfl) ?_
 refine za rfl (xy rfl UO (ev1 rfl)) ?_
 refine ky rfl (wg rfl (ev1 rfl)) rfl ?_
 refine xf [0] rfl rfl ?_ ⟨rfl, trivial⟩
 rfl
theorem UV (T : TypeId) (l : List Int) (e : Int) : DFun Tryz.prog 129 [.loc 0 0] [.mix T [.slf 1 (l).length ((l).flatMap uc8), .val (.int .i64 e)]] (.fn (.func 136) [] [.loc 1 0]) [.mix T [.slf 1 (l).length ((l).flatMap uc8), .val (.int .i64 e)], .mix 173 [.loc 0 0]] := by
 refine zap (N := 4) 1 (by kernel_rfl) Tryz.func129 rfl rfl rfl (by simp only [fr0, qbs, qbt]; exact rfl) rfl fun s0 hs0 => ?_
 refine zae ?_
 refine zao 1 ?_
 refine zac ?_
 refine zak rfl (gL 1 rfl (ev1 rfl) (fun s v h => by cases h <;> rfl) rfl) ?_
 refine zaa 1 rfl ?_
 refine zab ?_
 refine zah ?_
 refine za rfl (qV rfl en (ec (ev1 rfl) en)) ?_
 refine zaa 1 rfl ?_
 refine zab ?_
 refine qa ?_
 refine ko [0, 1] (rs1 rfl (qL rfl)) rfl rfl ?_ ⟨rfl, rfl, trivial⟩
 rfl
noncomputable def V9 : Code := rfA (pth [1, 0, 1, 1, 1, 0, 1, 0] (wj Tryz.f113))
noncomputable def Wa : Code := rfB (pth [1, 0, 1, 1, 1, 0, 1, 0] (wj Tryz.f113))
theorem GZ (i w acc b : Int) (h : i ≠ w) : DRound Tryz.prog 0 [.val (.int .i64 i), .val (.int .u8 b)] [.lp none 24 [(3, .loc 1 0), (5, .loc 2 0)] #[13, 14] V9 Wa .ready none, .flat 3 [.int .i64 w], .flat 25 [.int .u64 acc]] true [.lp none 24 [(3, .loc 1 0), (5, .loc 2 0)] #[13, 14] V9 Wa .ready none, .flat 3 [.int .i64 w], .flat 25 [.int .u64 (V2 acc b)]] := by
 refine yJ 3 rfl rfl (by simp) rfl rfl fun s0 hs0 => ?_
 refine zah ?_
 refine zaa 1 rfl ?_
 refine zab ?_
 refine zac ?_
 refine zaa 1 rfl ?_
 refine zab ?_
 refine ⟨rfl, ?_⟩
 simp only [zaf, zag]
 refine zat ?_
 refine zae ?_
 refine zah ?_
 refine zaa 1 rfl ?_
 refine za rfl (qB rfl tb3 (ev1 rfl) rfl rfl) ?_
 refine za rfl (qm rfl (ev1 rfl) (ev1 rfl)) ?_
 refine zab ?_
 refine qc rfl (by simp [h]) ?_
 refine zar ?_
 refine zac ?_
 refine za rfl (qB rfl qZ (ev1 rfl) rfl rfl) ?_
 refine za rfl (A4 (8) rfl (ev1 rfl) (ev1 rfl) (fun _ => ⟨rfl, by decide⟩)) ?_
 refine zaa 1 rfl ?_
 refine za rfl (Jw ty5 kn25 rfl (ev1 rfl)) ?_
 refine za rfl (A5 rfl (ev1 rfl) (ev1 rfl)) ?_
 refine zas rfl (qK rfl qZ (ev1 rfl) (ev1 rfl) rfl) ?_
 refine zab ?_
 refine ⟨by first | rfl | assumption | simp_all, rfl, [0, 1, 2], rfl, ⟨rfl, rfl, rfl, trivial⟩⟩
theorem Kl (i w acc b : Int) (h : i = w) : DRound Tryz.prog 0 [.val (.int .i64 i), .val (.int .u8 b)] [.lp none 24 [(3, .loc 1 0), (5, .loc 2 0)] #[13, 14] V9 Wa .ready none, .flat 3 [.int .i64 w], .flat 25 [.int .u64 acc]] false [.lp none 24 [(3, .loc 1 0), (5, .loc 2 0)] #[13, 14] V9 Wa .done (some (.exit 0)), .flat 3 [.int .i64 w], .flat 25 [.int .u64 acc]] := by
 refine yJ 3 rfl rfl (by simp) rfl rfl fun s0 hs0 => ?_
 refine zah ?_
 refine zaa 1 rfl ?_
 refine zab ?_
 refine zac ?_
 refine zaa 1 rfl ?_
 refine zab ?_
 refine ⟨rfl, ?_⟩
 simp only [zaf, zag]
 refine zat ?_
 refine zae ?_
 refine zah ?_
 refine zaa 1 rfl ?_
 refine za rfl (qB rfl tb3 (ev1 rfl) rfl rfl) ?_
 refine za rfl (qm rfl (ev1 rfl) (ev1 rfl)) ?_
 refine zab ?_
 refine qJ rfl (by simp [h]) ?_
 refine qD ?_
 refine ⟨by first | rfl | assumption | simp_all, rfl, [0, 1, 2], rfl, ⟨rfl, rfl, rfl, trivial⟩⟩
theorem Y9 (T : TypeId) (l : List Int) (hL : l.length ≤ 9223372036854775807) (e : Int) (w : Nat) : DFun Tryz.prog 136 [.yld 0, .loc 3 0] [.lp none 24 [(3, .loc 1 0), (5, .loc 2 0)] #[13, 14] V9 Wa .ready none, .flat 3 [.int .i64 (w : Int)], .flat 25 [.int .u64 0], .mix 173 [.loc 4 0], .mix T [.slf 1 (l).length ((l).flatMap uc8), .val (.int .i64 e)]] (.tup []) [.lp none 24 [(3, .loc 1 0), (5, .loc 2 0)] #[13, 14] V9 Wa (rst (decide (l.length ≤ w))) (rpe (.exit 0) (decide (l.length ≤ w))), .flat 3 [.int .i64 (w : Int)], .flat 25 [.int .u64 (kG w l)], .mix 173 [.loc 4 0], .mix T [.slf 1 (l).length ((l).flatMap uc8), .val (.int .i64 e)]] := by
 refine zap (N := 21) 5 (by kernel_rfl) Tryz.func136 rfl rfl rfl (by simp only [fr0, qbs, qbt]; exact rfl) rfl fun s0 hs0 => ?_
 refine zah ?_
 refine za rfl (zan rfl tb173 (ev1 rfl) rfl rfl) ?_
 refine za rfl (qt rfl (ev1 rfl) (fun s v h => by cases h; exact ⟨_, rfl⟩)) ?_
 refine za rfl (zam rfl wL (ev1 rfl)) ?_
 refine za rfl (zan rfl kD (ev1 rfl) rfl rfl) ?_
 refine za rfl (qE rfl qG (ev1 rfl)) ?_
 refine zaa 1 rfl ?_
 refine zab ?_
 refine zat ?_
 refine qI ⟨hs0, rfl⟩ (α := Nat) (fun k => [(10, .val (.int .i64 (k : Int)))]) [(0, _), (8, _), (9, _)] (fun k => [(2, .flat 25 [.int .u64 (kG k l)])]) [_, _, .hole, _, _] (fun k => k ≤ l.length ∧ k ≤ w) (fun k => l.length - k) 0 [0, 1, 2, 3, 4] (by simp) rfl ⟨rfl, rfl, rfl, trivial⟩ ⟨rfl, trivial⟩ ⟨rfl, rfl, rfl, rfl, rfl, trivial⟩ ?_
 intro k hx
 simp only [upd, zaf, zag, qbD, qbF]
 obtain ⟨hk, hkw⟩ := hx
 refine zah ?_
 refine za rfl (qv rfl (ev1 rfl) (ev1 rfl)) ?_
 refine zab ?_
 refine zae ?_
 refine qh rfl (fun c1 => ?_) (fun c1 => ?_)
 ·try simp only [decide_eq_true_eq, decide_eq_false_iff_not, beq_iff_eq, bne_iff_ne, beq_eq_false_iff_ne, bne_eq_false_iff_eq, qbx, qby, qbu, qbE, qbv, ne_eq, Decidable.not_not, qbQ, qbR] at c1
  refine zar ?_
  refine zae ?_
  refine zat ?_
  refine zah ?_
  refine zaa 1 rfl ?_
  refine za rfl (q0 (j := k) rfl qG (ev1 rfl) (ev1 rfl) (fun _ => rfl) (by decide) (by omega) (by omega)) ?_
  refine za rfl (ke rfl tb5 (ev1 rfl) rfl) ?_
  refine zaa 2 rfl ?_
  refine zab ?_
  refine zae ?_
  by_cases hw : k = w
  ·refine zac ?_
   refine zaa 3 rfl ?_
   refine zak rfl (GD (i := 0) [0, 1, 2] [] [] rfl (ev1 rfl) (ec (ev1 rfl) (ec (ev1 rfl) en)) rfl rfl rfl (Kl _ _ _ _ (by omega)) rfl rfl rfl rfl rfl) ?_
   refine za rfl (kv rfl (ev1 rfl)) ?_
   refine zab ?_
   refine qJ rfl (rfl) ?_
   refine qa ?_
   have e1 : decide (l.length ≤ w) = false := decide_eq_false (by omega)
   subst hw
   rw [e1]
   refine ko [0, 1, 2, 3, 4] (qH rfl) rfl rfl ?_ ⟨rfl, rfl, rfl, rfl, rfl, trivial⟩
   rfl
  ·refine zac ?_
   refine zaa 3 rfl ?_
   refine zak rfl (GD (i := 0) [0, 1, 2] [] [] rfl (ev1 rfl) (ec (ev1 rfl) (ec (ev1 rfl) en)) rfl rfl rfl (GZ _ _ _ _ (by omega)) rfl rfl rfl rfl rfl) ?_
   refine za rfl (kv rfl (ev1 rfl)) ?_
   refine zab ?_
   refine qc rfl (rfl) ?_
   refine zar ?_
   refine zac ?_
   refine za rfl (ql rfl (ev1 rfl) (ev1 rfl) (fun _ => qbB _ (by omega))) ?_
   refine zaa 1 rfl ?_
   refine zab ?_
   refine ⟨k + 1, [0, 1, 2, 3, 4], ⟨by omega, by omega⟩, by simp only []; omega, rfl, ⟨rfl, rfl, rfl, rfl, trivial⟩, ⟨rfl, rfl, by rw [V3 (by omega)]; rfl, rfl, rfl, trivial⟩⟩
 ·try simp only [decide_eq_true_eq, decide_eq_false_iff_not, beq_iff_eq, bne_iff_ne, beq_eq_false_iff_ne, bne_eq_false_iff_eq, qbx, qby, qbu, qbE, qbv, ne_eq, Decidable.not_not, qbQ, qbR] at c1
  refine qD ?_
  have e1 : decide (l.length ≤ w) = true := decide_eq_true (by omega)
  have e2 : k = l.length := by omega
  rw [e1, UK (show l.length ≤ w by omega), e2]
  refine ko [0, 1, 2, 3, 4] (qH rfl) rfl rfl ?_ ⟨rfl, rfl, rfl, rfl, rfl, trivial⟩
  rfl
theorem ZS (T : TypeId) (l : List Int) (hL : l.length ≤ 9223372036854775807) (e : Int) (w : Nat) (h : w ≤ l.length) : DFun Tryz.prog 113 [.loc 0 0, .val (.int .i64 (w : Int))] [.mix T [.slf 1 (l).length ((l).flatMap uc8), .val (.int .i64 e)]] (.val (.int .u64 (kG w l))) [.mix T [.slf 1 (l).length ((l).flatMap uc8), .val (.int .i64 e)]] := by
 refine zap (N := 24) 1 (by kernel_rfl) Tryz.func113 rfl rfl rfl (by simp only [fr0, qbs, qbt]; exact rfl) rfl fun s0 hs0 => ?_
 refine zae ?_
 refine zao 1 ?_
 refine zac ?_
 refine zak rfl (uH 1 rfl (ev1 rfl) rfl) ?_
 refine zaa 1 rfl ?_
 refine zab ?_
 refine KH ?_
 refine zah ?_
 refine zaa 1 rfl ?_
 refine za rfl (qB rfl tb3 (ev1 rfl) rfl rfl) ?_
 refine zak rfl (zaj [0] [] [] rfl (ev1 rfl) (ec (ev1 rfl) (ec (ev1 rfl) en)) rfl rfl (V7 _ _ _ w h) rfl rfl rfl rfl rfl rfl) ?_
 refine zab ?_
 refine zae ?_
 refine zao 1 ?_
 refine zac ?_
 refine zak rfl (zaq 2 rfl zr25 rfl) ?_
 refine zas rfl (qK rfl qZ (ev1 rfl) (ev1 rfl) rfl) ?_
 refine zab ?_
 refine zae ?_
 refine xb ?_
 refine zae ?_
 refine zae ?_
 refine zao 1 ?_
 refine zac ?_
 refine zaa 1 rfl ?_
 refine zak rfl (zaj [0] [] [3] rfl (ev1 rfl) (ec (ev1 rfl) en) rfl rfl (UV _ _ _) rfl rfl rfl rfl rfl rfl) ?_
 refine zab ?_
 refine zat ?_
 refine ym ?_
 simp only [qbD, qbF]
 refine YR (FL := [(3, _), (5, _)]) (st := (rst (decide (l.length ≤ w)))) (pe := (rpe (.exit 0) (decide (l.length ≤ w)))) [4, 1, 2, 3, 0] [] [] 4 rfl rfl (ev1 rfl) rfl (wJ ⟨rfl, rfl, trivial⟩) rfl rfl rfl (Y9 _ l hL e w) rfl rfl rfl rfl rfl rfl rfl (W8 _) (fun e => ?_) (fun c e => ?_)
 ·simp only [upd, zaf, zag]
  refine zah ?_
  refine za rfl (qB rfl qZ (ev1 rfl) rfl rfl) ?_
  refine zaa 1 rfl ?_
  refine zab ?_
  refine qa ?_
  refine ko [0] (rs1 rfl (qL rfl)) rfl rfl ?_ ⟨rfl, trivial⟩
  rfl
 ·obtain ⟨e1, rfl⟩ : decide (l.length ≤ w) = false ∧ c = .exit 0 := by
   cases h : decide (l.length ≤ w) <;> simp_all [rpe]
  simp only [upd, zaf, zag]
  refine qD ?_
  refine zah ?_
  refine za rfl (qB rfl qZ (ev1 rfl) rfl rfl) ?_
  refine zaa 1 rfl ?_
  refine zab ?_
  refine qa ?_
  refine ko [0] (rs1 rfl (qL rfl)) rfl rfl ?_ ⟨rfl, trivial⟩
  rfl
theorem K0 (T : TypeId) (l : List Int) (hL : l.length ≤ 9223372036854775807) (e : Int) (w : Nat) (h : w ≤ l.length) : DFun Tryz.prog 92 [.loc 0 0, .val (.int .i64 (w : Int))] [.mix T [.slf 1 (l).length ((l).flatMap uc8), .val (.int .i64 e)]] (.val (.int .u64 (kG w l))) [.mix T [.slf 1 (l.drop w).length ((l.drop w).flatMap uc8), .val (.int .i64 e)]] := by
 refine zap (N := 19) 1 (by kernel_rfl) Tryz.func92 rfl rfl rfl (by simp only [fr0, qbs, qbt]; exact rfl) rfl fun s0 hs0 => ?_
 refine zah ?_
 refine zaa 1 rfl ?_
 refine zab ?_
 refine zah ?_
 refine zaa 2 rfl ?_
 refine zak rfl (zaj [0] [] [] rfl (ev1 rfl) (ec (ev1 rfl) (ec (ev1 rfl) en)) rfl rfl (ZS _ _ hL _ w h) rfl rfl rfl rfl rfl rfl) ?_
 refine zaa 1 rfl ?_
 refine zab ?_
 refine zah ?_
 refine zaa 2 rfl ?_
 refine za rfl (qt rfl (ev1 rfl) (fun s v h => by cases h; exact ⟨_, rfl⟩)) ?_
 refine za rfl (zam rfl wL (ev1 rfl)) ?_
 refine za rfl (zan rfl kD (ev1 rfl) rfl rfl) ?_
 refine zaa 1 rfl ?_
 refine za rfl (yi (i := w) rfl qG (ev1 rfl) (jf (ev1 rfl)) (fun _ => by omega) (fun _ => by omega) (fun _ => rfl)) ?_
 refine za rfl (qt rfl (ev1 rfl) (fun s v h => by cases h; exact ⟨_, rfl⟩)) ?_
 refine za rfl (zam rfl wL (ev1 rfl)) ?_
 refine zas rfl (kJ rfl kD (ev1 rfl) (ev1 rfl) (fun s v h => by cases h <;> exact ⟨rfl, rfl⟩) rfl (by first | decide | exact qbA rfl | simp)) ?_
 refine zab ?_
 refine zah ?_
 refine zaa 2 rfl ?_
 refine zab ?_
 refine qa ?_
 refine ko [0] (rs1 rfl (qL rfl)) rfl rfl ?_ ⟨rfl, trivial⟩
 rfl
theorem UW (T : TypeId) (l : List Int) (e : Int) (w : Nat) (h : l.length < w) : DPan Tryz.prog 113 [.loc 0 0, .val (.int .i64 (w : Int))] [.mix T [.slf 1 (l).length ((l).flatMap uc8), .val (.int .i64 e)]] (.ifc 130 (.val (.agg #[.int .i64 110]))) [.mix T [.slf 1 (l).length ((l).flatMap uc8), .val (.int .i64 e)]] := by
 refine zap (N := 24) 1 (by kernel_rfl) Tryz.func113 rfl rfl rfl (by simp only [fr0, qbs, qbt]; exact rfl) rfl fun s0 hs0 => ?_
 refine zae ?_
 refine zao 1 ?_
 refine zac ?_
 refine zak rfl (uH 1 rfl (ev1 rfl) rfl) ?_
 refine zaa 1 rfl ?_
 refine zab ?_
 refine KH ?_
 refine zah ?_
 refine zaa 1 rfl ?_
 refine za rfl (qB rfl tb3 (ev1 rfl) rfl rfl) ?_
 refine ky rfl (qw [0] [] [] rfl (ev1 rfl) (ec (ev1 rfl) (ec (ev1 rfl) en)) rfl rfl (V8 _ _ _ w h) rfl rfl rfl rfl rfl rfl) rfl ?_
 refine xf [0] rfl rfl ?_ ⟨rfl, trivial⟩
 rfl
theorem zU (T : TypeId) (l : List Int) (e : Int) (w : Nat) (h : l.length < w) : DPan Tryz.prog 92 [.loc 0 0, .val (.int .i64 (w : Int))] [.mix T [.slf 1 (l).length ((l).flatMap uc8), .val (.int .i64 e)]] (.ifc 130 (.val (.agg #[.int .i64 110]))) [.mix T [.slf 1 (l).length ((l).flatMap uc8), .val (.int .i64 e)]] := by
 refine zap (N := 19) 1 (by kernel_rfl) Tryz.func92 rfl rfl rfl (by simp only [fr0, qbs, qbt]; exact rfl) rfl fun s0 hs0 => ?_
 refine zah ?_
 refine zaa 1 rfl ?_
 refine zab ?_
 refine zah ?_
 refine zaa 2 rfl ?_
 refine ky rfl (qw [0] [] [] rfl (ev1 rfl) (ec (ev1 rfl) (ec (ev1 rfl) en)) rfl rfl (UW _ _ _ w h) rfl rfl rfl rfl rfl rfl) rfl ?_
 refine xf [0] rfl rfl ?_ ⟨rfl, trivial⟩
 rfl
end Go.Proofs.YtofklkbfkoliiaaGreat
namespace Go.Proofs.YtofklkbfkoliiaaGreat
set_option linter.unusedVariables false
set_option linter.unusedSimpArgs false
open Go.RowKit
theorem Qa (w h : Int) : DFun Tryz.prog 78 [.val (.agg #[.int .i64 w, .int .i64 h])] [] (.val (.bool (gW w h))) [] := by
 refine zap (N := 21) 0 (by kernel_rfl) Tryz.func78 rfl rfl rfl (by simp only [fr0, qbs, qbt]; exact rfl) rfl fun s0 hs0 => ?_
 refine zae ?_
 refine zao 1 ?_
 refine zac ?_
 refine zak rfl (gK 0 rfl (ev1 rfl) rfl) ?_
 refine zaa 1 rfl ?_
 refine zab ?_
 refine zah ?_
 refine za rfl (zam rfl JQ (ev1 rfl)) ?_
 refine za rfl (qB rfl tb3 (ev1 rfl) rfl rfl) ?_
 refine za rfl (jh rfl (ev1 rfl) (ev1 rfl)) ?_
 refine zaa 1 rfl ?_
 refine zai (qn rfl rfl rfl) rfl rfl rfl (zam rfl JQ (ev1 rfl)) ?_
 refine zai (qn rfl rfl rfl) rfl rfl rfl (qB rfl tb3 (ev2 rfl) rfl rfl) ?_
 refine zai (qn rfl rfl rfl) rfl rfl rfl (y3 rfl (ev2 rfl) (ev1 rfl)) ?_
 refine za rfl (qC rfl (ev1 rfl) (ev3 rfl id)) ?_
 refine zaa 1 rfl ?_
 refine zai (qn rfl rfl rfl) rfl rfl rfl (zam rfl JR (ev1 rfl)) ?_
 refine zai (qn rfl rfl rfl) rfl rfl rfl (qB rfl tb3 (ev2 rfl) rfl rfl) ?_
 refine zai (qn rfl rfl rfl) rfl rfl rfl (jh rfl (ev2 rfl) (ev1 rfl)) ?_
 refine za rfl (qC rfl (ev1 rfl) (ev3 rfl id)) ?_
 refine zaa 1 rfl ?_
 refine zai (qn rfl rfl rfl) rfl rfl rfl (zam rfl JR (ev1 rfl)) ?_
 refine zai (qn rfl rfl rfl) rfl rfl rfl (qB rfl tb3 (ev2 rfl) rfl rfl) ?_
 refine zai (qn rfl rfl rfl) rfl rfl rfl (y3 rfl (ev2 rfl) (ev1 rfl)) ?_
 refine za rfl (qC rfl (ev1 rfl) (ev3 rfl id)) ?_
 refine zaa 1 rfl ?_
 refine zab ?_
 refine qa ?_
 refine qx (rs1 rfl (qL rfl)) rfl ?_
 unfold gW
 simp [Bool.and_assoc]
end Go.Proofs.YtofklkbfkoliiaaGreat
namespace Go.Proofs.YtofklkbfkoliiaaGreat
set_option linter.unusedVariables false
set_option linter.unusedSimpArgs false
open Go.RowKit
theorem G0 (w h : Int) (ts : List TL) : DFun Tryz.prog 41 [shD w h ts] [] (.val (.int .i64 (wn (jl w h ts) 150))) [] := by
 refine zap (N := 23) 0 (by kernel_rfl) Tryz.func41 rfl rfl rfl (by simp only [fr0, qbs, qbt]; exact rfl) rfl fun s0 hs0 => ?_
 refine zae ?_
 refine zao 1 ?_
 refine zac ?_
 refine zak rfl (qd 0 rfl (ev1 rfl) rfl) ?_
 refine zaa 1 rfl ?_
 refine zab ?_
 refine zae ?_
 refine zae ?_
 refine zao 1 ?_
 refine zac ?_
 refine za rfl (zam rfl y5 (ev1 rfl)) ?_
 refine za rfl (zan rfl tb3 (ev1 rfl) rfl rfl) ?_
 refine za rfl (zam rfl y6 (ev1 rfl)) ?_
 refine za rfl (zan rfl tb3 (ev1 rfl) rfl rfl) ?_
 refine za rfl (je (ps := [(0, .tmp 5), (1, .tmp 7)]) rfl UL KZ (vc (ev1 rfl) (vc (ev1 rfl) vn)) rfl rfl) ?_
 refine zak rfl (zaq 1 rfl KZ rfl) ?_
 refine zas rfl (qY rfl zR (ev1 rfl) (ev1 rfl) rfl rfl rfl rfl) ?_
 refine zab ?_
 refine zah ?_
 refine za rfl (kT rfl zR (ev1 rfl) rfl rfl) ?_
 refine za rfl (zaj [] [] [] rfl (ev1 rfl) (ec (ev1 rfl) en) rfl rfl (Qa _ _) rfl rfl rfl rfl rfl rfl) ?_
 refine za rfl (kv rfl (ev1 rfl)) ?_
 refine zaa 1 rfl ?_
 refine zai (qe rfl rfl rfl) rfl rfl rfl (zam rfl yw (ev1 rfl)) ?_
 refine zai (qe rfl rfl rfl) rfl rfl rfl (zan rfl xI (ev2 rfl) rfl rfl) ?_
 refine zai (qe rfl rfl rfl) rfl rfl rfl (qE rfl ul (ev2 rfl)) ?_
 refine zai (qe rfl rfl rfl) rfl rfl rfl (zam rfl JQ (ev1 rfl)) ?_
 refine zai (qe rfl rfl rfl) rfl rfl rfl (qB rfl tb3 (ev2 rfl) rfl rfl) ?_
 refine zai (qe rfl rfl rfl) rfl rfl rfl (zam rfl JR (ev1 rfl)) ?_
 refine zai (qe rfl rfl rfl) rfl rfl rfl (qB rfl tb3 (ev2 rfl) rfl rfl) ?_
 refine zai (qe rfl rfl rfl) rfl rfl rfl (WT rfl (ev2 rfl) (ev2 rfl)) ?_
 refine zai (qe rfl rfl rfl) rfl rfl rfl (qT rfl (ev2 rfl) (ev2 rfl)) ?_
 refine za rfl (kx rfl (ev1 rfl) (ev3 rfl id)) ?_
 refine zab ?_
 refine qh rfl (fun c1 => ?_) (fun c1 => ?_)
 ·have hr : jl w h ts = false := by
   cases hm : gW w h with
   | false => unfold jl; rw [hm]; rfl
   | true =>
    have hb := wo hm
    rw [hm, qbB _ (by omega)] at c1
    simp at c1
    unfold jl
    rw [decide_eq_false (by omega)]
    exact Bool.and_false _
  refine zah ?_
  refine zaa 1 rfl ?_
  refine zab ?_
  refine qa ?_
  refine qx (rs1 rfl (qL rfl)) rfl ?_
  rw [hr]
  rfl
 ·have hr : jl w h ts = true := by
   cases hm : gW w h with
   | false => rw [hm] at c1; simp at c1
   | true =>
    have hb := wo hm
    rw [hm, qbB _ (by omega)] at c1
    simp at c1
    unfold jl
    rw [hm, decide_eq_true (by omega)]
    rfl
  refine zar ?_
  refine zah ?_
  refine zaa 1 rfl ?_
  refine zab ?_
  refine qa ?_
  refine qx (rs1 rfl (qL rfl)) rfl ?_
  rw [hr]
  rfl
theorem qaz (w h w2 h2 : Int) (ts us : List TL) (hn : ts.length ≤ 5000) : DFun Tryz.prog 44 [shD w h ts, shD w2 h2 us] [] (.val (.bool (decide (w = w2 ∧ h = h2 ∧ ts = us)))) [] := by
 refine zap (N := 44) 0 (by kernel_rfl) Tryz.func44 rfl rfl rfl (by simp only [fr0, qbs, qbt]; exact rfl) rfl fun s0 hs0 => ?_
 refine zae ?_
 refine zao 2 ?_
 refine zac ?_
 refine zak rfl (qd 0 rfl (ev1 rfl) rfl) ?_
 refine zak rfl (qd 1 rfl (ev1 rfl) rfl) ?_
 refine zaa 1 rfl ?_
 refine zab ?_
 refine zae ?_
 refine zah ?_
 refine za rfl (zam rfl y5 (ev1 rfl)) ?_
 refine za rfl (zan rfl tb3 (ev1 rfl) rfl rfl) ?_
 refine za rfl (zam rfl y5 (ev1 rfl)) ?_
 refine za rfl (zan rfl tb3 (ev1 rfl) rfl rfl) ?_
 refine za rfl (qT rfl (ev1 rfl) (ev1 rfl)) ?_
 refine zaa 1 rfl ?_
 refine zai (qe rfl rfl rfl) rfl rfl rfl (zam rfl y6 (ev1 rfl)) ?_
 refine zai (qe rfl rfl rfl) rfl rfl rfl (zan rfl tb3 (ev2 rfl) rfl rfl) ?_
 refine zai (qe rfl rfl rfl) rfl rfl rfl (zam rfl y6 (ev1 rfl)) ?_
 refine zai (qe rfl rfl rfl) rfl rfl rfl (zan rfl tb3 (ev2 rfl) rfl rfl) ?_
 refine zai (qe rfl rfl rfl) rfl rfl rfl (qT rfl (ev2 rfl) (ev2 rfl)) ?_
 refine za rfl (kx rfl (ev1 rfl) (ev3 rfl id)) ?_
 refine zaa 1 rfl ?_
 refine zai (qe rfl rfl rfl) rfl rfl rfl (zam rfl yw (ev1 rfl)) ?_
 refine zai (qe rfl rfl rfl) rfl rfl rfl (zan rfl xI (ev2 rfl) rfl rfl) ?_
 refine zai (qe rfl rfl rfl) rfl rfl rfl (qE rfl ul (ev2 rfl)) ?_
 refine zai (qe rfl rfl rfl) rfl rfl rfl (zam rfl yw (ev1 rfl)) ?_
 refine zai (qe rfl rfl rfl) rfl rfl rfl (zan rfl xI (ev2 rfl) rfl rfl) ?_
 refine zai (qe rfl rfl rfl) rfl rfl rfl (qE rfl ul (ev2 rfl)) ?_
 refine zai (qe rfl rfl rfl) rfl rfl rfl (qT rfl (ev2 rfl) (ev2 rfl)) ?_
 refine za rfl (kx rfl (ev1 rfl) (ev3 rfl id)) ?_
 refine zab ?_
 refine qh rfl (fun c1 => ?_) (fun c1 => ?_)
 ·have hne : ¬ (w = w2 ∧ h = h2 ∧ ts = us) := by
   rintro ⟨rfl, rfl, rfl⟩
   simp at c1
  refine zah ?_
  refine zaa 1 rfl ?_
  refine zab ?_
  refine qa ?_
  refine qx (rs1 rfl (qL rfl)) rfl ?_
  rw [decide_eq_false hne]
 ·obtain ⟨rfl, rfl, hlen⟩ : w = w2 ∧ h = h2 ∧ ts.length = us.length := by
   simp at c1
   omega
  refine zar ?_
  refine zae ?_
  refine zah ?_
  refine za rfl (zam rfl yw (ev1 rfl)) ?_
  refine za rfl (zan rfl xI (ev1 rfl) rfl rfl) ?_
  refine za rfl (qE rfl ul (ev1 rfl)) ?_
  refine zaa 1 rfl ?_
  refine zab ?_
  refine zat ?_
  refine qI ⟨hs0, rfl⟩ (α := Nat) (fun k => [(31, .val (.int .i64 (k : Int)))]) [(3, _), (29, _), (30, _)] (fun k => []) [_, _] (fun k => k ≤ ts.length ∧ ts.take k = us.take k) (fun k => ts.length - k) 0 [0, 1] (by simp) rfl ⟨rfl, rfl, rfl, trivial⟩ ⟨rfl, trivial⟩ ⟨rfl, rfl, trivial⟩ ?_
  intro k hx
  simp only [upd, zaf, zag, qbD, qbF]
  obtain ⟨hk, he⟩ := hx
  refine zah ?_
  refine za rfl (qv rfl (ev1 rfl) (ev1 rfl)) ?_
  refine zab ?_
  refine zae ?_
  refine qh rfl (fun c2 => ?_) (fun c2 => ?_)
  ·try simp only [decide_eq_true_eq, decide_eq_false_iff_not, beq_iff_eq, bne_iff_ne, beq_eq_false_iff_ne, bne_eq_false_iff_eq, qbx, qby, qbu, qbE, qbv, ne_eq, Decidable.not_not, qbQ, qbR] at c2
   refine zar ?_
   refine zae ?_
   refine zat ?_
   refine zae ?_
   refine zao 1 ?_
   refine zac ?_
   refine zaa 1 rfl ?_
   refine za rfl (q0 (j := k) rfl ul (ev1 rfl) (ev1 rfl) qA (by decide) (by omega) (by omega)) ?_
   refine za rfl (xT rfl jt (ev1 rfl) (qA _)) ?_
   refine zak rfl (zaq 2 rfl yU rfl) ?_
   refine zaa 1 rfl ?_
   refine zas rfl (qY rfl jt (ev1 rfl) (ev1 rfl) rfl (qA _) (yx _) ((qA _).trans (qA _).symm)) ?_
   refine zab ?_
   refine zae ?_
   refine qg [([2], []), ([], []), ([1], []), ([], []), ([], []), ([], []), ([], [])] qP (by kernel_rfl) ?_
   refine zad rfl rfl (kT rfl jt (ev1 rfl) rfl (qA _)) ?_
   refine zad rfl rfl (zam rfl yw (ev1 rfl)) ?_
   refine zad rfl rfl (zan rfl xI (ev1 rfl) rfl rfl) ?_
   refine zad rfl rfl (zal (.inl rfl) (ev1 rfl)) ?_
   refine zad rfl rfl (q0 (j := k) rfl ul (ev1 rfl) (ev1 rfl) qA (by decide) (by omega) (by omega)) ?_
   refine zad rfl rfl (xT rfl jt (ev1 rfl) (qA _)) ?_
   refine zad rfl rfl (AX eq84 rfl gd84 jt (ev1 rfl) (ev1 rfl)) ?_
   refine qk ?_
   refine qh rfl (fun c2 => ?_) (fun c2 => ?_)
   ·have c3 : ts[k] ≠ us[k] := by simpa using c2
    refine zah ?_
    refine zaa 1 rfl ?_
    refine zab ?_
    refine qa ?_
    refine qx (rs1 rfl (qL rfl)) rfl ?_
    have hne : ¬ (w = w ∧ h = h ∧ ts = us) := by
     rintro ⟨_, _, rfl⟩
     exact c3 rfl
    have hne : ts ≠ us := fun e => hne ⟨rfl, rfl, e⟩
    simp [hne]
   ·have c3 : ts[k] = us[k] := by simpa using c2
    refine zar ?_
    refine zac ?_
    refine za rfl (ql rfl (ev1 rfl) (ev1 rfl) (fun _ => qbB _ (by omega))) ?_
    refine zaa 1 rfl ?_
    refine zab ?_
    refine ⟨k + 1, [0, 1], ⟨by omega, by rw [qbP (by omega), qbP (by omega), he, c3]⟩, by simp only []; omega, rfl, ⟨rfl, rfl, rfl, rfl, trivial⟩, ⟨rfl, rfl, trivial⟩⟩
  ·try simp only [decide_eq_true_eq, decide_eq_false_iff_not, beq_iff_eq, bne_iff_ne, beq_eq_false_iff_ne, bne_eq_false_iff_eq, qbx, qby, qbu, qbE, qbv, ne_eq, Decidable.not_not, qbQ, qbR] at c2
   refine qD ?_
   refine zah ?_
   refine zaa 1 rfl ?_
   refine zab ?_
   refine qa ?_
   refine qx (rs1 rfl (qL rfl)) rfl ?_
   have e : ts = us := by
    have h := he
    rw [qbT (by omega), qbT (by omega)] at h
    exact h
   simp [e]
end Go.Proofs.YtofklkbfkoliiaaGreat
namespace Go.Proofs.YtofklkbfkoliiaaGreat
set_option linter.unusedVariables false
set_option linter.unusedSimpArgs false
open Go.RowKit
theorem As (t : TL) : ([Value.agg (tc t).toArray].all fun v => v.cells.size == 256) = true := by
 show ((tc t).toArray.size == 256 && true) = true
 rw [List.size_toArray, qA]; rfl
theorem At (t : TL) : ([Value.agg (tc t).toArray].flatMap fun v => v.cells.toList) = tc t := by rw [qbJ]; exact qci _
theorem UX (t : TL) : ([Value.agg (tc t).toArray].flatMap fun v => v.cells.toList).all (·.oneCell') = true := by rw [At]; exact yx t
theorem new_d (c : C4) : DFun Tryz.prog 132 [.val (.agg (c4 c).toArray)] [] (tD (nT c)) [] := by
 refine zap (N := 13) 0 (by kernel_rfl) Tryz.func132 rfl rfl rfl (by simp only [fr0, qbs, qbt]; exact rfl) rfl fun s0 hs0 => ?_
 refine zae ?_
 refine zao 2 ?_
 refine zac ?_
 refine zak rfl (gK 0 rfl (ev1 rfl) rfl) ?_
 refine zak rfl (zaq 1 rfl yU rfl) ?_
 refine zab ?_
 refine zae ?_
 refine zao 1 ?_
 refine zac ?_
 refine zak rfl (zaq 2 rfl yU rfl) ?_
 refine zab ?_
 refine zae ?_
 refine zah ?_
 refine zaa 1 rfl ?_
 refine zab ?_
 refine zat ?_
 refine qI ⟨hs0, rfl⟩ (α := Nat) (fun k => [(5, .val (.int .i64 (k : Int)))]) [(1, _), (2, _), (3, _)] (fun k => [(2, .flat 84 (tc (zP c k)))]) [_, _, .hole] (fun k => k ≤ 64) (fun k => 64 - k) 0 [0, 1, 2] (by simp) rfl ⟨rfl, rfl, rfl, trivial⟩ ⟨rfl, trivial⟩ ⟨rfl, rfl, rfl, trivial⟩ ?_
 intro k hx
 simp only [upd, zaf, zag, qbD, qbF]
 have hk := hx
 refine zah ?_
 refine za rfl (qv rfl (ev1 rfl) (ev1 rfl)) ?_
 refine zab ?_
 refine zae ?_
 refine qh rfl (fun c1 => ?_) (fun c1 => ?_)
 ·try simp only [decide_eq_true_eq, decide_eq_false_iff_not, beq_iff_eq, bne_iff_ne, beq_eq_false_iff_ne, bne_eq_false_iff_eq, qbx, qby, qbu, qbE, qbv, ne_eq, Decidable.not_not, qbQ, qbR] at c1
  refine zar ?_
  refine zae ?_
  refine zat ?_
  refine zah ?_
  refine zaa 2 rfl ?_
  refine zab ?_
  refine zac ?_
  refine zaa 1 rfl ?_
  refine za rfl (kT rfl vJ (ev1 rfl) rfl rfl) ?_
  refine za rfl (yC (j := k) rfl Kk (ev1 rfl) (ev1 rfl) (fun _ => by omega) (fun _ => by omega)) ?_
  refine zas rfl (xX (q := c) rfl vJ (ev1 rfl) (ev1 rfl) rfl rfl rfl (fun _ => rfl) (fun _ => by rw [TL.h]; omega)) ?_
  refine zab ?_
  refine zac ?_
  refine za rfl (ql rfl (ev1 rfl) (ev1 rfl) (fun _ => qbB _ (by omega))) ?_
  refine zaa 1 rfl ?_
  refine zab ?_
  refine ⟨k + 1, [0, 1, 2], by omega, by simp only []; omega, rfl, ⟨rfl, rfl, rfl, rfl, trivial⟩, ⟨rfl, rfl, by rw [VZ]; rfl, trivial⟩⟩
 ·try simp only [decide_eq_true_eq, decide_eq_false_iff_not, beq_iff_eq, bne_iff_ne, beq_eq_false_iff_ne, bne_eq_false_iff_eq, qbx, qby, qbu, qbE, qbv, ne_eq, Decidable.not_not, qbQ, qbR] at c1
  refine qD ?_
  refine zah ?_
  refine za rfl (kT rfl jt (ev1 rfl) rfl (qA _)) ?_
  refine zas rfl (qY rfl jt (ev1 rfl) (ev1 rfl) rfl (qA _) (yx _) ((qA _).trans (qA _).symm)) ?_
  refine zab ?_
  refine qa ?_
  refine qx (rs1 rfl (yv jt rfl rfl (qA _))) rfl ?_
  rw [show k = 64 by omega, UG]
def vk (A : List Nat) (ts : List TL) : List D := (A.zip ts).map fun p => .pin p.1 (tc p.2)
theorem K1 {A : List Nat} {ts : List TL} (h : A.length = ts.length) : (vk A ts).length = ts.length := by simp [vk, h]
theorem G1 {A : List Nat} {ts : List TL} {q : Nat} {d : D} (hd : (vk A ts)[q]? = some d) : ∃ b t, A[q]? = some b ∧ ts[q]? = some t ∧ d = .pin b (tc t) := by
 unfold vk at hd
 rw [qca] at hd
 cases e : (A.zip ts)[q]? with
 | none => rw [e] at hd; cases hd
 | some p =>
  rw [e] at hd
  obtain ⟨h1, h2⟩ := List.getElem?_zip_eq_some.1 e
  cases hd
  exact ⟨p.1, p.2, h1, h2, rfl⟩
theorem ZT {l : List D} (h : ∀ d ∈ l, d.nl = true) : D.nlL l = true := by
 induction l with
 | nil => rfl
 | cons d l ih => rw [D.nlL, h d (by simp), ih fun e he => h e (by simp [he])]; rfl
theorem zV {A : List Nat} {ts : List TL} (h : A.length = ts.length) : RowOk (vk A ts) ts := by
 have hm : ∀ d ∈ vk A ts, ∃ b t, d = .pin b (tc t) := fun d hd => by
  obtain ⟨q, hq⟩ := List.getElem?_of_mem hd
  obtain ⟨b, t, _, _, e⟩ := G1 hq
  exact ⟨b, t, e⟩
 refine ⟨K1 h, ZT fun d hd => ?_, qbX.2 fun d hd => ?_, fun q d t h1 h2 => ?_⟩
 ·obtain ⟨b, t, rfl⟩ := hm d hd; rfl
 ·obtain ⟨b, t, rfl⟩ := hm d hd; rfl
 ·obtain ⟨b, u, h3, h4, rfl⟩ := G1 h1
  rw [h2] at h4
  cases h4
  exact Wk.pin _ _
theorem Wb {A : List Nat} {ts : List TL} (h : A.length = ts.length) (b : Nat) (t : TL) : vk (A ++ [b]) (ts ++ [t]) = vk A ts ++ [.pin b (tc t)] := by
 unfold vk
 rw [List.zip_append h, List.map_append]
 rfl
theorem K2 (A : List Nat) (b : Nat) (t : TL) : vk A (qbH A.length t) ++ List.flatMap D.cs [.pin b (tc t)] = vk (A ++ [b]) (qbH (A ++ [b]).length t) := by
 rw [qbz, show A.length + [b].length = A.length + 1 from rfl, List.replicate_succ', Wb (by simp)]
 rfl
def NewCv (I : Nat → Prop) (w h : Int) (ts : List TL) (d : D) : Prop := ∃ A : List Nat, A.length = ts.length ∧ (∀ b ∈ A, ¬ I b) ∧ d = cvD w h (vk A ts)
def Okd (Q : D → Prop) (d : D) : Prop := ∃ e, Q e ∧ d = .tup [e, .val (.int .i64 0)]
theorem qaA (w h : Int) (hm : gW w h = false) : DFun Tryz.prog 121 [.val (.int .i64 w), .val (.int .i64 h)] [] (.tup [.val (.pointer none), .val (.int .i64 2)]) [] := by
 refine zap (N := 36) 0 (by kernel_rfl) Tryz.func121 rfl rfl rfl (by simp only [fr0, qbs, qbt]; exact rfl) rfl fun s0 hs0 => ?_
 refine zah ?_
 refine zaa 2 rfl ?_
 refine zab ?_
 refine zae ?_
 refine zao 1 ?_
 refine zac ?_
 refine zaa 2 rfl ?_
 refine za rfl (je (ps := [(0, .tmp 9), (1, .tmp 10)]) rfl UL KZ (vc (ev1 rfl) (vc (ev1 rfl) vn)) rfl rfl) ?_
 refine zak rfl (zaq 0 rfl KZ rfl) ?_
 refine zas rfl (qY rfl zR (ev1 rfl) (ev1 rfl) rfl rfl rfl rfl) ?_
 refine zab ?_
 refine zae ?_
 refine zah ?_
 refine za rfl (kT rfl zR (ev1 rfl) rfl rfl) ?_
 refine za rfl (zaj [] [] [] rfl (ev1 rfl) (ec (ev1 rfl) en) rfl rfl (Qa _ _) rfl rfl rfl rfl rfl rfl) ?_
 refine za rfl (kv rfl (ev1 rfl)) ?_
 refine zab ?_
 refine qJ rfl (by rw [hm]; rfl) ?_
 refine zah ?_
 refine zaa 2 rfl ?_
 refine zab ?_
 refine qa ?_
 refine qx (rs2 rfl (qL rfl) (qL rfl)) rfl ?_
 rfl
theorem qaB (w h : Int) (n : Nat) (hm : gW w h = true) (hn : w * h = (n : Int)) : DFunI Tryz.prog 121 [.val (.int .i64 w), .val (.int .i64 h)] [] (fun I => Okd (NewCv I w h (qbH n (nT zC4)))) [] := by
 have hb := wo hm
 refine Y1 (N := 36) 0 (by kernel_rfl) Tryz.func121 rfl rfl rfl (by simp only [fr0, qbs, qbt]; exact rfl) rfl fun s0 hs0 => ?_
 refine zah ?_
 refine zaa 2 rfl ?_
 refine zab ?_
 refine zae ?_
 refine zao 1 ?_
 refine zac ?_
 refine zaa 2 rfl ?_
 refine za rfl (je (ps := [(0, .tmp 9), (1, .tmp 10)]) rfl UL KZ (vc (ev1 rfl) (vc (ev1 rfl) vn)) rfl rfl) ?_
 refine zak rfl (zaq 0 rfl KZ rfl) ?_
 refine zas rfl (qY rfl zR (ev1 rfl) (ev1 rfl) rfl rfl rfl rfl) ?_
 refine zab ?_
 refine zae ?_
 refine zah ?_
 refine za rfl (kT rfl zR (ev1 rfl) rfl rfl) ?_
 refine za rfl (zaj [] [] [] rfl (ev1 rfl) (ec (ev1 rfl) en) rfl rfl (Qa _ _) rfl rfl rfl rfl rfl rfl) ?_
 refine za rfl (kv rfl (ev1 rfl)) ?_
 refine zab ?_
 refine qc rfl (by rw [hm]; rfl) ?_
 refine zar ?_
 refine zae ?_
 refine zao 1 ?_
 refine zac ?_
 refine za rfl (kT rfl zR (ev1 rfl) rfl rfl) ?_
 refine za rfl (je (ps := [(0, .tmp 15)]) rfl fl210 zr210 (vc (ev1 rfl) vn) rfl rfl) ?_
 refine zak rfl (gK 1 rfl (ev1 rfl) rfl) ?_
 refine zaa 1 rfl ?_
 refine zab ?_
 refine zae ?_
 refine zae ?_
 refine jg 1 yZ rfl rfl (by simp only [qbD, qbF, zaf, zag, List.map]; exact rfl) ?_
 refine yR (l' := [.val (.int .i64 w), .val (.int .i64 h), .arr 2]) 1 2 194 1 rfl rfl rfl rfl (by simp only [qbD, qbF, zaf, zag]; exact rfl) ?_
 refine zac ?_
 refine zaa 2 rfl ?_
 refine za rfl (yz rfl (ev1 rfl) (ev1 rfl) (fun _ => qbB _ (by omega))) ?_
 refine zaa 1 rfl ?_
 refine zab ?_
 refine zat ?_
 refine qI ⟨hs0, rfl⟩ (α := List Nat) (fun A => [(21, .val (.int .i64 (A.length : Int)))]) [(7, _), (20, _)] (fun A => [(2, .arx 194 1 A.length (vk A (qbH A.length (nT zC4))))]) [_, _, .hole] (fun A => A.length ≤ n ∧ ∀ b ∈ A, ¬ s0.I b) (fun A => n - A.length) [] [0, 1, 2] (⟨qb3 _, fun b hb => by simp at hb⟩) rfl ⟨rfl, rfl, trivial⟩ ⟨rfl, trivial⟩ ⟨rfl, rfl, rfl, trivial⟩ ?_
 intro A hx
 simp only [upd, zaf, zag, qbD, qbF]
 obtain ⟨hA, hAI⟩ := hx
 refine zah ?_
 refine za rfl (qv rfl (ev1 rfl) (ev1 rfl)) ?_
 refine zab ?_
 refine zae ?_
 refine qh rfl (fun c2 => ?_) (fun c2 => ?_)
 ·try simp only [decide_eq_true_eq, decide_eq_false_iff_not, beq_iff_eq, bne_iff_ne, beq_eq_false_iff_ne, bne_eq_false_iff_eq, qbx, qby, qbu, qbE, qbv, ne_eq, Decidable.not_not, qbQ, qbR] at c2
  refine zar ?_
  refine zae ?_
  refine zat ?_
  refine zae ?_
  refine zao 1 ?_
  refine zac ?_
  refine za rfl (k8 rfl UN UT) ?_
  refine za rfl (zaj [] [] [] rfl (ev1 rfl) (ec (ev1 rfl) en) rfl rfl (new_d zC4) rfl rfl rfl rfl rfl rfl) ?_
  refine zak rfl (zaq 3 rfl yU rfl) ?_
  refine zas rfl (qY rfl jt (ev1 rfl) (ev1 rfl) rfl (qA _) (yx _) ((qA _).trans (qA _).symm)) ?_
  refine zab ?_
  refine ZL 8 rfl rfl (by simp only [zaf, zag]; exact rfl) fun b hb => ?_
  refine zao 1 ?_
  refine zac ?_
  refine zaa 2 rfl ?_
  refine za rfl (qt rfl (ev1 rfl) (fun s v h => by cases h; exact ⟨_, rfl⟩)) ?_
  refine za rfl (zam rfl Q3 (ev1 rfl)) ?_
  refine za rfl (zan rfl Ap (ev1 rfl) rfl rfl) ?_
  refine za rfl (JI (ps := [(0, .tmp 8)]) rfl Aj Ar rfl (ec (ev1 rfl) en) rfl rfl rfl (by rfl) rfl (by decide) (by decide)) ?_
  refine zak rfl (JJ (j := 4) rfl Aj Ar rfl (ev1 rfl) (ev1 rfl) rfl rfl (rfl) (fun _ => ⟨by omega, by omega⟩)) ?_
  refine za rfl (qt rfl (ev1 rfl) (fun s v h => by cases h; exact ⟨_, rfl⟩)) ?_
  refine za rfl (zam rfl Q3 (ev1 rfl)) ?_
  refine zas rfl (kJ rfl Ap (ev1 rfl) (ev1 rfl) (fun s v h => by cases h <;> exact ⟨rfl, rfl⟩) rfl (by first | decide | exact qbA rfl | simp)) ?_
  refine zab ?_
  refine zac ?_
  refine za rfl (ql rfl (ev1 rfl) (ev1 rfl) (fun _ => qbB _ (by omega))) ?_
  refine zaa 1 rfl ?_
  refine zab ?_
  refine ⟨A ++ [b], [0, 1, 4], ⟨by simp; omega, fun c hc => by
  rcases List.mem_append.1 hc with hc | hc
  ·exact hAI c hc
  ·simp at hc; subst hc; exact hb⟩, by simp; omega, rfl, ⟨by rw [qbz]; rfl, rfl, rfl, trivial⟩, ⟨rfl, rfl, VY (by rw [K2]; exact (zV (by simp)).nl) (by simp) (K2 _ _ _), trivial⟩⟩
 ·try simp only [decide_eq_true_eq, decide_eq_false_iff_not, beq_iff_eq, bne_iff_ne, beq_eq_false_iff_ne, bne_eq_false_iff_eq, qbx, qby, qbu, qbE, qbv, ne_eq, Decidable.not_not, qbQ, qbR] at c2
  refine qD ?_
  refine zah ?_
  refine zaa 3 rfl ?_
  refine zab ?_
  refine KP 1 2 ((zV (by simp)).nl) rfl rfl rfl (by simp only [zaf, zag]; exact rfl) ?_
  refine qa ?_
  refine kendI (post := fun I => Okd (NewCv I w h (qbH n (nT zC4)))) (I := s0.I) (Mo := []) [] (rs2 rfl (qL rfl) (qL rfl)) rfl rfl ?_ trivial
  obtain rfl : A.length = n := by omega
  exact ⟨_, ⟨A, by simp, hAI, rfl⟩, by rw [cvD, K1 (by simp), qbN]; rfl⟩
end Go.Proofs.YtofklkbfkoliiaaGreat
namespace Go.Proofs.YtofklkbfkoliiaaGreat
set_option linter.unusedVariables false
set_option linter.unusedSimpArgs false
inductive Tk (α : Type) where
 | ok (a : α) (r : List Int)
 | err (e : Int)
def Tk.bind {α β : Type} (t : Tk α) (f : α → List Int → Tk β) : Tk β := match t with
 | .ok a r => f a r
 | .err e => .err e
abbrev Tkr (α : Type) := List Int → Tk α
def isB (l : List Int) : Prop := ∀ x ∈ l, 0 ≤ x ∧ x ≤ 255
theorem isB_app {a b : List Int} : isB (a ++ b) ↔ isB a ∧ isB b := by
 unfold isB
 constructor
 ·intro h
  exact ⟨fun x hx => h x (List.mem_append_left _ hx), fun x hx => h x (List.mem_append_right _ hx)⟩
 ·rintro ⟨h1, h2⟩ x hx
  rcases List.mem_append.1 hx with h | h
  ·exact h1 x h
  ·exact h2 x h
structure Cd {α : Type} (S : Int) (ok : α → Prop) (lay : α → List Int) (tk : Tkr α) : Prop where
 fwd : ∀ a r, ok a → tk (lay a ++ r) = .ok a r
 bwd : ∀ b a r, isB b → tk b = .ok a r → b = lay a ++ r ∧ ok a
 sh : ∀ a k, ok a → k < (lay a).length → tk ((lay a).take k) = .err S
section
variable {α β : Type} {S : Int} {ok : α → Prop} {lay : α → List Int} {tk : Tkr α} {ok2 : β → Prop} {lay2 : β → List Int} {tk2 : Tkr β}
theorem Cd.seq (c : Cd S ok lay tk) (d : Cd S ok2 lay2 tk2) : Cd S (fun p : α × β => ok p.1 ∧ ok2 p.2) (fun p => lay p.1 ++ lay2 p.2) (fun b => (tk b).bind fun a r => (tk2 r).bind fun x r => .ok (a, x) r) where
 fwd p r h := by
  rw [qbY, c.fwd _ _ h.1]
  show (tk2 _).bind _ = _
  rw [d.fwd _ _ h.2]
  rfl
 bwd b p r hb h := by
  cases h1 : tk b with
  | err e => rw [h1] at h; cases h
  | ok a r1 =>
   rw [h1] at h
   have h : (tk2 r1).bind (fun x r => Tk.ok (a, x) r) = .ok p r := h
   obtain ⟨e1, k1⟩ := c.bwd b a r1 hb h1
   cases h2 : tk2 r1 with
   | err e => rw [h2] at h; cases h
   | ok x r2 =>
    rw [h2] at h
    cases h
    obtain ⟨e2, k2⟩ := d.bwd r1 x r (by rw [e1] at hb; exact (isB_app.1 hb).2) h2
    exact ⟨by rw [e1, e2, qbY], k1, k2⟩
 sh p k h hk := by
  by_cases h1 : k < (lay p.1).length
  ·rw [List.take_append_of_le_length (by omega), c.sh _ _ h.1 h1]
   rfl
  ·rw [qbz] at hk
   rw [List.take_append, qbT (by omega), c.fwd _ _ h.1]
   show (tk2 _).bind _ = _
   rw [d.sh _ _ h.2 (by omega)]
   rfl
theorem Cd.map (f : α → β) (g : β → α) (c : Cd S ok lay tk) (h1 : ∀ a, ok a → g (f a) = a ∧ ok2 (f a)) (h2 : ∀ x, ok2 x → ok (g x) ∧ f (g x) = x) : Cd S ok2 (fun x => lay (g x)) (fun b => (tk b).bind fun a r => .ok (f a) r) where
 fwd x r h := by
  rw [c.fwd _ _ (h2 x h).1]
  show Tk.ok (f (g x)) r = _
  rw [(h2 x h).2]
 bwd b x r hb h := by
  cases e : tk b with
  | err e' => rw [e] at h; cases h
  | ok a r1 =>
   rw [e] at h
   cases h
   obtain ⟨e1, k1⟩ := c.bwd b a r hb e
   exact ⟨by rw [(h1 a k1).1]; exact e1, (h1 a k1).2⟩
 sh x k h hk := by
  rw [c.sh _ _ (h2 x h).1 hk]
  rfl
theorem Cd.need (C : Int) (p : α → Bool) (c : Cd S ok lay tk) : Cd S (fun a => ok a ∧ p a = true) lay (fun b => (tk b).bind fun a r => if p a then .ok a r else .err C) where
 fwd a r h := by
  rw [c.fwd _ _ h.1]
  show (if p a = true then _ else _) = _
  rw [if_pos h.2]
 bwd b a r hb h := by
  cases e : tk b with
  | err e' => rw [e] at h; cases h
  | ok x r1 =>
   rw [e] at h
   have h : (if p x = true then Tk.ok x r1 else .err C) = .ok a r := h
   by_cases hp : p x = true
   ·rw [if_pos hp] at h
    cases h
    obtain ⟨e1, k1⟩ := c.bwd b a r hb e
    exact ⟨e1, k1, hp⟩
   ·rw [if_neg hp] at h
    cases h
 sh a k h hk := by
  rw [c.sh _ _ h.1 hk]
  rfl
def gX (tk : Tkr α) : Nat → Tkr (List α)
 | 0, b => .ok [] b
 | n + 1, b => (tk b).bind fun a r => (gX tk n r).bind fun l r => .ok (a :: l) r
theorem Cd.rep (c : Cd S ok lay tk) : ∀ n, Cd S (fun l : List α => l.length = n ∧ ∀ a ∈ l, ok a) (fun l => l.flatMap lay) (gX tk n)
 | 0 => {
   fwd := fun l r h => by
    cases l with
    | nil => rfl
    | cons a l => cases h.1
   bwd := fun b l r _ h => by
    cases h
    exact ⟨rfl, rfl, fun a h => by cases h⟩
   sh := fun l k h hk => by
    cases l with
    | nil => exact absurd hk (Nat.not_lt_zero _)
    | cons a l => cases h.1 }
 | n + 1 => {
   fwd := fun l r h => by
    cases l with
    | nil => cases h.1
    | cons a l =>
     have := (c.seq (c.rep n)).fwd (a, l) r ⟨h.2 a (qb1 ..), by simpa using h.1, fun x hx => h.2 x (qb4 _ hx)⟩
     show (tk ((lay a ++ l.flatMap lay) ++ r)).bind _ = _
     cases e : tk ((lay a ++ l.flatMap lay) ++ r) with
     | err e' => simp only [e] at this; cases this
     | ok x r1 =>
      simp only [e, Tk.bind] at this ⊢
      cases e2 : gX tk n r1 with
      | err e' => rw [e2] at this; cases this
      | ok y r2 => rw [e2] at this; cases this; rfl
   bwd := fun b l r hb h => by
    have h : (tk b).bind (fun a r => (gX tk n r).bind fun l r => Tk.ok (a :: l) r) = .ok l r := h
    cases e : tk b with
    | err e' => rw [e] at h; cases h
    | ok a r1 =>
     rw [e] at h
     have h : (gX tk n r1).bind (fun l r => Tk.ok (a :: l) r) = .ok l r := h
     obtain ⟨e1, k1⟩ := c.bwd b a r1 hb e
     cases e2 : gX tk n r1 with
     | err e' => rw [e2] at h; cases h
     | ok y r2 =>
      rw [e2] at h
      cases h
      obtain ⟨e3, k3, k4⟩ := (c.rep n).bwd r1 y r (by rw [e1] at hb; exact (isB_app.1 hb).2) e2
      refine ⟨by rw [e1, e3, qbJ, qbY], by simp [k3], fun x hx => ?_⟩
      rcases List.mem_cons.1 hx with rfl | hx
      ·exact k1
      ·exact k4 x hx
   sh := fun l k h hk => by
    cases l with
    | nil => cases h.1
    | cons a l =>
     have := (c.seq (c.rep n)).sh (a, l) k ⟨h.2 a (qb1 ..), by simpa using h.1, fun x hx => h.2 x (qb4 _ hx)⟩ (by simpa using hk)
     show (tk ((lay a ++ l.flatMap lay).take k)).bind _ = _
     cases e : tk ((lay a ++ l.flatMap lay).take k) with
     | err e' => simp only [e, Tk.bind] at this ⊢; cases this; rfl
     | ok x r1 =>
      simp only [e, Tk.bind] at this ⊢
      cases e2 : gX tk n r1 with
      | err e' => rw [e2] at this; cases this; rfl
      | ok y r2 => rw [e2] at this; cases this }
end
end Go.Proofs.YtofklkbfkoliiaaGreat
