/- Families, looked into and written; rows of names; appends of what is one's own. No condition. -/
import Derived.Test.YtgomklemldldiaaLfa
namespace Go.Proofs.Ytgomklemldldiaa
set_option linter.unusedVariables false
set_option linter.unusedSimpArgs false
open Go.RowKit

theorem fam_mem {s : St} (hok : Ok s) {i k sz n : Nat} {T : TypeId} {Bs : List Mem} {L : List Value} {hs : List Value} {u : Value} (hM : s.M[i]? = some (.fam Bs)) (h : s.β[i]? = some (.tuple hs.toArray)) (hB : Bs[k]? = some (.arr T sz n L)) (hk : hs[k]? = some u) : s.w.ownsRow 0 T sz u n L :=
  (fam_at (k := k) hok hM h).ok k _ _ hB hk

/-- a store into a family's member -/
theorem tr_stf {s : St} (ho : Ok s) {i k : Nat} {Bs : List Mem} {hs : List Value} {B B' : Mem} {u : Value} {b : Nat} (hi : s.M[i]? = some (.fam Bs)) (hβ : s.β[i]? = some (.tuple hs.toArray)) (hB : Bs[k]? = some B) (hl : B.live = true) (hl' : B'.live = true) (hu : hs[k]? = some u) (hub : hb u = some b) (p : Nat) (C : List Value)
    (hm : MemOk (s.w.setCells b p C) u B') : Tr s ⟨s.β.set i (.tuple hs.toArray), s.I, s.M.set i (.fam (Bs.set k B')), s.w.setCells b p C⟩ := by
  have hil := (List.getElem?_eq_some_iff.1 hi).1
  have hf := fam_at (k := k) ho hi hβ
  obtain ⟨r1, r2, r3, r4⟩ := setCells_rest b C p s.w
  have hkl := (List.getElem?_eq_some_iff.1 hB).1
  have old : ∀ (q : Nat) X, (Bs.set k B')[q]? = some X → X.live = true → ∃ Y, Bs[q]? = some Y ∧ Y.live = true := by
    intro q X h1 h2
    by_cases e : k = q
    · subst e; exact ⟨B, hB, hl⟩
    · rw [List.getElem?_set_ne e] at h1; exact ⟨X, h1, h2⟩
  have tw : ∀ b', owns (.fam (Bs.set k B')) (.tuple hs.toArray) b' → owns (.fam Bs) (.tuple hs.toArray) b' := by
    rintro b' ⟨hs', q, X, y, e1, e2, e3, e4, e5⟩
    have e1 : hs = hs' := by simpa using e1
    subst e1
    obtain ⟨Y, f1, f2⟩ := old q X e2 e3
    exact ⟨hs, q, Y, y, rfl, f1, f2, e4, e5⟩
  refine step_set ho i s.M _ _ _ rfl (fun _ _ h => .inl h) hil (.inr (.inl hβ)) (by simp) ⟨hs, rfl, by rw [List.length_set]; exact hf.len, fun q X y h1 h2 => ?_, fun q q' X X' y y' b' h1 l1 h2 h3 g1 m1 g2 g3 => ?_⟩ (fun b' hb' j kj hj hne h1 h2 h3 h4 => ?_) (fun b' hb' => .inr (live_of hi rfl hβ (tw b' hb'))) (fun b' hb' => ?_) (fun _ => False) (fun _ h => h.elim) (fun b' hlt hne _ => ?_) r2 r3 r4 (by rw [r1]; exact Nat.le_refl _)
  · by_cases e : k = q
    · subst e
      rw [List.getElem?_set_self hkl] at h1
      cases h1
      rw [hu] at h2; cases h2
      exact hm
    · rw [List.getElem?_set_ne e] at h1
      refine (hf.ok q X y h1 h2).mono fun b' hlv hbb => setCells_other b C p s.w b' fun e2 => ?_
      subst e2
      exact e (hf.inj k q B X u y b' hB hl hu hub h1 hlv h2 hbb)
  · obtain ⟨Y, f1, f2⟩ := old q X h1 l1
    obtain ⟨Y', f1', f2'⟩ := old q' X' g1 m1
    exact hf.inj q q' Y Y' y y' b' f1 f2 h2 h3 f1' f2' g2 g3
  · exact hne (ho.inj j i kj _ hj _ b' h1 h2 h3 h4 hi rfl hβ (tw b' hb'))
  · rw [r1]; exact (ho.lt b' (live_of hi rfl hβ (tw b' hb'))).1
  · refine setCells_other b C p s.w b' fun e => hne ?_
    rw [e]
    exact ⟨hs, k, B', u, rfl, by rw [List.getElem?_set_self hkl], hl', hu, hub⟩

section
variable {P : Program} {pc : Bool} {o : Oper} {F : Fr} {M : List Blk}
theorem op_lenf {T T' : TypeId} {x : Operand} {q : TypeId × Nat × Nat} {i k sz n : Nat} {Bs : List Mem} {L : List Value} (ho : o.op = .call { callee := .builtin .len, args := #[x], argTypes := #[T] }) (hT : slE P T = some q) (hx : Ev pc F x (.farr i k)) (hM : M[i]? = some (.fam Bs)) (hB : Bs[k]? = some (.arr T' sz n L)) : DOp P pc o F M [i] (.val (.int .i64 n)) [] := by
  intro hp a s hok hops hfp
  obtain ⟨e1, _⟩ := slE_spec hT
  have hr := ev_at hp hx (by simp [ho, Op.operands, Call.operands]) hops
  generalize hv : a.eval x = vx at hr
  cases hr with
  | farr h hkk =>
    have hM' : s.M[i]? = some (.fam Bs) := by rw [hfp i (by simp)]; exact hM
    have hk := fam_mem hok hM' h hB hkk
    refine dg_val hok (run_builtin ho (fun cs => rfl) ?_) (.val (.int .i64 n))
    rcases hk.2 with ⟨e2, e3⟩ | ⟨g, cap, cur, e2, _⟩
    · cases e2; simp [Builtin.len_, hv, run_underlying e1, goInt, e3]
    · cases e2; simp [Builtin.len_, hv, run_underlying e1, goInt]
/-- an element's place -/
theorem op_ixf {T T' e : TypeId} {x y : Operand} {i k sz by' n : Nat} {Bs : List Mem} {L : List Value} {kd : IntKind} {z : Int} (j : Nat) (ho : o.op = .indexAddr T x y) (hT : slE P T = some (e, sz, by')) (hx : Ev pc F x (.farr i k)) (hy : Ev pc F y (.val (.int kd z))) (hM : M[i]? = some (.fam Bs)) (hB : Bs[k]? = some (.arr T' sz n L)) (hz : pc = true → z = (j : Int)) (hj : pc = true → j < n) : DOp P pc o F M [i] (.faloc i k (j * sz)) [] := by
  intro hp a s hok hops hfp
  have hr := ev_at hp hx (by simp [ho, Op.operands]) hops
  have h2 := (ev_at hp hy (by simp [ho, Op.operands]) hops).val_eq
  have hz := hz hp
  have hj := hj hp
  subst hz
  generalize hv : a.eval x = vx at hr
  cases hr with
  | @farr _ _ ad n' c hs h hkk =>
    have hM' : s.M[i]? = some (.fam Bs) := by rw [hfp i (by simp)]; exact hM
    have hk := fam_mem hok hM' h hB hkk
    rcases hk.2 with ⟨e1, e2⟩ | ⟨g, cap, cur, e1, e2, e3, e4, e5, e6, e7⟩
    · exfalso; omega
    · cases e1
      refine dg_val hok (run_index_sl ho hT hv h2 (by omega) (by omega)) ?_
      rw [Addr.add_mid, Nat.zero_add, Int.toNat_natCast]
      exact .faloc h hkk
/-- a cell of it -/
theorem op_ldf {T T' : TypeId} {x : Operand} {i k p q sz n : Nat} {Bs : List Mem} {L : List Value} {v : Value} (ho : o.op = .load T x) (hT : tyB P T = some (false, q)) (hx : Ev pc F x (.faloc i k p)) (hM : M[i]? = some (.fam Bs)) (hB : Bs[k]? = some (.arr T' sz n L)) (hR : L[p]? = some v) : DOp P pc o F M [i] (.val v) [] := by
  intro hp a s hok hops hfp
  have hr := ev_at hp hx (by simp [ho, Op.operands]) hops
  generalize hv : a.eval x = vx at hr
  cases hr with
  | @faloc _ _ _ n' c b hs h hkk =>
    have hM' : s.M[i]? = some (.fam Bs) := by rw [hfp i (by simp)]; exact hM
    have hk := fam_mem hok hM' h hB hkk
    rcases hk.2 with ⟨e1, e2⟩ | ⟨g, cap, cur, e1, e2, e3, e4, e5, e6, e7⟩
    · cases e1
    · cases e1
      have hc0 := cellsAt_sub (cellsAt_block e3 0) 0 (n * sz)
      have hc1 : cellsAt s.w b 0 L := by simpa [e7] using hc0
      exact dg_val hok (run_load_one ho hT hv (by simpa using hc1 p v hR)) (.val v)
/-- a store into it -/
theorem op_stf {T T' : TypeId} {x y : Operand} {i m p k sz n : Nat} {rw' : Bool} {v : Value} {Bs : List Mem} {L C L' : List Value} (ho : o.op = .store T x y) (hT : tyB P T = some (rw', k)) (hx : Ev pc F x (.faloc i m p)) (hy : Ev pc F y (.val v)) (hM : M[i]? = some (.fam Bs)) (hB : Bs[m]? = some (.arr T' sz n L)) (hC : v.cells.toList = C) (hk : C.length = k) (h1 : C.all (·.oneCell') = true)
    (hfit : p + C.length ≤ L.length) (hL : setL L p C = L') : DOp P pc o F M [i] .junk [(i, .fam (Bs.set m (.arr T' sz n L')))] := by
  intro hp a s hok hops hfp
  have hr := ev_at hp hx (by simp [ho, Op.operands]) hops
  have h2 := (ev_at hp hy (by simp [ho, Op.operands]) hops).val_eq
  have hM' : s.M[i]? = some (.fam Bs) := by rw [hfp i (by simp)]; exact hM
  subst hL
  generalize hv : a.eval x = vx at hr
  cases hr with
  | @faloc _ _ _ n' c b hs h hkk =>
    have hk' := fam_mem hok hM' h hB hkk
    rcases hk'.2 with ⟨e1, e2⟩ | ⟨g, cap, cur, e1, e2, e3, e4, e5, e6, e7⟩
    · cases e1
    · cases e1
      have hle := Nat.mul_le_mul_right sz e4
      have hlL := hk'.1
      have hcell := cellsAt_block e3 0
      have hrun := run_store (P := P) (w := s.w) ho hT hv h2 hC hk (fun j hj => by
          have := hcell (p + j) _ (by simpa using List.getElem?_eq_getElem (by simp; omega : p + j < cur.toList.length))
          rw [Nat.zero_add] at this
          rw [this]; rfl) (fun j hj => by simp [World.frozen?, e3]) (fun u hu => List.all_eq_true.1 h1 u hu)
      refine dg_skip (s' := ⟨s.β.set i (.tuple hs.toArray), s.I, s.M.set i (.fam (Bs.set m (.arr T' sz n (setL L p C)))), s.w.setCells b p C⟩) hrun (tr_stf hok hM' h hB rfl rfl hkk rfl p C ?_) rfl
      have hsl := setL_len C cur.toList p
      refine ⟨by rw [setL_len]; exact hlL, .inr ⟨b, c, (setL cur.toList p C).toArray, rfl, e2, setCells_block b C p s.w cur.toList T' (by simpa using e3), e4, e5, by simp [hsl]; simpa using e6, ?_⟩⟩
      have hcurlen : cur.toList.length = c * sz := by simpa using e6
      rw [setL_eq C cur.toList p (by omega), setL_eq C L p hfit]
      have hcut : cur.toList = L ++ cur.toList.drop L.length := by
        have := List.take_append_drop (n * sz) cur.toList
        rw [e7, ← hlL] at this
        exact this.symm
      generalize cur.toList.drop L.length = R at hcut
      rw [hcut]
      have t1 : (L ++ R).take p = L.take p := List.take_append_of_le_length (by omega)
      have t2 : (L ++ R).drop (p + C.length) = L.drop (p + C.length) ++ R := List.drop_append_of_le_length (by omega)
      rw [t1, t2, ← hlL, ← List.append_assoc]
      refine List.take_left' ?_
      simp; omega
/-- .. an element of one cell, in a list -/
theorem op_ldfe {T T' : TypeId} {x : Operand} {i k j q n : Nat} {Bs : List Mem} {α : Type} {en : α → List Value} {l : List α} {v : Value} (ho : o.op = .load T x) (hT : tyB P T = some (false, q)) (hx : Ev pc F x (.faloc i k (j * 1))) (hM : M[i]? = some (.fam Bs)) (hB : Bs[k]? = some (.arr T' 1 n (l.flatMap en))) (hen : ∀ a, (en a).length = 1) (hj : j < l.length) (hv : (en l[j])[0]? = some v) : DOp P pc o F M [i] (.val v) [] :=
  op_ldf ho hT hx hM hB (by have := flat_cell (c := 0) hen hj (by omega); rw [Nat.add_zero] at this; rw [this, hv])
theorem op_stfe {T T' : TypeId} {x y : Operand} {i m j n : Nat} {rw' : Bool} {v : Value} {Bs : List Mem} {α : Type} {en : α → List Value} {l : List α} (q : α) (ho : o.op = .store T x y) (hT : tyB P T = some (rw', 1)) (hx : Ev pc F x (.faloc i m (j * 1))) (hy : Ev pc F y (.val v)) (hM : M[i]? = some (.fam Bs)) (hB : Bs[m]? = some (.arr T' 1 n (l.flatMap en))) (hC : v.cells.toList = en q) (hen : ∀ a, (en a).length = 1) (hj : j < l.length) (h1 : (en q).all (·.oneCell') = true) : DOp P pc o F M [i] .junk [(i, .fam (Bs.set m (.arr T' 1 n ((l.set j q).flatMap en))))] :=
  op_stf ho hT hx hy hM hB hC (hen _) h1 (by
    have h2 : (j + 1) * 1 ≤ l.length * 1 := Nat.mul_le_mul_right _ hj
    rw [hen, flat_len hen]; omega) (flat_set hen hj q)
theorem op_appxx {T e T2 : TypeId} {by' n m i j q : Nat} {x y : Operand} {l l2 : List D} {Z : List Value} (ho : o.op = .call { callee := .builtin .append, args := #[x, y], argTypes := #[T, T] }) (hT : slE P T = some (e, 1, by')) (hZ : zrC P e = some Z) (hZl : Z.length = 1)
    (hx : Ev pc F x (.arr i)) (hy : Ev pc F y (.arr q)) (hMq : M[q]? = some (.arx T2 1 m l2)) (hM : M[i]? = some (.arx e 1 n l)) (hj : M[j]? = some .hole) (h1 : l2.all D.oc2 = true) (hbd : pc = true → (n + m) * by' ≤ 140737488355328 ∧ n + m ≤ 140737488355328) :
    DOp P pc o F M [i, j, q] (.arr j) [(i, .gone), (j, .arx e 1 (n + m) (l ++ l2))] := by
  intro hp a s hok hops hfp
  obtain ⟨e1, ti, e2, e3, e4⟩ := slE_spec hT
  obtain ⟨ti', z, q1, q2, q3⟩ := zrC_spec hZ
  rw [e2] at q1
  obtain rfl := Option.some.inj q1
  obtain ⟨b1, b2⟩ := hbd hp
  have hM' : s.M[i]? = some (.arx e 1 n l) := by rw [hfp i (by simp)]; exact hM
  have hj' : s.M[j]? = some .hole := by rw [hfp j (by simp)]; exact hj
  have hij : i ≠ j := fun h => by subst h; rw [hM'] at hj'; cases hj'
  have hjl : j < s.β.length := by rw [hok.len]; exact (List.getElem?_eq_some_iff.1 hj').1
  have hrx := ev_at hp hx (by simp [ho, Op.operands, Call.operands]) hops
  have hry := ev_at hp hy (by simp [ho, Op.operands, Call.operands]) hops
  generalize hv : a.eval x = vx at hrx
  generalize hvy : a.eval y = vy at hry
  cases hry with
  | @arr _ a2 m2 cap2 hβq =>
  have hMq' : s.M[q]? = some (.arx T2 1 m l2) := by rw [hfp q (by simp)]; exact hMq
  obtain ⟨vs2, hk2, hvl2, hel2⟩ := hok.blk q _ _ hMq' hβq
  have hl2 : l2.length = m * 1 := by rw [← hvl2]; exact hk2.1
  have hso : SrcOk s (.slice a2 m2 cap2) m vs2 := by
    rcases hk2.2 with ⟨e1, e2⟩ | ⟨g, cap, cur, e1, e2, e3, e4, e5, e6, e7⟩
    · cases e1
      exact ⟨none, 0, by rw [e2], .inl ⟨rfl, e2, rfl, List.eq_nil_of_length_eq_zero (by rw [hvl2, hl2, e2])⟩⟩
    · cases e1
      refine ⟨_, _, rfl, .inr ⟨_, rfl, fun k u hk => ?_⟩⟩
      rw [Addr.add_mid]
      have hc0 := cellsAt_sub (cellsAt_block e3 0) 0 (m * 1)
      rw [Nat.mul_one] at e7
      have hc1 : cellsAt s.w g 0 vs2 := by simpa [e7] using hc0
      exact hc1 k u hk
  have hone : ∀ u ∈ vs2, u.oneCell' = true := fun u hu => by
    obtain ⟨k, hk, rfl⟩ := List.getElem_of_mem hu
    have hk2 : k < l2.length := by omega
    exact oc2_one (hel2 k _ _ (List.getElem?_eq_getElem hk2) (List.getElem?_eq_getElem hk)) (List.all_eq_true.1 h1 _ (List.getElem_mem hk2))
  cases hrx with
  | @arr _ ad n' c hβ =>
    obtain ⟨vs, hk, hvl, hel⟩ := hok.blk i _ _ hM' hβ
    obtain ⟨h', w', r1, r2, r3, r4⟩ := run_append_D (P := P) (ty := o.type) (m := m) e1 e2 e3 e4 q2 (by rw [← hZl, ← q3]; simp) hk (by rw [hvl2]; exact hl2) hso hone (by unfold maxLen; omega) b1
    have hs' : (h' = .slice none 0 0) ∨ ∃ a n c, h' = .slice (some a) n c := by
      rcases r2.2 with ⟨q, _⟩ | ⟨g, cap, cur, q, _⟩
      · exact .inl q
      · exact .inr ⟨_, _, _, q⟩
    have hs0 : (Value.slice ad n' c = .slice none 0 0) ∨ ∃ a n k, Value.slice ad n' c = .slice (some a) n k := by
      rcases hk.2 with ⟨q, _⟩ | ⟨g, cap, cur, q, _⟩
      · exact .inl q
      · exact .inr ⟨_, _, _, q⟩
    have o1 := hb_own hs'
    have o0 := hb_own hs0
    have hblk : s.w.heap.size ≤ w'.heap.size := r3.size
    have hβj : s.β[j]? = some .nilFunc := by
      have q : s.β[j]? = some s.β[j] := List.getElem?_eq_getElem hjl
      have : s.β[j] = .nilFunc := hok.blk j .hole _ hj' q
      rw [q, this]
    have from_ : ∀ b, hb h' = some b → s.w.heap.size ≤ b ∨ (hb (Value.slice ad n' c) = some b) := by
      intro b hbb
      rw [o1] at hbb
      rcases r4 b hbb with h | h
      · exact .inr (by rw [o0]; exact h)
      · exact .inl h
    have hnd' : ∀ (k : Nat) h, s.β[k]? = some h → h ≠ .nilFunc → (s.β.set j h')[k]? = some h := fun k h hk' hne => by
      by_cases e : j = k
      · subst e; rw [hβj] at hk'; exact absurd (Option.some.inj hk').symm hne
      · rw [List.getElem?_set_ne e]; exact hk'
    have imm' : ∀ b, s.I b → w'.heap[b]? = s.w.heap[b]? := fun b hI => r3.block b (hok.il b hI) fun h => by
      rw [← o0] at h
      exact (hok.lt b (live_of hM' rfl hβ h.symm)).2 hI
    have hblkx : BlkOk ⟨s.β.set j h', s.I, (s.M.set i .gone).set j (.arx e 1 (n + m) (l ++ l2)), w'⟩ h' (.arx e 1 (n + m) (l ++ l2)) := by
      refine ⟨vs ++ vs2, r2, by simp [hvl, hvl2], fun k d v hk1 hk2 => ?_⟩
      by_cases hlt : k < l.length
      · rw [List.getElem?_append_left hlt] at hk1
        rw [List.getElem?_append_left (by omega)] at hk2
        exact Rep.mono' (s' := ⟨s.β.set j h', s.I, (s.M.set i .gone).set j (.arx e 1 (n + m) (l ++ l2)), w'⟩) hnd' (fun _ h => h) imm' (hel k d v hk1 hk2)
      · rw [List.getElem?_append_right (by omega)] at hk1 hk2
        rw [hvl] at hk2
        exact Rep.mono' (s' := ⟨s.β.set j h', s.I, (s.M.set i .gone).set j (.arx e 1 (n + m) (l ++ l2)), w'⟩) hnd' (fun _ h => h) imm' (hel2 _ d v hk1 hk2)
    have ht : Tr s ⟨s.β.set j h', s.I, (s.M.set i .gone).set j (.arx e 1 (n + m) (l ++ l2)), w'⟩ := by
      refine step_set hok j (s.M.set i .gone) h' _ w' (by simp) (fun k kb hkb => ?_) (by rw [← hok.len]; exact hjl) (.inl hβj) (by rcases hs' with rfl | ⟨_, _, _, rfl⟩ <;> simp) hblkx (fun b hbb k kb hh hne q1 q2 q3 q4 => ?_) (fun b hbb => (from_ b hbb).imp id fun h => live_of hM' rfl hβ h) (fun b hbb => ?_) (fun b => hb (Value.slice ad n' c) = some b) (fun b hdr => ⟨live_of hM' rfl hβ hdr, fun k kb hh hne q1 q2 q3 q4 => ?_⟩) (fun b hlt hne hnd => ?_) r3.os r3.tape r3.output hblk
      · by_cases hki : i = k
        · subst hki
          have hlt : i < s.M.length := (List.getElem?_eq_some_iff.1 hM').1
          rw [List.getElem?_set_self hlt] at hkb
          exact .inr (Option.some.inj hkb).symm
        · rw [List.getElem?_set_ne hki] at hkb; exact .inl hkb
      · have hki : i ≠ k := fun h => by
          subst h
          have hlt : i < s.M.length := (List.getElem?_eq_some_iff.1 hM').1
          rw [List.getElem?_set_self hlt] at q1
          cases q1; cases q2
        rw [List.getElem?_set_ne hki] at q1
        rcases from_ b hbb with h | h
        · exact absurd (hok.lt b (live_of q1 q2 q3 q4)).1 (Nat.not_lt.2 h)
        · exact hki (hok.inj i k _ kb _ hh b hM' rfl hβ h q1 q2 q3 q4)
      · replace hbb : hb h' = some b := hbb
        rw [o1] at hbb
        exact (r2.lt b hbb).2
      · have hki : i ≠ k := fun h => by
          subst h
          have hlt : i < s.M.length := (List.getElem?_eq_some_iff.1 hM').1
          rw [List.getElem?_set_self hlt] at q1
          cases q1; cases q2
        rw [List.getElem?_set_ne hki] at q1
        exact hki (hok.inj i k _ kb _ hh b hM' rfl hβ hdr q1 q2 q3 q4)
      · exact r3.block b hlt fun h => hnd (by rw [o0]; exact h.symm)
    refine dg_step (s' := ⟨s.β.set j h', s.I, (s.M.set i .gone).set j (.arx e 1 (n + m) (l ++ l2)), w'⟩) (run_builtin ho (fun cs => by rfl) (by simpa [hv, hvy] using r1)) ht rfl ?_
    rcases hs' with rfl | ⟨_, _, _, rfl⟩
    · exact .arr (by simp [hjl])
    · exact .arr (by simp [hjl])
end
/-- rows whose cells have other names elsewhere -/
theorem vwL_flatG {α : Type} {σ : List Nat} {V : Nat → Bool} {M : List Blk} {f g : α → D} (h : ∀ a, vw σ V M (f a) = some (g a)) : ∀ l : List α, vwL σ V M (l.flatMap fun a => [f a]) = some (l.flatMap fun a => [g a])
  | [] => rfl
  | a :: l => by
    rw [List.flatMap_cons, List.flatMap_cons]
    show vwL σ V M (f a :: l.flatMap fun a => [f a]) = some (g a :: l.flatMap fun a => [g a])
    rw [vwL, h a, vwL_flatG h l]
theorem vw1L_flatG {α : Type} {σ : List Nat} {V : Nat → Bool} {M : List Blk} {f g : α → D} : ∀ (l : List α), (∀ a ∈ l, vw1 σ V M (f a) = some (g a)) → vw1L σ V M (l.flatMap fun a => [f a]) = some (l.flatMap fun a => [g a])
  | [], _ => rfl
  | a :: l, h => by
    rw [List.flatMap_cons, List.flatMap_cons]
    show vw1L σ V M (f a :: l.flatMap fun a => [f a]) = some (g a :: l.flatMap fun a => [g a])
    rw [vw1L, h a (List.mem_cons_self ..), vw1L_flatG l fun b hb => h b (List.mem_cons_of_mem _ hb)]
theorem sbL_flatG {α : Type} {τ : List Nat} {f g : α → D} (h : ∀ a, sb τ (f a) = some (g a)) : ∀ l : List α, sbL τ (l.flatMap fun a => [f a]) = some (l.flatMap fun a => [g a])
  | [] => rfl
  | a :: l => by
    rw [List.flatMap_cons, List.flatMap_cons]
    show sbL τ (f a :: l.flatMap fun a => [f a]) = some (g a :: l.flatMap fun a => [g a])
    rw [sbL, h a, sbL_flatG h l]
theorem arxg_fits {α : Type} {σ : List Nat} {V : Nat → Bool} {M : List Blk} {T : TypeId} {n n' : Nat} {f g : α → D} {l l' : List α} (hn : n = n') (hl : l = l') (h : ∀ a, vw σ V M (f a) = some (g a)) : (vwL σ V M (l.flatMap fun a => [f a])).map (Blk.arx T 1 n) = some (Blk.arx T 1 n' (l'.flatMap fun a => [g a])) := by
  subst hn hl
  rw [vwL_flatG h]
  rfl
theorem sb_arxg {α : Type} {τ : List Nat} {T : TypeId} {n : Nat} {f g : α → D} {l : List α} (h : ∀ a, sb τ (f a) = some (g a)) : sbB τ (.arx T 1 n (l.flatMap fun a => [f a])) = some (.arx T 1 n (l.flatMap fun a => [g a])) := by
  show (sbL τ _).map _ = _
  rw [sbL_flatG h]; rfl
theorem flat_map1 {α β : Type} (f : α → β) : ∀ l : List α, (l.flatMap fun a => [f a]) = l.map f
  | [] => rfl
  | a :: l => by rw [List.flatMap_cons, flat_map1 f l]; rfl
/-- a row of one's own whose cells are rows of a family, looked at as memory that stays -/
theorem vw_arrF {α : Type} {σ : List Nat} {V : Nat → Bool} {M : List Blk} {i j sz : Nat} {T T' : TypeId} {n : Nat} {R : List α} {Bs : List Mem} {len : α → Nat} {cs : α → List Value} (hp : pos σ i = none) (hV : V i = true) (hM : M[i]? = some (.arx T 1 n ((List.range R.length).flatMap fun k => [D.farr j k]))) (hpj : pos σ j = none) (hVj : V j = true) (hMj : M[j]? = some (.fam Bs)) (hB : Bs = R.map fun r => Mem.arr T' sz (len r) (cs r)) :
    vw σ V M (.arr i) = some (.slm 1 n (R.flatMap fun r => [D.slf sz (len r) (cs r)])) := by
  rw [vw, hp]
  show vwArr σ V M i = _
  unfold vwArr
  rw [hV, hM]
  show (vw1L σ V M _).map _ = _
  have e : vw1L σ V M ((List.range R.length).flatMap fun k => [D.farr j k]) = some (R.flatMap fun r => [D.slf sz (len r) (cs r)]) := by
    have h1 := vw1L_flatG (σ := σ) (V := V) (M := M) (f := fun k => D.farr j k) (g := fun k => (R[k]?.map fun r => D.slf sz (len r) (cs r)).getD .junk) (List.range R.length) (fun k hk => by
      have hk : k < R.length := by simpa using hk
      simp only [vw1, hpj, vwFarr, hVj, cond_true, hMj, hB, List.getElem?_map, List.getElem?_eq_getElem hk, Option.map_some, Option.getD_some])
    rw [h1]
    congr 1
    rw [flat_map1, flat_map1]
    apply List.ext_getElem?
    intro k
    by_cases hk : k < R.length
    · simp [hk]
    · simp [List.getElem?_eq_none (Nat.le_of_not_lt hk), hk]
  rw [e]; rfl
/-- rows of structs, looked at -/
theorem vw1L_app {σ : List Nat} {V : Nat → Bool} {M : List Blk} : ∀ (a b a' b' : List D), vw1L σ V M a = some a' → vw1L σ V M b = some b' → vw1L σ V M (a ++ b) = some (a' ++ b')
  | [], b, a', b', h1, h2 => by rw [vw1L] at h1; cases h1; exact h2
  | d :: a, b, a', b', h1, h2 => by
    rw [vw1L] at h1
    cases e1 : vw1 σ V M d with
    | none => rw [e1] at h1; simp at h1
    | some d1 =>
      cases e2 : vw1L σ V M a with
      | none => rw [e1, e2] at h1; simp at h1
      | some a1 =>
        rw [e1, e2] at h1
        obtain rfl := Option.some.inj h1
        rw [List.cons_append, vw1L, e1, vw1L_app a b a1 b' e2 h2]
        rfl
theorem vw1L_flatMk {α : Type} {σ : List Nat} {V : Nat → Bool} {M : List Blk} {f g : α → List D} : ∀ (l : List α), (∀ a ∈ l, vw1L σ V M (f a) = some (g a)) → vw1L σ V M (l.flatMap f) = some (l.flatMap g)
  | [], _ => rfl
  | a :: l, h => by
    rw [List.flatMap_cons, List.flatMap_cons]
    exact vw1L_app _ _ _ _ (h a (List.mem_cons_self ..)) (vw1L_flatMk l fun b hb => h b (List.mem_cons_of_mem _ hb))
theorem vw_arrS {α : Type} {σ : List Nat} {V : Nat → Bool} {M : List Blk} {i sz : Nat} {T : TypeId} {n : Nat} {l : List α} {f g : α → List D} (hp : pos σ i = none) (hV : V i = true) (hM : M[i]? = some (.arx T sz n (l.flatMap f))) (h : ∀ a ∈ l, vw1L σ V M (f a) = some (g a)) : vw σ V M (.arr i) = some (.slm sz n (l.flatMap g)) := by
  rw [vw, hp]
  show vwArr σ V M i = _
  unfold vwArr
  rw [hV, hM]
  show (vw1L σ V M _).map _ = _
  rw [vw1L_flatMk l h]; rfl
/-- a family's row, looked at -/
theorem vw1_farr {σ : List Nat} {V : Nat → Bool} {M : List Blk} {j k sz n : Nat} {T : TypeId} {L : List Value} {Bs : List Mem} (hp : pos σ j = none) (hV : V j = true) (hM : M[j]? = some (.fam Bs)) (hB : Bs[k]? = some (.arr T sz n L)) : vw1 σ V M (.farr j k) = some (.slf sz n L) := by
  simp only [vw1, hp, vwFarr, hV, cond_true, hM, hB]
theorem vwL_flatMk {α : Type} {σ : List Nat} {V : Nat → Bool} {M : List Blk} {f g : α → List D} (h : ∀ a, vwL σ V M (f a) = some (g a)) : ∀ l : List α, vwL σ V M (l.flatMap f) = some (l.flatMap g)
  | [] => rfl
  | a :: l => by
    have app : ∀ (a b a' b' : List D), vwL σ V M a = some a' → vwL σ V M b = some b' → vwL σ V M (a ++ b) = some (a' ++ b') := by
      intro a
      induction a with
      | nil => intro b a' b' h1 h2; rw [vwL] at h1; cases h1; exact h2
      | cons d a ih =>
        intro b a' b' h1 h2
        rw [vwL] at h1
        cases e1 : vw σ V M d with
        | none => rw [e1] at h1; simp at h1
        | some d1 =>
          cases e2 : vwL σ V M a with
          | none => rw [e1, e2] at h1; simp at h1
          | some a1 =>
            rw [e1, e2] at h1
            obtain rfl := Option.some.inj h1
            rw [List.cons_append, vwL, e1, ih b a1 b' e2 h2]
            rfl
    rw [List.flatMap_cons, List.flatMap_cons]
    exact app _ _ _ _ (h a) (vwL_flatMk h l)
theorem sbL_flatMk {α : Type} {τ : List Nat} {f g : α → List D} (h : ∀ a, sbL τ (f a) = some (g a)) : ∀ l : List α, sbL τ (l.flatMap f) = some (l.flatMap g)
  | [] => rfl
  | a :: l => by
    have app : ∀ (a b a' b' : List D), sbL τ a = some a' → sbL τ b = some b' → sbL τ (a ++ b) = some (a' ++ b') := by
      intro a
      induction a with
      | nil => intro b a' b' h1 h2; rw [sbL] at h1; cases h1; exact h2
      | cons d a ih =>
        intro b a' b' h1 h2
        rw [sbL] at h1
        cases e1 : sb τ d with
        | none => rw [e1] at h1; simp at h1
        | some d1 =>
          cases e2 : sbL τ a with
          | none => rw [e1, e2] at h1; simp at h1
          | some a1 =>
            rw [e1, e2] at h1
            obtain rfl := Option.some.inj h1
            rw [List.cons_append, sbL, e1, ih b a1 b' e2 h2]
            rfl
    rw [List.flatMap_cons, List.flatMap_cons]
    exact app _ _ _ _ (h a) (sbL_flatMk h l)
theorem arxs_fits {α : Type} {σ : List Nat} {V : Nat → Bool} {M : List Blk} {T : TypeId} {sz n n' : Nat} {f g : α → List D} {l l' : List α} (hn : n = n') (hl : l = l') (h : ∀ a, vwL σ V M (f a) = some (g a)) : (vwL σ V M (l.flatMap f)).map (Blk.arx T sz n) = some (Blk.arx T sz n' (l'.flatMap g)) := by
  subst hn hl
  rw [vwL_flatMk h]; rfl
theorem sb_arxs {α : Type} {τ : List Nat} {T : TypeId} {sz n : Nat} {f g : α → List D} {l : List α} (h : ∀ a, sbL τ (f a) = some (g a)) : sbB τ (.arx T sz n (l.flatMap f)) = some (.arx T sz n (l.flatMap g)) := by
  show (sbL τ _).map _ = _
  rw [sbL_flatMk h]; rfl
section
variable {P : Program} {pc : Bool} {o : Oper} {F : Fr} {M : List Blk}
theorem op_apprr {T e T2 : TypeId} {by' sz n m i j q : Nat} {x y : Operand} {l l2 : List D} {Z : List Value} (ho : o.op = .call { callee := .builtin .append, args := #[x, y], argTypes := #[T, T] }) (hT : slE P T = some (e, sz, by')) (hZ : zrC P e = some Z) (hZl : Z.length = sz)
    (hx : Ev pc F x (.arr i)) (hy : Ev pc F y (.arr q)) (hMq : M[q]? = some (.arx T2 sz m l2)) (hM : M[i]? = some (.arx e sz n l)) (hj : M[j]? = some .hole) (h1 : l2.all D.oc2 = true) (hbd : pc = true → (n + m) * by' ≤ 140737488355328 ∧ n + m ≤ 140737488355328) :
    DOp P pc o F M [i, j, q] (.arr j) [(i, .gone), (j, .arx e sz (n + m) (l ++ l2))] := by
  intro hp a s hok hops hfp
  obtain ⟨e1, ti, e2, e3, e4⟩ := slE_spec hT
  obtain ⟨ti', z, q1, q2, q3⟩ := zrC_spec hZ
  rw [e2] at q1
  obtain rfl := Option.some.inj q1
  obtain ⟨b1, b2⟩ := hbd hp
  have hM' : s.M[i]? = some (.arx e sz n l) := by rw [hfp i (by simp)]; exact hM
  have hj' : s.M[j]? = some .hole := by rw [hfp j (by simp)]; exact hj
  have hij : i ≠ j := fun h => by subst h; rw [hM'] at hj'; cases hj'
  have hjl : j < s.β.length := by rw [hok.len]; exact (List.getElem?_eq_some_iff.1 hj').1
  have hrx := ev_at hp hx (by simp [ho, Op.operands, Call.operands]) hops
  have hry := ev_at hp hy (by simp [ho, Op.operands, Call.operands]) hops
  generalize hv : a.eval x = vx at hrx
  generalize hvy : a.eval y = vy at hry
  cases hry with
  | @arr _ a2 m2 cap2 hβq =>
  have hMq' : s.M[q]? = some (.arx T2 sz m l2) := by rw [hfp q (by simp)]; exact hMq
  obtain ⟨vs2, hk2, hvl2, hel2⟩ := hok.blk q _ _ hMq' hβq
  have hl2 : l2.length = m * sz := by rw [← hvl2]; exact hk2.1
  have hso : SrcOk s (.slice a2 m2 cap2) m vs2 := by
    rcases hk2.2 with ⟨e1, e2⟩ | ⟨g, cap, cur, e1, e2, e3, e4, e5, e6, e7⟩
    · cases e1
      exact ⟨none, 0, by rw [e2], .inl ⟨rfl, e2, rfl, List.eq_nil_of_length_eq_zero (by rw [hvl2, hl2, e2, Nat.zero_mul])⟩⟩
    · cases e1
      refine ⟨_, _, rfl, .inr ⟨_, rfl, fun k u hk => ?_⟩⟩
      rw [Addr.add_mid]
      have hc0 := cellsAt_sub (cellsAt_block e3 0) 0 (m * sz)
      have hc1 : cellsAt s.w g 0 vs2 := by simpa [e7] using hc0
      exact hc1 k u hk
  have hone : ∀ u ∈ vs2, u.oneCell' = true := fun u hu => by
    obtain ⟨k, hk, rfl⟩ := List.getElem_of_mem hu
    have hk2 : k < l2.length := by omega
    exact oc2_one (hel2 k _ _ (List.getElem?_eq_getElem hk2) (List.getElem?_eq_getElem hk)) (List.all_eq_true.1 h1 _ (List.getElem_mem hk2))
  cases hrx with
  | @arr _ ad n' c hβ =>
    obtain ⟨vs, hk, hvl, hel⟩ := hok.blk i _ _ hM' hβ
    obtain ⟨h', w', r1, r2, r3, r4⟩ := run_append_D (P := P) (ty := o.type) (m := m) e1 e2 e3 e4 q2 (by rw [← hZl, ← q3]; simp) hk (by rw [hvl2]; exact hl2) hso hone (by unfold maxLen; omega) b1
    have hs' : (h' = .slice none 0 0) ∨ ∃ a n c, h' = .slice (some a) n c := by
      rcases r2.2 with ⟨q, _⟩ | ⟨g, cap, cur, q, _⟩
      · exact .inl q
      · exact .inr ⟨_, _, _, q⟩
    have hs0 : (Value.slice ad n' c = .slice none 0 0) ∨ ∃ a n k, Value.slice ad n' c = .slice (some a) n k := by
      rcases hk.2 with ⟨q, _⟩ | ⟨g, cap, cur, q, _⟩
      · exact .inl q
      · exact .inr ⟨_, _, _, q⟩
    have o1 := hb_own hs'
    have o0 := hb_own hs0
    have hblk : s.w.heap.size ≤ w'.heap.size := r3.size
    have hβj : s.β[j]? = some .nilFunc := by
      have q : s.β[j]? = some s.β[j] := List.getElem?_eq_getElem hjl
      have : s.β[j] = .nilFunc := hok.blk j .hole _ hj' q
      rw [q, this]
    have from_ : ∀ b, hb h' = some b → s.w.heap.size ≤ b ∨ (hb (Value.slice ad n' c) = some b) := by
      intro b hbb
      rw [o1] at hbb
      rcases r4 b hbb with h | h
      · exact .inr (by rw [o0]; exact h)
      · exact .inl h
    have hnd' : ∀ (k : Nat) h, s.β[k]? = some h → h ≠ .nilFunc → (s.β.set j h')[k]? = some h := fun k h hk' hne => by
      by_cases e : j = k
      · subst e; rw [hβj] at hk'; exact absurd (Option.some.inj hk').symm hne
      · rw [List.getElem?_set_ne e]; exact hk'
    have imm' : ∀ b, s.I b → w'.heap[b]? = s.w.heap[b]? := fun b hI => r3.block b (hok.il b hI) fun h => by
      rw [← o0] at h
      exact (hok.lt b (live_of hM' rfl hβ h.symm)).2 hI
    have hblkx : BlkOk ⟨s.β.set j h', s.I, (s.M.set i .gone).set j (.arx e sz (n + m) (l ++ l2)), w'⟩ h' (.arx e sz (n + m) (l ++ l2)) := by
      refine ⟨vs ++ vs2, r2, by simp [hvl, hvl2], fun k d v hk1 hk2 => ?_⟩
      by_cases hlt : k < l.length
      · rw [List.getElem?_append_left hlt] at hk1
        rw [List.getElem?_append_left (by omega)] at hk2
        exact Rep.mono' (s' := ⟨s.β.set j h', s.I, (s.M.set i .gone).set j (.arx e sz (n + m) (l ++ l2)), w'⟩) hnd' (fun _ h => h) imm' (hel k d v hk1 hk2)
      · rw [List.getElem?_append_right (by omega)] at hk1 hk2
        rw [hvl] at hk2
        exact Rep.mono' (s' := ⟨s.β.set j h', s.I, (s.M.set i .gone).set j (.arx e sz (n + m) (l ++ l2)), w'⟩) hnd' (fun _ h => h) imm' (hel2 _ d v hk1 hk2)
    have ht : Tr s ⟨s.β.set j h', s.I, (s.M.set i .gone).set j (.arx e sz (n + m) (l ++ l2)), w'⟩ := by
      refine step_set hok j (s.M.set i .gone) h' _ w' (by simp) (fun k kb hkb => ?_) (by rw [← hok.len]; exact hjl) (.inl hβj) (by rcases hs' with rfl | ⟨_, _, _, rfl⟩ <;> simp) hblkx (fun b hbb k kb hh hne q1 q2 q3 q4 => ?_) (fun b hbb => (from_ b hbb).imp id fun h => live_of hM' rfl hβ h) (fun b hbb => ?_) (fun b => hb (Value.slice ad n' c) = some b) (fun b hdr => ⟨live_of hM' rfl hβ hdr, fun k kb hh hne q1 q2 q3 q4 => ?_⟩) (fun b hlt hne hnd => ?_) r3.os r3.tape r3.output hblk
      · by_cases hki : i = k
        · subst hki
          have hlt : i < s.M.length := (List.getElem?_eq_some_iff.1 hM').1
          rw [List.getElem?_set_self hlt] at hkb
          exact .inr (Option.some.inj hkb).symm
        · rw [List.getElem?_set_ne hki] at hkb; exact .inl hkb
      · have hki : i ≠ k := fun h => by
          subst h
          have hlt : i < s.M.length := (List.getElem?_eq_some_iff.1 hM').1
          rw [List.getElem?_set_self hlt] at q1
          cases q1; cases q2
        rw [List.getElem?_set_ne hki] at q1
        rcases from_ b hbb with h | h
        · exact absurd (hok.lt b (live_of q1 q2 q3 q4)).1 (Nat.not_lt.2 h)
        · exact hki (hok.inj i k _ kb _ hh b hM' rfl hβ h q1 q2 q3 q4)
      · replace hbb : hb h' = some b := hbb
        rw [o1] at hbb
        exact (r2.lt b hbb).2
      · have hki : i ≠ k := fun h => by
          subst h
          have hlt : i < s.M.length := (List.getElem?_eq_some_iff.1 hM').1
          rw [List.getElem?_set_self hlt] at q1
          cases q1; cases q2
        rw [List.getElem?_set_ne hki] at q1
        exact hki (hok.inj i k _ kb _ hh b hM' rfl hβ hdr q1 q2 q3 q4)
      · exact r3.block b hlt fun h => hnd (by rw [o0]; exact h.symm)
    refine dg_step (s' := ⟨s.β.set j h', s.I, (s.M.set i .gone).set j (.arx e sz (n + m) (l ++ l2)), w'⟩) (run_builtin ho (fun cs => by rfl) (by simpa [hv, hvy] using r1)) ht rfl ?_
    rcases hs' with rfl | ⟨_, _, _, rfl⟩
    · exact .arr (by simp [hjl])
    · exact .arr (by simp [hjl])
theorem op_bsxs {T e : TypeId} {n sz by' : Nat} {ps : List (Nat × Operand)} {ds R : List D} {Z : List Value} (jn : Nat) (ho : o.op = .buildSlice T n ps.toArray) (hT : slE P T = some (e, sz, by')) (hZ : zrC P e = some Z) (hi : ps.map (·.1) = List.range' 0 n) (hv : EvL pc F (ps.map (·.2)) ds) (hc : ds.all D.c1 = true) (hs : ds.all (fun d => d.cs.length == sz) = true)
    (hR : ds.flatMap D.cs = R) (hl : R.length = n * sz) (hn : n ≤ 16777216) (hn2 : n * sz ≤ 16777216) (hj : M[jn]? = some .hole) : DOp P pc o F M [jn] (.arr jn) [(jn, .arx e sz n R)] := by
  intro hp a s hok hops hfp
  have hr := evL_reps (a := a) (s := s) hp _ _ hv (fun x hx => hops x (by rw [ho]; simpa [Op.operands] using hx))
  obtain ⟨vs, hvs⟩ : ∃ vs, vs = (ps.map (·.2)).map a.eval := ⟨_, rfl⟩
  rw [← hvs] at hr
  have hcs := reps_cs ds vs hr hc
  rw [hR] at hcs
  have hcell : ∀ v ∈ vs, v.cells.size = sz := fun v hv' => by
    obtain ⟨j, hj, rfl⟩ := List.getElem_of_mem hv'
    have hj2 : j < ds.length := by have := hr.1; omega
    have h1 := (cs_rep (hr.2 j _ _ (List.getElem?_eq_getElem hj2) (List.getElem?_eq_getElem hj)) (List.all_eq_true.1 hc _ (List.getElem_mem hj2))).1
    have h2 := List.all_eq_true.1 hs _ (List.getElem_mem hj2)
    simp only [beq_iff_eq] at h2
    rw [h2] at h1
    simpa using h1
  have hrun := run_buildSlice (P := P) (w := s.w) ho hT hZ hi hvs.symm hcell hn2
  have hj' : s.M[jn]? = some .hole := by rw [hfp jn (by simp)]; exact hj
  have hjl : jn < s.β.length := by rw [hok.len]; exact (List.getElem?_eq_some_iff.1 hj').1
  obtain ⟨us, hus⟩ : ∃ us, us = vs.flatMap fun v => v.cells.toList := ⟨_, rfl⟩
  rw [← hus] at hrun hcs
  have hul : us.length = n * sz := by rw [hcs.1, hl]
  refine dg_step (s' := ⟨s.β.set jn (.slice (some ⟨s.w.heap.size, 0, none⟩) n n), s.I, s.M.set jn (.arx e sz n R), _⟩) hrun (tr_new hok hj' _ _ _ (by simp) (fun b hb => by cases hb; rfl) (fun b h => Below.heap_alloc _ _ _ h) (fun b hb => by cases hb; simp) (by simp) rfl rfl rfl ?_) rfl (.arr (by simp [hjl]))
  have hrow := World.ownsRow_lit (base := 0) (e := e) (size := sz) s.w us.toArray n (Nat.zero_le _) (by unfold maxLen; omega) (by simp [hul])
  refine ⟨us, by simpa using hrow, hcs.1, fun j' d v h2 h3 => ?_⟩
  refine Rep.mono' (s := s) (s' := ⟨s.β.set jn (.slice (some ⟨s.w.heap.size, 0, none⟩) n n), s.I, s.M.set jn (.arx e sz n R), s.w.alloc (.cells us.toArray e)⟩) (fun i h hi hne => ?_) (fun _ h => h) (fun b hb => Below.heap_alloc _ _ _ (hok.il b hb)) (hcs.2 j' d v h2 h3)
  by_cases e' : i = jn
  · subst e'
    exact absurd (hok.blk i _ h hj' hi) hne
  · rw [List.getElem?_set_ne (Ne.symm e')]; exact hi
end
end Go.Proofs.Ytgomklemldldiaa
