/- Blocks read anew; structs with addresses, whole; slices with no room, cut, and grown by zeros. No condition. -/
import Derived.Test.YtgomklemldldiaaLap
namespace Go.Proofs.Ytgomklemldldiaa
set_option linter.unusedVariables false
set_option linter.unusedSimpArgs false
open Go.RowKit

section
variable {P : Program} {s0 : St} {n : Cx}
theorem inv_reb {F : Fr} {M : List Blk} {a : Act} {w : World} {i : Nat} {k k' : Blk} (h : Inv s0 n F M a w) (hM : M[i]? = some k) (hl : k.live = k'.live) (hk : ∀ s h, BlkOk s h k → BlkOk s h k') (hf : k.nf = true := by rfl) (hf' : k'.nf = true := by rfl) : Inv s0 n F (M.set i k') a w := by
  obtain ⟨h0, s, rfl, rfl, h3, h4, h5, h6⟩ := h
  have hnd : ∀ (i : Nat) h, s.β[i]? = some h → h ≠ .nilFunc → s.β[i]? = some h := fun _ _ h _ => h
  have hlt := (List.getElem?_eq_some_iff.1 hM).1
  have old : ∀ (j : Nat) kk, (s.M.set i k')[j]? = some kk → (j = i ∧ kk = k') ∨ s.M[j]? = some kk := fun j kk hj => by
    by_cases e : i = j
    · subst e
      rw [List.getElem?_set_self hlt] at hj
      exact .inl ⟨rfl, (Option.some.inj hj).symm⟩
    · rw [List.getElem?_set_ne e] at hj; exact .inr hj
  have back : ∀ (j : Nat) kk, (s.M.set i k')[j]? = some kk → kk.live = true → ∃ k2, s.M[j]? = some k2 ∧ k2.live = true ∧ ∀ x b, owns kk x b → owns k2 x b := fun j kk hj hlv => by
    rcases old j kk hj with ⟨rfl, rfl⟩ | hj
    · exact ⟨k, hM, by rw [hl]; exact hlv, fun x b h => (owns_nf hf).2 ((owns_nf hf').1 h)⟩
    · exact ⟨kk, hj, hlv, fun _ _ h => h⟩
  have lv : ∀ b, Live ⟨s.β, s.I, s.M.set i k', s.w⟩ b → Live s b := by
    rintro b ⟨j, kk, x, h1, h2, h3, h4⟩
    obtain ⟨k2, g1, g2, g3⟩ := back j kk h1 h2
    exact live_of g1 g2 h3 (g3 _ _ h4)
  have mono : ∀ h kk, BlkOk s h kk → BlkOk ⟨s.β, s.I, s.M.set i k', s.w⟩ h kk := fun h kk hb => BlkOk.mono (s := s) (s' := ⟨s.β, s.I, s.M.set i k', s.w⟩) hnd (fun _ h => h) (fun _ _ => rfl) hb (fun _ _ _ => rfl)
  have tt : Tr s ⟨s.β, s.I, s.M.set i k', s.w⟩ := by
    refine ⟨⟨by simp [h3.ok.len], fun j kk h h1 h2 => ?_, fun b hb => h3.ok.lt b (lv b hb), ?_, h3.ok.il⟩, hkeep_of hnd, fun _ h => h, fun _ h => .inl h, fun _ _ _ => rfl, fun b h => .inr (lv b h), rfl, rfl, rfl, Nat.le_refl _⟩
    · rcases old j kk h1 with ⟨rfl, rfl⟩ | h1
      · exact mono _ _ (hk _ _ (h3.ok.blk _ _ h hM h2))
      · exact mono _ _ (h3.ok.blk j kk h h1 h2)
    · intro j j2 k1 k2 x x2 b a1 a2 a3 a4 c1 c2 c3 c4
      obtain ⟨q1, g1, g2, g5⟩ := back j k1 a1 a2
      obtain ⟨q2, g3, g4, g6⟩ := back j2 k2 c1 c2
      exact h3.ok.inj j j2 q1 q2 x x2 b g1 g2 a3 (g5 _ _ a4) g3 g4 c3 (g6 _ _ c4)
  exact ⟨h0, ⟨s.β, s.I, s.M.set i k', s.w⟩, rfl, rfl, h3.trans tt, fun x d hd => (h4 x d hd).mono h3.ok tt, h5, h6.mono h3.ok tt⟩
/-- a block is read anew -/
theorem dwp_reb {c : Code} {F : Fr} {M M' : List Blk} {K : Cont} (i : Nat) {k k' : Blk} (hk : ∀ s h, BlkOk s h k → BlkOk s h k') (hM : M[i]? = some k) (hl : k.live = k'.live) (hM' : M.set i k' = M') (h : dwp P s0 n c F M' K) (hf : k.nf = true := by rfl) (hf' : k'.nf = true := by rfl) : dwp P s0 n c F M K := by
  subst hM'
  exact fun a w hi => h a w (inv_reb hi hM hl hk hf hf')
theorem reb_arx {e : TypeId} {sz : Nat} : ∀ s h, BlkOk s h (.arr e sz 0 []) → BlkOk s h (.arx e sz 0 []) := fun s h hk => ⟨[], hk, rfl, fun j d v h => by simp at h⟩
theorem reb_mix {T : TypeId} {L : List Value} : ∀ s h, BlkOk s h (.flat T L) → BlkOk s h (.mix T (L.map D.val)) := fun s h hk => by
  obtain ⟨b, e1, e2⟩ := hk
  refine ⟨b, L, e1, e2, by simp, fun j d v h1 h2 => ?_⟩
  rw [List.getElem?_map, h2] at h1
  cases h1
  exact .val v
end

section
variable {P : Program} {pc : Bool} {o : Oper} {F : Fr} {M : List Blk}
/-- a struct with addresses, whole -/
theorem op_ldmw {T T' : TypeId} {x : Operand} {i k : Nat} {l : List D} (ho : o.op = .load T x) (hT : tyB P T = some (true, k)) (hx : Ev pc F x (.loc i 0)) (hM : M[i]? = some (.mix T' l)) (hl : l.length = k) : DOp P pc o F M [i] (.agg l) [] := by
  intro hp a s hok hops hfp
  have hr := ev_at hp hx (by simp [ho, Op.operands]) hops
  generalize hv : a.eval x = vx at hr
  cases hr with
  | @loc _ _ b h =>
    obtain ⟨b', vs, e1, e2, e3, e4⟩ := hok.blk i _ _ (by rw [hfp i (by simp)]; exact hM) h
    cases e1
    have hc : cellsAt s.w b 0 vs := cellsAt_block e2 0
    have hr := cellsAt_range hc 0 vs.length (R := vs) (by simp)
    exact dg_val hok (run_load_row ho hT hv (by simpa using hr) (by omega)) (.agg e3 e4)
/-- a struct with addresses, whole, into a variable that holds such a one -/
theorem op_stmw {T T' : TypeId} {x y : Operand} {i k : Nat} {rw' : Bool} {ds l : List D} (ho : o.op = .store T x y) (hT : tyB P T = some (rw', k)) (hx : Ev pc F x (.loc i 0)) (hy : Ev pc F y (.agg ds)) (hM : M[i]? = some (.mix T' l)) (hk : ds.length = k) (hfit : ds.length = l.length) (h1 : ds.all D.oc = true) : DOp P pc o F M [i] .junk [(i, .mix T' ds)] := by
  intro hp a s hok hops hfp
  have hr := ev_at hp hx (by simp [ho, Op.operands]) hops
  have hry := ev_at hp hy (by simp [ho, Op.operands]) hops
  have hM' : s.M[i]? = some (.mix T' l) := by rw [hfp i (by simp)]; exact hM
  generalize hv : a.eval x = vx at hr
  generalize hvy : a.eval y = vy at hry
  cases hr with
  | @loc _ _ b h =>
    cases hry with
    | @agg _ vs hvl hd =>
      obtain ⟨b', L, e1, e2, e3, _⟩ := hok.blk i _ _ hM' h
      cases e1
      have hcell := cellsAt_block e2 0
      have hoc : ∀ u ∈ vs, u.oneCell' = true := fun u hu => by
        obtain ⟨j, hj, rfl⟩ := List.getElem_of_mem hu
        have hj2 : j < ds.length := by omega
        exact oc_one (hd j _ _ (List.getElem?_eq_getElem hj2) (List.getElem?_eq_getElem hj)) (List.all_eq_true.1 h1 _ (List.getElem_mem hj2))
      have hrun := run_store (P := P) (w := s.w) (C := vs) ho hT hv hvy rfl (by omega) (fun j hj => by
          have hp' : j < L.length := by omega
          have := hcell j L[j] (by simp [hp'])
          rw [Nat.zero_add] at this
          rw [Nat.zero_add, this]; rfl) (fun j hj => by simp [World.frozen?, e2]) hoc
      have hβ : s.β.set i (.pointer (some ⟨b, 0, none⟩)) = s.β := by
        apply List.ext_getElem?
        intro k
        by_cases e : i = k
        · subst e; rw [List.getElem?_set_self (List.getElem?_eq_some_iff.1 h).1, h]
        · rw [List.getElem?_set_ne e]
      refine dg_skip (s' := ⟨s.β.set i (.pointer (some ⟨b, 0, none⟩)), s.I, s.M.set i (.mix T' ds), s.w.setCells b 0 vs⟩) hrun (tr_store hok hM' rfl h rfl 0 _ ?_) rfl
      have hall : setL L 0 vs = vs := setL_all (by omega)
      have hblk := setCells_block b vs 0 s.w L T' e2
      rw [hall] at hblk
      refine ⟨b, vs, rfl, hblk, hvl, fun j e v hj hv' => ?_⟩
      refine Rep.mono' (s := s) (s' := ⟨s.β.set i (.pointer (some ⟨b, 0, none⟩)), s.I, s.M.set i (.mix T' ds), s.w.setCells b 0 vs⟩) (fun k x hk _ => by show (s.β.set i _)[k]? = _; rw [hβ]; exact hk) (fun _ h => h) (fun b' hI => setCells_other b _ 0 s.w b' fun e => ?_) (hd j e v hj hv')
      subst e
      exact (hok.lt b' (live_of hM' rfl h rfl)).2 hI
theorem rv_mw {p : Tmp} {T T' : TypeId} {i k : Nat} {l : List D} (hT : tyB P T = some (true, k)) (h : lk F p = some (.loc i 0)) (hM : M[i]? = some (.mix T' l)) (hl : l.length = k) : RvD P (.cell p T) F M (.agg l) := fun s a ho hMs hF => by
  have hr := hF p _ h
  generalize hv : slot a p = v at hr
  cases hr with
  | @loc _ _ b hb =>
    obtain ⟨b', vs, e1, e2, e3, e4⟩ := ho.blk i _ _ (by rw [hMs]; exact hM) hb
    cases e1
    obtain ⟨dd, ii, h1, h2, h3, h4⟩ := tyB_spec hT
    refine ⟨.agg vs.toArray, ?_, .agg e3 e4⟩
    have hvx' : a.tmps.getD p undef = .pointer (some ⟨b, 0, none⟩) := hv
    simp only [rv, hvx']
    simp only [asAddr, Sem.run_bind, Sem.run_pure, Result.andThen_ok]
    exact run_loadVar_row s.w b T' T vs.toArray (0, 0) dd e2 h1 (by cases dd <;> simp_all [TypeDesc.isRow]) (by simp [h2, h4, hl, e3])
/-- the room of a nil slice -/
theorem op_capn {T : TypeId} {x : Operand} {q : TypeId × Nat × Nat} (ho : o.op = .call { callee := .builtin .cap, args := #[x], argTypes := #[T] }) (hT : slE P T = some q) (hx : Ev pc F x (.val (.slice none 0 0))) : DOp P pc o F M [] (.val (.int .i64 0)) [] := by
  intro hp a s hok hops _
  obtain ⟨e1, _⟩ := slE_spec hT
  have hr := (ev_at hp hx (by simp [ho, Op.operands, Call.operands]) hops).val_eq
  refine dg_val hok (run_builtin ho (fun cs => rfl) ?_) (.val (.int .i64 0))
  simp [Builtin.cap_, hr, run_underlying e1, goInt]
/-- a nil slice's first none -/
theorem op_sln {T : TypeId} {x : Operand} {e : TypeId} {sz by' : Nat} {hi : Option Operand} (ho : o.op = .slice T x none hi none) (hT : slE P T = some (e, sz, by')) (hx : Ev pc F x (.val (.slice none 0 0))) (hhi : Bd pc F hi 0 0) : DOp P pc o F M [] (.val (.slice none 0 0)) [] := by
  intro hp a s hok hops _
  have hr := (ev_at hp hx (by simp [ho, Op.operands]) hops).val_eq
  have q2 := bd_at hp hhi (fun u e => by subst e; simp [ho, Op.operands]) hops
  refine dg_val hok ?_ (.val _)
  have h := run_slice (P := P) (w := s.w) ho hT hr (l := 0) (h := 0) (.inl ⟨rfl, rfl⟩) q2 (by omega) (by omega) (by omega) (Nat.le_refl _)
  simpa using h
theorem run_append_made (T U ty e : TypeId) (i : TypeInfo) (z : Value) (w : World) (k : IntKind) (hT : P.underlying T = some (.slice e)) (hU : P.underlying U = some (.int k)) (hi : P.info? e = some i) (hz : i.zero = some z)
    (n : Nat) (h0 : 0 < n) (hs : 0 < i.size) (h63 : (n : Int) ≤ 9223372036854775807) (h48 : n * i.bytes ≤ 281474976710656) :
    (Builtin.append_ #[T, U] ty #[.slice none 0 0, .int k n]).run P w =
      .ok (.slice (some ⟨w.heap.size, 0, none⟩) n (grownCap w n 0 e)) (w.drew.alloc (.cells (Builtin.zeroCells z.cells n ++ Builtin.zeroCells z.cells (grownCap w n 0 e - n)) e)) := by
  have hn : n ≠ 0 := by omega
  have hw : IntKind.i64.wrap (n : Int) = n := IntWalk.i64_in _ (by omega)
  have h63' : ¬ (9223372036854775807 < (n : Int)) := by omega
  have hneg : ¬ ((n : Int) < 0) := by omega
  have hsz : n * i.size ≠ 0 := Nat.mul_ne_zero hn (by omega)
  have hby : ¬ ((281474976710656 : Int) < (n : Int) * (i.bytes : Int)) := by
    rw [show (n : Int) * (i.bytes : Int) = ((n * i.bytes : Nat) : Int) by simp]; omega
  have h48' : ¬ (281474976710656 < Builtin.nextslicecap n 0 * i.bytes) := by rw [nextslicecap_zero h0]; omega
  have hs' : i.size ≠ 0 := by omega
  have hn0 : ¬ ((n : Int) ≤ 0) := by omega
  have hmx : max (n : Int) 0 = n := by omega
  simp [Builtin.append_, run_underlying hT, run_underlying hU, sizeOf, typeInfo, zeroValue, hi, hz, asInt, asIntOf, hw, hn, hs', hn0, hmx, h63', hneg, hby, h48', Question.forced, run_firstCells_none, newRow, grownCap]
  exact fun h => absurd h hsz
/-- as many zeros appended to nothing -/
theorem op_apm {T U e : TypeId} {by' n sz j : Nat} {k : IntKind} {z : Int} {x y : Operand} {Z : List Value} (ho : o.op = .call { callee := .builtin .append, args := #[x, y], argTypes := #[T, U] }) (hT : slE P T = some (e, sz, by')) (hU : P.underlying U = some (.int k)) (hZ : zrC P e = some Z) (hZl : Z.length = sz) (hs : 0 < sz)
    (hx : Ev pc F x (.val (.slice none 0 0))) (hy : Ev pc F y (.val (.int k z))) (hz : pc = true → z = (n : Int)) (h0 : pc = true → 0 < n) (hj : M[j]? = some .hole) (hb : pc = true → n * by' ≤ 281474976710656 ∧ n ≤ 140737488355328) :
    DOp P pc o F M [j] (.arr j) [(j, .arr e sz n (Builtin.zeroCells Z.toArray n).toList)] := by
  intro hp a s hok hops hfp
  obtain ⟨e1, ti, e2, e3, e4⟩ := slE_spec hT
  obtain ⟨ti', zv, q1, q2, q3⟩ := zrC_spec hZ
  rw [e2] at q1
  obtain rfl := Option.some.inj q1
  have h1 := (ev_at hp hx (by simp [ho, Op.operands, Call.operands]) hops).val_eq
  have h2 := (ev_at hp hy (by simp [ho, Op.operands, Call.operands]) hops).val_eq
  rw [hz hp] at h2
  obtain ⟨b1, b2⟩ := hb hp
  have hj' : s.M[j]? = some .hole := by rw [hfp j (by simp)]; exact hj
  have hjl : j < s.β.length := by rw [hok.len]; exact (List.getElem?_eq_some_iff.1 hj').1
  have hz0 : zv.cells = Z.toArray := by rw [← q3]
  have hrun := run_append_made T U o.type e ti zv s.w k e1 hU e2 q2 n (h0 hp) (by omega) (by omega) (by rw [e4]; exact b1)
  have hge := grownCap_ge s.w n 0 e
  have hrow : (s.w.drew.alloc (.cells (Builtin.zeroCells zv.cells n ++ Builtin.zeroCells zv.cells (grownCap s.w n 0 e - n)) e)).ownsRow 0 e sz (.slice (some ⟨s.w.heap.size, 0, none⟩) n (grownCap s.w n 0 e)) n (Builtin.zeroCells Z.toArray n).toList := by
    have hl1 : (Builtin.zeroCells Z.toArray n).size = n * sz := by rw [size_zeroCells]; simp [hZl]
    refine ⟨by simpa using hl1, .inr ⟨s.w.heap.size, _, _, rfl, Nat.zero_le _, heap_alloc_new s.w.drew _, hge, grownCap_le_maxLen s.w _ _ _ (by unfold maxLen; omega), ?_, ?_⟩⟩
    · rw [Array.size_append, hz0, hl1, size_zeroCells]
      simp only [List.size_toArray, hZl]
      rw [← Nat.add_mul]
      congr 1
      omega
    · rw [hz0, Array.toList_append, ← hl1, ← Array.length_toList, List.take_left]
  refine dg_step (s' := ⟨s.β.set j (.slice (some ⟨s.w.heap.size, 0, none⟩) n (grownCap s.w n 0 e)), s.I, s.M.set j (.arr e sz n (Builtin.zeroCells Z.toArray n).toList), s.w.drew.alloc (.cells (Builtin.zeroCells zv.cells n ++ Builtin.zeroCells zv.cells (grownCap s.w n 0 e - n)) e)⟩) (v := .slice (some ⟨s.w.heap.size, 0, none⟩) n (grownCap s.w n 0 e)) (run_builtin ho (fun cs => by rfl) (by simpa [h1, h2] using hrun)) (tr_new hok hj' _ _ _ (by simp) (fun b hb => by cases hb; rfl) (fun b h => Below.heap_alloc s.w.drew _ _ h) (fun b hb => by cases hb; simp) (by simp) rfl rfl rfl hrow) rfl (.arr (by simp [hjl]))
/-- a row of one's own, cut to none of its elements: it may be appended to -/
theorem op_cut {T e T' : TypeId} {sz sz' by' n i j : Nat} {x : Operand} {hi : Option Operand} {L : List Value} (ho : o.op = .slice T x none hi none) (hT : slE P T = some (e, sz', by')) (hx : Ev pc F x (.arr i)) (hM : M[i]? = some (.arr T' sz n L)) (hhi : Bd pc F hi n 0) (hj : M[j]? = some .hole) :
    DOp P pc o F M [i, j] (.arr j) [(i, .gone), (j, .arr T' sz 0 [])] := by
  intro hp a s hok hops hfp
  have hM' : s.M[i]? = some (.arr T' sz n L) := by rw [hfp i (by simp)]; exact hM
  have hj' : s.M[j]? = some .hole := by rw [hfp j (by simp)]; exact hj
  have hjl : j < s.β.length := by rw [hok.len]; exact (List.getElem?_eq_some_iff.1 hj').1
  have hrx := ev_at hp hx (by simp [ho, Op.operands]) hops
  have q2 := bd_at hp hhi (fun u e => by subst e; simp [ho, Op.operands]) hops
  generalize hv : a.eval x = vx at hrx
  cases hrx with
  | @arr _ ad n' c hβ =>
    have hk : s.w.ownsRow 0 T' sz _ n L := hok.blk i _ _ hM' hβ
    obtain ⟨h', r1, r2, r3⟩ : ∃ h', (execOp a.eval o).run P s.w = .ok (.value h') s.w ∧ s.w.ownsRow 0 T' sz h' 0 [] ∧ hb h' = hb (Value.slice ad n' c) ∧ h' ≠ .nilFunc := by
      rcases hk.2 with ⟨e1, e2⟩ | ⟨g, cap, cur, e1, e2, e3, e4, e5, e6, e7⟩
      · cases e1; subst e2
        refine ⟨.slice none 0 0, ?_, World.ownsRow_nil s.w 0 T' sz, rfl, by simp⟩
        have h := run_slice (P := P) (w := s.w) ho hT hv (l := 0) (h := 0) (.inl ⟨rfl, rfl⟩) q2 (by omega) (by omega) (by omega) (Nat.le_refl _)
        simpa using h
      · cases e1
        refine ⟨.slice (some ⟨g, 0, none⟩) 0 c, ?_, ⟨by simp, .inr ⟨g, c, cur, rfl, Nat.zero_le _, e3, Nat.zero_le _, e5, e6, by simp⟩⟩, rfl, by simp⟩
        have h := run_slice (P := P) (w := s.w) ho hT hv (l := 0) (h := 0) (.inl ⟨rfl, rfl⟩) q2 (by omega) (by omega) (by omega) e4
        rw [h]
        by_cases hc : c = 0
        · subst hc; simp
        · simp [hc, Addr.add_zero']
    obtain ⟨r3, r4⟩ := r3
    have hβj : s.β[j]? = some .nilFunc := by
      have q : s.β[j]? = some s.β[j] := List.getElem?_eq_getElem hjl
      have : s.β[j] = .nilFunc := hok.blk j .hole _ hj' q
      rw [q, this]
    have hlt : i < s.M.length := (List.getElem?_eq_some_iff.1 hM').1
    have ne : ∀ (k : Nat) kb, (s.M.set i .gone)[k]? = some kb → kb.live = true → i ≠ k ∧ s.M[k]? = some kb := fun k kb hkb hl => by
      by_cases hki : i = k
      · subst hki
        rw [List.getElem?_set_self hlt] at hkb
        cases hkb; cases hl
      · rw [List.getElem?_set_ne hki] at hkb; exact ⟨hki, hkb⟩
    refine dg_step (s' := ⟨s.β.set j h', s.I, (s.M.set i .gone).set j (.arr T' sz 0 []), s.w⟩) r1 ?_ rfl ?_
    · refine step_set hok j (s.M.set i .gone) h' _ s.w (by simp) (fun k kb hkb => ?_) (by rw [← hok.len]; exact hjl) (.inl hβj) r4 r2 (fun b hbb k kb hh hne q1 q2 q3 q4 => ?_) (fun b hbb => .inr (live_of hM' rfl hβ (r3.symm.trans (show hb h' = some b from hbb)))) (fun b hbb => (hok.lt b (live_of hM' rfl hβ (r3.symm.trans (show hb h' = some b from hbb)))).1) (fun _ => False) (fun b hdr => hdr.elim) (fun _ _ _ _ => rfl) rfl rfl rfl (Nat.le_refl _)
      · by_cases hki : i = k
        · subst hki
          rw [List.getElem?_set_self hlt] at hkb
          exact .inr (Option.some.inj hkb).symm
        · rw [List.getElem?_set_ne hki] at hkb; exact .inl hkb
      · obtain ⟨hki, q1'⟩ := ne k kb q1 q2
        exact hki (hok.inj i k _ kb _ hh b hM' rfl hβ (r3.symm.trans (show hb h' = some b from hbb)) q1' q2 q3 q4)
    · rcases r2.2 with ⟨rfl, _⟩ | ⟨g, cap, cur, rfl, _⟩
      · exact .arr (by simp [hjl])
      · exact .arr (by simp [hjl])
theorem flat_drop' {α : Type} {en : α → List Value} {sz : Nat} (hen : ∀ a, (en a).length = sz) : ∀ (r : List α) (i : Nat), (r.drop i).flatMap en = (r.flatMap en).drop (i * sz)
  | r, 0 => by simp
  | [], i + 1 => by simp
  | x :: r, i + 1 => by
    rw [List.drop_succ_cons, flat_drop' hen r i, List.flatMap_cons, Nat.add_mul, Nat.one_mul, Nat.add_comm, ← List.drop_drop, List.drop_append_of_le_length (by rw [hen]; exact Nat.le_refl _), ← hen x, List.drop_length, List.nil_append]
/-- what is behind, with no more room -/
theorem op_sl3d {α : Type} {en : α → List Value} {r : List α} {T e : TypeId} {sz by' : Nat} {x lo hi mx : Operand} {k k' k'' : IntKind} {h h' h'' : Int} {i : Nat} (ho : o.op = .slice T x (some lo) (some hi) (some mx)) (hT : slE P T = some (e, sz, by')) (hx : Ev pc F x (.slf sz r.length (r.flatMap en))) (hlo : Ev pc F lo (.val (.int k'' h''))) (hhi : Ev pc F hi (.val (.int k h))) (hmx : Ev pc F mx (.val (.int k' h')))
    (hl : pc = true → h'' = (i : Int)) (hh : pc = true → h = (r.length : Int)) (hm : pc = true → h' = (r.length : Int)) (hi : pc = true → i ≤ r.length) (hen : ∀ a, (en a).length = sz) : DOp P pc o F M [] (.slf sz (r.drop i).length ((r.drop i).flatMap en)) [] := by
  intro hp a s hok hops _
  have hr := ev_at hp hx (by simp [ho, Op.operands]) hops
  have e0 := (ev_at hp hlo (by simp [ho, Op.operands]) hops).val_eq
  have e1 := (ev_at hp hhi (by simp [ho, Op.operands]) hops).val_eq
  have e2 := (ev_at hp hmx (by simp [ho, Op.operands]) hops).val_eq
  rw [hl hp] at e0
  rw [hh hp] at e1
  rw [hm hp] at e2
  have hil := hi hp
  obtain ⟨q1, ti, q2, q3, q4⟩ := slE_spec hT
  have hlen : (r.drop i).length = r.length - i := List.length_drop ..
  generalize hv : a.eval x = vx at hr
  cases hr with
  | @slf _ _ cap ad _ hl hn hc ha hL =>
    have hrun : (execOp a.eval o).run P s.w = .ok (.value (.slice (if r.length - i = 0 then ad else ad.map (·.add (i * sz))) (r.length - i) (r.length - i))) s.w := by
      unfold execOp
      simp only [ho, hv, Option.map_some, e0, e1, e2]
      refine run_v ?_
      simp [Instr.sliceAt, Instr.slice, run_underlying q1, Sem.run_bind, Instr.sliceBounds, Instr.sliceBound, asIntOf, hn, hil, sizeOf, typeInfo, q2, q3]
      congr 1
      exact propext ⟨fun h => by omega, fun h => by omega⟩
    refine dg_val hok hrun ?_
    rw [hlen]
    refine .slf (by rw [flat_len hen, hlen]) (Nat.le_refl _) (by omega) (fun e => ?_) ?_
    · split at e
      · assumption
      · rw [Option.map_eq_none_iff] at e
        have := ha e; omega
    · rcases hL with hL | ⟨b, q, e, hI, hcl⟩
      · left
        rw [flat_drop' hen, hL]; simp
      · by_cases hz : r.length - i = 0
        · left
          rw [List.eq_nil_of_length_eq_zero (hlen.trans hz)]; rfl
        · right
          refine ⟨b, q + i * sz, by rw [if_neg hz, e, Option.map_some, Addr.add_mid], hI, ?_⟩
          rw [flat_drop' hen]
          have h5 := cellsAt_sub hcl (i * sz) ((r.flatMap en).length)
          rw [List.take_of_length_le (by rw [List.length_drop]; omega)] at h5
          exact h5
end
/-- what it hands back, as memory that stays; the blocks it was handed stay what they are -/
theorem freezeN {P : Program} {f : FuncId} {args : List D} {d d' : D} {Min Mout Mo : List Blk} {m : Nat} {σ : List Nat} (h : DFun P f args Min d Mout) (hm : Min.length = m) (hσ : okσ m σ = true) (hv : vw σ allv Mout d = some d') (hM : MFits σ allv Mout σ Mo) : DFun P f args Min d' Mo := by
  refine ⟨h.1, fun s vs hok hMs hr => (h.2 s vs hok hMs hr).mono ?_⟩
  rintro e w' ⟨s', rfl, ht, hor⟩
  rcases hor with ⟨d0, v, rfl, hrep, rfl, hMo⟩ | ⟨d0, v, _, _, hf⟩
  · exact ⟨vst s' σ allv Mo, rfl, tr_vst hok ht (by rw [hMo]; exact mfits _ _ hM) (m := m) (by rw [hMs]; exact Nat.le_of_eq hm) hσ, .inl ⟨d', v, rfl, vw_rep ht.ok hrep d' (by rw [hMo]; exact hv), rfl, rfl⟩⟩
  · exact hf.elim
theorem wrc {τ0 r : List Nat} {i : Nat} {k k' : Blk} {ks : List Blk} {r' : List (Nat × Blk)} (h : sbB τ0 k = some k') (h2 : wrOf τ0 r ks = some r') : wrOf τ0 (i :: r) (k :: ks) = some ((i, k') :: r') := by
  unfold wrOf; rw [h, h2]
theorem sbL_flat {α : Type} {τ : List Nat} {f : α → D} (h : ∀ a, sb τ (f a) = some (f a)) : ∀ l : List α, sbL τ (l.flatMap fun a => [f a]) = some (l.flatMap fun a => [f a])
  | [] => rfl
  | a :: l => by
    rw [List.flatMap_cons]
    show sbL τ (f a :: l.flatMap fun a => [f a]) = _
    unfold sbL
    rw [h a, sbL_flat h l]
    rfl
theorem sb_arx {α : Type} {τ : List Nat} {f : α → D} {T : TypeId} {sz n : Nat} {l : List α} (h : ∀ a, sb τ (f a) = some (f a)) : sbB τ (.arx T sz n (l.flatMap fun a => [f a])) = some (.arx T sz n (l.flatMap fun a => [f a])) := by
  show (sbL τ _).map _ = _; rw [sbL_flat h]; rfl
end Go.Proofs.Ytgomklemldldiaa
