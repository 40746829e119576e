/- Single operations of programs: rows that are turned to their own type, rows made whole and left so, arrays of listed parts, nil rows. No condition. -/
import Derived.Test.YtgomklemldldiaaLar
namespace Go.Proofs.Ytgomklemldldiaa
set_option linter.unusedVariables false
set_option linter.unusedSimpArgs false
open Go.RowKit

/-- a block of one's own is given up: it stays from now on, as it is left -/
theorem tr_give {s : St} (ho : Ok s) {j g : Nat} {k : Blk} {h : Value} (hM : s.M[j]? = some k) (hl : k.live = true) (hh : s.β[j]? = some h) (hbb : hb h = some g) (w' : World)
    (hkeep : ∀ b, b ≠ g → w'.heap[b]? = s.w.heap[b]?) (hsz : w'.heap.size = s.w.heap.size) (hos : w'.os = s.w.os) (htape : w'.tape = s.w.tape) (hout : w'.output = s.w.output) :
    Tr s ⟨s.β, fun b => s.I b ∨ b = g, s.M.set j .gone, w'⟩ := by
  have hnd : ∀ (i : Nat) h, s.β[i]? = some h → h ≠ .nilFunc → s.β[i]? = some h := fun _ _ h _ => h
  replace hbb : owns k h g := owns_of (ho.blk j k h hM hh) hbb
  have hlg : Live s g := live_of hM hl hh hbb
  have hg := ho.lt g hlg
  have imm : ∀ b, s.I b → w'.heap[b]? = s.w.heap[b]? := fun b hI => hkeep b fun e => by subst e; exact hg.2 hI
  have old : ∀ (i : Nat) k', (s.M.set j .gone)[i]? = some k' → k'.live = true → i ≠ j ∧ s.M[i]? = some k' := by
    intro i k' h1 h2
    by_cases e : i = j
    · subst e
      rw [List.getElem?_set_self (by have := (List.getElem?_eq_some_iff.1 hM).1; exact this)] at h1
      cases h1; cases h2
    · rw [List.getElem?_set_ne (Ne.symm e)] at h1
      exact ⟨e, h1⟩
  have ne : ∀ (i : Nat) k' h' b, i ≠ j → s.M[i]? = some k' → k'.live = true → s.β[i]? = some h' → owns k' h' b → b ≠ g := by
    intro i k' h' b e h1 h2 h3 h4 e2
    subst e2
    exact e (ho.inj i j k' k h' h b h1 h2 h3 h4 hM hl hh hbb)
  have lv : ∀ b, Live ⟨s.β, fun b => s.I b ∨ b = g, s.M.set j .gone, w'⟩ b → Live s b ∧ b ≠ g := by
    rintro b ⟨i, k', h', h1, h2, h3, h4⟩
    obtain ⟨e, a⟩ := old i k' h1 h2
    exact ⟨live_of a h2 h3 h4, ne i k' h' b e a h2 h3 h4⟩
  refine ⟨⟨by simp [ho.len], fun i k' h' h1 h2 => ?_, fun b hb => ?_, ?_, fun b hI => ?_⟩, hkeep_of hnd, fun _ h => .inl h, fun b h => ?_, fun b hb hn => hkeep b fun e => by subst e; exact hn hlg, fun b h => .inr (lv b h).1, hos, htape, hout, by simp [hsz]⟩
  · cases hk : k'.live with
    | false =>
      cases k' with
      | gone => trivial
      | hole =>
        by_cases e : i = j
        · subst e
          rw [List.getElem?_set_self (by have := (List.getElem?_eq_some_iff.1 hM).1; exact this)] at h1
          cases h1
        · rw [List.getElem?_set_ne (Ne.symm e)] at h1
          exact ho.blk i _ h' h1 h2
      | _ => cases hk
    | true =>
      obtain ⟨e, a⟩ := old i k' h1 hk
      exact BlkOk.mono (s := s) (s' := ⟨s.β, fun b => s.I b ∨ b = g, s.M.set j .gone, w'⟩) hnd (fun _ h => .inl h) imm (ho.blk i k' h' a h2) fun b hl' hb' => hkeep b (ne i k' h' b e a hl' h2 hb')
  · obtain ⟨h1, h2⟩ := lv b hb
    obtain ⟨h3, h4⟩ := ho.lt b h1
    exact ⟨by show b < w'.heap.size; omega, fun h => h.elim h4 h2⟩
  · intro i i2 k1 k2 h1 h2 b a1 a2 a3 a4 c1 c2 c3 c4
    obtain ⟨_, a1⟩ := old i k1 a1 a2
    obtain ⟨_, c1⟩ := old i2 k2 c1 c2
    exact ho.inj i i2 k1 k2 h1 h2 b a1 a2 a3 a4 c1 c2 c3 c4
  · show b < w'.heap.size
    rcases hI with h | h
    · have := ho.il b h; omega
    · omega
  · rcases h with h | h
    · exact .inl h
    · subst h; exact .inr (.inr hlg)

section
variable {P : Program} {pc : Bool} {o : Oper} {F : Fr} {M : List Blk} {T e : TypeId} {by' : Nat} {x y : Operand}
theorem DOp.cast {d d' : D} {fp : List Nat} {wr : List (Nat × Blk)} (h : DOp P pc o F M fp d wr) (e : d = d') : DOp P pc o F M fp d' wr := e ▸ h
/-- a row of bytes, turned to its own type: it stays from now on -/
theorem op_cvb (j : Nat) {e' : TypeId} {n : Nat} {L : List Value} (hn : 0 < L.length) (ho : o.op = .convert T T x) (hT : slE P T = some (e, 1, by')) (he : knd P e = some .u8) (hx : Ev pc F x (.arr j)) (hM : M[j]? = some (.arr e' 1 n L)) :
    DOp P pc o F M [j] (.slf 1 n L) [(j, .gone)] := by
  intro hp a s hok hops hfp
  obtain ⟨e1, ti, e2, e3, e4⟩ := slE_spec hT
  have hr := ev_at hp hx (by simp [ho, Op.operands]) hops
  have hM' : s.M[j]? = some (.arr e' 1 n L) := by rw [hfp j (by simp)]; exact hM
  generalize hv : a.eval x = vx at hr
  cases hr with
  | @arr _ ad n' c h1 =>
    have hb0 := hok.blk j _ _ hM' h1
    obtain ⟨hlen, hb1⟩ := hb0
    rcases hb1 with h0 | ⟨g, cap, cur, hg, h2, h3, h4⟩
    · exfalso
      have := h0
      simp_all
    · cases hg
      obtain ⟨q1, q2, q3, q4, q5, cur', q6, q7, q8⟩ := arr_cells hok hM' h1
      have hu : P.underlying e = some (.int .u8) := by
        unfold knd at he
        split at he
        · rename_i k' h; rw [h, Option.some.inj he]
        · cases he
      have hsh : s.w.shape? g = some (e', cur'.size) := by unfold World.shape?; rw [q6]
      have hgl : g < s.w.heap.size := (Array.getElem?_eq_some_iff.1 q6).1
      have hne : ∀ b, b ≠ g → (s.w.freeze ⟨g, cur'.size, none⟩ 1).heap[b]? = s.w.heap[b]? := fun b hb => by
        unfold World.freeze
        rw [if_neg (by decide)]
        simp only [Array.getElem?_modify]
        rw [if_neg (Ne.symm hb)]
      have hat : (s.w.freeze ⟨g, cur'.size, none⟩ 1).heap[g]? = some (.cells cur' e' (cur'.size, cur'.size + 1)) := by
        unfold World.freeze
        rw [if_neg (by decide)]
        simp only [Array.getElem?_modify, if_true]
        rw [q6]
        rfl
      refine dg_step (s' := ⟨s.β, fun b => s.I b ∨ b = g, s.M.set j .gone, s.w.freeze ⟨g, cur'.size, none⟩ 1⟩) (v := .slice (some ⟨g, 0, none⟩) n c) ?_ (tr_give hok hM' rfl h1 rfl _ hne (by unfold World.freeze; rw [if_neg (by decide)]; simp) (by unfold World.freeze; rw [if_neg (by decide)]) (by unfold World.freeze; rw [if_neg (by decide)]) (by unfold World.freeze; rw [if_neg (by decide)])) rfl ?_
      · unfold execOp
        simp only [ho, hv]
        refine run_v ?_
        simp [convert, run_underlying e1, run_underlying hu, markStringish, hsh]
      · refine .slf q2 q3 q4 (fun h => by cases h) (.inr ⟨g, 0, rfl, .inr rfl, ?_⟩)
        have := cellsAt_sub (cellsAt_block hat 0) 0 L.length
        simpa [q8] using this
/-- make, of a length that is known; it stays as it is made -/
theorem op_mksf (n : Nat) {k k' : IntKind} {z z' : Int} (z0 : Value) (ho : o.op = .makeSlice T x y) (hT : slE P T = some (e, 1, by')) (hZ : zrC P e = some [z0]) (hx : Ev pc F x (.val (.int k z))) (hy : Ev pc F y (.val (.int k' z'))) (hz : pc = true → z = (n : Int)) (hz' : pc = true → z' = (n : Int)) (hb : pc = true → by' * n ≤ 281474976710656 ∧ n ≤ 9223372036854775807) :
    DOp P pc o F M [] (.slf 1 n (List.replicate n z0)) [] := by
  intro hp a s hok hops hfp
  obtain ⟨e1, ti, e2, e3, e4⟩ := slE_spec hT
  obtain ⟨ti', zv, q1, q2, q3⟩ := zrC_spec hZ
  rw [e2] at q1
  obtain rfl := Option.some.inj q1
  have h1 := (ev_at hp hx (by simp [ho, Op.operands]) hops).val_eq
  have h2 := (ev_at hp hy (by simp [ho, Op.operands]) hops).val_eq
  rw [hz hp] at h1
  rw [hz' hp] at h2
  obtain ⟨b1, b2⟩ := hb hp
  have hb3 : (ti.bytes : Int) * (n : Int) ≤ 281474976710656 := by
    have h : ((ti.bytes * n : Nat) : Int) ≤ 281474976710656 := by rw [e4]; omega
    rwa [Int.natCast_mul] at h
  have hrun := run_make (P := P) s.w T e ti zv e1 e2 q2 k k' n n (by omega) (Int.le_refl _) hb3 (by omega)
  simp only [Int.toNat_natCast] at hrun
  have hc : zv.cells = #[z0] := by
    have := congrArg List.toArray q3
    simpa using this
  rw [hc, e3, Nat.mul_one] at hrun
  refine dg_step (s' := ⟨s.β, fun b => s.I b ∨ b = s.w.heap.size, s.M, _⟩) (v := .slice (some ⟨s.w.heap.size, 0, none⟩) n n) ?_ (step_imm hok (.cells (madeCells #[z0] n) e)) rfl (.slf (by simp) (Nat.le_refl _) (by unfold maxLen; omega) (fun e => by cases e) (.inr ⟨_, 0, rfl, .inr rfl, ?_⟩))
  · unfold execOp
    simp only [ho, h1, h2]
    exact run_v hrun
  · have := cellsAt_block (heap_alloc_new s.w (.cells (madeCells #[z0] n) e)) 0
    simpa [toList_madeCells_one] using this
theorem fill_congr {p q : Nat → Option (Nat × Nat)} : ∀ (l : List (Nat × Value)) (Z : Array Value), (∀ x ∈ l, p x.1 = q x.1) → Instr.fill p Z l = Instr.fill q Z l
  | [], _, _ => rfl
  | (i, v) :: r, Z, h => by
    have h1 : p i = q i := h (i, v) (List.mem_cons_self ..)
    unfold Instr.fill
    rw [h1]
    split
    · rfl
    · split
      · rfl
      · exact fill_congr r _ fun x hx => h x (List.mem_cons_of_mem _ hx)
/-- an array of listed parts -/
theorem op_blda {ps : List (Nat × Operand)} {vs : List Value} {q : Nat × Nat} {Z R : List Value} (ho : o.op = .build T ps.toArray) (hT : arE P T = some q) (hZ : zrC P T = some Z) (hv : EvV pc F (ps.map (·.2)) vs)
    (hi : (ps.map (·.1)).all (fun i => Nat.blt i q.1) = true) (hB : fillB ((List.range q.1).map fun i => (i * q.2, q.2)) Z.length ((ps.map (·.1)).zip (vs.map fun v => v.cells.toList)) = true) (hR : fillL ((List.range q.1).map fun i => (i * q.2, q.2)) Z ((ps.map (·.1)).zip (vs.map fun v => v.cells.toList)) = R) : DOp P pc o F M [] (.val (.agg R.toArray)) [] := by
  intro hp a s hok hops _
  have hvs : (ps.map (·.2)).map a.eval = vs := evV_eq hp _ _ hv fun x hx => hops x (by rw [ho]; simpa [Op.operands] using hx)
  obtain ⟨i, z, e1, e2, e3⟩ := zrC_spec hZ
  obtain ⟨el, i', g1, g2, g3⟩ := arE_spec (n := q.1) (sz := q.2) hT
  refine dg_val (v := .agg R.toArray) hok ?_ (.val _)
  have hparts : (ps.toArray.map fun (i, x) => (i, a.eval x)).toList = (ps.map (·.1)).zip vs := by
    rw [← hvs]
    simp only [List.map_toArray]
    clear hv hB hR hvs ho hi
    induction ps with
    | nil => rfl
    | cons p ps ih => simp only [List.map_cons, List.zip_cons_cons]; rw [← ih]
  have hz : ((ps.map (·.1)).zip vs).map (fun p => (p.1, p.2.cells.toList)) = (ps.map (·.1)).zip (vs.map fun v => v.cells.toList) := by
    rw [List.zip_map_right]
    rfl
  have hf := fill_struct (offs := (List.range q.1).map fun i => (i * q.2, q.2)) ((ps.map (·.1)).zip vs) z.cells (by rw [hz, ← Array.length_toList, e3]; exact hB)
  rw [hz, e3, hR] at hf
  have hc : Instr.fill (fun i => some (i * i'.size, i'.size)) z.cells ((ps.map (·.1)).zip vs) = some R.toArray := by
    rw [← hf]
    refine fill_congr _ _ fun x hx => ?_
    have hm : x.1 ∈ ps.map (·.1) := (List.of_mem_zip (show (x.1, x.2) ∈ _ from hx)).1
    have := Nat.blt_eq.mp (List.all_eq_true.1 hi _ hm)
    rw [g3]
    simp [this]
  unfold execOp
  simp only [ho]
  refine run_v ?_
  have hz0 : (zeroValue T).run P s.w = .ok z s.w := by simp [zeroValue, typeInfo, e1, e2]
  simp only [Instr.build, Sem.run_bind, hz0, run_underlying g1, Result.andThen_ok, sizeOf, typeInfo, hparts]
  simp [g2, hc]
/-- a nil slice, as a row of rows that has none -/
theorem evnilm (h : Ev pc F x (.val (.slice none 0 0))) : Ev pc F x (.slm 1 0 []) := by
  obtain ⟨d, h1, h2⟩ := h
  refine ⟨d, h1, fun s v hp hr => ?_⟩
  have hr := h2 s v hp hr
  cases hr
  exact .slm (vs := []) rfl rfl (Nat.le_refl _) (Nat.zero_le _) (fun _ => rfl) rfl (fun j d v h => by simp at h) (.inl rfl)
end
end Go.Proofs.Ytgomklemldldiaa
