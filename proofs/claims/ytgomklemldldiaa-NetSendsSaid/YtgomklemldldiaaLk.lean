/- Operations on slices: made, cut, grown; tuples; function values; structs. Conditions: what a type is, by the kernel. -/
import Derived.Test.YtgomklemldldiaaLj
namespace Go.Proofs.Ytgomklemldldiaa
set_option linter.unusedVariables false
set_option linter.unusedSimpArgs false
open Go.RowKit

section
variable {P : Program} {pc : Bool} {o : Oper} {F : Fr} {M : List Blk}

/-- plain operands -/
def EvV (pc : Bool) (F : Fr) : List Operand → List Value → Prop
  | [], [] => True
  | x :: xs, v :: vs => Ev pc F x (.val v) ∧ EvV pc F xs vs
  | _, _ => False
theorem vn : EvV pc F [] [] := trivial
theorem vc {x : Operand} {xs : List Operand} {v : Value} {vs : List Value} (h : Ev pc F x (.val v)) (h' : EvV pc F xs vs) : EvV pc F (x :: xs) (v :: vs) := ⟨h, h'⟩
theorem evV_eq {a : Act} {s : St} (hp : pc = true) : ∀ (xs : List Operand) (vs : List Value), EvV pc F xs vs → (∀ x ∈ xs, ∀ d, ev F x = some d → Rep s d (a.eval x)) → xs.map a.eval = vs
  | [], [], _, _ => rfl
  | x :: xs, v :: vs, ⟨⟨d', e1, e2⟩, h⟩, hr => by
    rw [List.map_cons, evV_eq hp xs vs h (fun y hy => hr y (List.mem_cons_of_mem _ hy)), (e2 s _ hp (hr x (List.mem_cons_self ..) d' e1)).val_eq]
  | [], _ :: _, h, _ => by cases h
  | _ :: _, [], h, _ => by cases h

theorem run_builtin {b : Builtin} {xs : Array Operand} {ts : Array TypeId} {a : Act} {w w' : World} {s : Sem Value} {v : Value} (ho : o.op = .call { callee := .builtin b, args := xs, argTypes := ts })
    (hb : ∀ cs, builtin b ts o.type cs (xs.map a.eval) = (do pure (Next.value (← s)))) (h : s.run P w = .ok v w') : (execOp a.eval o).run P w = .ok (.value v) w' := by
  unfold execOp
  simp only [ho, resolve, Sem.run_bind, Sem.run_pure, Result.andThen_ok, invoke]
  rw [hb]
  exact run_v h

/-- a component of a tuple -/
theorem op_ext {x : Operand} {i : Nat} {l : List D} {d : D} (ho : o.op = .extract x i) (hx : Ev pc F x (.tup l)) (hl : l[i]? = some d) : DOp P pc o F M [] d [] := by
  intro hp a s hok hops _
  have hr := ev_at hp hx (by simp [ho, Op.operands]) hops
  generalize hv : a.eval x = vx at hr
  cases hr with
  | @tup _ vs h1 h2 =>
    have hi : i < vs.length := by rw [h1]; exact (List.getElem?_eq_some_iff.1 hl).1
    refine dg_val (v := vs[i]) hok ?_ (h2 i d _ hl (List.getElem?_eq_getElem hi))
    unfold execOp
    simp only [ho, hv]
    exact run_v (by simp [Instr.extract, hi])

/-- a function value -/
theorem op_mkf {fn : Fn} {fs cs : List Operand} {ds es : List D} (ho : o.op = .makeFunc fn fs.toArray cs.toArray) (h1 : EvL pc F fs ds) (h2 : EvL pc F cs es) : DOp P pc o F M [] (.fn fn ds es) [] := by
  intro hp a s hok hops _
  have r1 := evL_reps (a := a) (s := s) hp fs ds h1 (fun y hy => hops y (by rw [ho]; simp [Op.operands, hy]))
  have r2 := evL_reps (a := a) (s := s) hp cs es h2 (fun y hy => hops y (by rw [ho]; simp [Op.operands, hy]))
  refine dg_val (v := .func fn (fs.map a.eval).toArray (cs.map a.eval).toArray) hok ?_ (.fn r1.1 r2.1 r1.2 r2.2)
  unfold execOp
  simp only [ho]
  exact run_v (by simp [Instr.makeFunc])

/-! ### len -/
theorem op_len {T : TypeId} {x : Operand} {q : TypeId × Nat × Nat} {sz n : Nat} {L : List Value} (ho : o.op = .call { callee := .builtin .len, args := #[x], argTypes := #[T] }) (hT : slE P T = some q) (hx : Ev pc F x (.slf sz n L)) : DOp P pc o F M [] (.val (.int .i64 n)) [] := by
  intro hp a s hok hops _
  obtain ⟨e1, _⟩ := slE_spec hT
  have hr := ev_at hp hx (by simp [ho, Op.operands, Call.operands]) hops
  generalize hv : a.eval x = vx at hr
  cases hr with
  | slf h1 h2 h3 h4 h5 =>
    refine dg_val hok (run_builtin ho (fun cs => rfl) ?_) (.val (.int .i64 n))
    simp [Builtin.len_, hv, run_underlying e1, goInt]
theorem op_lena {T T' : TypeId} {x : Operand} {q : TypeId × Nat × Nat} {i sz n : Nat} {L : List Value} (ho : o.op = .call { callee := .builtin .len, args := #[x], argTypes := #[T] }) (hT : slE P T = some q) (hx : Ev pc F x (.arr i)) (hM : M[i]? = some (.arr T' sz n L)) : DOp P pc o F M [i] (.val (.int .i64 n)) [] := by
  intro hp a s hok hops hfp
  obtain ⟨e1, _⟩ := slE_spec hT
  have hr := ev_at hp hx (by simp [ho, Op.operands, Call.operands]) hops
  generalize hv : a.eval x = vx at hr
  cases hr with
  | arr h =>
    have hM' : s.M[i]? = some (.arr T' sz n L) := by rw [hfp i (by simp)]; exact hM
    have hk : s.w.ownsRow 0 T' sz _ n L := hok.blk i _ _ hM' h
    refine dg_val hok (run_builtin ho (fun cs => rfl) ?_) (.val (.int .i64 n))
    rcases hk.2 with ⟨e2, e3⟩ | ⟨g, cap, cur, e2, _⟩
    · cases e2; simp [Builtin.len_, hv, run_underlying e1, goInt, e3]
    · cases e2; simp [Builtin.len_, hv, run_underlying e1, goInt]
theorem op_lenm {T : TypeId} {x : Operand} {q : TypeId × Nat × Nat} {sz n : Nat} {l : List D} (ho : o.op = .call { callee := .builtin .len, args := #[x], argTypes := #[T] }) (hT : slE P T = some q) (hx : Ev pc F x (.slm sz n l)) : DOp P pc o F M [] (.val (.int .i64 n)) [] := by
  intro hp a s hok hops _
  obtain ⟨e1, _⟩ := slE_spec hT
  have hr := ev_at hp hx (by simp [ho, Op.operands, Call.operands]) hops
  generalize hv : a.eval x = vx at hr
  cases hr with
  | slm h0 h1 h2 h3 h4 h5 =>
    refine dg_val hok (run_builtin ho (fun cs => rfl) ?_) (.val (.int .i64 n))
    simp [Builtin.len_, hv, run_underlying e1, goInt]

/-! ### slices cut -/
def Bd (pc : Bool) (F : Fr) (y : Option Operand) (dflt z : Int) : Prop := match y with
  | none => z = dflt
  | some y => ∃ k, Ev pc F y (.val (.int k z))
theorem bd_none {z : Int} : Bd pc F none z z := rfl
theorem bd_some {y : Operand} {k : IntKind} {z q : Int} (h : Ev pc F y (.val (.int k z))) : Bd pc F (some y) q z := ⟨k, h⟩

theorem run_slice {T e : TypeId} {sz by' : Nat} {x : Operand} {lo hi : Option Operand} {a : Act} {w : World} {ad : Option Addr} {n c : Nat} {l h : Int} (ho : o.op = .slice T x lo hi none) (hT : slE P T = some (e, sz, by')) (hx : a.eval x = .slice ad n c)
    (hlo : lo.map a.eval = none ∧ l = 0 ∨ ∃ k, lo.map a.eval = some (.int k l)) (hhi : hi.map a.eval = none ∧ h = n ∨ ∃ k, hi.map a.eval = some (.int k h)) (h0 : 0 ≤ l) (h1 : l ≤ h) (h2 : h ≤ n) (h3 : n ≤ c) :
    (execOp a.eval o).run P w = .ok (.value (.slice (if c = l.toNat then ad else ad.map (·.add (l.toNat * sz))) (h.toNat - l.toNat) (c - l.toNat))) w := by
  obtain ⟨e1, i, e2, e3, _⟩ := slE_spec hT
  have eh : (h.toNat : Int) = h := Int.toNat_of_nonneg (by omega)
  unfold execOp
  simp only [ho, hx]
  refine run_v ?_
  have hb : (Instr.sliceBounds true n c (lo.map a.eval) (hi.map a.eval) none).run P w = .ok (l.toNat, h.toNat, c) w := by
    have sb : ∀ (k : IntKind) (z : Int) (m : Nat) (cd : BoundsCode), 0 ≤ z → z ≤ m → (Instr.sliceBound (.int k z) m cd).run P w = .ok z.toNat w := fun k z m cd a b => by
      simp [Instr.sliceBound, asIntOf, a, b]
    have el : l.toNat ≤ h.toNat := by omega
    rcases hlo with ⟨q1, q3⟩ | ⟨kl, q1⟩ <;> rcases hhi with ⟨q2, q4⟩ | ⟨kh, q2⟩ <;> rw [q1, q2]
    · have g1 : l.toNat = 0 := by omega
      have g2 : h.toNat = n := by omega
      simp [Instr.sliceBounds, g1, g2]
    · have g1 : l.toNat = 0 := by omega
      simp [Instr.sliceBounds, g1, sb kh h c _ (by omega) (by omega)]
    · have g2 : h.toNat = n := by omega
      simp [Instr.sliceBounds, g2, sb kl l n _ (by omega) (by omega)]
    · simp [Instr.sliceBounds, sb kh h c _ (by omega) (by omega), sb kl l h.toNat _ (by omega) (by omega)]
  simp [Instr.sliceAt, Instr.slice, run_underlying e1, Sem.run_bind, hb, sizeOf, typeInfo, e2, e3]

theorem bd_at {y : Option Operand} {dflt z : Int} {a : Act} {s : St} (hp : pc = true) (h : Bd pc F y dflt z) (hm : ∀ u, y = some u → u ∈ o.op.operands) (hops : ∀ x ∈ o.op.operands, ∀ d, ev F x = some d → Rep s d (a.eval x)) :
    y.map a.eval = none ∧ z = dflt ∨ ∃ k, y.map a.eval = some (.int k z) := by
  cases y with
  | none => exact .inl ⟨rfl, h⟩
  | some u =>
    obtain ⟨k, h⟩ := h
    exact .inr ⟨k, by rw [Option.map_some, (ev_at hp h (hm u rfl) hops).val_eq]⟩

/-- a part of a slice that stays -/
theorem op_sls {T e : TypeId} {sz by' n : Nat} {x : Operand} {lo hi : Option Operand} {L : List Value} {l h : Int} (ho : o.op = .slice T x lo hi none) (hT : slE P T = some (e, sz, by')) (hx : Ev pc F x (.slf sz n L)) (hlo : Bd pc F lo 0 l) (hhi : Bd pc F hi n h)
    (hb : pc = true → 0 ≤ l ∧ l ≤ h ∧ h ≤ n) : DOp P pc o F M [] (.slf sz (h.toNat - l.toNat) ((L.drop (l.toNat * sz)).take ((h.toNat - l.toNat) * sz))) [] := by
  intro hp a s hok hops _
  obtain ⟨b1, b2, b3⟩ := hb hp
  have hr := ev_at hp hx (by simp [ho, Op.operands]) hops
  generalize hv : a.eval x = vx at hr
  cases hr with
  | @slf _ _ cap ad _ hl hn hc ha hL =>
    refine dg_val hok (run_slice ho hT hv (bd_at hp hlo (fun u e => by subst e; simp [ho, Op.operands]) hops) (bd_at hp hhi (fun u e => by subst e; simp [ho, Op.operands]) hops) b1 b2 b3 hn) ?_
    have hlen : ((L.drop (l.toNat * sz)).take ((h.toNat - l.toNat) * sz)).length = (h.toNat - l.toNat) * sz := by
      rw [List.length_take, List.length_drop, hl, ← Nat.mul_sub_right_distrib]
      exact Nat.min_eq_left (Nat.mul_le_mul_right _ (by omega))
    refine .slf hlen (by omega) (by omega) (fun e => ?_) ?_
    · split at e
      · omega
      · cases ad with
        | none => have := ha rfl; omega
        | some ad => cases e
    · rcases hL with rfl | ⟨b, q, rfl, hI, hcl⟩
      · left; simp
      · by_cases hz : cap = l.toNat
        · left
          have : h.toNat - l.toNat = 0 := by omega
          rw [this]; simp
        · right
          rw [if_neg hz]
          exact ⟨b, q + l.toNat * sz, by rw [Option.map_some, Addr.add_mid], hI, cellsAt_sub hcl _ _⟩
theorem op_slsr {α : Type} {en : α → List Value} {r : List α} {T e : TypeId} {sz by' : Nat} {x : Operand} {lo hi : Option Operand} {l h : Int} {i j : Nat} (hen : ∀ a, (en a).length = sz) (ho : o.op = .slice T x lo hi none) (hT : slE P T = some (e, sz, by')) (hx : Ev pc F x (.slf sz r.length (r.flatMap en))) (hlo : Bd pc F lo 0 l) (hhi : Bd pc F hi r.length h)
    (hl : l = (i : Int)) (hh : h = (j : Int)) (hij : pc = true → i ≤ j ∧ j ≤ r.length) : DOp P pc o F M [] (.slf sz (j - i) (((r.drop i).take (j - i)).flatMap en)) [] := by
  subst hl hh
  have := op_sls (P := P) (M := M) ho hT hx hlo hhi (fun hp => by have := hij hp; omega)
  rw [Int.toNat_natCast, Int.toNat_natCast, flat_drop hen, flat_take hen] at this
  exact this
/-- a part of an array of its own -/
theorem op_sla {T e T' : TypeId} {sz by' n k : Nat} {x : Operand} {lo hi : Option Operand} {L : List Value} {l h : Int} (ho : o.op = .slice T x lo hi none) (hT : slE P T = some (e, sz, by')) (hx : Ev pc F x (.arr k)) (hM : M[k]? = some (.arr T' sz n L)) (hlo : Bd pc F lo 0 l) (hhi : Bd pc F hi n h)
    (hb : pc = true → 0 ≤ l ∧ l ≤ h ∧ h ≤ n) : DOp P pc o F M [k] (.own k sz l.toNat (h.toNat - l.toNat)) [] := by
  intro hp a s hok hops hfp
  obtain ⟨b1, b2, b3⟩ := hb hp
  have hr := ev_at hp hx (by simp [ho, Op.operands]) hops
  generalize hv : a.eval x = vx at hr
  cases hr with
  | @arr _ ad n' c hβ =>
    have hM' : s.M[k]? = some (.arr T' sz n L) := by rw [hfp k (by simp)]; exact hM
    have hk : s.w.ownsRow 0 T' sz _ n L := hok.blk k _ _ hM' hβ
    have q1 := bd_at hp hlo (fun u e => by subst e; simp [ho, Op.operands]) hops
    have q2 := bd_at hp hhi (fun u e => by subst e; simp [ho, Op.operands]) hops
    rcases hk.2 with ⟨e1, e2⟩ | ⟨g, cap, cur, e1, e2, e3, e4, e5, e6, e7⟩
    · cases e1
      subst e2
      have hl0 : l = 0 := by omega
      have hh0 : h = 0 := by omega
      subst hl0 hh0
      refine dg_val hok (run_slice ho hT hv q1 q2 (by omega) (by omega) (by omega) (Nat.le_refl _)) ?_
      exact .ownnil hβ
    · cases e1
      refine dg_val hok (run_slice ho hT hv q1 q2 b1 b2 b3 e4) ?_
      refine .own hβ ?_ (by omega) (fun e => ?_) (by omega) (by omega)
      · by_cases hz : c = l.toNat
        · left; omega
        · right; rw [if_neg hz, Option.map_some, Addr.add_mid, Nat.zero_add]
      · split at e
        · cases e
        · cases e

/-! ### slices made -/
theorem fill_full {sz : Nat} : ∀ (vs : List Value) (k : Nat) (cs : Array Value) (pre : List Value), (∀ v ∈ vs, v.cells.size = sz) → pre.length = k * sz → cs.toList.take (k * sz) = pre → cs.size = (k + vs.length) * sz →
    Instr.fill (fun i => some (i * sz, sz)) cs ((List.range' k vs.length).zip vs) = some (pre ++ vs.flatMap fun v => v.cells.toList).toArray
  | [], k, cs, pre, _, hpl, hp, hs => by
    simp only [List.length_nil, List.range'_zero, List.zip_nil_left, Instr.fill, List.flatMap_nil, List.append_nil, Option.some.injEq]
    have : cs.toList = pre := by
      rw [← hp]
      exact (List.take_of_length_le (by simp [hs])).symm
    rw [← this]
  | v :: vs, k, cs, pre, hv, hpl, hp, hs => by
    have hv0 := hv v (List.mem_cons_self ..)
    simp only [List.length_cons] at hs
    rw [List.length_cons, List.range'_succ, List.zip_cons_cons, Instr.fill]
    have hfit : ¬ (k * sz + v.cells.size > cs.size) := by
      rw [hv0, hs, ← Nat.succ_mul]
      exact Nat.not_lt.2 (Nat.mul_le_mul_right _ (by omega))
    simp only [hv0, bne_self_eq_false, Bool.false_or, ne_eq, not_true_eq_false, decide_false, decide_eq_true_eq]
    rw [if_neg (by simp; rw [hs, ← Nat.succ_mul]; exact Nat.mul_le_mul_right _ (by omega))]
    -- the fold is a setL
    have fold : ∀ (C : List Value) (j : Nat) (cs : Array Value), (List.foldl (fun (acc : Array Value) (p : Value × Nat) => acc.setIfInBounds (k * sz + p.2) p.1) cs (C.zipIdx j)).toList = setL cs.toList (k * sz + j) C := by
      intro C
      induction C with
      | nil => intro j cs; rfl
      | cons c C ih => intro j cs; rw [List.zipIdx_cons, List.foldl_cons, ih, setL, Array.toList_setIfInBounds, Nat.add_assoc]
    have hfold := fold v.cells.toList 0 cs
    rw [Nat.add_zero] at hfold
    have hcl : v.cells.toList.length = sz := by simpa using hv0
    have hle : k * sz + v.cells.toList.length ≤ cs.toList.length := by
      simp only [hcl, Array.length_toList]; rw [hs, ← Nat.succ_mul]; exact Nat.mul_le_mul_right _ (by omega)
    rw [setL_eq _ _ _ hle] at hfold
    have hz : (v.cells.zipIdx.foldl (fun (acc : Array Value) (p : Value × Nat) => acc.setIfInBounds (k * sz + p.2) p.1) cs).toList = (pre ++ v.cells.toList) ++ cs.toList.drop (k * sz + v.cells.toList.length) := by
      rw [← hp, ← hfold, ← Array.foldl_toList]
      congr 1
      simp [Array.toList_zipIdx]
    have ih := fill_full vs (k + 1) (v.cells.zipIdx.foldl (fun (acc : Array Value) (p : Value × Nat) => acc.setIfInBounds (k * sz + p.2) p.1) cs) (pre ++ v.cells.toList) (fun u hu => hv u (List.mem_cons_of_mem _ hu)) (by rw [List.length_append, hpl, hcl, Nat.succ_mul])
      (by rw [hz]; exact List.take_left' (by rw [List.length_append, hpl, hcl, Nat.succ_mul])) (by
        rw [← Array.length_toList, hz, List.length_append, List.length_append, List.length_drop, hpl, hcl, Array.length_toList, hs]
        have : (k + 1) * sz ≤ (k + (vs.length + 1)) * sz := Nat.mul_le_mul_right _ (by omega)
        rw [Nat.succ_mul] at this
        rw [show k + 1 + vs.length = k + (vs.length + 1) by omega]
        omega)
    rw [List.flatMap_cons, ← List.append_assoc]
    exact ih

theorem run_buildSlice {T e : TypeId} {sz by' n : Nat} {ps : List (Nat × Operand)} {vs : List Value} {a : Act} {w : World} {Z : List Value} (ho : o.op = .buildSlice T n ps.toArray) (hT : slE P T = some (e, sz, by')) (hZ : zrC P e = some Z) (hi : ps.map (·.1) = List.range' 0 n) (hv : (ps.map (·.2)).map a.eval = vs)
    (hs : ∀ v ∈ vs, v.cells.size = sz) (hbig : n * sz ≤ 16777216) : (execOp a.eval o).run P w = .ok (.value (.slice (some ⟨w.heap.size, 0, none⟩) n n)) (w.alloc (.cells (vs.flatMap fun v => v.cells.toList).toArray e)) := by
  obtain ⟨e1, i, e2, e3, _⟩ := slE_spec hT
  obtain ⟨i', z, q1, q2, q3⟩ := zrC_spec hZ
  rw [e2] at q1
  obtain rfl := Option.some.inj q1
  have hlen : vs.length = n := by
    rw [← hv, List.length_map, List.length_map]
    have := congrArg List.length hi
    simpa using this
  have hparts : (ps.toArray.map fun (i, x) => (i, a.eval x)).toList = (List.range' 0 n).zip vs := by
    simp only [List.map_toArray]
    rw [← hi, ← hv]
    clear hi hv ho
    induction ps with
    | nil => rfl
    | cons p ps ih => simp only [List.map_cons, List.zip_cons_cons]; rw [← ih]
  unfold execOp
  simp only [ho]
  refine run_v ?_
  have hfill : ∀ zs : Array Value, Instr.fill (fun i => some (i * sz, sz)) ((Array.range (n * sz)).map (zs[· % zs.size]!)) ((List.range' 0 n).zip vs) = some (vs.flatMap fun v => v.cells.toList).toArray := by
    intro zs
    have := fill_full (sz := sz) vs 0 ((Array.range (n * sz)).map (zs[· % zs.size]!)) [] hs (by simp) (by simp) (by simp [hlen])
    rw [hlen] at this
    simpa using this
  have hb : ¬ (2 ^ 24 < n * sz) := by omega
  have hsz : (sizeOf e).run P w = .ok sz w := by simp [sizeOf, typeInfo, e2, e3]
  have hz0 : (zeroValue e).run P w = .ok z w := by simp [zeroValue, typeInfo, e2, q2]
  have hnr : ∀ (cs : Array Value), (newRow e cs).run P w = .ok ⟨w.heap.size, 0, none⟩ (w.alloc (.cells cs e)) := fun _ => rfl
  simp only [Instr.buildSlice, Sem.run_bind, run_underlying e1, Result.andThen_ok, hsz, gt_iff_lt, hb, if_false, hparts]
  by_cases hz : n * sz = 0
  · have h1 := hfill #[]
    simp only [hz, if_true, Sem.run_pure, Result.andThen_ok]
    rw [hz] at h1
    simp only [h1, Sem.run_bind, hnr, Result.andThen_ok, Sem.run_pure]
  · have h1 := hfill z.cells
    simp only [hz, if_false, Sem.run_bind, hz0, Sem.run_pure, Result.andThen_ok, h1, hnr]

section
variable {T e : TypeId} {sz by' n : Nat} {ps : List (Nat × Operand)} {vs Z : List Value}
theorem evV_ps {a : Act} {s : St} (hp : pc = true) (ho : o.op = .buildSlice T n ps.toArray) (h : EvV pc F (ps.map (·.2)) vs) (hops : ∀ x ∈ o.op.operands, ∀ d, ev F x = some d → Rep s d (a.eval x)) : (ps.map (·.2)).map a.eval = vs :=
  evV_eq hp _ _ h fun x hx => hops x (by rw [ho]; simpa [Op.operands] using hx)
theorem cells_sum (hs : ∀ v ∈ vs, v.cells.size = sz) : (vs.flatMap fun v => v.cells.toList).length = vs.length * sz := by
  induction vs with
  | nil => simp
  | cons v vs ih => rw [List.flatMap_cons, List.length_append, ih (fun u hu => hs u (List.mem_cons_of_mem _ hu)), List.length_cons, Nat.succ_mul]; simp [hs v (List.mem_cons_self ..)]; omega
/-- a slice of plain values, that stays as it is made -/
theorem op_bs (ho : o.op = .buildSlice T n ps.toArray) (hT : slE P T = some (e, sz, by')) (hZ : zrC P e = some Z) (hi : ps.map (·.1) = List.range' 0 n) (hv : EvV pc F (ps.map (·.2)) vs) (hs : vs.all (fun v => v.cells.size == sz) = true) (hbig : n * sz ≤ 16777216) (hn : n ≤ 16777216) :
    DOp P pc o F M [] (.slf sz n (vs.flatMap fun v => v.cells.toList)) [] := by
  intro hp a s hok hops _
  have hs' : ∀ v ∈ vs, v.cells.size = sz := fun v hv => by simpa using List.all_eq_true.1 hs v hv
  have hvs := evV_ps hp ho hv hops
  have hlen : vs.length = n := by
    rw [← hvs, List.length_map, List.length_map]
    have := congrArg List.length hi
    simpa using this
  have hrun := run_buildSlice (P := P) (w := s.w) ho hT hZ hi hvs hs' hbig
  refine dg_step (s' := ⟨s.β, fun b => s.I b ∨ b = s.w.heap.size, s.M, _⟩) hrun (step_imm hok _) rfl (.slf (by rw [cells_sum hs', hlen]) (Nat.le_refl _) (by unfold maxLen; omega) (fun e => by cases e) (.inr ⟨_, 0, rfl, .inr rfl, ?_⟩))
  simpa using cellsAt_block (heap_alloc_new s.w _) 0
/-- .. as an array of its own, in the place j -/
theorem op_bsa (j : Nat) (ho : o.op = .buildSlice T n ps.toArray) (hT : slE P T = some (e, sz, by')) (hZ : zrC P e = some Z) (hi : ps.map (·.1) = List.range' 0 n) (hv : EvV pc F (ps.map (·.2)) vs) (hs : vs.all (fun v => v.cells.size == sz) = true) (hbig : n * sz ≤ 16777216) (hn : n ≤ 16777216) (hj : M[j]? = some .hole) :
    DOp P pc o F M [j] (.arr j) [(j, .arr e sz n (vs.flatMap fun v => v.cells.toList))] := by
  intro hp a s hok hops hfp
  have hs' : ∀ v ∈ vs, v.cells.size = sz := fun v hv => by simpa using List.all_eq_true.1 hs v hv
  have hvs := evV_ps hp ho hv hops
  have hlen : vs.length = n := by
    rw [← hvs, List.length_map, List.length_map]
    have := congrArg List.length hi
    simpa using this
  have hj' : s.M[j]? = some .hole := by rw [hfp j (by simp)]; exact hj
  have hjl : j < s.β.length := by rw [hok.len]; exact (List.getElem?_eq_some_iff.1 hj').1
  have hrun := run_buildSlice (P := P) (w := s.w) ho hT hZ hi hvs hs' hbig
  refine dg_step (s' := ⟨s.β.set j (.slice (some ⟨s.w.heap.size, 0, none⟩) n n), s.I, s.M.set j (.arr e sz n (vs.flatMap fun v => v.cells.toList)), _⟩) hrun (tr_new hok hj' _ _ _ (by simp) (fun b hb => by cases hb; rfl) (fun b h => Below.heap_alloc _ _ _ h) (fun b hb => by cases hb; simp) (by simp) rfl rfl rfl ?_) rfl (.arr (by simp [hjl]))
  have := World.ownsRow_lit (base := 0) (e := e) (size := sz) s.w (vs.flatMap fun v => v.cells.toList).toArray n (Nat.zero_le _) (by unfold maxLen; omega) (by simp only [List.size_toArray]; rw [cells_sum hs', hlen])
  exact this
end

/-! ### append -/
/-- what is appended: m elements, these cells -/
def SrcOk (s : St) (v : Value) (m : Nat) (L2 : List Value) : Prop := ∃ a c, v = .slice a m c ∧ ((a = none ∧ m = 0 ∧ c = 0 ∧ L2 = []) ∨ ∃ ad, a = some ad ∧ ∀ (j : Nat) u, L2[j]? = some u → s.w.cell? (ad.add j) = some u)
def SrcD (M : List Blk) (fp : List Nat) (d : D) (m sz : Nat) (L2 : List Value) : Prop := ∀ (s : St) v, Ok s → (∀ i ∈ fp, s.M[i]? = M[i]?) → Rep s d v → L2.length = m * sz ∧ SrcOk s v m L2
theorem src_slf {m sz : Nat} {L2 : List Value} : SrcD M [] (.slf sz m L2) m sz L2 := by
  intro s v _ _ hr
  cases hr with
  | @slf _ _ cap ad _ hl hn hc ha hL =>
    refine ⟨hl, ad, cap, rfl, ?_⟩
    rcases hL with rfl | ⟨b, q, rfl, hI, hcl⟩
    · cases ad with
      | none => have := ha rfl; exact .inl ⟨rfl, by omega, this, rfl⟩
      | some ad => exact .inr ⟨ad, rfl, fun j u h => by simp at h⟩
    · exact .inr ⟨_, rfl, fun j u hj => by rw [Addr.add_mid]; exact hcl j u hj⟩
theorem src_arr {i m sz : Nat} {T' : TypeId} {L2 : List Value} (hM : M[i]? = some (.arr T' sz m L2)) : SrcD M [i] (.arr i) m sz L2 := by
  intro s v hok hfp hr
  cases hr with
  | @arr _ ad n' c h =>
    have hM' : s.M[i]? = some (.arr T' sz m L2) := by rw [hfp i (by simp)]; exact hM
    have hk : s.w.ownsRow 0 T' sz _ m L2 := hok.blk i _ _ hM' h
    refine ⟨hk.1, ad, c, ?_, ?_⟩
    · rcases hk.2 with ⟨e1, e2⟩ | ⟨g, cap, cur, e1, _⟩
      · cases e1; rw [e2]
      · cases e1; rfl
    · rcases hk.2 with ⟨e1, e2⟩ | ⟨g, cap, cur, e1, _⟩
      · cases e1
        subst e2
        exact .inl ⟨rfl, rfl, rfl, List.eq_nil_of_length_eq_zero (by simpa using hk.1)⟩
      · cases e1
        obtain ⟨_, _, _, _, hc, _⟩ := arr_cells hok (by rw [hfp i (by simp)]; exact hM) h
        exact .inr ⟨_, rfl, fun j u hj => by rw [Addr.add_mid]; simpa using hc j u hj⟩
theorem src_own {i p m n sz : Nat} {T' : TypeId} {L L2 : List Value} (hM : M[i]? = some (.arr T' sz n L)) (hL : (L.drop (p * sz)).take (m * sz) = L2) : SrcD M [i] (.own i sz p m) m sz L2 := by
  intro s v hok hfp hr
  have hM' : s.M[i]? = some (.arr T' sz n L) := by rw [hfp i (by simp)]; exact hM
  subst hL
  cases hr with
  | @own _ _ _ _ N cap c b ad h ha hN hz hn hc =>
    obtain ⟨e0, e1, _, _, hcl, _⟩ := arr_cells hok hM' h
    subst e0
    have hlen : ((L.drop (p * sz)).take (m * sz)).length = m * sz := by
      rw [List.length_take, List.length_drop, e1, ← Nat.mul_sub_right_distrib]
      exact Nat.min_eq_left (Nat.mul_le_mul_right _ (by omega))
    refine ⟨hlen, ad, c, rfl, ?_⟩
    cases ad with
    | none =>
      have := hz rfl
      exact .inl ⟨rfl, by omega, this, List.eq_nil_of_length_eq_zero (by rw [hlen, show m = 0 by omega]; simp)⟩
    | some ad =>
      refine .inr ⟨ad, rfl, fun j u hj => ?_⟩
      rcases ha with rfl | e
      · simp at hj
      · cases e
        rw [Addr.add_mid]
        have := cellsAt_sub hcl (p * sz) (m * sz) j u hj
        simpa using this
  | @ownnil _ _ h =>
    refine ⟨by simp, none, 0, rfl, .inl ⟨rfl, rfl, rfl, by simp⟩⟩

/-- append onto an array of its own: what comes, and where it lies -/
theorem run_append_D {T e : TypeId} {sz by' n m : Nat} {i : TypeInfo} {z : Value} {ty : TypeId} {s : St} {h v2 : Value} {L L2 : List Value} (hT : P.underlying T = some (.slice e)) (hi : P.info? e = some i) (hsz : i.size = sz) (hby : i.bytes = by') (hz : i.zero = some z) (hzs : z.cells.size = sz)
    (hown : s.w.ownsRow 0 e sz h n L) (hl : L2.length = m * sz) (hsrc : SrcOk s v2 m L2) (h1 : ∀ u ∈ L2, u.oneCell' = true) (h63 : n + m ≤ maxLen) (hbytes : (n + m) * by' ≤ 140737488355328) :
    ∃ h' w', (Builtin.append_ #[T, T] ty #[h, v2]).run P s.w = .ok h' w' ∧ w'.ownsRow 0 e sz h' (n + m) (L ++ L2) ∧ s.w.grownBy w' h.ownBlock ∧ (∀ b, h'.ownBlock = some b → h.ownBlock = some b ∨ s.w.heap.size ≤ b) := by
  subst hsz hby
  obtain ⟨a, c, rfl, hsrc⟩ := hsrc
  rcases hsrc with ⟨rfl, rfl, rfl, rfl⟩ | ⟨ad, rfl, hcells⟩
  · refine ⟨h, s.w, run_append_owned_none s.w 0 T ty e i i.size hT hi h n L hown, by simpa using hown, ⟨rfl, rfl, rfl, Nat.le_refl _, fun _ _ _ => rfl⟩, fun b hb => .inl hb⟩
  · have h63' : ((n + m : Nat) : Int) ≤ 9223372036854775807 := by simp only [maxLen] at h63; omega
    have grown : ∀ old, (s.w.drew.alloc (.cells (L.toArray ++ L2.toArray ++ Builtin.zeroCells z.cells (grownCap s.w (n + m) old e - (n + m))) e)).ownsRow 0 e i.size (.slice (some ⟨s.w.heap.size, 0, none⟩) (n + m) (grownCap s.w (n + m) old e)) (n + m) (L ++ L2) := by
      intro old
      have hge := grownCap_ge s.w (n + m) old e
      have hll : (L ++ L2).length = (n + m) * i.size := by rw [List.length_append, hown.1, hl, Nat.add_mul]
      refine ⟨hll, .inr ⟨s.w.heap.size, _, _, rfl, Nat.zero_le _, heap_alloc_new s.w.drew _, hge, grownCap_le_maxLen s.w _ _ _ h63, ?_, ?_⟩⟩
      · simp only [Array.size_append, List.size_toArray, size_zeroCells, hzs, hown.1, hl, ← Nat.add_mul]
        congr 1
        omega
      · simp only [Array.toList_append, List.append_assoc]
        rw [← List.append_assoc, ← hll]
        exact List.take_left
    rcases hown.2 with ⟨e1, e2⟩ | ⟨g, cap, cur, e1, _, e3, e4, e5, e6, e7⟩
    · subst e1 e2
      have hL : L = [] := List.eq_nil_of_length_eq_zero (by simpa using hown.1)
      subst hL
      by_cases hm : m = 0
      · subst hm
        have hL2 : L2 = [] := List.eq_nil_of_length_eq_zero (by simpa using hl)
        subst hL2
        refine ⟨.slice none 0 0, s.w, ?_, World.ownsRow_nil s.w 0 e i.size, ⟨rfl, rfl, rfl, Nat.le_refl _, fun _ _ _ => rfl⟩, fun b hb => .inl hb⟩
        simp [Builtin.append_, run_underlying hT, sizeOf, typeInfo, hi, Builtin.lenOf, Builtin.firstCells, loadCells, loadCellsFrom]
      · have hr := run_append_nil (P := P) s.w T ty e i z hT hi hz ad m c L2 hl hcells (by omega) (by omega) (by rw [Nat.zero_add] at hbytes; omega)
        have hg := grown 0
        simp only [Nat.zero_add, List.nil_append, Array.empty_append] at hg hr ⊢
        exact ⟨_, _, hr, hg, ⟨rfl, rfl, rfl, by simp, fun k hk _ => Below.heap_alloc _ _ _ hk⟩, fun b hb => .inr (by cases hb; exact Nat.le_refl _)⟩
    · subst e1
      by_cases hroom : n + m ≤ cap
      · obtain ⟨w', r1, r2, r3⟩ := run_append_fits (P := P) s.w 0 T ty e i i.size hT hi rfl g n cap L hown ad m c L2 hl hcells h1 hroom
        exact ⟨_, w', r1, r2, r3, fun b hb => .inl hb⟩
      · have holds : ∀ (j : Nat) u, L[j]? = some u → s.w.cell? ((⟨g, 0, none⟩ : Addr).add j) = some u := hown.cells (g := g) rfl
        have hr := run_append_grow (P := P) s.w T ty e i z hT hi hz ⟨g, 0, none⟩ n cap L hown.1 holds ad m c L2 hl hcells (by omega) h63' (growslice_fits (by omega) hbytes)
        exact ⟨_, _, hr, grown cap, ⟨rfl, rfl, rfl, by simp, fun k hk _ => Below.heap_alloc _ _ _ hk⟩, fun b hb => .inr (by cases hb; exact Nat.le_refl _)⟩

theorem hb_own {h : Value} (hs : (h = .slice none 0 0) ∨ ∃ a n c, h = .slice (some a) n c) : hb h = h.ownBlock := by
  rcases hs with rfl | ⟨a, n, c, rfl⟩ <;> rfl

theorem op_app {T e : TypeId} {sz by' n m i j : Nat} {x y : Operand} {d : D} {L L2 Z : List Value} {fp : List Nat} (ho : o.op = .call { callee := .builtin .append, args := #[x, y], argTypes := #[T, T] }) (hT : slE P T = some (e, sz, by')) (hZ : zrC P e = some Z) (hZl : Z.length = sz)
    (hx : Ev pc F x (.arr i)) (hy : Ev pc F y d) (hsrc : SrcD M fp d m sz L2) (hM : M[i]? = some (.arr e sz n L)) (hj : M[j]? = some .hole) (h1 : pc = true → L2.all (·.oneCell') = true) (hbd : pc = true → (n + m) * by' ≤ 140737488355328 ∧ n + m ≤ 140737488355328) :
    DOp P pc o F M (i :: j :: fp) (.arr j) [(i, .gone), (j, .arr e sz (n + m) (L ++ L2))] := by
  intro hp a s hok hops hfp
  obtain ⟨e1, ti, e2, e3, e4⟩ := slE_spec hT
  obtain ⟨ti', z, q1, q2, q3⟩ := zrC_spec hZ
  rw [e2] at q1
  obtain rfl := Option.some.inj q1
  obtain ⟨b1, b2⟩ := hbd hp
  have hM' : s.M[i]? = some (.arr e sz n L) := by rw [hfp i (by simp)]; exact hM
  have hj' : s.M[j]? = some .hole := by rw [hfp j (by simp)]; exact hj
  have hij : i ≠ j := fun h => by subst h; rw [hM'] at hj'; cases hj'
  have hjl : j < s.β.length := by rw [hok.len]; exact (List.getElem?_eq_some_iff.1 hj').1
  have hrx := ev_at hp hx (by simp [ho, Op.operands, Call.operands]) hops
  have hry := ev_at hp hy (by simp [ho, Op.operands, Call.operands]) hops
  obtain ⟨hl2, hso⟩ := hsrc s _ hok (fun k hk => hfp k (by simp [hk])) hry
  generalize hv : a.eval x = vx at hrx
  cases hrx with
  | @arr _ ad n' c hβ =>
    have hk : s.w.ownsRow 0 e sz _ n L := hok.blk i _ _ hM' hβ
    obtain ⟨h', w', r1, r2, r3, r4⟩ := run_append_D (P := P) (ty := o.type) (m := m) e1 e2 e3 e4 q2 (by rw [← hZl, ← q3]; simp) hk hl2 hso (fun u hu => List.all_eq_true.1 (h1 hp) u hu) (by unfold maxLen; omega) b1
    have hs' : (h' = .slice none 0 0) ∨ ∃ a n c, h' = .slice (some a) n c := by
      rcases r2.2 with ⟨q, _⟩ | ⟨g, cap, cur, q, _⟩
      · exact .inl q
      · exact .inr ⟨_, _, _, q⟩
    have hs0 : (Value.slice ad n' c = .slice none 0 0) ∨ ∃ a n k, Value.slice ad n' c = .slice (some a) n k := by
      rcases hk.2 with ⟨q, _⟩ | ⟨g, cap, cur, q, _⟩
      · exact .inl q
      · exact .inr ⟨_, _, _, q⟩
    have o1 := hb_own hs'
    have o0 := hb_own hs0
    have hblk : s.w.heap.size ≤ w'.heap.size := r3.size
    have hβj : s.β[j]? = some .nilFunc := by
      have q : s.β[j]? = some s.β[j] := List.getElem?_eq_getElem hjl
      have : s.β[j] = .nilFunc := hok.blk j .hole _ hj' q
      rw [q, this]
    have from_ : ∀ b, hb h' = some b → s.w.heap.size ≤ b ∨ (hb (Value.slice ad n' c) = some b) := by
      intro b hbb
      rw [o1] at hbb
      rcases r4 b hbb with h | h
      · exact .inr (by rw [o0]; exact h)
      · exact .inl h
    have ht : Tr s ⟨s.β.set j h', s.I, (s.M.set i .gone).set j (.arr e sz (n + m) (L ++ L2)), w'⟩ := by
      refine step_set hok j (s.M.set i .gone) h' _ w' (by simp) (fun k kb hkb => ?_) (by rw [← hok.len]; exact hjl) (.inl hβj) (by rcases hs' with rfl | ⟨_, _, _, rfl⟩ <;> simp) r2 (fun b hbb k kb hh hne q1 q2 q3 q4 => ?_) (fun b hbb => (from_ b hbb).imp id fun h => live_of hM' rfl hβ h) (fun b hbb => ?_) (fun b => hb (Value.slice ad n' c) = some b) (fun b hdr => ⟨live_of hM' rfl hβ hdr, fun k kb hh hne q1 q2 q3 q4 => ?_⟩) (fun b hlt hne hnd => ?_) r3.os r3.tape r3.output hblk
      · by_cases hki : i = k
        · subst hki
          have hlt : i < s.M.length := (List.getElem?_eq_some_iff.1 hM').1
          rw [List.getElem?_set_self hlt] at hkb
          exact .inr (Option.some.inj hkb).symm
        · rw [List.getElem?_set_ne hki] at hkb; exact .inl hkb
      · have hki : i ≠ k := fun h => by
          subst h
          have hlt : i < s.M.length := (List.getElem?_eq_some_iff.1 hM').1
          rw [List.getElem?_set_self hlt] at q1
          cases q1; cases q2
        rw [List.getElem?_set_ne hki] at q1
        rcases from_ b hbb with h | h
        · exact absurd (hok.lt b (live_of q1 q2 q3 q4)).1 (Nat.not_lt.2 h)
        · exact hki (hok.inj i k _ kb _ hh b hM' rfl hβ h q1 q2 q3 q4)
      · replace hbb : hb h' = some b := hbb
        rw [o1] at hbb
        exact (r2.lt b hbb).2
      · have hki : i ≠ k := fun h => by
          subst h
          have hlt : i < s.M.length := (List.getElem?_eq_some_iff.1 hM').1
          rw [List.getElem?_set_self hlt] at q1
          cases q1; cases q2
        rw [List.getElem?_set_ne hki] at q1
        exact hki (hok.inj i k _ kb _ hh b hM' rfl hβ hdr q1 q2 q3 q4)
      · exact r3.block b hlt fun h => hnd (by rw [o0]; exact h.symm)
    refine dg_step (s' := ⟨s.β.set j h', s.I, (s.M.set i .gone).set j (.arr e sz (n + m) (L ++ L2)), w'⟩) (run_builtin ho (fun cs => by rfl) (by simpa [hv] using r1)) ht rfl ?_
    rcases hs' with rfl | ⟨_, _, _, rfl⟩
    · exact .arr (by simp [hjl])
    · exact .arr (by simp [hjl])
end
end Go.Proofs.Ytgomklemldldiaa
