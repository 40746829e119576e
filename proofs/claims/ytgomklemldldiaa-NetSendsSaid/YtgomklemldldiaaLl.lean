/- Ends of calls; structs built; bools and strings compared; least and greatest; slices taken over, and given up. Conditions: what a type is, by the kernel. -/
import Derived.Test.YtgomklemldldiaaLk
import Derived.OwnWalk
namespace Go.Proofs.Ytgomklemldldiaa
set_option linter.unusedVariables false
set_option linter.unusedSimpArgs false
open Go.RowKit

theorem pl {a b : Bool} (h : (a && b) = true) : a = true := by cases a <;> simp_all
theorem pr {a b : Bool} (h : (a && b) = true) : b = true := by cases a <;> simp_all

section
variable {P : Program} {fn : Func} {F : Fr} {M : List Blk} {t u v : Tmp} {d d' e f dr : D}

theorem res_two (h : fn.results = #[.tmp t, .tmp u]) (hd : lk F t = some d) (he : lk F u = some e) : ResD P fn F M (.tup [d, e]) := fun s a _ _ hF => ⟨_, results_tmp2 h _ _ _, Rep.tup (vs := [_, _]) rfl fun j x y hj hy => by
  match j with
  | 0 => simp at hj hy; subst hj; subst hy; simpa [slot] using hF t d hd
  | 1 => simp at hj hy; subst hj; subst hy; simpa [slot] using hF u e he
  | j + 2 => simp at hj⟩
theorem res_three (h : fn.results = #[.tmp t, .tmp u, .tmp v]) (hd : lk F t = some d) (he : lk F u = some e) (hf : lk F v = some f) : ResD P fn F M (.tup [d, e, f]) := fun s a _ _ hF => ⟨_, results_tmp3 h _ _ _, Rep.tup (vs := [_, _, _]) rfl fun j x y hj hy => by
  match j with
  | 0 => simp at hj hy; subst hj; subst hy; simpa [slot] using hF t d hd
  | 1 => simp at hj hy; subst hj; subst hy; simpa [slot] using hF u e he
  | 2 => simp at hj hy; subst hj; subst hy; simpa [slot] using hF v f hf
  | j + 3 => simp at hj⟩

/-- the end of a call that leaves no memory of its own -/
theorem kend0 {pan : D → List Blk → Prop} (hr : ResD P fn F M d) (hv : vw [] allv M d = some d') (h : d' = dr) : DEnd P fn 0 (fun d M => d = dr ∧ M = []) pan [] none F M := .ret hr (σ := []) rfl hv (Mo := []) trivial ⟨h, rfl⟩
theorem kend {m : Nat} {Mo : List Blk} {pan : D → List Blk → Prop} (σ : List Nat) (hr : ResD P fn F M d) (hσ : okσ m σ = true) (hv : vw σ allv M d = some d') (h : d' = dr) (hM : MFits σ allv M σ Mo) : DEnd P fn m (fun d M => d = dr ∧ M = Mo) pan [] none F M := .ret hr hσ hv hM ⟨h, rfl⟩
theorem kpan0 {post : D → List Blk → Prop} (hv : vw [] allv M d = some d') (h : d' = dr) : DEnd P fn 0 post (fun d M => d = dr ∧ M = []) [] (some d) F M := .pan (σ := []) rfl hv (Mo := []) trivial ⟨h, rfl⟩
theorem kpan {m : Nat} {Mo : List Blk} {post : D → List Blk → Prop} (σ : List Nat) (hσ : okσ m σ = true) (hv : vw σ allv M d = some d') (h : d' = dr) (hM : MFits σ allv M σ Mo) : DEnd P fn m post (fun d M => d = dr ∧ M = Mo) [] (some d) F M := .pan hσ hv hM ⟨h, rfl⟩
/-- behind a function that was deferred -/
theorem kdef {m : Nat} {post pan : D → List Blk → Prop} {g : FuncId} {first caps U : List D} {pn pn' : Option D} {M' : List Blk} (h : DTurn P g first caps pn M pn' M') (r : DEnd P fn m post pan U pn' F M') : DEnd P fn m post pan (.fn (.func g) first caps :: U) pn F M := .fn h r
end

section
variable {P : Program} {pc : Bool} {o : Oper} {F : Fr} {M : List Blk}

/-! ### structs built -/
/-- where each field lies, and how many cells it has -/
def fdL (P : Program) (T : TypeId) : Option (List (Nat × Nat)) := match P.underlying T with
  | some (.struct fs) => fs.toList.mapM fun f => (P.info? f.type).map fun i => (f.offset, i.size)
  | _ => none
def fillL (offs : List (Nat × Nat)) : List Value → List (Nat × List Value) → List Value
  | Z, [] => Z
  | Z, (i, C) :: r => fillL offs (setL Z ((offs.getD i (0, 0)).1) C) r
def fillB (offs : List (Nat × Nat)) (n : Nat) : List (Nat × List Value) → Bool
  | [] => true
  | (i, C) :: r => (match offs[i]? with | some (o, s) => C.length == s && Nat.ble (o + s) n | none => false) && fillB offs n r

theorem fill_struct {offs : List (Nat × Nat)} : ∀ (ps : List (Nat × Value)) (Z : Array Value), fillB offs Z.size (ps.map fun p => (p.1, p.2.cells.toList)) = true →
    Instr.fill (fun i => offs.toArray[i]?) Z ps = some (fillL offs Z.toList (ps.map fun p => (p.1, p.2.cells.toList))).toArray
  | [], Z, _ => by simp [Instr.fill, fillL]
  | (i, v) :: r, Z, h => by
    simp only [List.map_cons, fillB, Bool.and_eq_true] at h
    obtain ⟨h1, h2⟩ := h
    cases e : offs[i]? with
    | none => rw [e] at h1; cases h1
    | some q =>
      obtain ⟨off, sz⟩ := q
      rw [e] at h1
      simp only [Bool.and_eq_true, beq_iff_eq, Array.length_toList] at h1
      have hle := Nat.le_of_ble_eq_true h1.2
      have fold : ∀ (C : List Value) (j : Nat) (cs : Array Value), (List.foldl (fun (acc : Array Value) (p : Value × Nat) => acc.setIfInBounds (off + p.2) p.1) cs (C.zipIdx j)).toList = setL cs.toList (off + j) C := by
        intro C
        induction C with
        | nil => intro j cs; rfl
        | cons c C ih => intro j cs; rw [List.zipIdx_cons, List.foldl_cons, ih, setL, Array.toList_setIfInBounds, Nat.add_assoc]
      have hz : (v.cells.zipIdx.foldl (fun (acc : Array Value) (p : Value × Nat) => acc.setIfInBounds (off + p.2) p.1) Z).toList = setL Z.toList off v.cells.toList := by
        have := fold v.cells.toList 0 Z
        rw [Nat.add_zero] at this
        rw [← this, ← Array.foldl_toList]
        congr 1
        simp [Array.toList_zipIdx]
      have hsz : (v.cells.zipIdx.foldl (fun (acc : Array Value) (p : Value × Nat) => acc.setIfInBounds (off + p.2) p.1) Z).size = Z.size := by
        rw [← Array.length_toList, hz, setL_len, Array.length_toList]
      have ih := fill_struct r (v.cells.zipIdx.foldl (fun (acc : Array Value) (p : Value × Nat) => acc.setIfInBounds (off + p.2) p.1) Z) (by rw [hsz]; exact h2)
      rw [Instr.fill]
      have eo : offs.toArray[i]? = some (off, sz) := by simpa using e
      simp only [eo, h1.1, ne_eq, not_true_eq_false, decide_false, Bool.false_or, decide_eq_true_eq]
      rw [if_neg (by simp; rw [← h1.1] at hle; omega)]
      rw [List.map_cons, fillL, List.getD_eq_getElem?_getD, e]
      simp only [Option.getD_some]
      rw [← hz]
      exact ih

theorem mapM_run {α β : Type} {w : World} (f : α → Sem β) (g : α → Option β) (h : ∀ a b, g a = some b → (f a).run P w = .ok b w) : ∀ (l : List α) (r : List β), l.mapM g = some r → (l.mapM f).run P w = .ok r w
  | [], r, hr => by simp at hr; subst hr; rfl
  | a :: l, r, hr => by
    simp only [List.mapM_cons, Option.bind_eq_bind, Option.bind_eq_some_iff] at hr
    obtain ⟨b, h1, r', h2, h3⟩ := hr
    cases h3
    rw [List.mapM_cons, Sem.run_bind, h a b h1, Result.andThen_ok, Sem.run_bind, mapM_run f g h l r' h2, Result.andThen_ok]
    rfl
theorem op_build {T : TypeId} {ps : List (Nat × Operand)} {vs : List Value} {offs : List (Nat × Nat)} {Z R : List Value} (ho : o.op = .build T ps.toArray) (hT : fdL P T = some offs) (hZ : zrC P T = some Z) (hv : EvV pc F (ps.map (·.2)) vs)
    (hB : fillB offs Z.length ((ps.map (·.1)).zip (vs.map fun v => v.cells.toList)) = true) (hR : fillL offs Z ((ps.map (·.1)).zip (vs.map fun v => v.cells.toList)) = R) : DOp P pc o F M [] (.val (.agg R.toArray)) [] := by
  intro hp a s hok hops _
  have hvs : (ps.map (·.2)).map a.eval = vs := evV_eq hp _ _ hv fun x hx => hops x (by rw [ho]; simpa [Op.operands] using hx)
  obtain ⟨i, z, e1, e2, e3⟩ := zrC_spec hZ
  refine dg_val (v := .agg R.toArray) hok ?_ (.val _)
  unfold fdL at hT
  split at hT
  · rename_i fs hu
    have hparts : (ps.toArray.map fun (i, x) => (i, a.eval x)).toList = (ps.map (·.1)).zip vs := by
      rw [← hvs]
      simp only [List.map_toArray]
      clear hv hB hR hvs ho
      induction ps with
      | nil => rfl
      | cons p ps ih => simp only [List.map_cons, List.zip_cons_cons]; rw [← ih]
    have hz : ((ps.map (·.1)).zip vs).map (fun p => (p.1, p.2.cells.toList)) = (ps.map (·.1)).zip (vs.map fun v => v.cells.toList) := by
      rw [List.zip_map_right]
      rfl
    have hpl : (fs.mapM fun f => (do pure (f.offset, ← sizeOf f.type) : Sem (Nat × Nat))).run P s.w = .ok offs.toArray s.w := by
      rw [Array.mapM_eq_mapM_toList, Sem.run_map, mapM_run (P := P) (w := s.w) _ _ (fun f b hb => ?_) fs.toList offs hT]
      · rfl
      · simp only [Option.map_eq_some_iff] at hb
        obtain ⟨j, hj, rfl⟩ := hb
        simp [sizeOf, typeInfo, hj]
    have hf := fill_struct (offs := offs) ((ps.map (·.1)).zip vs) z.cells (by rw [hz, ← Array.length_toList, e3]; exact hB)
    rw [hz, e3, hR] at hf
    unfold execOp
    simp only [ho]
    refine run_v ?_
    have hz0 : (zeroValue T).run P s.w = .ok z s.w := by simp [zeroValue, typeInfo, e1, e2]
    simp only [Instr.build, Sem.run_bind, hz0, run_underlying hu, Result.andThen_ok, hpl, hparts, hf, Sem.run_pure]
  · cases hT
/-- .. with no field named -/
theorem op_build0 {T : TypeId} {offs : List (Nat × Nat)} {Z : List Value} (ho : o.op = .build T #[]) (hT : fdL P T = some offs) (hZ : zrC P T = some Z) : DOp P pc o F M [] (.val (.agg Z.toArray)) [] :=
  op_build (ps := []) (vs := []) ho hT hZ trivial rfl rfl

/-! ### bools and strings -/
theorem op_eqb {T T' : TypeId} {x y : Operand} {p q : Bool} (ho : o.op = .binOp .eql T x y T') (hT : P.underlying T = some .bool) (hx : Ev pc F x (.val (.bool p))) (hy : Ev pc F y (.val (.bool q))) : DOp P pc o F M [] (.val (.bool (p == q))) [] :=
  op_eqv ho hx hy (fun w => by unfold eqGuard; rfl) fun w => by
    have h : ∀ d, (Op.equalIn (d + 1) T (.bool p) (.bool q)).run P w = .ok (p == q) w := fun d => by simp [Op.equalIn, run_underlying hT]
    show (do pure (Value.bool (← Op.equalIn (9999 + 1) T (.bool p) (.bool q))) : Sem Value).run P w = _
    rw [Sem.run_bind, h 9999]; rfl
theorem op_neb {T T' : TypeId} {x y : Operand} {p q : Bool} (ho : o.op = .binOp .neq T x y T') (hT : P.underlying T = some .bool) (hx : Ev pc F x (.val (.bool p))) (hy : Ev pc F y (.val (.bool q))) : DOp P pc o F M [] (.val (.bool (p != q))) [] :=
  op_nev ho hx hy (fun w => by unfold eqGuard; rfl) fun w => by
    have h : ∀ d, (Op.equalIn (d + 1) T (.bool p) (.bool q)).run P w = .ok (p == q) w := fun d => by simp [Op.equalIn, run_underlying hT]
    show (do pure (Value.bool (!(← Op.equalIn (9999 + 1) T (.bool p) (.bool q)))) : Sem Value).run P w = _
    rw [Sem.run_bind, h 9999]; rfl
theorem op_eqs {T T' : TypeId} {x y : Operand} {p q : ByteArray} (ho : o.op = .binOp .eql T x y T') (hx : Ev pc F x (.val (.string p))) (hy : Ev pc F y (.val (.string q))) : DOp P pc o F M [] (.val (.bool (p.toList == q.toList))) [] :=
  op_eqv ho hx hy (fun w => by unfold eqGuard; rfl) fun w => by simp [binOp, Op.stringOp]
theorem op_nes {T T' : TypeId} {x y : Operand} {p q : ByteArray} (ho : o.op = .binOp .neq T x y T') (hx : Ev pc F x (.val (.string p))) (hy : Ev pc F y (.val (.string q))) : DOp P pc o F M [] (.val (.bool (!(p.toList == q.toList)))) [] :=
  op_nev ho hx hy (fun w => by unfold eqGuard; rfl) fun w => by simp [binOp, Op.stringOp]

/-! ### least, greatest -/
theorem op_min {x y : Operand} {T U : TypeId} {k : IntKind} {p q : Int} (ho : o.op = .call { callee := .builtin .min, args := #[x, y], argTypes := #[T, U] }) (hx : Ev pc F x (.val (.int k p))) (hy : Ev pc F y (.val (.int k q))) : DOp P pc o F M [] (.val (.int k (min p q))) [] := by
  refine op_val2 hx hy (by simp [ho, Op.operands, Call.operands]) fun _ a w e1 e2 => run_builtin ho (fun cs => rfl) ?_
  have : (if q < p then q else p) = min p q := by rw [Int.min_def]; split <;> split <;> omega
  simp [Builtin.min_, e1, e2, Builtin.min2, this]
theorem op_max {x y : Operand} {T U : TypeId} {k : IntKind} {p q : Int} (ho : o.op = .call { callee := .builtin .max, args := #[x, y], argTypes := #[T, U] }) (hx : Ev pc F x (.val (.int k p))) (hy : Ev pc F y (.val (.int k q))) : DOp P pc o F M [] (.val (.int k (max p q))) [] := by
  refine op_val2 hx hy (by simp [ho, Op.operands, Call.operands]) fun _ a w e1 e2 => run_builtin ho (fun cs => rfl) ?_
  have : (if p < q then q else p) = max p q := by rw [Int.max_def]; split <;> split <;> omega
  simp [Builtin.max_, e1, e2, Builtin.max2, this]
end

section
variable {P : Program} {s0 : St} {n : Cx}
/-- a nil slice taken over as an array of its own -/
theorem inv_adopt {F : Fr} {M : List Blk} {a : Act} {w : World} {t : Nat} (e : TypeId) (sz : Nat) (h : Inv s0 n F M a w) (ht : lk F t = some (.val (.slice none 0 0))) : Inv s0 n ((t, .arr M.length) :: F) (M ++ [.arr e sz 0 []]) a w := by
  obtain ⟨h0, s, rfl, rfl, h3, h4, h5, h6⟩ := h
  have t1 := step_hole h3.ok
  have hlen := h3.ok.len
  have hn : (s.M ++ [Blk.hole])[s.M.length]? = some .hole := by simp
  have t2 : Tr ⟨s.β ++ [Value.nilFunc], s.I, s.M ++ [Blk.hole], s.w⟩ ⟨(s.β ++ [Value.nilFunc]).set s.M.length (.slice none 0 0), s.I, (s.M ++ [Blk.hole]).set s.M.length (.arr e sz 0 []), s.w⟩ :=
    tr_new (s := ⟨s.β ++ [Value.nilFunc], s.I, s.M ++ [Blk.hole], s.w⟩) t1.ok (j := s.M.length) hn (.slice none 0 0) (.arr e sz 0 []) s.w (by simp) (fun b hb => by cases hb) (fun b _ => rfl) (fun b hb => by cases hb) (Nat.le_refl _) rfl rfl rfl (World.ownsRow_nil s.w 0 e sz)
  have tt := t1.trans t2
  refine ⟨h0, ⟨(s.β ++ [Value.nilFunc]).set s.M.length (.slice none 0 0), s.I, (s.M ++ [Blk.hole]).set s.M.length (.arr e sz 0 []), s.w⟩, by simp, rfl, h3.trans tt, fun x d hd => ?_, h5, h6.mono h3.ok tt⟩
  rw [lk_cons] at hd
  split at hd
  · rename_i e'
    subst e'
    obtain rfl := Option.some.inj hd
    have := (h4 t _ ht).val_eq
    rw [this]
    exact .arr (by simp [hlen])
  · exact (h4 x d hd).mono h3.ok tt
theorem dwp_adopt {c : Code} {F : Fr} {M M' : List Blk} {K : Cont} (t : Nat) (e : TypeId) (sz : Nat) {m : Nat} (ht : lk F t = some (.val (.slice none 0 0))) (hm : M.length = m) (hM : M ++ [.arr e sz 0 []] = M') (h : dwp P s0 n c ((t, .arr m) :: F) M' K) : dwp P s0 n c F M K := by
  subst hm hM
  exact fun a w hi => h a w (inv_adopt e sz hi ht)
end
end Go.Proofs.Ytgomklemldldiaa
