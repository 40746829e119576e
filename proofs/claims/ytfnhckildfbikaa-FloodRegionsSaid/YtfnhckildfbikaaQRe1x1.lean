/- Operations on slices: made, cut, grown; tuples; function values; structs. Conditions: what a type is, by the kernel; Ends of calls; structs built; bools and strings compared; least and greatest; slices taken over, and given up. Conditions: what a type is, by the kernel; From a contract to the statement: a law whose call returns true whatever its arguments read as; with listed variables, too.  but the kernel's look at the program; Memory that stays from now on, within a call; arrays as rows of elements; parts of arrays; Blocks read anew; structs with addresses, whole; slices with no room, cut, and grown by zeros; Structs of data: built, in rows, looked at, stored; Families, looked into and written; rows of names; appends of what is one's own; Rows of structs with addresses, made by make, and copied into; Variables that stay, named by their addresses; contracts that give one of several thi. No condition. -/
import Derived.Test.YtfnhckildfbikaaQ6
import Derived.Test.YtfnhckildfbikaaRows
namespace Go.Proofs.Ytfnhckildfbikaa
set_option linter.unusedVariables false
set_option linter.unusedSimpArgs false
open Go.RowKit
section
variable {P : Program} {pc : Bool} {o : Oper} {F : Fr} {M : List Blk}
theorem op_lenm {T : TypeId} {x : Operand} {q : TypeId × Nat × Nat} {sz n : Nat} {l : List D} (ho : o.op = .call { callee := .builtin .len, args := #[x], argTypes := #[T] }) (hT : slE P T = some q) (hx : Ev pc F x (.slm sz n l)) : DOp P pc o F M [] (.val (.int .i64 n)) [] := by
  intro hp a s hok hops _
  obtain ⟨e1, _⟩ := slE_spec hT
  have hr := ev_at hp hx (by simp [ho, Op.operands, Call.operands]) hops
  generalize hv : a.eval x = vx at hr
  cases hr with
  | slm h0 h1 h2 h3 h4 h5 =>
    refine dg_val hok (run_builtin ho (fun cs => rfl) ?_) (.val (.int .i64 n))
    simp [Builtin.len_, hv, run_underlying e1, goInt]

/-! ### slices cut -/
section
variable {T e : TypeId} {sz by' n : Nat} {ps : List (Nat × Operand)} {vs Z : List Value}
end

/-! ### append -/
end
end Go.Proofs.Ytfnhckildfbikaa
namespace Go.Proofs.Ytfnhckildfbikaa
set_option linter.unusedVariables false
set_option linter.unusedSimpArgs false
open Go.RowKit
section
variable {P : Program} {fn : Func} {F : Fr} {M : List Blk} {t u v : Tmp} {d d' e f dr : D}
end
section
variable {P : Program} {pc : Bool} {o : Oper} {F : Fr} {M : List Blk}

/-! ### structs built -/
theorem op_neb {T T' : TypeId} {x y : Operand} {p q : Bool} (ho : o.op = .binOp .neq T x y T') (hT : P.underlying T = some .bool) (hx : Ev pc F x (.val (.bool p))) (hy : Ev pc F y (.val (.bool q))) : DOp P pc o F M [] (.val (.bool (p != q))) [] :=
  op_nev ho hx hy (fun w => by unfold eqGuard; rfl) fun w => by
    have h : ∀ d, (Op.equalIn (d + 1) T (.bool p) (.bool q)).run P w = .ok (p == q) w := fun d => by simp [Op.equalIn, run_underlying hT]
    show (do pure (Value.bool (!(← Op.equalIn (9999 + 1) T (.bool p) (.bool q)))) : Sem Value).run P w = _
    rw [Sem.run_bind, h 9999]; rfl
end
section
variable {P : Program} {s0 : St} {n : Cx}
end
end Go.Proofs.Ytfnhckildfbikaa
namespace Go.Proofs.Ytfnhckildfbikaa
set_option linter.unusedVariables false
set_option linter.unusedSimpArgs false
open Go.ChangeShapes Go.WideShapes Go.ChangeAt Go.RowKit Go.Joins Go.Deep
set_option maxRecDepth 100000
section
variable {H : Type} {enc : TypeId × Value → H} {w : World} {base b0 : Nat} {r : Reach} {spare : Nat → Bool} {held : Bool} {v : Value} {d : DataW H} {p : List MemPlace}
theorem open_struct {α : Type} {t : TypeId} {fs : Array Field} {ps : List Prim} (f : Nat) (en : α → List Value) (ok : α → Prop) (hP : ∀ cs, fitsP ps cs → ∃ a, ok a ∧ cs = en a) (hu : Try.prog.underlying t = some (.struct fs)) (hf : flatT Try.prog f t = some ps)
    (hv : Value.okWide Try.prog w r b0 t v) (h : DataW.Trod enc Try.prog w base spare held t v d p) : ∃ a, ok a ∧ v = .agg (en a).toArray := by
  obtain ⟨cs, rfl, hsz⟩ := okWide_struct hu hv
  obtain ⟨fuel, hfu⟩ := h
  obtain ⟨a, hr, e⟩ := hP _ (flat_trod f _ _ _ _ _ hf hfu)
  refine ⟨a, hr, ?_⟩
  have e2 : cs.toList = en a := e
  rw [← e2]
end
end Go.Proofs.Ytfnhckildfbikaa
namespace Go.Proofs.Ytfnhckildfbikaa
set_option linter.unusedVariables false
set_option linter.unusedSimpArgs false
open Go.RowKit
section
variable {P : Program} {s0 : St} {n : Cx}
end
section
variable {P : Program} {pc : Bool} {o : Oper} {F : Fr} {M : List Blk} {T T' : TypeId} {x y : Operand} {i n sz : Nat} {k : IntKind} {z : Int} {α : Type} {en : α → List Value} {l : List α} {j : Nat}
end
section
variable {P : Program} {pc : Bool} {o : Oper} {F : Fr} {M : List Blk}
/-- an array of zeros -/
theorem op_build0a {T : TypeId} {q : Nat × Nat} {Z : List Value} (ho : o.op = .build T #[]) (hT : arE P T = some q) (hZ : zrC P T = some Z) : DOp P pc o F M [] (.val (.agg Z.toArray)) [] := by
  intro hp a s hok hops _
  obtain ⟨i, z, e1, e2, e3⟩ := zrC_spec hZ
  obtain ⟨e, i', h1, h2, h3⟩ := arE_spec (n := q.1) (sz := q.2) hT
  refine dg_val (v := .agg Z.toArray) hok ?_ (.val _)
  have hz0 : (zeroValue T).run P s.w = .ok z s.w := by simp [zeroValue, typeInfo, e1, e2]
  have hz1 : z.cells = Z.toArray := by rw [← e3]
  unfold execOp
  simp only [ho]
  refine run_v ?_
  simp [Instr.build, Sem.run_bind, hz0, run_underlying h1, sizeOf, typeInfo, h2, Instr.fill, hz1]
end
section
variable {P : Program} {s0 : St} {n : Cx}
end
end Go.Proofs.Ytfnhckildfbikaa
namespace Go.Proofs.Ytfnhckildfbikaa
set_option linter.unusedVariables false
set_option linter.unusedSimpArgs false
open Go.RowKit
section
variable {P : Program} {s0 : St} {n : Cx}
end
section
variable {P : Program} {pc : Bool} {o : Oper} {F : Fr} {M : List Blk}
end
theorem sbL_flat {α : Type} {τ : List Nat} {f : α → D} (h : ∀ a, sb τ (f a) = some (f a)) : ∀ l : List α, sbL τ (l.flatMap fun a => [f a]) = some (l.flatMap fun a => [f a])
  | [] => rfl
  | a :: l => by
    rw [List.flatMap_cons]
    show sbL τ (f a :: l.flatMap fun a => [f a]) = _
    unfold sbL
    rw [h a, sbL_flat h l]
    rfl
theorem sb_arx {α : Type} {τ : List Nat} {f : α → D} {T : TypeId} {sz n : Nat} {l : List α} (h : ∀ a, sb τ (f a) = some (f a)) : sbB τ (.arx T sz n (l.flatMap fun a => [f a])) = some (.arx T sz n (l.flatMap fun a => [f a])) := by
  show (sbL τ _).map _ = _; rw [sbL_flat h]; rfl
end Go.Proofs.Ytfnhckildfbikaa
namespace Go.Proofs.Ytfnhckildfbikaa
set_option linter.unusedVariables false
set_option linter.unusedSimpArgs false
open Go.RowKit
section
variable {P : Program} {pc : Bool} {o : Oper} {F : Fr} {M : List Blk}
end
section
variable {P : Program} {s0 : St} {n : Cx}
end
theorem nlL_app' : ∀ {a b : List D}, D.nlL a = true → D.nlL b = true → D.nlL (a ++ b) = true
  | [], _, _, h => h
  | d :: a, b, h, h' => by
    rw [D.nlL, Bool.and_eq_true] at h
    rw [List.cons_append, D.nlL, h.1, nlL_app' h.2 h']
    rfl
theorem nlL_flatR {α : Type} {mk : α → List D} (h : ∀ a, D.nlL (mk a) = true) : ∀ l : List α, D.nlL (l.flatMap mk) = true
  | [] => rfl
  | a :: l => by rw [List.flatMap_cons]; exact nlL_app' (h a) (nlL_flatR h l)
theorem arxr_fits {σ : List Nat} {V : Nat → Bool} {M : List Blk} {T : TypeId} {sz n n' : Nat} {l l' : List D} (hn : n = n') (h : l = l') (hv : D.nlL l' = true) : (vwL σ V M l).map (Blk.arx T sz n) = some (Blk.arx T sz n' l') := by
  subst hn h
  rw [vwL_nl σ V M l hv]
  rfl
theorem sb_arxr {τ : List Nat} {T : TypeId} {sz n : Nat} {l : List D} (h : D.nlL l = true) : sbB τ (.arx T sz n l) = some (.arx T sz n l) := by
  show (sbL τ l).map _ = _
  rw [sbL_nl τ l h]; rfl
section
variable {P : Program} {pc : Bool} {o : Oper} {F : Fr} {M : List Blk} {T : TypeId} {x y : Operand} {n : Nat} {k : IntKind} {z : Int} {j : Nat}
end
end Go.Proofs.Ytfnhckildfbikaa
namespace Go.Proofs.Ytfnhckildfbikaa
set_option linter.unusedVariables false
set_option linter.unusedSimpArgs false
open Go.RowKit
theorem fam_mem {s : St} (hok : Ok s) {i k sz n : Nat} {T : TypeId} {Bs : List Mem} {L : List Value} {hs : List Value} {u : Value} (hM : s.M[i]? = some (.fam Bs)) (h : s.β[i]? = some (.tuple hs.toArray)) (hB : Bs[k]? = some (.arr T sz n L)) (hk : hs[k]? = some u) : s.w.ownsRow 0 T sz u n L :=
  (fam_at (k := k) hok hM h).ok k _ _ hB hk
section
variable {P : Program} {pc : Bool} {o : Oper} {F : Fr} {M : List Blk}
/-- an element's place -/
theorem op_ixf {T T' e : TypeId} {x y : Operand} {i k sz by' n : Nat} {Bs : List Mem} {L : List Value} {kd : IntKind} {z : Int} (j : Nat) (ho : o.op = .indexAddr T x y) (hT : slE P T = some (e, sz, by')) (hx : Ev pc F x (.farr i k)) (hy : Ev pc F y (.val (.int kd z))) (hM : M[i]? = some (.fam Bs)) (hB : Bs[k]? = some (.arr T' sz n L)) (hz : pc = true → z = (j : Int)) (hj : pc = true → j < n) : DOp P pc o F M [i] (.faloc i k (j * sz)) [] := by
  intro hp a s hok hops hfp
  have hr := ev_at hp hx (by simp [ho, Op.operands]) hops
  have h2 := (ev_at hp hy (by simp [ho, Op.operands]) hops).val_eq
  have hz := hz hp
  have hj := hj hp
  subst hz
  generalize hv : a.eval x = vx at hr
  cases hr with
  | @farr _ _ ad n' c hs h hkk =>
    have hM' : s.M[i]? = some (.fam Bs) := by rw [hfp i (by simp)]; exact hM
    have hk := fam_mem hok hM' h hB hkk
    rcases hk.2 with ⟨e1, e2⟩ | ⟨g, cap, cur, e1, e2, e3, e4, e5, e6, e7⟩
    · exfalso; omega
    · cases e1
      refine dg_val hok (run_index_sl ho hT hv h2 (by omega) (by omega)) ?_
      rw [Addr.add_mid, Nat.zero_add, Int.toNat_natCast]
      exact .faloc h hkk
/-- a cell of it -/
theorem op_ldf {T T' : TypeId} {x : Operand} {i k p q sz n : Nat} {Bs : List Mem} {L : List Value} {v : Value} (ho : o.op = .load T x) (hT : tyB P T = some (false, q)) (hx : Ev pc F x (.faloc i k p)) (hM : M[i]? = some (.fam Bs)) (hB : Bs[k]? = some (.arr T' sz n L)) (hR : L[p]? = some v) : DOp P pc o F M [i] (.val v) [] := by
  intro hp a s hok hops hfp
  have hr := ev_at hp hx (by simp [ho, Op.operands]) hops
  generalize hv : a.eval x = vx at hr
  cases hr with
  | @faloc _ _ _ n' c b hs h hkk =>
    have hM' : s.M[i]? = some (.fam Bs) := by rw [hfp i (by simp)]; exact hM
    have hk := fam_mem hok hM' h hB hkk
    rcases hk.2 with ⟨e1, e2⟩ | ⟨g, cap, cur, e1, e2, e3, e4, e5, e6, e7⟩
    · cases e1
    · cases e1
      have hc0 := cellsAt_sub (cellsAt_block e3 0) 0 (n * sz)
      have hc1 : cellsAt s.w b 0 L := by simpa [e7] using hc0
      exact dg_val hok (run_load_one ho hT hv (by simpa using hc1 p v hR)) (.val v)
/-- a store into it -/
theorem op_stf {T T' : TypeId} {x y : Operand} {i m p k sz n : Nat} {rw' : Bool} {v : Value} {Bs : List Mem} {L C L' : List Value} (ho : o.op = .store T x y) (hT : tyB P T = some (rw', k)) (hx : Ev pc F x (.faloc i m p)) (hy : Ev pc F y (.val v)) (hM : M[i]? = some (.fam Bs)) (hB : Bs[m]? = some (.arr T' sz n L)) (hC : v.cells.toList = C) (hk : C.length = k) (h1 : C.all (·.oneCell') = true)
    (hfit : p + C.length ≤ L.length) (hL : setL L p C = L') : DOp P pc o F M [i] .junk [(i, .fam (Bs.set m (.arr T' sz n L')))] := by
  intro hp a s hok hops hfp
  have hr := ev_at hp hx (by simp [ho, Op.operands]) hops
  have h2 := (ev_at hp hy (by simp [ho, Op.operands]) hops).val_eq
  have hM' : s.M[i]? = some (.fam Bs) := by rw [hfp i (by simp)]; exact hM
  subst hL
  generalize hv : a.eval x = vx at hr
  cases hr with
  | @faloc _ _ _ n' c b hs h hkk =>
    have hk' := fam_mem hok hM' h hB hkk
    rcases hk'.2 with ⟨e1, e2⟩ | ⟨g, cap, cur, e1, e2, e3, e4, e5, e6, e7⟩
    · cases e1
    · cases e1
      have hle := Nat.mul_le_mul_right sz e4
      have hlL := hk'.1
      have hcell := cellsAt_block e3 0
      have hrun := run_store (P := P) (w := s.w) ho hT hv h2 hC hk (fun j hj => by
          have := hcell (p + j) _ (by simpa using List.getElem?_eq_getElem (by simp; omega : p + j < cur.toList.length))
          rw [Nat.zero_add] at this
          rw [this]; rfl) (fun j hj => by simp [World.frozen?, e3]) (fun u hu => List.all_eq_true.1 h1 u hu)
      refine dg_skip (s' := ⟨s.β.set i (.tuple hs.toArray), s.I, s.M.set i (.fam (Bs.set m (.arr T' sz n (setL L p C)))), s.w.setCells b p C⟩) hrun (tr_stf hok hM' h hB rfl rfl hkk rfl p C ?_) rfl
      have hsl := setL_len C cur.toList p
      refine ⟨by rw [setL_len]; exact hlL, .inr ⟨b, c, (setL cur.toList p C).toArray, rfl, e2, setCells_block b C p s.w cur.toList T' (by simpa using e3), e4, e5, by simp [hsl]; simpa using e6, ?_⟩⟩
      have hcurlen : cur.toList.length = c * sz := by simpa using e6
      rw [setL_eq C cur.toList p (by omega), setL_eq C L p hfit]
      have hcut : cur.toList = L ++ cur.toList.drop L.length := by
        have := List.take_append_drop (n * sz) cur.toList
        rw [e7, ← hlL] at this
        exact this.symm
      generalize cur.toList.drop L.length = R at hcut
      rw [hcut]
      have t1 : (L ++ R).take p = L.take p := List.take_append_of_le_length (by omega)
      have t2 : (L ++ R).drop (p + C.length) = L.drop (p + C.length) ++ R := List.drop_append_of_le_length (by omega)
      rw [t1, t2, ← hlL, ← List.append_assoc]
      refine List.take_left' ?_
      simp; omega
/-- .. an element of one cell, in a list -/
theorem op_ldfe {T T' : TypeId} {x : Operand} {i k j q n : Nat} {Bs : List Mem} {α : Type} {en : α → List Value} {l : List α} {v : Value} (ho : o.op = .load T x) (hT : tyB P T = some (false, q)) (hx : Ev pc F x (.faloc i k (j * 1))) (hM : M[i]? = some (.fam Bs)) (hB : Bs[k]? = some (.arr T' 1 n (l.flatMap en))) (hen : ∀ a, (en a).length = 1) (hj : j < l.length) (hv : (en l[j])[0]? = some v) : DOp P pc o F M [i] (.val v) [] :=
  op_ldf ho hT hx hM hB (by have := flat_cell (c := 0) hen hj (by omega); rw [Nat.add_zero] at this; rw [this, hv])
theorem op_stfe {T T' : TypeId} {x y : Operand} {i m j n : Nat} {rw' : Bool} {v : Value} {Bs : List Mem} {α : Type} {en : α → List Value} {l : List α} (q : α) (ho : o.op = .store T x y) (hT : tyB P T = some (rw', 1)) (hx : Ev pc F x (.faloc i m (j * 1))) (hy : Ev pc F y (.val v)) (hM : M[i]? = some (.fam Bs)) (hB : Bs[m]? = some (.arr T' 1 n (l.flatMap en))) (hC : v.cells.toList = en q) (hen : ∀ a, (en a).length = 1) (hj : j < l.length) (h1 : (en q).all (·.oneCell') = true) : DOp P pc o F M [i] .junk [(i, .fam (Bs.set m (.arr T' 1 n ((l.set j q).flatMap en))))] :=
  op_stf ho hT hx hy hM hB hC (hen _) h1 (by
    have h2 : (j + 1) * 1 ≤ l.length * 1 := Nat.mul_le_mul_right _ hj
    rw [hen, flat_len hen]; omega) (flat_set hen hj q)
end
/-- rows whose cells have other names elsewhere -/
theorem vwL_flatG {α : Type} {σ : List Nat} {V : Nat → Bool} {M : List Blk} {f g : α → D} (h : ∀ a, vw σ V M (f a) = some (g a)) : ∀ l : List α, vwL σ V M (l.flatMap fun a => [f a]) = some (l.flatMap fun a => [g a])
  | [] => rfl
  | a :: l => by
    rw [List.flatMap_cons, List.flatMap_cons]
    show vwL σ V M (f a :: l.flatMap fun a => [f a]) = some (g a :: l.flatMap fun a => [g a])
    rw [vwL, h a, vwL_flatG h l]
theorem sbL_flatG {α : Type} {τ : List Nat} {f g : α → D} (h : ∀ a, sb τ (f a) = some (g a)) : ∀ l : List α, sbL τ (l.flatMap fun a => [f a]) = some (l.flatMap fun a => [g a])
  | [] => rfl
  | a :: l => by
    rw [List.flatMap_cons, List.flatMap_cons]
    show sbL τ (f a :: l.flatMap fun a => [f a]) = some (g a :: l.flatMap fun a => [g a])
    rw [sbL, h a, sbL_flatG h l]
theorem arxg_fits {α : Type} {σ : List Nat} {V : Nat → Bool} {M : List Blk} {T : TypeId} {n n' : Nat} {f g : α → D} {l l' : List α} (hn : n = n') (hl : l = l') (h : ∀ a, vw σ V M (f a) = some (g a)) : (vwL σ V M (l.flatMap fun a => [f a])).map (Blk.arx T 1 n) = some (Blk.arx T 1 n' (l'.flatMap fun a => [g a])) := by
  subst hn hl
  rw [vwL_flatG h]
  rfl
theorem sb_arxg {α : Type} {τ : List Nat} {T : TypeId} {n : Nat} {f g : α → D} {l : List α} (h : ∀ a, sb τ (f a) = some (g a)) : sbB τ (.arx T 1 n (l.flatMap fun a => [f a])) = some (.arx T 1 n (l.flatMap fun a => [g a])) := by
  show (sbL τ _).map _ = _
  rw [sbL_flatG h]; rfl
theorem vwL_flatMk {α : Type} {σ : List Nat} {V : Nat → Bool} {M : List Blk} {f g : α → List D} (h : ∀ a, vwL σ V M (f a) = some (g a)) : ∀ l : List α, vwL σ V M (l.flatMap f) = some (l.flatMap g)
  | [] => rfl
  | a :: l => by
    have app : ∀ (a b a' b' : List D), vwL σ V M a = some a' → vwL σ V M b = some b' → vwL σ V M (a ++ b) = some (a' ++ b') := by
      intro a
      induction a with
      | nil => intro b a' b' h1 h2; rw [vwL] at h1; cases h1; exact h2
      | cons d a ih =>
        intro b a' b' h1 h2
        rw [vwL] at h1
        cases e1 : vw σ V M d with
        | none => rw [e1] at h1; simp at h1
        | some d1 =>
          cases e2 : vwL σ V M a with
          | none => rw [e1, e2] at h1; simp at h1
          | some a1 =>
            rw [e1, e2] at h1
            obtain rfl := Option.some.inj h1
            rw [List.cons_append, vwL, e1, ih b a1 b' e2 h2]
            rfl
    rw [List.flatMap_cons, List.flatMap_cons]
    exact app _ _ _ _ (h a) (vwL_flatMk h l)
theorem sbL_flatMk {α : Type} {τ : List Nat} {f g : α → List D} (h : ∀ a, sbL τ (f a) = some (g a)) : ∀ l : List α, sbL τ (l.flatMap f) = some (l.flatMap g)
  | [] => rfl
  | a :: l => by
    have app : ∀ (a b a' b' : List D), sbL τ a = some a' → sbL τ b = some b' → sbL τ (a ++ b) = some (a' ++ b') := by
      intro a
      induction a with
      | nil => intro b a' b' h1 h2; rw [sbL] at h1; cases h1; exact h2
      | cons d a ih =>
        intro b a' b' h1 h2
        rw [sbL] at h1
        cases e1 : sb τ d with
        | none => rw [e1] at h1; simp at h1
        | some d1 =>
          cases e2 : sbL τ a with
          | none => rw [e1, e2] at h1; simp at h1
          | some a1 =>
            rw [e1, e2] at h1
            obtain rfl := Option.some.inj h1
            rw [List.cons_append, sbL, e1, ih b a1 b' e2 h2]
            rfl
    rw [List.flatMap_cons, List.flatMap_cons]
    exact app _ _ _ _ (h a) (sbL_flatMk h l)
theorem arxs_fits {α : Type} {σ : List Nat} {V : Nat → Bool} {M : List Blk} {T : TypeId} {sz n n' : Nat} {f g : α → List D} {l l' : List α} (hn : n = n') (hl : l = l') (h : ∀ a, vwL σ V M (f a) = some (g a)) : (vwL σ V M (l.flatMap f)).map (Blk.arx T sz n) = some (Blk.arx T sz n' (l'.flatMap g)) := by
  subst hn hl
  rw [vwL_flatMk h]; rfl
theorem sb_arxs {α : Type} {τ : List Nat} {T : TypeId} {sz n : Nat} {f g : α → List D} {l : List α} (h : ∀ a, sbL τ (f a) = some (g a)) : sbB τ (.arx T sz n (l.flatMap f)) = some (.arx T sz n (l.flatMap g)) := by
  show (sbL τ _).map _ = _
  rw [sbL_flatMk h]; rfl
section
variable {P : Program} {pc : Bool} {o : Oper} {F : Fr} {M : List Blk}
end
end Go.Proofs.Ytfnhckildfbikaa
namespace Go.Proofs.Ytfnhckildfbikaa
set_option linter.unusedVariables false
set_option linter.unusedSimpArgs false
open Go.RowKit
section
variable {P : Program} {pc : Bool} {o : Oper} {F : Fr} {M : List Blk} {T e : TypeId} {by' sz : Nat} {x y : Operand}
/-- make, of elements of any kind: what they hold is not told -/
theorem op_mkx (j n : Nat) {k k' : IntKind} {z z' : Int} {Z : List Value} (ho : o.op = .makeSlice T x y) (hT : slE P T = some (e, sz, by')) (hZ : zrC P e = some Z) (hx : Ev pc F x (.val (.int k z))) (hy : Ev pc F y (.val (.int k' z'))) (hz : pc = true → z = (n : Int)) (hz' : pc = true → z' = (n : Int)) (hj : M[j]? = some .hole) (hb : pc = true → by' * n ≤ 281474976710656 ∧ n ≤ 9223372036854775807) :
    DOp P pc o F M [j] (.arr j) [(j, .arx e sz n (List.replicate (n * sz) .junk))] := by
  intro hp a s hok hops hfp
  obtain ⟨e1, ti, e2, e3, e4⟩ := slE_spec hT
  obtain ⟨ti', zv, q1, q2, q3⟩ := zrC_spec hZ
  rw [e2] at q1
  obtain rfl := Option.some.inj q1
  have h1 := (ev_at hp hx (by simp [ho, Op.operands]) hops).val_eq
  have h2 := (ev_at hp hy (by simp [ho, Op.operands]) hops).val_eq
  rw [hz hp] at h1
  rw [hz' hp] at h2
  obtain ⟨b1, b2⟩ := hb hp
  have hj' : s.M[j]? = some .hole := by rw [hfp j (by simp)]; exact hj
  have hjl : j < s.β.length := by rw [hok.len]; exact (List.getElem?_eq_some_iff.1 hj').1
  have hb3 : (ti.bytes : Int) * (n : Int) ≤ 281474976710656 := by
    have h : ((ti.bytes * n : Nat) : Int) ≤ 281474976710656 := by rw [e4]; omega
    rwa [Int.natCast_mul] at h
  have hrun := run_make (P := P) s.w T e ti zv e1 e2 q2 k k' n n (by omega) (Int.le_refl _) hb3 (by omega)
  simp only [Int.toNat_natCast] at hrun
  have hrow := World.ownsRow_lit (base := 0) (e := e) (size := ti.size) s.w (madeCells zv.cells (n * ti.size)) n (Nat.zero_le _) (by unfold maxLen; omega) (size_madeCells _ _)
  refine dg_step (s' := ⟨s.β.set j (.slice (some ⟨s.w.heap.size, 0, none⟩) n n), s.I, s.M.set j (.arx e sz n (List.replicate (n * sz) .junk)), _⟩) (v := .slice (some ⟨s.w.heap.size, 0, none⟩) n n) ?_ (tr_new hok hj' _ _ _ (by simp) (fun b hb => by cases hb; rfl) (fun b h => Below.heap_alloc _ _ _ h) (fun b hb => by cases hb; simp) (by simp) rfl rfl rfl ⟨_, by rw [← e3]; exact hrow, by simp [size_madeCells, e3], fun p d v g1 g2 => ?_⟩) rfl (.arr (by simp [hjl]))
  · unfold execOp
    simp only [ho, h1, h2]
    exact run_v hrun
  · obtain rfl := List.eq_of_mem_replicate (List.mem_of_getElem? g1)
    exact .junk _
end
end Go.Proofs.Ytfnhckildfbikaa
namespace Go.Proofs.Ytfnhckildfbikaa
set_option linter.unusedVariables false
set_option linter.unusedSimpArgs false
open Go.RowKit
section
variable {P : Program} {s0 : St} {n : Cx}
end
section
variable {P : Program} {pc : Bool} {o : Oper} {F : Fr} {M : List Blk}
end
section
variable {P : Program} {s0 : St} {n : Cx}
end
section
variable {P : Program} {pc : Bool} {o : Oper} {F : Fr} {M : List Blk}
theorem op_pnil0n {T T' e : TypeId} {x : Operand} (ho : o.op = .binOp .neq T x (.const (.pointer none)) T') (hT : ptT P T = some e) (hx : Ev pc F x (.val (.pointer none))) : DOp P pc o F M [] (.val (.bool false)) [] := by
  intro hp a s hok hops hfp
  have hr := (ev_at hp hx (by simp [ho, Op.operands]) hops).val_eq
  refine dg_val (v := .bool false) hok ?_ (.val _)
  unfold execOp
  simp only [ho, hr]
  refine run_v ?_
  have hc : a.eval (.const (.pointer none)) = .pointer none := rfl
  rw [hc]
  have hg : (eqGuard .neq T x (.const (.pointer none)) (.pointer none) (.pointer none)).run P s.w = .ok () s.w := by unfold eqGuard; rfl
  rw [Sem.run_bind, hg]
  have he := run_equal_pointer_nil (P := P) s.w T none (by rw [show P.pointee T = e by simp [Program.pointee, ptT_spec hT]]; exact ptT_spec hT)
  simp only [Result.andThen, binOp, Sem.run_bind, he]
  rfl
end
end Go.Proofs.Ytfnhckildfbikaa
namespace Go.Proofs.Ytfnhckildfbikaa
set_option linter.unusedVariables false
set_option linter.unusedSimpArgs false
open Go.RowKit
theorem toList_made_all {Z : Array Value} {z0 : Value} (hZ : ∀ v ∈ Z, v = z0) (h0 : 0 < Z.size) (n : Nat) : (madeCells Z n).toList = List.replicate n z0 := by
  rw [List.eq_replicate_iff]
  refine ⟨by rw [Array.length_toList, size_madeCells], fun b hb => ?_⟩
  unfold madeCells at hb
  rw [Array.toList_map, List.mem_map] at hb
  obtain ⟨i, _, rfl⟩ := hb
  have hi : i % Z.size < Z.size := Nat.mod_lt _ h0
  rw [getElem!_pos Z (i % Z.size) hi]
  exact hZ _ (Array.getElem_mem hi)
theorem op_mkg {P : Program} {pc : Bool} {o : Oper} {F : Fr} {M : List Blk} {T e : TypeId} {x y : Operand} {by' sz : Nat} (j n : Nat) {k k' : IntKind} {z z' : Int} (z0 : Value) {Z : List Value} (ho : o.op = .makeSlice T x y) (hT : slE P T = some (e, sz, by')) (hZ : zrC P e = some Z) (hz0 : Z = List.replicate sz z0) (hsz : 0 < sz) (hx : Ev pc F x (.val (.int k z))) (hy : Ev pc F y (.val (.int k' z'))) (hz : pc = true → z = (n : Int)) (hz' : pc = true → z' = (n : Int)) (hj : M[j]? = some .hole) (hb : pc = true → by' * n ≤ 281474976710656 ∧ n ≤ 9223372036854775807) :
    DOp P pc o F M [j] (.arr j) [(j, .arr e sz n (List.replicate (n * sz) z0))] := by
  intro hp a s hok hops hfp
  obtain ⟨e1, ti, e2, e3, e4⟩ := slE_spec hT
  obtain ⟨ti', zv, q1, q2, q3⟩ := zrC_spec hZ
  rw [e2] at q1
  obtain rfl := Option.some.inj q1
  have h1 := (ev_at hp hx (by simp [ho, Op.operands]) hops).val_eq
  have h2 := (ev_at hp hy (by simp [ho, Op.operands]) hops).val_eq
  rw [hz hp] at h1
  rw [hz' hp] at h2
  obtain ⟨b1, b2⟩ := hb hp
  have hj' : s.M[j]? = some .hole := by rw [hfp j (by simp)]; exact hj
  have hjl : j < s.β.length := by rw [hok.len]; exact (List.getElem?_eq_some_iff.1 hj').1
  have hb3 : (ti.bytes : Int) * (n : Int) ≤ 281474976710656 := by
    have h : ((ti.bytes * n : Nat) : Int) ≤ 281474976710656 := by rw [e4]; omega
    rwa [Int.natCast_mul] at h
  have hrun := run_make (P := P) s.w T e ti zv e1 e2 q2 k k' n n (by omega) (Int.le_refl _) hb3 (by omega)
  simp only [Int.toNat_natCast] at hrun
  have hc : ∀ v ∈ zv.cells, v = z0 := fun v hv => by
    have h : v ∈ Z := by rw [← q3]; exact Array.mem_toList_iff.2 hv
    rw [hz0] at h
    exact List.eq_of_mem_replicate h
  have hs0 : 0 < zv.cells.size := by
    have := congrArg List.length q3
    rw [Array.length_toList, hz0, List.length_replicate] at this
    omega
  have hrow := World.ownsRow_lit (base := 0) (e := e) (size := ti.size) s.w (madeCells zv.cells (n * ti.size)) n (Nat.zero_le _) (by unfold maxLen; omega) (size_madeCells _ _)
  rw [toList_made_all hc hs0, e3] at hrow
  rw [e3] at hrun
  refine dg_step (s' := ⟨s.β.set j (.slice (some ⟨s.w.heap.size, 0, none⟩) n n), s.I, s.M.set j (.arr e sz n (List.replicate (n * sz) z0)), _⟩) (v := .slice (some ⟨s.w.heap.size, 0, none⟩) n n) ?_ (tr_new hok hj' _ _ _ (by simp) (fun b hb => by cases hb; rfl) (fun b h => Below.heap_alloc _ _ _ h) (fun b hb => by cases hb; simp) (by simp) rfl rfl rfl hrow) rfl (.arr (by simp [hjl]))
  unfold execOp
  simp only [ho, h1, h2]
  exact run_v hrun
end Go.Proofs.Ytfnhckildfbikaa
namespace Go.Proofs.Ytfnhckildfbikaa
set_option linter.unusedVariables false
set_option linter.unusedSimpArgs false
open Go.RowKit
theorem WkL.app {a b c d : List D} (h : WkL a b) (k : WkL c d) : WkL (a ++ c) (b ++ d) := by
  refine ⟨by rw [List.length_append, List.length_append, h.1, k.1], fun j x y h1 h2 => ?_⟩
  by_cases hj : j < a.length
  · rw [List.getElem?_append_left hj] at h1
    rw [List.getElem?_append_left (by rw [← h.1]; exact hj)] at h2
    exact h.2 j x y h1 h2
  · rw [List.getElem?_append_right (by omega)] at h1
    rw [List.getElem?_append_right (by rw [← h.1]; omega), ← h.1] at h2
    exact k.2 _ x y h1 h2
section
variable {P : Program} {s0 : St} {n : Cx}
end
end Go.Proofs.Ytfnhckildfbikaa
namespace Go.Proofs.Ytfnhckildfbikaa
set_option maxRecDepth 4000
set_option linter.unusedVariables false
set_option linter.unusedSimpArgs false
open Go.RowKit
theorem putsC_take {w h : Int} {ts : List TL} {l : List Dt} {k : Nat} (hk : k < l.length) : putsC w h ts (l.take (k + 1)) = putC w h (putsC w h ts (l.take k)) l[k] := by
  rw [List.take_succ_eq_append_getElem hk, putsC, List.foldl_append]; rfl
end Go.Proofs.Ytfnhckildfbikaa
namespace Go.Proofs.Ytfnhckildfbikaa
set_option maxRecDepth 4000
set_option linter.unusedVariables false
set_option linter.unusedSimpArgs false
open Go.RowKit
set_option maxRecDepth 4000 in
set_option maxHeartbeats 1000000 in
theorem equalT (l r : List TL) : DFun Try.prog 47 [.slf 256 l.length (l.flatMap tc), .slf 256 r.length (r.flatMap tc)] [] (.val (.bool (decide (l = r)))) [] := by
  refine zan (N := 26) 0 (by kernel_rfl) Try.func47 rfl rfl rfl (by simp only [fr0, Nat.zero_add, Nat.reduceAdd]; exact rfl) rfl fun s0 hs0 => ?_
  refine dwp_len (t := 0) rfl fun hl0 hL0 => ?_
  refine dwp_len (t := 1) rfl fun hl1 hL1 => ?_
  refine zaf ?_
  refine zad ?_
  refine zab rfl rfl rfl (zac (.inr rfl) (ev1 rfl)) ?_
  refine zae ?_
  refine zaf ?_
  refine zaf ?_
  refine zad ?_
  refine zab rfl rfl rfl (zac (.inl rfl) (ev1 rfl)) ?_
  refine zab rfl rfl rfl (op_len rfl sl22 (ev1 rfl)) ?_
  refine zab rfl rfl rfl (zac (.inl rfl) (ev1 rfl)) ?_
  refine zab rfl rfl rfl (op_len rfl sl22 (ev1 rfl)) ?_
  refine zab rfl rfl rfl (op_neq rfl (ev1 rfl) (ev1 rfl)) ?_
  refine zae ?_
  refine dwp_cond rfl (fun c1 => ?_) (fun c1 => ?_)
  · try simp only [decide_eq_true_eq, decide_eq_false_iff_not, beq_iff_eq, bne_iff_ne, beq_eq_false_iff_ne, bne_eq_false_iff_eq, Bool.not_eq_true', Bool.not_eq_false', Bool.and_eq_true, Bool.or_eq_true, Bool.or_eq_false_iff, ne_eq, Decidable.not_not, Int.not_lt, Int.not_le] at c1
    refine zaf ?_
    refine zad ?_
    refine zab rfl rfl rfl (zac (.inr rfl) (ev1 rfl)) ?_
    refine zae ?_
    refine zao ?_
    refine kend0 (rs1 rfl (rv_t rfl)) rfl ?_
    have hne : l ≠ r := fun e => by subst e; exact c1 rfl
    rw [decide_eq_false hne]
  · try simp only [decide_eq_true_eq, decide_eq_false_iff_not, beq_iff_eq, bne_iff_ne, beq_eq_false_iff_ne, bne_eq_false_iff_eq, Bool.not_eq_true', Bool.not_eq_false', Bool.and_eq_true, Bool.or_eq_true, Bool.or_eq_false_iff, ne_eq, Decidable.not_not, Int.not_lt, Int.not_le] at c1
    have hlen : l.length = r.length := by omega
    refine zak ?_
    refine zaf ?_
    refine zaf ?_
    refine zad ?_
    refine zab rfl rfl rfl (zac (.inl rfl) (ev1 rfl)) ?_
    refine zab rfl rfl rfl (op_len rfl sl22 (ev1 rfl)) ?_
    refine zab rfl rfl rfl (zac (.inl rfl) (ev1 rfl)) ?_
    refine zae ?_
    refine zal ?_
    refine dwp_loopS ⟨hs0, rfl⟩ (α := Nat) (fun k => [(13, .val (.int .i64 (k : Int)))]) [(0, _), (1, _), (12, _)] (fun k => []) [] (fun k => k ≤ l.length ∧ l.take k = r.take k) (fun k => l.length - k) 0 [] (by simp) rfl ⟨rfl, rfl, rfl, trivial⟩ ⟨rfl, trivial⟩ trivial ?_
    intro k hx
    simp only [upd, zaa, za, List.cons_append, List.nil_append]
    obtain ⟨hk, he⟩ := hx
    refine zaf ?_
    refine zad ?_
    refine zab rfl rfl rfl (op_lss rfl (ev1 rfl) (ev1 rfl)) ?_
    refine zae ?_
    refine zaf ?_
    refine dwp_cond rfl (fun c2 => ?_) (fun c2 => ?_)
    · try simp only [decide_eq_true_eq, decide_eq_false_iff_not, beq_iff_eq, bne_iff_ne, beq_eq_false_iff_ne, bne_eq_false_iff_eq, Bool.not_eq_true', Bool.not_eq_false', Bool.and_eq_true, Bool.or_eq_true, Bool.or_eq_false_iff, ne_eq, Decidable.not_not, Int.not_lt, Int.not_le] at c2
      refine zak ?_
      refine zaf ?_
      refine zal ?_
      refine zaf ?_
      refine zad ?_
      refine zab rfl rfl rfl (zac (.inl rfl) (ev1 rfl)) ?_
      refine zab rfl rfl rfl (zac (.inr rfl) (ev1 rfl)) ?_
      refine zae ?_
      refine zaf ?_
      refine dwp_draw [([], []), ([], []), ([], []), ([], []), ([], []), ([], []), ([], []), ([], []), ([], [])] mixed (by kernel_rfl) ?_
      refine zag rfl rfl (zac (.inl rfl) (ev1 rfl)) ?_
      refine zag rfl rfl (zac (.inl rfl) (ev1 rfl)) ?_
      refine zag rfl rfl (op_ixsr (j := k) rfl sl22 (ev1 rfl) (ev1 rfl) tc_len (by decide) (by omega) (by omega)) ?_
      refine zag rfl rfl (op_ldwd rfl tb81 (ev1 rfl) (tc_len _)) ?_
      refine zag rfl rfl (zac (.inl rfl) (ev1 rfl)) ?_
      refine zag rfl rfl (zac (.inl rfl) (ev1 rfl)) ?_
      refine zag rfl rfl (op_ixsr (j := k) rfl sl22 (ev1 rfl) (ev1 rfl) tc_len (by decide) (by omega) (by omega)) ?_
      refine zag rfl rfl (op_ldwd rfl tb81 (ev1 rfl) (tc_len _)) ?_
      refine zag rfl rfl (op_ner eq81 rfl gd81 tb81 (ev1 rfl) (ev1 rfl)) ?_
      refine lex_nil ?_
      refine dwp_cond rfl (fun c2 => ?_) (fun c2 => ?_)
      · have c3 : l[k] ≠ r[k] := by simpa using c2
        refine zaf ?_
        refine zad ?_
        refine zab rfl rfl rfl (zac (.inr rfl) (ev1 rfl)) ?_
        refine zae ?_
        refine zao ?_
        refine kend0 (rs1 rfl (rv_t rfl)) rfl ?_
        have hne : l ≠ r := fun e => by subst e; exact c3 rfl
        rw [decide_eq_false hne]
      · have c3 : l[k] = r[k] := by simpa using c2
        refine zak ?_
        refine zad ?_
        refine zab rfl rfl rfl (op_add' rfl (ev1 rfl) (ev1 rfl) (fun _ => IntWalk.i64_in _ (by omega))) ?_
        refine zab rfl rfl rfl (zac (.inl rfl) (ev1 rfl)) ?_
        refine zae ?_
        refine ⟨k + 1, [], ⟨by omega, by rw [List.take_succ_eq_append_getElem (by omega), List.take_succ_eq_append_getElem (by omega), he, c3]⟩, by simp only []; omega, rfl, ⟨rfl, rfl, rfl, rfl, trivial⟩, trivial⟩
    · try simp only [decide_eq_true_eq, decide_eq_false_iff_not, beq_iff_eq, bne_iff_ne, beq_eq_false_iff_ne, bne_eq_false_iff_eq, Bool.not_eq_true', Bool.not_eq_false', Bool.and_eq_true, Bool.or_eq_true, Bool.or_eq_false_iff, ne_eq, Decidable.not_not, Int.not_lt, Int.not_le] at c2
      refine dwp_exit ?_
      refine zaf ?_
      refine zad ?_
      refine zab rfl rfl rfl (zac (.inr rfl) (ev1 rfl)) ?_
      refine zae ?_
      refine zao ?_
      refine kend0 (rs1 rfl (rv_t rfl)) rfl ?_
      have e : l = r := by
        have h := he
        rw [List.take_of_length_le (by omega), List.take_of_length_le (by omega)] at h
        exact h
      rw [decide_eq_true e]
set_option maxRecDepth 4000 in
set_option maxHeartbeats 1000000 in
theorem alike_d (w h w2 h2 : Int) (ts us : List TL) : DFun Try.prog 15 [shD w h ts, shD w2 h2 us] [] (.val (.bool (decide (w = w2 ∧ h = h2 ∧ ts = us)))) [] := by
  refine zan (N := 24) 0 (by kernel_rfl) Try.func15 rfl rfl rfl (by simp only [fr0, Nat.zero_add, Nat.reduceAdd]; exact rfl) rfl fun s0 hs0 => ?_
  refine zaf ?_
  refine zai 2 (by simp only [holes, List.cons_append, List.nil_append]; exact rfl) ?_
  refine zad ?_
  refine zaj rfl rfl rfl (op_boxam 0 rfl (ev1 rfl) rfl) (by simp only [upd, zaa, za]; exact rfl) ?_
  refine zaj rfl rfl rfl (op_boxam 1 rfl (ev1 rfl) rfl) (by simp only [upd, zaa, za]; exact rfl) ?_
  refine zab rfl rfl rfl (zac (.inr rfl) (ev1 rfl)) ?_
  refine zae ?_
  refine zaf ?_
  refine zad ?_
  refine zab rfl rfl rfl (op_fa rfl fo24_0 (ev1 rfl)) ?_
  refine zab rfl rfl rfl (op_ldm rfl tb3 (ev1 rfl) rfl rfl) ?_
  refine zab rfl rfl rfl (op_fa rfl fo24_0 (ev1 rfl)) ?_
  refine zab rfl rfl rfl (op_ldm rfl tb3 (ev1 rfl) rfl rfl) ?_
  refine zab rfl rfl rfl (op_eql rfl (ev1 rfl) (ev1 rfl)) ?_
  refine zab rfl rfl rfl (zac (.inl rfl) (ev1 rfl)) ?_
  refine walk_gr (gd_t rfl rfl rfl) rfl rfl rfl (op_fa rfl fo24_1 (ev1 rfl)) ?_
  refine walk_gr (gd_t rfl rfl rfl) rfl rfl rfl (op_ldm rfl tb3 (ev2 rfl) rfl rfl) ?_
  refine walk_gr (gd_t rfl rfl rfl) rfl rfl rfl (op_fa rfl fo24_1 (ev1 rfl)) ?_
  refine walk_gr (gd_t rfl rfl rfl) rfl rfl rfl (op_ldm rfl tb3 (ev2 rfl) rfl rfl) ?_
  refine walk_gr (gd_t rfl rfl rfl) rfl rfl rfl (op_eql rfl (ev2 rfl) (ev2 rfl)) ?_
  refine zab rfl rfl rfl (op_and rfl (ev1 rfl) (ev3 rfl id)) ?_
  refine zab rfl rfl rfl (zac (.inl rfl) (ev1 rfl)) ?_
  refine walk_gr (gd_t rfl rfl rfl) rfl rfl rfl (op_fa rfl fo24_2 (ev1 rfl)) ?_
  refine walk_gr (gd_t rfl rfl rfl) rfl rfl rfl (op_ldm rfl tb22 (ev2 rfl) rfl rfl) ?_
  refine walk_gr (gd_t rfl rfl rfl) rfl rfl rfl (op_fa rfl fo24_2 (ev1 rfl)) ?_
  refine walk_gr (gd_t rfl rfl rfl) rfl rfl rfl (op_ldm rfl tb22 (ev2 rfl) rfl rfl) ?_
  refine walk_gr (gd_t rfl rfl rfl) rfl rfl rfl (zah [] [] [] rfl (ev1 rfl) (ec (ev2 rfl) (ec (ev2 rfl) en)) rfl rfl (equalT _ _) rfl rfl rfl rfl rfl rfl) ?_
  refine zab rfl rfl rfl (op_and rfl (ev1 rfl) (ev3 rfl id)) ?_
  refine zab rfl rfl rfl (zac (.inr rfl) (ev1 rfl)) ?_
  refine zae ?_
  refine zao ?_
  refine kend0 (rs1 rfl (rv_t rfl)) rfl ?_
  rw [D.val.injEq, Value.bool.injEq, Bool.eq_iff_iff]
  simp [and_assoc]
end Go.Proofs.Ytfnhckildfbikaa
namespace Go.Proofs.Ytfnhckildfbikaa
set_option maxRecDepth 4000
set_option linter.unusedVariables false
set_option linter.unusedSimpArgs false
open Go.RowKit
theorem tc_sz (t : TL) : ([Value.agg (tc t).toArray].all fun v => v.cells.size == 256) = true := by
  show ((tc t).toArray.size == 256 && true) = true
  rw [List.size_toArray, tc_len]; rfl
theorem tc_fl (t : TL) : ([Value.agg (tc t).toArray].flatMap fun v => v.cells.toList) = tc t := by rw [List.flatMap_cons]; exact List.append_nil _
theorem tc_oc1 (t : TL) : ([Value.agg (tc t).toArray].flatMap fun v => v.cells.toList).all (·.oneCell') = true := by rw [tc_fl]; exact tc_oc t
theorem tk_add {ts : List TL} {k : Nat} (h : k < ts.length) : (ts.take k).flatMap tc ++ ([Value.agg (tc (ts.getD k zT)).toArray].flatMap fun v => v.cells.toList) = (ts.take (k + 1)).flatMap tc := by
  rw [tc_fl, List.take_succ_eq_append_getElem h, List.flatMap_append, tl_at h]
  congr 1
  exact (List.append_nil _).symm
set_option maxRecDepth 4000 in
set_option maxHeartbeats 1000000 in
theorem show1_d (t : TL) : DFun Try.prog 49 [.dpf (tc t)] [] (tD t) [] := by
  refine zan (N := 6) 0 (by kernel_rfl) Try.func49 rfl rfl rfl (by simp only [fr0, Nat.zero_add, Nat.reduceAdd]; exact rfl) rfl fun s0 hs0 => ?_
  refine zaf ?_
  refine zai 1 (by simp only [holes, List.cons_append, List.nil_append]; exact rfl) ?_
  refine zad ?_
  refine zaj rfl rfl rfl (op_alloc 0 rfl zr81 rfl) (by simp only [upd, zaa, za]; exact rfl) ?_
  refine zae ?_
  refine zaf ?_
  refine zad ?_
  refine zab rfl rfl rfl (zac (.inl rfl) (ev1 rfl)) ?_
  refine zab rfl rfl rfl (op_nc rfl (ev1 rfl) (fun s v h => by cases h; exact ⟨_, rfl⟩)) ?_
  refine zab rfl rfl rfl (op_ldwd rfl tb81 (ev1 rfl) (tc_len _)) ?_
  refine walk_s rfl rfl (op_stwa rfl tb81 (ev1 rfl) (ev1 rfl) rfl (tc_len _) (tc_oc _) ((tc_len _).trans (tc_len _).symm)) (by simp only [upd, zaa, za]; exact rfl) ?_
  refine zae ?_
  refine zao ?_
  refine kend0 (rs1 rfl (rv_w tb81 rfl rfl (tc_len _))) rfl ?_
  rfl
set_option maxRecDepth 4000 in
set_option maxHeartbeats 1000000 in
theorem each2_d (ds : List D) (ts : List TL) (hr : RowOk ds ts) (hn : ts.length ≤ 5000) : DFun Try.prog 48 [.slm 1 ds.length ds, .fn (.func 49) [] []] [] (.slf 256 ts.length (ts.flatMap tc)) [] := by
  have hlen := hr.len
  refine zan (N := 25) 0 (by kernel_rfl) Try.func48 rfl rfl rfl (by simp only [fr0, Nat.zero_add, Nat.reduceAdd]; exact rfl) rfl fun s0 hs0 => ?_
  refine dwp_lenm (t := 0) rfl fun hl0 hL0 => ?_
  refine zaf ?_
  refine zad ?_
  refine zab rfl rfl rfl (zac (.inr rfl) (ev1 rfl)) ?_
  refine zae ?_
  refine zaf ?_
  refine zai 1 (by simp only [holes, List.cons_append, List.nil_append]; exact rfl) ?_
  refine zad ?_
  refine zab rfl rfl rfl (zac (.inl rfl) (ev1 rfl)) ?_
  refine zab rfl rfl rfl (op_lenm rfl sl105 (ev1 rfl)) ?_
  refine zaj rfl rfl rfl (op_mk0 0 (ds.length) rfl sl22 zr81 (ev1 rfl) (ev1 rfl) (fun _ => rfl) (fun _ => by omega) rfl (fun _ => ⟨by omega, by omega⟩)) (by simp only [upd, zaa, za]; exact rfl) ?_
  refine zab rfl rfl rfl (zac (.inr rfl) (ev1 rfl)) ?_
  refine zae ?_
  refine zaf ?_
  refine zaf ?_
  refine zad ?_
  refine zab rfl rfl rfl (zac (.inl rfl) (ev1 rfl)) ?_
  refine zab rfl rfl rfl (op_lenm rfl sl105 (ev1 rfl)) ?_
  refine zab rfl rfl rfl (zac (.inl rfl) (ev1 rfl)) ?_
  refine zae ?_
  refine zal ?_
  refine dwp_loopS ⟨hs0, rfl⟩ (α := Nat) (fun k => [(13, .val (.int .i64 (k : Int)))]) [(1, _), (5, _), (11, _), (12, _)] (fun k => [(0, .arr 81 256 (ts.take k).length ((ts.take k).flatMap tc))]) [.hole] (fun k => k ≤ ts.length) (fun k => ts.length - k) 0 [0] (Nat.zero_le _) rfl ⟨rfl, rfl, rfl, rfl, trivial⟩ ⟨rfl, trivial⟩ ⟨rfl, trivial⟩ ?_
  intro k hx
  simp only [upd, zaa, za, List.cons_append, List.nil_append]
  have hk := hx
  have htl : (ts.take k).length = k := by rw [List.length_take]; omega
  refine zaf ?_
  refine zad ?_
  refine zab rfl rfl rfl (op_lss rfl (ev1 rfl) (ev1 rfl)) ?_
  refine zae ?_
  refine zaf ?_
  refine dwp_cond rfl (fun c1 => ?_) (fun c1 => ?_)
  · try simp only [decide_eq_true_eq, decide_eq_false_iff_not, beq_iff_eq, bne_iff_ne, beq_eq_false_iff_ne, bne_eq_false_iff_eq, Bool.not_eq_true', Bool.not_eq_false', Bool.and_eq_true, Bool.or_eq_true, Bool.or_eq_false_iff, ne_eq, Decidable.not_not, Int.not_lt, Int.not_le] at c1
    refine zak ?_
    refine zaf ?_
    refine zal ?_
    refine zaf ?_
    obtain ⟨d, hd, _, hnl, _, hw⟩ := hr.at (q := k) (by omega)
    refine zad ?_
    refine zab rfl rfl rfl (op_ixm (k) rfl sl105 (ev1 rfl) (ev1 rfl) (fun _ => rfl) (hd)) ?_
    refine zab rfl rfl rfl ((op_lddm rfl tb109 (ev1 rfl) rfl).wk (hw)) ?_
    refine zab rfl rfl rfl (zac (.inr rfl) (ev1 rfl)) ?_
    refine zae ?_
    refine zai 2 (by simp only [holes, List.cons_append, List.nil_append]; exact rfl) ?_
    refine zad ?_
    refine zab rfl rfl rfl (zac (.inl rfl) (ev1 rfl)) ?_
    refine zab rfl rfl rfl (zac (.inl rfl) (ev1 rfl)) ?_
    refine zab rfl rfl rfl (zac (.inl rfl) (ev1 rfl)) ?_
    refine zab rfl rfl rfl (zah [] [] [] rfl (ev1 rfl) (ec (ev1 rfl) en) rfl rfl (show1_d _) rfl rfl rfl rfl rfl rfl) ?_
    refine zaj rfl rfl rfl (op_bsa (ps := [(0, .tmp 20)]) 1 rfl sl22 zr81 rfl (vc (ev1 rfl) vn) (tc_sz _) (by decide) (by decide) rfl) (by simp only [upd, zaa, za]; exact rfl) ?_
    refine zaj rfl rfl rfl (op_app (j := 2) rfl sl22 zr81 rfl (ev1 rfl) (ev1 rfl) (src_arr rfl) rfl rfl (fun _ => tc_oc1 _) (fun _ => ⟨by omega, by omega⟩)) (by simp only [upd, zaa, za]; exact rfl) ?_
    refine zab rfl rfl rfl (zac (.inr rfl) (ev1 rfl)) ?_
    refine zae ?_
    refine zad ?_
    refine zab rfl rfl rfl (op_add' rfl (ev1 rfl) (ev1 rfl) (fun _ => IntWalk.i64_in _ (by omega))) ?_
    refine zab rfl rfl rfl (zac (.inl rfl) (ev1 rfl)) ?_
    refine zae ?_
    refine ⟨k + 1, [2], by omega, by simp only []; omega, rfl, ⟨rfl, rfl, rfl, rfl, rfl, trivial⟩, ⟨arr_eq (by simp; omega) (tk_add (by omega)), trivial⟩⟩
  · try simp only [decide_eq_true_eq, decide_eq_false_iff_not, beq_iff_eq, bne_iff_ne, beq_eq_false_iff_ne, bne_eq_false_iff_eq, Bool.not_eq_true', Bool.not_eq_false', Bool.and_eq_true, Bool.or_eq_true, Bool.or_eq_false_iff, ne_eq, Decidable.not_not, Int.not_lt, Int.not_le] at c1
    refine dwp_exit ?_
    refine zaf ?_
    refine dwp_giveA 5 rfl rfl (by simp only [zaa, za]; exact rfl) ?_
    refine zad ?_
    refine zab rfl rfl rfl (zac (.inl rfl) (ev1 rfl)) ?_
    refine zab rfl rfl rfl (zac (.inr rfl) (ev1 rfl)) ?_
    refine zae ?_
    refine zao ?_
    rw [List.take_of_length_le (by omega)]
    refine kend0 (rs1 rfl (rv_t rfl)) rfl ?_
    rfl
set_option maxRecDepth 4000 in
set_option maxHeartbeats 1000000 in
theorem show_d (w h : Int) (ds : List D) (ts : List TL) (hr : RowOk ds ts) (hc : CvOk w h ts)  : DFun Try.prog 16 [cvD w h ds] [] (shD w h ts) [] := by
  have hle := hc.le
  refine zan (N := 22) 0 (by kernel_rfl) Try.func16 rfl rfl rfl (by simp only [fr0, Nat.zero_add, Nat.reduceAdd]; exact rfl) rfl fun s0 hs0 => ?_
  refine zaf ?_
  refine zai 1 (by simp only [holes, List.cons_append, List.nil_append]; exact rfl) ?_
  refine zad ?_
  refine zaj rfl rfl rfl (op_alloc 0 rfl zr24 rfl) (by simp only [upd, zaa, za]; exact rfl) ?_
  refine zae ?_
  refine zaf ?_
  refine zaf ?_
  refine zad ?_
  refine zab rfl rfl rfl (zac (.inl rfl) (ev1 rfl)) ?_
  refine zab rfl rfl rfl (op_pnilm rfl pt29 (ev1 rfl)) ?_
  refine zae ?_
  refine dwp_if_f rfl (rfl) ?_
  refine zak ?_
  refine zaf ?_
  refine dwp_draw [([], []), ([], []), ([], []), ([], []), ([], []), ([], []), ([], []), ([], []), ([], []), ([], []), ([], []), ([], []), ([], []), ([], []), ([], []), ([], []), ([0], [0])] mixed (by kernel_rfl) ?_
  refine zag rfl rfl (zac (.inl rfl) (ev1 rfl)) ?_
  refine zag rfl rfl (op_nc rfl (ev1 rfl) (fun s v h => by cases h; exact ⟨_, rfl⟩)) ?_
  refine zag rfl rfl (op_fadm rfl fo107_0 (ev1 rfl)) ?_
  refine zag rfl rfl (op_fadm rfl fo104_0 (ev1 rfl)) ?_
  refine zag rfl rfl (op_lddm rfl tb3 (ev1 rfl) rfl) ?_
  refine zag rfl rfl (zac (.inl rfl) (ev1 rfl)) ?_
  refine zag rfl rfl (op_nc rfl (ev1 rfl) (fun s v h => by cases h; exact ⟨_, rfl⟩)) ?_
  refine zag rfl rfl (op_fadm rfl fo107_0 (ev1 rfl)) ?_
  refine zag rfl rfl (op_fadm rfl fo104_1 (ev1 rfl)) ?_
  refine zag rfl rfl (op_lddm rfl tb3 (ev1 rfl) rfl) ?_
  refine zag rfl rfl (zac (.inl rfl) (ev1 rfl)) ?_
  refine zag rfl rfl (op_nc rfl (ev1 rfl) (fun s v h => by cases h; exact ⟨_, rfl⟩)) ?_
  refine zag rfl rfl (op_fadm rfl fo107_1 (ev1 rfl)) ?_
  refine zag rfl rfl (op_lddm rfl tb105 (ev1 rfl) rfl) ?_
  refine zag rfl rfl (zah [] [] [] rfl (ev1 rfl) (ec (ev1 rfl) (ec (ev1 rfl) en)) rfl rfl (each2_d ds ts hr (by omega)) rfl rfl rfl rfl rfl rfl) ?_
  refine zag rfl rfl (op_bldD (ps := [(0, .tmp 10), (1, .tmp 15), (2, .tmp 20)]) rfl fl24 zr24 (ec (ev1 rfl) (ec (ev1 rfl) (ec (ev1 rfl) en))) rfl rfl rfl) ?_
  refine lex_s rfl rfl (op_stam rfl tb24 (ev1 rfl) (ev1 rfl) rfl rfl rfl rfl) rfl (by simp only [upd, zaa, za]; exact rfl) ?_
  refine lex_nil ?_
  refine zao ?_
  refine kend0 (rs1 rfl (rv_mw tb24 rfl rfl rfl)) rfl ?_
  rfl
end Go.Proofs.Ytfnhckildfbikaa
namespace Go.Proofs.Ytfnhckildfbikaa
set_option maxRecDepth 4000
set_option linter.unusedVariables false
set_option linter.unusedSimpArgs false
open Go.RowKit
def rowEq (w : Int) (ts us : List TL) (y n : Nat) : Bool := (List.range n).all fun (x : Nat) => decide (getC w ts (x : Int) (y : Int) = getC w us (x : Int) (y : Int))
def allEq (w : Int) (ts us : List TL) (W n : Nat) : Bool := (List.range n).all fun (y : Nat) => rowEq w ts us y W
def sameF (w h : Int) (ts us : List TL) : Bool := allEq w ts us (w * 8).toNat (h * 8).toNat
theorem pl_back {w : Int} {p q : Nat} (hw : 1 ≤ w) (hq : q < 64) : plN w ((p : Int) % w * 8 + (q : Int) % 8) ((p : Int) / w * 8 + (q : Int) / 8) = p ∧ pxN ((p : Int) % w * 8 + (q : Int) % 8) ((p : Int) / w * 8 + (q : Int) / 8) = q := by
  have h1 := Int.emod_nonneg (p : Int) (show w ≠ 0 by omega)
  have h2 : (0 : Int) ≤ (p : Int) / w := Int.ediv_nonneg (by omega) (by omega)
  have e := Int.mul_ediv_add_emod (p : Int) w
  unfold plN pxN
  generalize (p : Int) % w = r at h1 e ⊢
  generalize (p : Int) / w = d at h2 e ⊢
  have e1 : (d * 8 + (q : Int) / 8) / 8 = d := by omega
  have e2 : (r * 8 + (q : Int) % 8) / 8 = r := by omega
  have e3 : (d * 8 + (q : Int) / 8) % 8 = (q : Int) / 8 := by omega
  have e4 : (r * 8 + (q : Int) % 8) % 8 = (q : Int) % 8 := by omega
  rw [e1, e2, e3, e4, Int.mul_comm d w]
  omega
theorem on_back {w h : Int} {p q : Nat} (hm : mayS w h = true) (hp : (p : Int) < w * h) (hq : q < 64) : onS w h ((p : Int) % w * 8 + (q : Int) % 8) ((p : Int) / w * 8 + (q : Int) / 8) = true := by
  have hb := mayS_b hm
  have h1 := Int.emod_nonneg (p : Int) (show w ≠ 0 by omega)
  have h3 := Int.emod_lt_of_pos (p : Int) (show 0 < w by omega)
  have h2 : (0 : Int) ≤ (p : Int) / w := Int.ediv_nonneg (by omega) (by omega)
  have h4 : (p : Int) / w < h := Int.ediv_lt_of_lt_mul (by omega) (by rw [Int.mul_comm h w]; exact hp)
  exact onS_iff.2 ⟨by omega, by omega⟩
theorem sameF_iff {w h : Int} {ts us : List TL} (hc : CvOk w h ts) (hd : CvOk w h us) : sameF w h ts us = decide (ts = us) := by
  rw [Bool.eq_iff_iff]
  have hb := mayS_b hc.may
  have l1 := hc.len
  have l2 := hd.len
  constructor
  · intro h1
    rw [decide_eq_true_eq]
    apply List.ext_getElem (by omega)
    intro p hp hp2
    apply TL.ext
    apply List.ext_getElem (by rw [TL.h, TL.h])
    intro q hq hq2
    rw [TL.h] at hq
    have ho := on_back (p := p) (q := q) hc.may (by omega) hq
    obtain ⟨e1, e2⟩ := pl_back (w := w) (p := p) (q := q) (by omega) hq
    have hxy := onS_iff.1 ho
    generalize hX : (p : Int) % w * 8 + (q : Int) % 8 = X at ho e1 e2 hxy
    generalize hY : (p : Int) / w * 8 + (q : Int) / 8 = Y at ho e1 e2 hxy
    have h2 := List.all_eq_true.1 h1 Y.toNat (List.mem_range.2 (by omega))
    have h3 := List.all_eq_true.1 h2 X.toNat (List.mem_range.2 (by omega))
    rw [decide_eq_true_eq, show ((X.toNat : Nat) : Int) = X by omega, show ((Y.toNat : Nat) : Int) = Y by omega] at h3
    unfold getC at h3
    rw [e1, e2, tl_at hp, tl_at hp2] at h3
    unfold TL.get at h3
    rw [List.getD_eq_getElem?_getD, List.getD_eq_getElem?_getD, List.getElem?_eq_getElem (by rw [TL.h]; exact hq), List.getElem?_eq_getElem (by rw [TL.h]; exact hq)] at h3
    exact h3
  · intro h1
    have h1 : ts = us := by simpa using h1
    subst h1
    exact List.all_eq_true.2 fun y _ => List.all_eq_true.2 fun x _ => by simp
end Go.Proofs.Ytfnhckildfbikaa
namespace Go.Proofs.Ytfnhckildfbikaa
set_option maxRecDepth 4000
set_option linter.unusedVariables false
set_option linter.unusedSimpArgs false
open Go.RowKit
theorem tb4 : tyB Try.prog 4 = some (false, 1) := by kernel_rfl
theorem zr4 : zrC Try.prog 4 = some [.bool false] := by kernel_rfl
end Go.Proofs.Ytfnhckildfbikaa
namespace Go.Proofs.Ytfnhckildfbikaa
set_option maxRecDepth 4000
set_option linter.unusedVariables false
set_option linter.unusedSimpArgs false
open Go.RowKit
theorem fo98_0 : fdO Try.prog 98 0 = some 0 := by kernel_rfl
theorem fo98_1 : fdO Try.prog 98 1 = some 1 := by kernel_rfl
theorem fo98_2 : fdO Try.prog 98 2 = some 2 := by kernel_rfl
theorem fo98_3 : fdO Try.prog 98 3 = some 3 := by kernel_rfl
theorem sl100 : slE Try.prog 100 = some (4, 1, 1) := by kernel_rfl
theorem sl99 : slE Try.prog 99 = some (100, 1, 24) := by kernel_rfl
theorem tb100 : tyB Try.prog 100 = some (false, 1) := by kernel_rfl
theorem names_at {f : Nat} {nn : List Nat} {j k : Nat} (h : nn[j]? = some k) : (nn.flatMap fun k => [D.farr f k])[j]? = some (.farr f k) := by
  have e : (nn.flatMap fun k => [D.farr f k]) = nn.map (D.farr f) := by
    clear h
    induction nn with
    | nil => rfl
    | cons a l ih => rw [List.flatMap_cons, ih]; rfl
  rw [e, List.getElem?_map, h]; rfl
def rowN (X Y : Int) (w : Nat) (pts : List P2) (j : Nat) : List Bool := (List.range w).map fun i : Nat => decide ((⟨X + (i : Int), Y + (j : Int)⟩ : P2) ∈ pts)
def bV (b : Bool) : List Value := [.bool b]
def fmF (X Y : Int) (w h : Nat) (pts : List P2) : List Mem := (List.range h).map fun j => Mem.arr 4 1 w ((rowN X Y w pts j).flatMap bV)
theorem rowN_len (X Y : Int) (w : Nat) (pts : List P2) (j : Nat) : (rowN X Y w pts j).length = w := by unfold rowN; simp
theorem fmF_at {X Y : Int} {w h : Nat} {pts : List P2} {j : Nat} (hj : j < h) : (fmF X Y w h pts)[j]? = some (.arr 4 1 w ((rowN X Y w pts j).flatMap bV)) := by
  unfold fmF
  rw [List.getElem?_map, List.getElem?_range hj]
  rfl
theorem fmF_len (X Y : Int) (w h : Nat) (pts : List P2) : (fmF X Y w h pts).length = h := by unfold fmF; simp
theorem rowN_get {X Y : Int} {w : Nat} {pts : List P2} {j i : Nat} (hi : i < (rowN X Y w pts j).length) : (rowN X Y w pts j)[i] = decide ((⟨X + (i : Int), Y + (j : Int)⟩ : P2) ∈ pts) := by simp only [rowN, List.getElem_map, List.getElem_range]
theorem fmF_add {X Y : Int} {w h : Nat} {pts : List P2} {j i : Nat} (hj : j < h) (hi : i < w) : (fmF X Y w h pts).set j (.arr 4 1 w (((rowN X Y w pts j).set i true).flatMap bV)) = fmF X Y w h (pts ++ [⟨X + (i : Int), Y + (j : Int)⟩]) := by
  apply List.ext_getElem?
  intro q
  by_cases hq : q < h
  · rw [fmF_at hq]
    by_cases e : j = q
    · subst e
      rw [List.getElem?_set_self (by rw [fmF_len]; exact hj)]
      congr 3
      apply List.ext_getElem
      · rw [List.length_set, rowN_len, rowN_len]
      · intro k h1 h2
        rw [rowN_get, List.getElem_set]
        by_cases e : i = k
        · subst e; simp
        · rw [if_neg e, rowN_get, decide_eq_decide, List.mem_append]
          constructor
          · exact fun h => .inl h
          · rintro (h | h)
            · exact h
            · have := congrArg P2.x (List.mem_singleton.1 h)
              simp only at this
              omega
    · rw [List.getElem?_set_ne e, fmF_at hq]
      congr 3
      apply List.ext_getElem
      · rw [rowN_len, rowN_len]
      · intro k h1 h2
        rw [rowN_get, rowN_get, decide_eq_decide, List.mem_append]
        constructor
        · exact fun h => .inl h
        · rintro (h | h)
          · exact h
          · have := congrArg P2.y (List.mem_singleton.1 h)
            simp only at this
            omega
  · rw [List.getElem?_eq_none (by rw [List.length_set, fmF_len]; omega), List.getElem?_eq_none (by rw [fmF_len]; omega)]
def rngN (n : Nat) : List Nat := List.range n
theorem names_rng {f h j : Nat} (hj : j < h) : ((rngN h).flatMap fun k => [D.farr f k])[j * 1]? = some (.farr f j) := by rw [Nat.mul_one]; exact names_at (List.getElem?_range hj)
def inF (pts : List P2) (p : P2) : Bool := decide (p ∈ pts)
def rowK (X Y : Int) (w : Nat) (pts : List P2) (k : Nat) : List Sp := runS ((fieldN w k X Y).filter (inF pts))
theorem rowK_beh {X Y : Int} {w : Nat} (hw : 0 < w) (pts : List P2) (k : Nat) : ((fieldN w k X Y).filter (inF pts)).Pairwise beh := (field_beh hw k X Y).sublist List.filter_sublist
theorem rowK_len {X Y : Int} {w : Nat} (pts : List P2) (k : Nat) : (rowK X Y w pts k).length ≤ k := by
  unfold rowK runS
  have h1 := merges_len (((fieldN w k X Y).filter (inF pts)).map pt1) []
  have h2 := List.length_filter_le (inF pts) (fieldN w k X Y)
  rw [fieldN_len] at h2
  rw [List.length_map, List.length_nil] at h1
  omega
theorem rowK_end {X Y : Int} {w y x : Nat} (hx : x < w) (pts : List P2) : endS (rowK X Y w pts (y * w + x)) ⟨X + (x : Int), Y + (y : Int)⟩ := by
  refine endS_run (rowK_beh (by omega) ..) fun q hq => ?_
  have h := field_before (w := w) (n := y * w + x) (X := X) (Y := Y) (by omega) q (List.mem_filter.1 hq).1
  rw [ix_mod hx, ix_div hx] at h
  exact h
theorem rowK_no {X Y : Int} {w y x : Nat} (hx : x < w) {pts : List P2} (h : inF pts ⟨X + (x : Int), Y + (y : Int)⟩ = false) : rowK X Y w pts (y * w + (x + 1)) = rowK X Y w pts (y * w + x) := by
  unfold rowK
  rw [field_at hx, List.filter_append, List.filter_cons, if_neg (by rw [h]; decide), List.filter_nil, List.append_nil]
theorem rowK_yes {X Y : Int} {w y x : Nat} (hx : x < w) {pts : List P2} (h : inF pts ⟨X + (x : Int), Y + (y : Int)⟩ = true) : rowK X Y w pts (y * w + (x + 1)) = mergeS (rowK X Y w pts (y * w + x)) (pt1 ⟨X + (x : Int), Y + (y : Int)⟩) := by
  unfold rowK
  rw [field_at hx, List.filter_append, List.filter_cons, if_pos h, List.filter_nil, runS_add]
theorem opn_no {out : List Sp} {p q : P2} (he : endS out p) (hy : q.y = p.y) (hx : q.x = p.x + 1) : opnS out q = false := by
  rcases list_last out with rfl | ⟨l, a, rfl⟩
  · rfl
  · rw [opnS_app, decide_eq_false_iff_not]
    have := he a (by simp)
    omega
theorem opn_first {X Y : Int} {w y : Nat} (hw : 0 < w) (pts : List P2) : opnS (rowK X Y w pts (y * w)) ⟨X, Y + (y : Int)⟩ = false := by
  have he := rowK_end (X := X) (Y := Y) (y := y) (x := 0) hw pts
  rcases list_last (rowK X Y w pts (y * w)) with h | ⟨l, a, h⟩
  · rw [h]; rfl
  · rw [h, opnS_app, decide_eq_false_iff_not]
    rw [Nat.add_zero, h] at he
    have h1 := he a (by simp)
    simp only at h1
    intro h2
    have hm : (⟨a.t, a.y⟩ : P2) ∈ (fieldN w (y * w) X Y).filter (inF pts) := by
      refine ((run_ok (rowK_beh hw pts (y * w))).2 a.t a.y).1 ?_
      show hasS (rowK X Y w pts (y * w)) a.t a.y
      rw [h]
      have hv := (run_ok (rowK_beh (X := X) (Y := Y) hw pts (y * w))).1.1 a (by show a ∈ rowK X Y w pts (y * w); rw [h]; simp)
      exact ⟨a, by simp, rfl, hv, Int.le_refl _⟩
    have h3 : (X ≤ a.t ∧ a.t < X + w) ∧ Y ≤ a.y ∧ a.y < Y + y := (field_mem (h := y) hw).1 (List.mem_filter.1 hm).1
    have h4 : a.y = Y + (y : Int) ∧ a.t + 1 = X := h2
    omega
theorem opn_merge {out : List Sp} {p q : P2} (he : endS out p) (hy : q.y = p.y) (hx : q.x = p.x + 1) : opnS (mergeS out (pt1 p)) q = true := by
  cases h : opnS out p with
  | true =>
    obtain ⟨l, a, rfl, h1, h2⟩ := opn_last h
    rw [merge_open ⟨h1, h2⟩, opnS_app, decide_eq_true_eq]
    simp only
    omega
  | false =>
    rw [merge_shut he h, opnS_app, decide_eq_true_eq]
    unfold pt1
    simp only
    omega
theorem reb_eq {k k' : Blk} (h : k = k') : ∀ s v, BlkOk s v k → BlkOk s v k' := fun s v hk => h ▸ hk
theorem row_set1 {out : List Sp} {p : P2} (he : endS out p) (h : opnS out p = false) : (out ++ [pt1 p]).set ((out ++ [pt1 p]).length - 1) ⟨(lastS (out ++ [pt1 p])).y, (lastS (out ++ [pt1 p])).f, p.x⟩ = mergeS out (pt1 p) := by
  rw [merge_shut he h, lastS_app]
  simp [pt1]
theorem opn_first' {X Y : Int} {w y : Nat} (hw : 0 < w) (pts : List P2) : opnS (rowK X Y w pts (y * w + 0)) ⟨X + ((0 : Nat) : Int), Y + (y : Int)⟩ = false := by
  have := opn_first (X := X) (Y := Y) (y := y) hw pts
  rw [Nat.add_zero, show X + ((0 : Nat) : Int) = X by omega]
  exact this
set_option maxRecDepth 4000 in
set_option maxHeartbeats 1000000 in
theorem rrow_d (X Y : Int) (w h : Nat) (hX : -1000 ≤ X ∧ X ≤ 1000) (hY : -1000 ≤ Y ∧ Y ≤ 1000) (hw : 0 < w ∧ w ≤ 1000) (hh : h ≤ 1000) (pts : List P2) (hm : h * w ≤ 1000000) : DFun Try.prog 46 [.val (.agg #[.int .i64 X, .int .i64 Y, .int .i64 (X + (w : Int) - 1), .int .i64 (Y + (h : Int) - 1)]), .arr 0] [.arx 100 1 h ((rngN h).flatMap fun k => [.farr 1 k]), .fam (fmF X Y w h (pts))] (.arr 2) [.arx 100 1 h ((rngN h).flatMap fun k => [.farr 1 k]), .fam (fmF X Y w h (pts)), .arr 53 3 (rowK X Y w pts (h * w)).length ((rowK X Y w pts (h * w)).flatMap s3)] := by
  refine zan (N := 56) 2 (by kernel_rfl) Try.func46 rfl rfl rfl (by simp only [fr0, Nat.zero_add, Nat.reduceAdd]; exact rfl) rfl fun s0 hs0 => ?_
  refine zaf ?_
  refine zai 1 (by simp only [holes, List.cons_append, List.nil_append]; exact rfl) ?_
  refine zad ?_
  refine zaj rfl rfl rfl (op_boxa 2 rfl (ev1 rfl) rfl) (by simp only [upd, zaa, za]; exact rfl) ?_
  refine zab rfl rfl rfl (zac (.inr rfl) (ev1 rfl)) ?_
  refine zae ?_
  refine zaf ?_
  refine zad ?_
  refine zab rfl rfl rfl (zac (.inr rfl) (ev1 rfl)) ?_
  refine zae ?_
  refine zaf ?_
  refine zaf ?_
  refine zad ?_
  refine zab rfl rfl rfl (op_fa rfl fo98_1 (ev1 rfl)) ?_
  refine zab rfl rfl rfl (zam rfl tb3 (ev1 rfl) rfl rfl) ?_
  refine zab rfl rfl rfl (zac (.inr rfl) (ev1 rfl)) ?_
  refine zae ?_
  refine zal ?_
  refine dwp_adopt 5 53 3 rfl rfl rfl ?_
  refine dwp_loopS ⟨hs0, rfl⟩ (α := Nat) (fun y => [(6, .val (.int .i64 (Y + (y : Int))))]) [(1, _), (2, _), (5, _)] (fun y => [(3, .arr 53 3 (rowK X Y w pts (y * w)).length ((rowK X Y w pts (y * w)).flatMap s3))]) [_, _, _, .hole] (fun y => y ≤ h) (fun y => h - y) 0 [0, 1, 2, 3] (Nat.zero_le _) rfl ⟨rfl, rfl, rfl, trivial⟩ ⟨congrArg (fun z => some (D.val (.int .i64 z))) (by first | rfl | omega), trivial⟩ ⟨arxg_fits (by first | rfl | omega) rfl (fun _ => rfl), rfl, rfl, (by rw [Nat.zero_mul]; rfl), trivial⟩ ?_
  intro y hx
  simp only [upd, zaa, za, List.cons_append, List.nil_append]
  have hy0 := hx
  have hyw : y * w ≤ h * w := Nat.mul_le_mul_right _ hy0
  refine zaf ?_
  refine zaf ?_
  refine zad ?_
  refine zab rfl rfl rfl (zac (.inl rfl) (ev1 rfl)) ?_
  refine zab rfl rfl rfl (op_fa rfl fo98_3 (ev1 rfl)) ?_
  refine zab rfl rfl rfl (zam rfl tb3 (ev1 rfl) rfl rfl) ?_
  refine zab rfl rfl rfl (op_leq rfl (ev1 rfl) (ev1 rfl)) ?_
  refine zae ?_
  refine dwp_cond rfl (fun c1 => ?_) (fun c1 => ?_)
  · try simp only [decide_eq_true_eq, decide_eq_false_iff_not, beq_iff_eq, bne_iff_ne, beq_eq_false_iff_ne, bne_eq_false_iff_eq, Bool.not_eq_true', Bool.not_eq_false', Bool.and_eq_true, Bool.or_eq_true, Bool.or_eq_false_iff, ne_eq, Decidable.not_not, Int.not_lt, Int.not_le] at c1
    refine zak ?_
    refine zaf ?_
    refine zal ?_
    refine zaf ?_
    refine zad ?_
    refine zab rfl rfl rfl (zac (.inr rfl) (ev1 rfl)) ?_
    refine zae ?_
    refine zaf ?_
    refine zad ?_
    refine zab rfl rfl rfl (op_fa rfl fo98_0 (ev1 rfl)) ?_
    refine zab rfl rfl rfl (zam rfl tb3 (ev1 rfl) rfl rfl) ?_
    refine zab rfl rfl rfl (zac (.inr rfl) (ev1 rfl)) ?_
    refine zae ?_
    refine zal ?_
    refine dwp_loopS ⟨hs0, rfl⟩ (α := Nat) (fun x => [(7, .val (.bool (opnS (rowK X Y w pts (y * w + x)) ⟨X + ((x : Nat) : Int), Y + (y : Int)⟩))), (8, .val (.int .i64 (X + (x : Int))))]) [(1, _), (2, _), (5, _), (6, _)] (fun x => [(3, .arr 53 3 (rowK X Y w pts (y * w + x)).length ((rowK X Y w pts (y * w + x)).flatMap s3))]) [_, _, _, .hole] (fun x => x ≤ w) (fun x => w - x) 0 [0, 1, 2, 3] (Nat.zero_le _) rfl ⟨rfl, rfl, rfl, rfl, trivial⟩ ⟨congrArg (fun z => some (D.val (.bool z))) ((opn_first' hw.1 pts).symm), congrArg (fun z => some (D.val (.int .i64 z))) (by first | rfl | omega), trivial⟩ ⟨arxg_fits (by first | rfl | omega) rfl (fun _ => rfl), rfl, rfl, (by rw [Nat.add_zero]; rfl), trivial⟩ ?_
    intro x hx
    simp only [upd, zaa, za, List.cons_append, List.nil_append]
    have hx0 := hx
    have hrl := rowK_len (X := X) (Y := Y) (w := w) pts (y * w + x)
    have hyw2 : (y + 1) * w ≤ h * w := Nat.mul_le_mul_right _ (by omega)
    rw [Nat.succ_mul] at hyw2
    refine zaf ?_
    refine zaf ?_
    refine zad ?_
    refine zab rfl rfl rfl (zac (.inl rfl) (ev1 rfl)) ?_
    refine zab rfl rfl rfl (op_fa rfl fo98_2 (ev1 rfl)) ?_
    refine zab rfl rfl rfl (zam rfl tb3 (ev1 rfl) rfl rfl) ?_
    refine zab rfl rfl rfl (op_leq rfl (ev1 rfl) (ev1 rfl)) ?_
    refine zae ?_
    refine dwp_cond rfl (fun c2 => ?_) (fun c2 => ?_)
    · try simp only [decide_eq_true_eq, decide_eq_false_iff_not, beq_iff_eq, bne_iff_ne, beq_eq_false_iff_ne, bne_eq_false_iff_eq, Bool.not_eq_true', Bool.not_eq_false', Bool.and_eq_true, Bool.or_eq_true, Bool.or_eq_false_iff, ne_eq, Decidable.not_not, Int.not_lt, Int.not_le] at c2
      refine zak ?_
      refine zaf ?_
      refine zal ?_
      refine zaf ?_
      refine zaf ?_
      have hxw : x < w := by omega
      have hyh : y < h := by omega
      have hend := rowK_end (X := X) (Y := Y) (y := y) hxw pts
      refine dwp_draw [([], []), ([], []), ([], []), ([2], []), ([], []), ([0], []), ([0], []), ([], []), ([], []), ([2], []), ([], []), ([1], []), ([1], []), ([], [])] mixed (by kernel_rfl) ?_
      refine zag rfl rfl (zac (.inl rfl) (ev1 rfl)) ?_
      refine zag rfl rfl (zac (.inl rfl) (ev1 rfl)) ?_
      refine zag rfl rfl (op_fa rfl fo98_1 (ev1 rfl)) ?_
      refine zag rfl rfl (zam rfl tb3 (ev1 rfl) rfl rfl) ?_
      refine zag rfl rfl (op_sub' rfl (ev1 rfl) (ev1 rfl) (fun _ => IntWalk.i64_in _ (by omega))) ?_
      refine zag rfl rfl (op_ixx (y) rfl sl99 (ev1 rfl) (ev1 rfl) rfl (fun _ => by omega) (fun _ => by omega)) ?_
      refine zag rfl rfl (op_ldx rfl tb100 (ev1 rfl) rfl (names_rng hyh)) ?_
      refine zag rfl rfl (zac (.inl rfl) (ev1 rfl)) ?_
      refine zag rfl rfl (op_fa rfl fo98_0 (ev1 rfl)) ?_
      refine zag rfl rfl (zam rfl tb3 (ev1 rfl) rfl rfl) ?_
      refine zag rfl rfl (op_sub' rfl (ev1 rfl) (ev1 rfl) (fun _ => IntWalk.i64_in _ (by omega))) ?_
      refine zag rfl rfl (op_ixf (x) rfl sl100 (ev1 rfl) (ev1 rfl) rfl (fmF_at hyh) (fun _ => by omega) (fun _ => by omega)) ?_
      refine zag rfl rfl (op_ldfe rfl tb4 (ev1 rfl) rfl (fmF_at hyh) (fun _ => rfl) ((by rw [rowN_len]; exact hxw)) rfl) ?_
      refine zag rfl rfl (op_not rfl (ev1 rfl)) ?_
      refine lex_nil ?_
      refine dwp_cond rfl (fun c3 => ?_) (fun c3 => ?_)
      · rw [rowN_get] at c3
        have hin : inF pts (⟨X + (x : Int), Y + (y : Int)⟩ : P2) = false := by unfold inF; simpa using c3
        refine zaf ?_
        refine zad ?_
        refine zab rfl rfl rfl (zac (.inr rfl) (ev1 rfl)) ?_
        refine zae ?_
        refine dwp_exit ?_
        refine zad ?_
        refine zab rfl rfl rfl (zac (.inl rfl) (ev1 rfl)) ?_
        refine zab rfl rfl rfl (op_add' rfl (ev1 rfl) (ev1 rfl) (fun _ => IntWalk.i64_in _ (by omega))) ?_
        refine zab rfl rfl rfl (zac (.inr rfl) (ev1 rfl)) ?_
        refine zae ?_
        refine ⟨x + 1, [0, 1, 2, 3], by omega, by simp only []; omega, rfl, ⟨congrArg (fun z => some (D.val (.bool z))) (by rw [rowK_no hxw hin]; exact (opn_no (q := ⟨X + ((x + 1 : Nat) : Int), Y + (y : Int)⟩) hend rfl (show X + ((x + 1 : Nat) : Int) = X + (x : Int) + 1 by omega)).symm), congrArg (fun z => some (D.val (.int .i64 z))) (by first | rfl | omega), rfl, rfl, rfl, rfl, trivial⟩, ⟨arxg_fits (by first | rfl | omega) rfl (fun _ => rfl), rfl, rfl, (by rw [rowK_no hxw hin]; rfl), trivial⟩⟩
      · rw [rowN_get] at c3
        have hin : inF pts (⟨X + (x : Int), Y + (y : Int)⟩ : P2) = true := by unfold inF; simpa using c3
        refine zak ?_
        refine zaf ?_
        refine zaf ?_
        refine zad ?_
        refine zab rfl rfl rfl (zac (.inl rfl) (ev1 rfl)) ?_
        refine zab rfl rfl rfl (op_not rfl (ev1 rfl)) ?_
        refine zae ?_
        refine dwp_cond rfl (fun c4 => ?_) (fun c4 => ?_)
        · have hop : opnS (rowK X Y w pts (y * w + x)) (⟨X + (x : Int), Y + (y : Int)⟩ : P2) = false := by simpa using c4
          have hL1 : ((rowK X Y w pts (y * w + x)) ++ [pt1 (⟨X + (x : Int), Y + (y : Int)⟩ : P2)]).length = (rowK X Y w pts (y * w + x)).length + 1 := by simp
          refine zai 1 (by simp only [holes, List.cons_append, List.nil_append]; exact rfl) ?_
          refine zad ?_
          refine zab rfl rfl rfl (zac (.inl rfl) (ev1 rfl)) ?_
          refine zab rfl rfl rfl (zac (.inl rfl) (ev1 rfl)) ?_
          refine zab rfl rfl rfl (zac (.inl rfl) (ev1 rfl)) ?_
          refine zab rfl rfl rfl (zac (.inl rfl) (ev1 rfl)) ?_
          refine zab rfl rfl rfl (op_build (ps := [(0, .tmp 42), (1, .tmp 43), (2, .tmp 44)]) rfl fl53 zr53 (vc (ev1 rfl) (vc (ev1 rfl) (vc (ev1 rfl) vn))) rfl rfl) ?_
          refine zab rfl rfl rfl (op_bs (ps := [(0, .tmp 45)]) rfl sl35 zr53 rfl (vc (ev1 rfl) vn) rfl (by decide) (by decide)) ?_
          refine zaj rfl rfl rfl (op_app (j := 4) rfl sl35 zr53 rfl (ev1 rfl) (ev1 rfl) src_slf rfl rfl (fun _ => rfl) (fun _ => ⟨by omega, by omega⟩)) (by simp only [upd, zaa, za]; exact rfl) ?_
          refine zab rfl rfl rfl (zac (.inr rfl) (ev1 rfl)) ?_
          refine zae ?_
          refine zaf ?_
          refine dwp_reb 4 (reb_eq (k' := .arr 53 3 ((rowK X Y w pts (y * w + x)) ++ [pt1 (⟨X + (x : Int), Y + (y : Int)⟩ : P2)]).length (((rowK X Y w pts (y * w + x)) ++ [pt1 (⟨X + (x : Int), Y + (y : Int)⟩ : P2)]).flatMap s3)) (by rw [List.length_append, List.flatMap_append]; rfl)) rfl rfl (by simp only [List.cons_append, List.nil_append, zaa, za, List.map]; exact rfl) ?_
          refine zad ?_
          refine zab rfl rfl rfl (zac (.inl rfl) (ev1 rfl)) ?_
          refine zab rfl rfl rfl (zac (.inl rfl) (ev1 rfl)) ?_
          refine zab rfl rfl rfl (op_lena rfl sl35 (ev1 rfl) rfl) ?_
          refine zab rfl rfl rfl (op_sub' rfl (ev1 rfl) (ev1 rfl) (fun _ => IntWalk.i64_in _ (by omega))) ?_
          refine zab rfl rfl rfl (zac (.inl rfl) (ev1 rfl)) ?_
          refine zab rfl rfl rfl (op_ixar (j := ((rowK X Y w pts (y * w + x)) ++ [pt1 (⟨X + (x : Int), Y + (y : Int)⟩ : P2)]).length - 1) rfl sl35 (ev1 rfl) (ev1 rfl) rfl (fun _ => by omega) (fun _ => by omega)) ?_
          refine zab rfl rfl rfl (op_faa rfl fo53_2 (ev1 rfl)) ?_
          refine walk_s rfl rfl (op_staf (j := ((rowK X Y w pts (y * w + x)) ++ [pt1 (⟨X + (x : Int), Y + (y : Int)⟩ : P2)]).length - 1) (c := 2) (zSp) (⟨(lastS ((rowK X Y w pts (y * w + x)) ++ [pt1 (⟨X + (x : Int), Y + (y : Int)⟩ : P2)])).y, (lastS ((rowK X Y w pts (y * w + x)) ++ [pt1 (⟨X + (x : Int), Y + (y : Int)⟩ : P2)])).f, X + (x : Int)⟩) rfl tb3 (ev1 rfl) (ev1 rfl) rfl rfl rfl rfl (fun _ => rfl) (fun _ => by omega) (Nat.le_of_ble_eq_true rfl) rfl) (by simp only [upd, zaa, za]; exact rfl) ?_
          refine zae ?_
          refine zad ?_
          refine zab rfl rfl rfl (zac (.inr rfl) (ev1 rfl)) ?_
          refine zae ?_
          refine zad ?_
          refine zab rfl rfl rfl (zac (.inl rfl) (ev1 rfl)) ?_
          refine zab rfl rfl rfl (op_add' rfl (ev1 rfl) (ev1 rfl) (fun _ => IntWalk.i64_in _ (by omega))) ?_
          refine zab rfl rfl rfl (zac (.inr rfl) (ev1 rfl)) ?_
          refine zae ?_
          refine ⟨x + 1, [0, 1, 2, 4], by omega, by simp only []; omega, rfl, ⟨congrArg (fun z => some (D.val (.bool z))) (by rw [rowK_yes hxw hin]; exact (opn_merge (q := ⟨X + ((x + 1 : Nat) : Int), Y + (y : Int)⟩) hend rfl (show X + ((x + 1 : Nat) : Int) = X + (x : Int) + 1 by omega)).symm), congrArg (fun z => some (D.val (.int .i64 z))) (by first | rfl | omega), rfl, rfl, rfl, rfl, trivial⟩, ⟨arxg_fits (by first | rfl | omega) rfl (fun _ => rfl), rfl, rfl, (by rw [rowK_yes hxw hin, ← row_set1 hend hop, List.length_set]; rfl), trivial⟩⟩
        · have hop : opnS (rowK X Y w pts (y * w + x)) (⟨X + (x : Int), Y + (y : Int)⟩ : P2) = true := by simpa using c4
          have hpos : 0 < (rowK X Y w pts (y * w + x)).length := by obtain ⟨l, a, e, _⟩ := opn_last hop; rw [e]; simp
          refine zak ?_
          refine zaf ?_
          refine zad ?_
          refine zab rfl rfl rfl (zac (.inl rfl) (ev1 rfl)) ?_
          refine zab rfl rfl rfl (zac (.inl rfl) (ev1 rfl)) ?_
          refine zab rfl rfl rfl (op_lena rfl sl35 (ev1 rfl) rfl) ?_
          refine zab rfl rfl rfl (op_sub' rfl (ev1 rfl) (ev1 rfl) (fun _ => IntWalk.i64_in _ (by omega))) ?_
          refine zab rfl rfl rfl (zac (.inl rfl) (ev1 rfl)) ?_
          refine zab rfl rfl rfl (op_ixar (j := (rowK X Y w pts (y * w + x)).length - 1) rfl sl35 (ev1 rfl) (ev1 rfl) rfl (fun _ => by first | rfl | omega) (fun _ => by omega)) ?_
          refine zab rfl rfl rfl (op_faa rfl fo53_2 (ev1 rfl)) ?_
          refine walk_s rfl rfl (op_staf (j := (rowK X Y w pts (y * w + x)).length - 1) (c := 2) (zSp) (⟨(lastS (rowK X Y w pts (y * w + x))).y, (lastS (rowK X Y w pts (y * w + x))).f, X + (x : Int)⟩) rfl tb3 (ev1 rfl) (ev1 rfl) rfl rfl rfl rfl (fun _ => rfl) (fun _ => by omega) (Nat.le_of_ble_eq_true rfl) rfl) (by simp only [upd, zaa, za]; exact rfl) ?_
          refine zae ?_
          refine zad ?_
          refine zab rfl rfl rfl (zac (.inr rfl) (ev1 rfl)) ?_
          refine zae ?_
          refine zad ?_
          refine zab rfl rfl rfl (zac (.inl rfl) (ev1 rfl)) ?_
          refine zab rfl rfl rfl (op_add' rfl (ev1 rfl) (ev1 rfl) (fun _ => IntWalk.i64_in _ (by omega))) ?_
          refine zab rfl rfl rfl (zac (.inr rfl) (ev1 rfl)) ?_
          refine zae ?_
          refine ⟨x + 1, [0, 1, 2, 3], by omega, by simp only []; omega, rfl, ⟨congrArg (fun z => some (D.val (.bool z))) (by rw [rowK_yes hxw hin]; exact (opn_merge (q := ⟨X + ((x + 1 : Nat) : Int), Y + (y : Int)⟩) hend rfl (show X + ((x + 1 : Nat) : Int) = X + (x : Int) + 1 by omega)).symm), congrArg (fun z => some (D.val (.int .i64 z))) (by first | rfl | omega), rfl, rfl, rfl, rfl, trivial⟩, ⟨arxg_fits (by first | rfl | omega) rfl (fun _ => rfl), rfl, rfl, (by rw [rowK_yes hxw hin, ← row_set2 hop, List.length_set]; rfl), trivial⟩⟩
    · try simp only [decide_eq_true_eq, decide_eq_false_iff_not, beq_iff_eq, bne_iff_ne, beq_eq_false_iff_ne, bne_eq_false_iff_eq, Bool.not_eq_true', Bool.not_eq_false', Bool.and_eq_true, Bool.or_eq_true, Bool.or_eq_false_iff, ne_eq, Decidable.not_not, Int.not_lt, Int.not_le] at c2
      refine dwp_exit ?_
      refine zad ?_
      refine zab rfl rfl rfl (zac (.inl rfl) (ev1 rfl)) ?_
      refine zab rfl rfl rfl (op_add' rfl (ev1 rfl) (ev1 rfl) (fun _ => IntWalk.i64_in _ (by omega))) ?_
      refine zab rfl rfl rfl (zac (.inr rfl) (ev1 rfl)) ?_
      refine zae ?_
      obtain rfl : x = w := by omega
      refine ⟨y + 1, [0, 1, 2, 3], by omega, by simp only []; omega, rfl, ⟨congrArg (fun z => some (D.val (.int .i64 z))) (by first | rfl | omega), rfl, rfl, rfl, trivial⟩, ⟨arxg_fits (by first | rfl | omega) rfl (fun _ => rfl), rfl, rfl, (by rw [Nat.succ_mul]; rfl), trivial⟩⟩
  · try simp only [decide_eq_true_eq, decide_eq_false_iff_not, beq_iff_eq, bne_iff_ne, beq_eq_false_iff_ne, bne_eq_false_iff_eq, Bool.not_eq_true', Bool.not_eq_false', Bool.and_eq_true, Bool.or_eq_true, Bool.or_eq_false_iff, ne_eq, Decidable.not_not, Int.not_lt, Int.not_le] at c1
    refine dwp_exit ?_
    refine zaf ?_
    refine zad ?_
    refine zab rfl rfl rfl (zac (.inl rfl) (ev1 rfl)) ?_
    refine zab rfl rfl rfl (zac (.inr rfl) (ev1 rfl)) ?_
    refine zae ?_
    refine zao ?_
    obtain rfl : y = h := by omega
    refine kend [0, 1, 3] (rs1 rfl (rv_t rfl)) rfl rfl ?_ ⟨?_, ?_, ?_, trivial⟩
    rfl
    all_goals first | exact rfl | exact arxg_fits (by first | rfl | omega) rfl (fun _ => rfl)
end Go.Proofs.Ytfnhckildfbikaa
namespace Go.Proofs.Ytfnhckildfbikaa
set_option maxRecDepth 4000
set_option linter.unusedVariables false
set_option linter.unusedSimpArgs false
open Go.RowKit
theorem getC_put {w h : Int} {us : List TL} {d : Dt} (hc : CvOk w h us) (ho : onS w h d.x d.y = true) : getC w (putC w h us d) d.x d.y = d.c := by
  have hp := hc.pl ho
  have hq := (on_pl hc.may ho).2.2.2
  unfold getC putC
  rw [if_pos ho, tl_at (by simpa using hp), List.getElem_set_self]
  unfold TL.get TL.set
  rw [List.getD_eq_getElem?_getD, List.getElem?_set_self (by rw [TL.h]; exact hq)]
  rfl
def lastF (x y : Int) (l : List Dt) : C4 × Bool := l.foldl (fun s d => if d.x = x ∧ d.y = y then (d.c, true) else s) (zC4, false)
theorem lastF_add {x y : Int} {l : List Dt} {k : Nat} (h : k < l.length) : lastF x y (l.take (k + 1)) = if l[k].x = x ∧ l[k].y = y then (l[k].c, true) else lastF x y (l.take k) := by
  rw [List.take_succ_eq_append_getElem h, lastF, List.foldl_append]; rfl
theorem pl_inj {w h x y x2 y2 : Int} (hm : mayS w h = true) (ho : onS w h x y = true) (ho2 : onS w h x2 y2 = true) (h1 : plN w x y = plN w x2 y2) : x / 8 = x2 / 8 ∧ y / 8 = y2 / 8 := by
  have hb := mayS_b hm
  have e1 := (on_pl hm ho).1
  have e2 := (on_pl hm ho2).1
  have g1 := onS_iff.1 ho
  have g2 := onS_iff.1 ho2
  rw [h1] at e1
  have hw : w = 1 ∨ w = 2 ∨ w = 3 ∨ w = 4 := by omega
  rcases hw with rfl | rfl | rfl | rfl <;> omega
theorem px_inj {w h x y x2 y2 : Int} (hm : mayS w h = true) (ho : onS w h x y = true) (ho2 : onS w h x2 y2 = true) (h1 : plN w x y = plN w x2 y2) (h2 : pxN x y = pxN x2 y2) : x = x2 ∧ y = y2 := by
  have e1 := (on_pl hm ho).2.2.1
  have e2 := (on_pl hm ho2).2.2.1
  have e3 := pl_inj hm ho ho2 h1
  rw [h2] at e1
  omega
theorem getC_putne {w h x y : Int} {us : List TL} {d : Dt} (hc : CvOk w h us) (ho : onS w h x y = true) (hne : ¬ (d.x = x ∧ d.y = y)) : getC w (putC w h us d) x y = getC w us x y := by
  unfold putC
  split
  · rename_i hd
    unfold getC
    by_cases e : plN w d.x d.y = plN w x y
    · have e2 : pxN d.x d.y ≠ pxN x y := fun e2 => hne (px_inj hc.may hd ho e e2)
      have hp := hc.pl ho
      rw [e, tl_at (by simpa using hp), List.getElem_set_self]
      unfold TL.get TL.set
      rw [List.getD_eq_getElem?_getD, List.getElem?_set_ne e2, ← List.getD_eq_getElem?_getD]
    · rw [List.getD_eq_getElem?_getD, List.getElem?_set_ne e, ← List.getD_eq_getElem?_getD]
  · rfl
theorem getC_puts {w h x y : Int} {us : List TL} (hc : CvOk w h us) (ho : onS w h x y = true) (l : List Dt) : getC w (putsC w h us l) x y = if (lastF x y l).2 = true then (lastF x y l).1 else getC w us x y := by
  have key : ∀ k, k ≤ l.length → getC w (putsC w h us (l.take k)) x y = if (lastF x y (l.take k)).2 = true then (lastF x y (l.take k)).1 else getC w us x y := fun k => by
    induction k with
    | zero => intro _; rfl
    | succ k ih =>
      intro hk
      rw [putsC_take (by omega), lastF_add (by omega)]
      by_cases hd : l[k].x = x ∧ l[k].y = y
      · rw [if_pos hd]
        obtain ⟨rfl, rfl⟩ := hd
        rw [getC_put (hc.puts _) ho]
        rfl
      · rw [if_neg hd, getC_putne (hc.puts _) ho hd, ih (by omega)]
  have := key l.length (Nat.le_refl _)
  rwa [List.take_length] at this
theorem lastG_no {x y : Int} : ∀ {l : List Dt} (s : C4 × Bool), (∀ d ∈ l, ¬ (d.x = x ∧ d.y = y)) → l.foldl (fun s d => if d.x = x ∧ d.y = y then (d.c, true) else s) s = s
  | [], _, _ => rfl
  | d :: l, s, h => by rw [List.foldl_cons, if_neg (h d (by simp))]; exact lastG_no s fun e he => h e (List.mem_cons_of_mem _ he)
theorem lastG_yes {x y : Int} {c : C4} : ∀ {l : List Dt} (s : C4 × Bool), (∃ d ∈ l, d.x = x ∧ d.y = y) → (∀ d ∈ l, d.x = x ∧ d.y = y → d.c = c) → l.foldl (fun s d => if d.x = x ∧ d.y = y then (d.c, true) else s) s = (c, true)
  | [], _, h, _ => by obtain ⟨d, hd, _⟩ := h; cases hd
  | d :: l, s, h, hc => by
    rw [List.foldl_cons]
    by_cases hl : ∃ d ∈ l, d.x = x ∧ d.y = y
    · exact lastG_yes _ hl fun e he => hc e (List.mem_cons_of_mem _ he)
    · rw [lastG_no _ fun e he k => hl ⟨e, he, k⟩]
      obtain ⟨e, he, k⟩ := h
      rcases List.mem_cons.1 he with rfl | he
      · rw [if_pos k, hc e (by simp) k]
      · exact absurd ⟨e, he, k⟩ hl
theorem lastF_no {x y : Int} {l : List Dt} (h : ∀ d ∈ l, ¬ (d.x = x ∧ d.y = y)) : lastF x y l = (zC4, false) := lastG_no _ h
theorem lastF_yes {x y : Int} {c : C4} {l : List Dt} (he : ∃ d ∈ l, d.x = x ∧ d.y = y) (hc : ∀ d ∈ l, d.x = x ∧ d.y = y → d.c = c) : lastF x y l = (c, true) := lastG_yes _ he hc
theorem cv_ext {w h : Int} {ts us : List TL} (hc : CvOk w h ts) (hd : CvOk w h us) (he : ∀ x y, onS w h x y = true → getC w ts x y = getC w us x y) : ts = us := by
  have hb := mayS_b hc.may
  have : sameF w h ts us = true := by
    unfold sameF allEq
    refine List.all_eq_true.2 fun y hy => ?_
    unfold rowEq
    refine List.all_eq_true.2 fun x hx => ?_
    have h1 := List.mem_range.1 hy
    have h2 := List.mem_range.1 hx
    exact decide_eq_true (he _ _ (onS_iff.2 ⟨by omega, by omega⟩))
  rw [sameF_iff hc hd] at this
  simpa using this
end Go.Proofs.Ytfnhckildfbikaa
namespace Go.Proofs.Ytfnhckildfbikaa
set_option maxRecDepth 4000
set_option linter.unusedVariables false
set_option linter.unusedSimpArgs false
open Go.RowKit
attribute [local irreducible] zFD srL goF bfsF
attribute [local irreducible] spF spN
set_option maxRecDepth 4000 in
set_option maxHeartbeats 1000000 in
theorem region_0 (p : P2) (tol : Int) : DFun Try.prog 9 [.val (.pointer none), .val (.agg #[.int .i64 p.x, .int .i64 p.y]), .val (.int .i64 tol)] [] (.tup [.val (.slice none 0 0), .val (.int .i64 1)]) [] := by
  refine zan (N := 26) 0 (by kernel_rfl) Try.func9 rfl rfl rfl (by simp only [fr0, Nat.zero_add, Nat.reduceAdd]; exact rfl) rfl fun s0 hs0 => ?_
  refine zaf ?_
  refine zai 1 (by simp only [holes, List.cons_append, List.nil_append]; exact rfl) ?_
  refine zad ?_
  refine zaj rfl rfl rfl (op_boxa 0 rfl (ev1 rfl) rfl) (by simp only [upd, zaa, za]; exact rfl) ?_
  refine zab rfl rfl rfl (zac (.inr rfl) (ev1 rfl)) ?_
  refine zab rfl rfl rfl (zac (.inr rfl) (ev1 rfl)) ?_
  refine zae ?_
  refine zaf ?_
  refine zaf ?_
  refine zad ?_
  refine zab rfl rfl rfl (zac (.inl rfl) (ev1 rfl)) ?_
  refine zab rfl rfl rfl (zac (.inl rfl) (ev1 rfl)) ?_
  refine zab rfl rfl rfl (op_bs (ps := [(0, .tmp 11)]) rfl sl55 zr3 rfl (vc (ev1 rfl) vn) rfl (by decide) (by decide)) ?_
  refine zab rfl rfl rfl (op_ldw rfl tb34 (ev1 rfl) rfl rfl) ?_
  refine zab rfl rfl rfl (op_bs (ps := [(0, .tmp 13)]) rfl sl64 zr34 rfl (vc (ev1 rfl) vn) rfl (by decide) (by decide)) ?_
  refine zab rfl rfl rfl (zah [] [] [] rfl (ev1 rfl) (ec (ev1 rfl) (ec (ev1 rfl) (ec (ev1 rfl) en))) rfl rfl (refuse_0 [tol] [p]) rfl rfl rfl rfl rfl rfl) ?_
  refine zab rfl rfl rfl (zac (.inr rfl) (ev1 rfl)) ?_
  refine zae ?_
  refine zaf ?_
  refine zad ?_
  refine zab rfl rfl rfl (zac (.inl rfl) (ev1 rfl)) ?_
  refine zab rfl rfl rfl (op_neq rfl (ev1 rfl) (ev1 rfl)) ?_
  refine zae ?_
  refine dwp_if_t rfl (rfl) ?_
  refine zaf ?_
  refine zad ?_
  refine zab rfl rfl rfl (zac (.inl rfl) (ev1 rfl)) ?_
  refine zab rfl rfl rfl (zac (.inr rfl) (ev1 rfl)) ?_
  refine zab rfl rfl rfl (zac (.inr rfl) (ev1 rfl)) ?_
  refine zae ?_
  refine zao ?_
  refine kend0 (rs2 rfl (rv_t rfl) (rv_t rfl)) rfl ?_
  rfl
set_option maxRecDepth 4000 in
set_option maxHeartbeats 1000000 in
theorem fill_n (w h : Int) (ds : List D) (ts : List TL) (hr : RowOk ds ts) (hc : CvOk w h ts) (hg : tsRng ts) (p : P2) (tol : Int) (c : C4) (h0 : (refE w h [tol] [p]) ≠ 0) : DFun Try.prog 10 [cvD w h ds, .val (.agg #[.int .i64 p.x, .int .i64 p.y]), .val (.int .i64 tol), .val (.agg (c4 c).toArray)] [] (.tup [.val (.pointer none), .val (.int .i64 (refE w h [tol] [p]))]) [] := by
  refine zan (N := 31) 0 (by kernel_rfl) Try.func10 rfl rfl rfl (by simp only [fr0, Nat.zero_add, Nat.reduceAdd]; exact rfl) rfl fun s0 hs0 => ?_
  refine zaf ?_
  refine zai 2 (by simp only [holes, List.cons_append, List.nil_append]; exact rfl) ?_
  refine zad ?_
  refine zaj rfl rfl rfl (op_boxa 0 rfl (ev1 rfl) rfl) (by simp only [upd, zaa, za]; exact rfl) ?_
  refine zaj rfl rfl rfl (op_boxa 1 rfl (ev1 rfl) rfl) (by simp only [upd, zaa, za]; exact rfl) ?_
  refine zab rfl rfl rfl (zac (.inr rfl) (ev1 rfl)) ?_
  refine zab rfl rfl rfl (zac (.inr rfl) (ev1 rfl)) ?_
  refine zae ?_
  refine zaf ?_
  refine zaf ?_
  refine zad ?_
  refine zab rfl rfl rfl (zac (.inl rfl) (ev1 rfl)) ?_
  refine zab rfl rfl rfl (zac (.inl rfl) (ev1 rfl)) ?_
  refine zab rfl rfl rfl (op_bs (ps := [(0, .tmp 13)]) rfl sl55 zr3 rfl (vc (ev1 rfl) vn) rfl (by decide) (by decide)) ?_
  refine zab rfl rfl rfl (op_ldw rfl tb34 (ev1 rfl) rfl rfl) ?_
  refine zab rfl rfl rfl (op_bs (ps := [(0, .tmp 15)]) rfl sl64 zr34 rfl (vc (ev1 rfl) vn) rfl (by decide) (by decide)) ?_
  refine zab rfl rfl rfl (zah [] [] [] rfl (ev1 rfl) (ec (ev1 rfl) (ec (ev1 rfl) (ec (ev1 rfl) en))) rfl rfl (refuse_d w h ds ts hr hc [tol] [p]) rfl rfl rfl rfl rfl rfl) ?_
  refine zab rfl rfl rfl (zac (.inr rfl) (ev1 rfl)) ?_
  refine zae ?_
  refine zaf ?_
  refine zad ?_
  refine zab rfl rfl rfl (zac (.inl rfl) (ev1 rfl)) ?_
  refine zab rfl rfl rfl (op_neq rfl (ev1 rfl) (ev1 rfl)) ?_
  refine zae ?_
  refine dwp_if_t rfl (by simpa using h0) ?_
  refine zaf ?_
  refine zad ?_
  refine zab rfl rfl rfl (zac (.inl rfl) (ev1 rfl)) ?_
  refine zab rfl rfl rfl (zac (.inr rfl) (ev1 rfl)) ?_
  refine zab rfl rfl rfl (zac (.inr rfl) (ev1 rfl)) ?_
  refine zae ?_
  refine zao ?_
  refine kend0 (rs2 rfl (rv_t rfl) (rv_t rfl)) rfl ?_
  rfl
set_option maxRecDepth 4000 in
set_option maxHeartbeats 1000000 in
theorem fill_0 (p : P2) (tol : Int) (c : C4) : DFun Try.prog 10 [.val (.pointer none), .val (.agg #[.int .i64 p.x, .int .i64 p.y]), .val (.int .i64 tol), .val (.agg (c4 c).toArray)] [] (.tup [.val (.pointer none), .val (.int .i64 1)]) [] := by
  refine zan (N := 31) 0 (by kernel_rfl) Try.func10 rfl rfl rfl (by simp only [fr0, Nat.zero_add, Nat.reduceAdd]; exact rfl) rfl fun s0 hs0 => ?_
  refine zaf ?_
  refine zai 2 (by simp only [holes, List.cons_append, List.nil_append]; exact rfl) ?_
  refine zad ?_
  refine zaj rfl rfl rfl (op_boxa 0 rfl (ev1 rfl) rfl) (by simp only [upd, zaa, za]; exact rfl) ?_
  refine zaj rfl rfl rfl (op_boxa 1 rfl (ev1 rfl) rfl) (by simp only [upd, zaa, za]; exact rfl) ?_
  refine zab rfl rfl rfl (zac (.inr rfl) (ev1 rfl)) ?_
  refine zab rfl rfl rfl (zac (.inr rfl) (ev1 rfl)) ?_
  refine zae ?_
  refine zaf ?_
  refine zaf ?_
  refine zad ?_
  refine zab rfl rfl rfl (zac (.inl rfl) (ev1 rfl)) ?_
  refine zab rfl rfl rfl (zac (.inl rfl) (ev1 rfl)) ?_
  refine zab rfl rfl rfl (op_bs (ps := [(0, .tmp 13)]) rfl sl55 zr3 rfl (vc (ev1 rfl) vn) rfl (by decide) (by decide)) ?_
  refine zab rfl rfl rfl (op_ldw rfl tb34 (ev1 rfl) rfl rfl) ?_
  refine zab rfl rfl rfl (op_bs (ps := [(0, .tmp 15)]) rfl sl64 zr34 rfl (vc (ev1 rfl) vn) rfl (by decide) (by decide)) ?_
  refine zab rfl rfl rfl (zah [] [] [] rfl (ev1 rfl) (ec (ev1 rfl) (ec (ev1 rfl) (ec (ev1 rfl) en))) rfl rfl (refuse_0 [tol] [p]) rfl rfl rfl rfl rfl rfl) ?_
  refine zab rfl rfl rfl (zac (.inr rfl) (ev1 rfl)) ?_
  refine zae ?_
  refine zaf ?_
  refine zad ?_
  refine zab rfl rfl rfl (zac (.inl rfl) (ev1 rfl)) ?_
  refine zab rfl rfl rfl (op_neq rfl (ev1 rfl) (ev1 rfl)) ?_
  refine zae ?_
  refine dwp_if_t rfl (rfl) ?_
  refine zaf ?_
  refine zad ?_
  refine zab rfl rfl rfl (zac (.inl rfl) (ev1 rfl)) ?_
  refine zab rfl rfl rfl (zac (.inr rfl) (ev1 rfl)) ?_
  refine zab rfl rfl rfl (zac (.inr rfl) (ev1 rfl)) ?_
  refine zae ?_
  refine zao ?_
  refine kend0 (rs2 rfl (rv_t rfl) (rv_t rfl)) rfl ?_
  rfl
end Go.Proofs.Ytfnhckildfbikaa
namespace Go.Proofs.Ytfnhckildfbikaa
set_option maxRecDepth 4000
set_option linter.unusedVariables false
set_option linter.unusedSimpArgs false
open Go.RowKit
attribute [local irreducible] zFD srL goF bfsF
attribute [local irreducible] spF spN prK
theorem nearB_zero (w : Int) (ts : List TL) (tol : Int) (c : C4) : nearB w ts tol c zFD = nearP w ts tol c := by
  funext q
  unfold nearB
  rw [zFD_at]; rfl
theorem grF_zero (w h : Int) (ts : List TL) (tol : Int) (p : P2) : grF w h ts tol zFD p = rgF w h ts tol p := by unfold grF rgF; rw [nearB_zero]
end Go.Proofs.Ytfnhckildfbikaa
namespace Go.Proofs.Ytfnhckildfbikaa
set_option maxRecDepth 4000
set_option linter.unusedVariables false
set_option linter.unusedSimpArgs false
open Go.RowKit
attribute [local irreducible] zFD srL goF bfsF
attribute [local irreducible] spF spN prK
theorem fl98 : fdL Try.prog 98 = some [(0, 1), (1, 1), (2, 1), (3, 1)] := by kernel_rfl
theorem tb98 : tyB Try.prog 98 = some (true, 4) := by kernel_rfl
theorem zr100 : zrC Try.prog 100 = some [.slice none 0 0] := by kernel_rfl
theorem zr98 : zrC Try.prog 98 = some [.int .i64 0, .int .i64 0, .int .i64 0, .int .i64 0] := by kernel_rfl
theorem walk_absn {P : Program} {s0 : St} {n : Cx} {ops : Array Oper} {l : List Oper} {F : Fr} {M M' : List Blk} {K : Cont} (t f : Nat) {j : Nat} {e : TypeId} {sz m : Nat} {L : List Value} {Bs : List Mem} (ht : lk F t = some (.arr j)) (hj : M[j]? = some (.arr e sz m L)) (hf : M[f]? = some (.fam Bs)) (hM' : (M.set j .gone).set f (.fam (Bs ++ [.arr e sz m L])) = M') (h : Walk P s0 n ops l ((t, .farr f Bs.length) :: F) M' K) : Walk P s0 n ops l F M K := by
  subst hM'
  exact fun a w hi => h a w (inv_abs hi ht hj hf)
theorem fld_mem {W n i j : Nat} (hi : i < W) : (⟨0 + (i : Int), 0 + (j : Int)⟩ : P2) ∈ fieldN W n 0 0 ↔ j * W + i < n := by
  unfold fieldN
  rw [List.mem_map]
  constructor
  · rintro ⟨k, hk, e⟩
    have hk := List.mem_range.1 hk
    simp only [P2.mk.injEq] at e
    have e1 : k % W = i := by omega
    have e2 : k / W = j := by omega
    have := Nat.div_add_mod k W
    rw [e1, e2, Nat.mul_comm] at this
    omega
  · intro h
    refine ⟨j * W + i, List.mem_range.2 h, ?_⟩
    rw [Nat.mul_add_mod_self_right, Nat.mod_eq_of_lt hi, Nat.add_comm (j * W) i, Nat.add_mul_div_right _ _ (by omega), Nat.div_eq_of_lt hi, Nat.zero_add]
theorem gtP_in {B : P2 → Bool} {W n i j : Nat} (hi : i < W) : (⟨0 + (i : Int), 0 + (j : Int)⟩ : P2) ∈ gtP B W n ↔ j * W + i < n ∧ B ⟨0 + (i : Int), 0 + (j : Int)⟩ = true := by
  unfold gtP
  rw [List.mem_filter, fld_mem hi]
theorem at_zero (x y : Nat) : (⟨0 + (x : Int), 0 + (y : Int)⟩ : P2) = atN x y := by unfold atN; rw [Int.zero_add, Int.zero_add]
theorem fmF_row0 {B : P2 → Bool} {W y : Nat} : fmF 0 0 W y (gtP B W (y * W)) ++ [Mem.arr 4 1 W (List.replicate W (Value.bool false))] = fmF 0 0 W (y + 1) (gtP B W (y * W + 0)) := by
  have e : (rowN 0 0 W (gtP B W (y * W)) y).flatMap bV = List.replicate W (Value.bool false) := by
    have e1 : rowN 0 0 W (gtP B W (y * W)) y = List.replicate W false := by
      refine List.eq_replicate_iff.2 ⟨rowN_len .., fun b hb => ?_⟩
      unfold rowN at hb
      obtain ⟨i, hi, rfl⟩ := List.mem_map.1 hb
      refine decide_eq_false fun h => ?_
      have := ((gtP_in (List.mem_range.1 hi)).1 h).1
      omega
    rw [e1, List.flatMap_replicate]
    have : ∀ n, (List.replicate n (bV false)).flatten = List.replicate n (Value.bool false) := fun n => by
      induction n with
      | zero => rfl
      | succ n ih => rw [List.replicate_succ, List.flatten_cons, ih, List.replicate_succ]; rfl
    exact this W
  show _ = fmF 0 0 W (y + 1) (gtP B W (y * W))
  unfold fmF
  rw [List.range_succ, List.map_append, List.map_cons, List.map_nil, e]
theorem fmF_upd {B : P2 → Bool} {W x y : Nat} (hx : x < W) : (fmF 0 0 W (y + 1) (gtP B W (y * W + x))).set y (Mem.arr 4 1 W (((rowN 0 0 W (gtP B W (y * W + x)) y).set x (B (atN x y))).flatMap bV)) = fmF 0 0 W (y + 1) (gtP B W (y * W + (x + 1))) := by
  have hl := rowN_len 0 0 W (gtP B W (y * W + x)) y
  cases hb : B (atN x y) with
  | true => rw [fmF_add (Nat.lt_succ_self y) hx, gtP_yes hx hb, at_zero]
  | false =>
    rw [gtP_no hx hb]
    have hg : (rowN 0 0 W (gtP B W (y * W + x)) y)[x]'(by rw [hl]; exact hx) = false := by
      rw [rowN_get]
      refine decide_eq_false fun h => ?_
      have := ((gtP_in hx).1 h).1
      omega
    have e : (rowN 0 0 W (gtP B W (y * W + x)) y).set x false = rowN 0 0 W (gtP B W (y * W + x)) y := by
      conv => lhs; rw [← hg]
      exact List.set_getElem_self _
    rw [e]
    have h2 := fmF_at (X := 0) (Y := 0) (w := W) (pts := gtP B W (y * W + x)) (Nat.lt_succ_self y)
    obtain ⟨h3, h4⟩ := List.getElem?_eq_some_iff.1 h2
    rw [← h4]
    exact List.set_getElem_self _
def nmG (f y k : Nat) : D := if k < y then .farr f k else .junk
abbrev nmM (f y h : Nat) : List D := (rngN h).flatMap fun k => [nmG f y k]
theorem nmM_eq (f y h : Nat) : nmM f y h = (rngN h).map (nmG f y) := by
  unfold nmM
  induction rngN h with
  | nil => rfl
  | cons a l ih => rw [List.flatMap_cons, ih]; rfl
theorem nmM_len (f y h : Nat) : (nmM f y h).length = h := by rw [nmM_eq, List.length_map, rngN, List.length_range]
theorem nmM_zero (f h : Nat) : nmM f 0 h = List.replicate h .junk := by
  rw [nmM_eq]
  refine List.eq_replicate_iff.2 ⟨by rw [List.length_map, rngN, List.length_range], fun d hd => ?_⟩
  obtain ⟨k, _, rfl⟩ := List.mem_map.1 hd
  exact if_neg (by omega)
theorem nmM_get {f y h k : Nat} (hk : k < h) : (nmM f y h)[k]? = some (nmG f y k) := by rw [nmM_eq, List.getElem?_map, rngN, List.getElem?_range hk]; rfl
theorem nmM_at {f y h k : Nat} (hk : k < h) (hy : k < y) : (nmM f y h)[k * 1]? = some (.farr f k) := by rw [Nat.mul_one, nmM_get hk, nmG, if_pos hy]
theorem nmM_set {f y h : Nat} (hy : y < h) : (nmM f y h).set y (.farr f y) = nmM f (y + 1) h := by
  refine List.ext_getElem? fun k => ?_
  by_cases e : y = k
  · subst e
    rw [List.getElem?_set_self (by rw [nmM_len]; exact hy), nmM_get hy, nmG, if_pos (by omega)]
  · rw [List.getElem?_set_ne e]
    by_cases hk : k < h
    · rw [nmM_get hk, nmM_get hk]
      congr 1
      unfold nmG
      by_cases h1 : k < y
      · rw [if_pos h1, if_pos (by omega)]
      · rw [if_neg h1, if_neg (by omega)]
    · rw [List.getElem?_eq_none (by rw [nmM_len]; omega), List.getElem?_eq_none (by rw [nmM_len]; omega)]
theorem nmM_all (f h : Nat) : nmM f h h = (rngN h).flatMap fun k => [.farr f k] := by
  rw [nmM_eq]
  have e : ((rngN h).flatMap fun k => [D.farr f k]) = (rngN h).map (D.farr f) := by
    induction rngN h with
    | nil => rfl
    | cons a l ih => rw [List.flatMap_cons, ih]; rfl
  rw [e]
  refine List.map_congr_left fun k hk => ?_
  exact if_pos (List.mem_range.1 hk)
theorem nmG_vw {σ : List Nat} {V : Nat → Bool} {M : List Blk} {f g y : Nat} (hp : pos σ f = some g) (k : Nat) : vw σ V M (nmG f y k) = some (nmG g y k) := by
  unfold nmG
  split
  · unfold vw; rw [hp]
  · rfl
theorem rowK_gtS {B : P2 → Bool} {W H : Nat} : rowK 0 0 W (gtP B W (H * W)) (H * W) = gtS B W (H * W) := by
  unfold rowK gtS
  congr 1
  conv => rhs; unfold gtP
  refine List.filter_congr fun p hp => ?_
  unfold inF gtP
  rw [Bool.eq_iff_iff, decide_eq_true_eq, List.mem_filter]
  exact ⟨fun h => h.2, fun h => ⟨hp, h⟩⟩
set_option maxRecDepth 4000 in
set_option maxHeartbeats 1000000 in
theorem rspans_o (w h : Int) (ts : List TL) (hc : CvOk w h ts) (f : FD) : DFun Try.prog 14 [shD w h ts, .val (.agg (fV f).toArray)] [] (.arr 0) [.arr 53 3 (rgS w h f).length ((rgS w h f).flatMap s3)] := by
  have hb := mayS_b hc.may
  have hW : ((w * 8).toNat : Int) = w * 8 := by omega
  have hH : ((h * 8).toNat : Int) = h * 8 := by omega
  have hWH : (h * 8).toNat * (w * 8).toNat ≤ 32 * 32 := Nat.mul_le_mul (by omega) (by omega)
  refine zan (N := 53) 0 (by kernel_rfl) Try.func14 rfl rfl rfl (by simp only [fr0, Nat.zero_add, Nat.reduceAdd]; exact rfl) rfl fun s0 hs0 => ?_
  refine zaf ?_
  refine zai 2 (by simp only [holes, List.cons_append, List.nil_append]; exact rfl) ?_
  refine zad ?_
  refine zaj rfl rfl rfl (op_boxam 0 rfl (ev1 rfl) rfl) (by simp only [upd, zaa, za]; exact rfl) ?_
  refine zaj rfl rfl rfl (op_boxa 1 rfl (ev1 rfl) rfl) (by simp only [upd, zaa, za]; exact rfl) ?_
  refine zab rfl rfl rfl (zac (.inr rfl) (ev1 rfl)) ?_
  refine zae ?_
  refine zaf ?_
  refine zad ?_
  refine zab rfl rfl rfl (op_ldmw rfl tb24 (ev1 rfl) rfl rfl) ?_
  refine zab rfl rfl rfl (zah [] [] [] rfl (ev1 rfl) (ec (ev1 rfl) en) rfl rfl (rsizes_d w h ts hc) rfl rfl rfl rfl rfl rfl) ?_
  refine zab rfl rfl rfl (zac (.inl rfl) (ev1 rfl)) ?_
  refine zab rfl rfl rfl (op_ext rfl (ev1 rfl) rfl) ?_
  refine zab rfl rfl rfl (op_ext rfl (ev1 rfl) rfl) ?_
  refine zab rfl rfl rfl (zac (.inr rfl) (ev1 rfl)) ?_
  refine zab rfl rfl rfl (zac (.inr rfl) (ev1 rfl)) ?_
  refine zae ?_
  refine zaf ?_
  refine zai 1 (by simp only [holes, List.cons_append, List.nil_append]; exact rfl) ?_
  refine zad ?_
  refine zab rfl rfl rfl (zac (.inl rfl) (ev1 rfl)) ?_
  refine zab rfl rfl rfl (op_sub' rfl (ev1 rfl) (ev1 rfl) (fun _ => IntWalk.i64_in _ (by omega))) ?_
  refine zab rfl rfl rfl (zac (.inl rfl) (ev1 rfl)) ?_
  refine zab rfl rfl rfl (op_sub' rfl (ev1 rfl) (ev1 rfl) (fun _ => IntWalk.i64_in _ (by omega))) ?_
  refine zab rfl rfl rfl (op_build (ps := [(2, .tmp 17), (3, .tmp 19)]) rfl fl98 zr98 (vc (ev1 rfl) (vc (ev1 rfl) vn)) rfl rfl) ?_
  refine zaj rfl rfl rfl (op_alloc 2 rfl zr98 rfl) (by simp only [upd, zaa, za]; exact rfl) ?_
  refine walk_s rfl rfl (op_stwa rfl tb98 (ev1 rfl) (ev1 rfl) rfl rfl rfl rfl) (by simp only [upd, zaa, za]; exact rfl) ?_
  refine zae ?_
  refine zaf ?_
  refine zai 1 (by simp only [holes, List.cons_append, List.nil_append]; exact rfl) ?_
  refine zad ?_
  refine zab rfl rfl rfl (zac (.inl rfl) (ev1 rfl)) ?_
  refine zaj rfl rfl rfl (op_mkx 3 ((h * 8).toNat) rfl sl99 zr100 (ev1 rfl) (ev1 rfl) (fun _ => by omega) (fun _ => by omega) rfl (fun _ => ⟨by omega, by omega⟩)) (by simp only [upd, zaa, za]; exact rfl) ?_
  refine zab rfl rfl rfl (zac (.inr rfl) (ev1 rfl)) ?_
  refine zae ?_
  refine zaf ?_
  refine zaf ?_
  refine dwp_reb 3 (reb_eq (k' := .arx 100 1 (h * 8).toNat (nmM 4 (0) (h * 8).toNat)) (by rw [nmM_zero, Nat.mul_one])) rfl rfl (by simp only [List.cons_append, List.nil_append, zaa, za, List.map]; exact rfl) ?_
  refine dwp_hole ?_
  refine dwp_fam 4 rfl (by simp only [List.cons_append, List.nil_append, zaa, za]; exact rfl) ?_
  refine zad ?_
  refine zab rfl rfl rfl (zac (.inl rfl) (ev1 rfl)) ?_
  refine zab rfl rfl rfl (zac (.inl rfl) (ev1 rfl)) ?_
  refine zae ?_
  refine zal ?_
  refine dwp_loopS ⟨hs0, rfl⟩ (α := Nat) (fun y => [(24, .val (.int .i64 (y : Int)))]) [(3, _), (5, _), (7, _), (8, _), (23, _)] (fun y => [(3, .arx 100 1 (h * 8).toNat (nmM 4 (y) (h * 8).toNat)), (4, .fam (fmF 0 0 (w * 8).toNat (y) (gtP f.has (w * 8).toNat (y * (w * 8).toNat))))]) [_, _, _, .hole, .hole] (fun y => y ≤ (h * 8).toNat) (fun y => (h * 8).toNat - y) 0 [0, 1, 2, 3, 4] (Nat.zero_le _) rfl ⟨rfl, rfl, rfl, rfl, rfl, trivial⟩ ⟨rfl, trivial⟩ ⟨rfl, rfl, rfl, arxg_fits (by first | rfl | omega) rfl (fun k => nmG_vw rfl k), rfl, trivial⟩ ?_
  intro y hx
  simp only [upd, zaa, za, List.cons_append, List.nil_append]
  have hy0 := hx
  refine zaf ?_
  refine zad ?_
  refine zab rfl rfl rfl (op_lss rfl (ev1 rfl) (ev1 rfl)) ?_
  refine zae ?_
  refine zaf ?_
  refine dwp_cond rfl (fun c1 => ?_) (fun c1 => ?_)
  · try simp only [decide_eq_true_eq, decide_eq_false_iff_not, beq_iff_eq, bne_iff_ne, beq_eq_false_iff_ne, bne_eq_false_iff_eq, Bool.not_eq_true', Bool.not_eq_false', Bool.and_eq_true, Bool.or_eq_true, Bool.or_eq_false_iff, ne_eq, Decidable.not_not, Int.not_lt, Int.not_le] at c1
    refine zak ?_
    refine zaf ?_
    refine zal ?_
    refine zaf ?_
    refine zad ?_
    refine zab rfl rfl rfl (zac (.inl rfl) (ev1 rfl)) ?_
    refine zab rfl rfl rfl (zac (.inr rfl) (ev1 rfl)) ?_
    refine zae ?_
    refine zaf ?_
    have hyH : y < (h * 8).toNat := by omega
    refine zai 1 (by simp only [holes, List.cons_append, List.nil_append]; exact rfl) ?_
    refine zad ?_
    refine zab rfl rfl rfl (zac (.inl rfl) (ev1 rfl)) ?_
    refine zab rfl rfl rfl (zac (.inl rfl) (ev1 rfl)) ?_
    refine zab rfl rfl rfl (zac (.inl rfl) (ev1 rfl)) ?_
    refine zaj rfl rfl rfl (op_mkg 5 ((w * 8).toNat) (.bool false) rfl sl100 zr4 (by kernel_rfl) (by decide) (ev1 rfl) (ev1 rfl) (fun _ => by omega) (fun _ => by omega) rfl (fun _ => ⟨by omega, by omega⟩)) (by simp only [upd, zaa, za]; exact rfl) ?_
    refine walk_absn 30 4 rfl rfl rfl (by simp only [zaa, za]; exact rfl) ?_
    refine zab rfl rfl rfl (op_ixx (y) rfl sl99 (ev1 rfl) (ev1 rfl) rfl (fun _ => rfl) (fun _ => hyH)) ?_
    refine walk_s rfl rfl (op_stx0 (j := y) rfl tb100 (ev1 rfl) (ev1 rfl) rfl (by rw [nmM_len]; exact hyH) (fun s v h => by cases h <;> exact ⟨rfl, rfl⟩)) (by simp only [upd, zaa, za]; exact rfl) ?_
    refine zae ?_
    refine zaf ?_
    refine zad ?_
    refine zab rfl rfl rfl (zac (.inl rfl) (ev1 rfl)) ?_
    refine zab rfl rfl rfl (zac (.inl rfl) (ev1 rfl)) ?_
    refine zae ?_
    refine zal ?_
    refine dwp_loopS ⟨hs0, rfl⟩ (α := Nat) (fun x => [(33, .val (.int .i64 (x : Int)))]) [(3, _), (5, _), (7, _), (8, _), (9, _), (23, _), (24, _), (32, _)] (fun x => [(3, .arx 100 1 (h * 8).toNat (nmM 4 (y + 1) (h * 8).toNat)), (4, .fam (fmF 0 0 (w * 8).toNat (y + 1) (gtP f.has (w * 8).toNat (y * (w * 8).toNat + x))))]) [_, _, _, .hole, .hole, _] (fun x => x ≤ (w * 8).toNat) (fun x => (w * 8).toNat - x) 0 [0, 1, 2, 3, 4, 5] (Nat.zero_le _) rfl ⟨rfl, rfl, rfl, rfl, rfl, rfl, rfl, rfl, trivial⟩ ⟨rfl, trivial⟩ ⟨rfl, rfl, rfl, (by rw [fmF_len, nmM_set hyH]; exact arxg_fits (by first | rfl | omega) rfl (fun k => nmG_vw rfl k)), by rw [← fmF_row0, Nat.mul_one]; rfl, rfl, trivial⟩ ?_
    intro x hx
    simp only [upd, zaa, za, List.cons_append, List.nil_append]
    have hx0 := hx
    refine zaf ?_
    refine zad ?_
    refine zab rfl rfl rfl (op_lss rfl (ev1 rfl) (ev1 rfl)) ?_
    refine zae ?_
    refine zaf ?_
    refine dwp_cond rfl (fun c2 => ?_) (fun c2 => ?_)
    · try simp only [decide_eq_true_eq, decide_eq_false_iff_not, beq_iff_eq, bne_iff_ne, beq_eq_false_iff_ne, bne_eq_false_iff_eq, Bool.not_eq_true', Bool.not_eq_false', Bool.and_eq_true, Bool.or_eq_true, Bool.or_eq_false_iff, ne_eq, Decidable.not_not, Int.not_lt, Int.not_le] at c2
      refine zak ?_
      refine zaf ?_
      refine zal ?_
      refine zaf ?_
      have hxW : x < (w * 8).toNat := by omega
      have hpi : inF32 (atN x y) := by unfold inF32 atN; simp only; omega
      refine zad ?_
      refine zab rfl rfl rfl (zac (.inl rfl) (ev1 rfl)) ?_
      refine zab rfl rfl rfl (zac (.inr rfl) (ev1 rfl)) ?_
      refine zae ?_
      refine dwp_draw [([], []), ([], []), ([3], []), ([3], []), ([], []), ([], []), ([], []), ([], []), ([], []), ([1], []), ([], []), ([4], []), ([4], [4])] mixed (by kernel_rfl) ?_
      refine zag rfl rfl (zac (.inl rfl) (ev1 rfl)) ?_
      refine zag rfl rfl (zac (.inl rfl) (ev1 rfl)) ?_
      refine zag rfl rfl (op_ixx (y) rfl sl99 (ev1 rfl) (ev1 rfl) rfl (fun _ => rfl) (fun _ => hyH)) ?_
      refine zag rfl rfl (op_ldx rfl tb100 (ev1 rfl) rfl (nmM_at hyH (by omega))) ?_
      refine zag rfl rfl (zac (.inl rfl) (ev1 rfl)) ?_
      refine zag rfl rfl (zac (.inl rfl) (ev1 rfl)) ?_
      refine zag rfl rfl (zac (.inl rfl) (ev1 rfl)) ?_
      refine zag rfl rfl (op_ixl rfl ar45 (ev1 rfl) (ev1 rfl) (fun _ => by omega)) ?_
      refine zag rfl rfl (op_ixl rfl ar43 (ev1 rfl) (ev1 rfl) (fun _ => by omega)) ?_
      refine zag rfl rfl (zam rfl tb3 (ev1 rfl) rfl (fV_at (p := atN x y) hpi)) ?_
      refine zag rfl rfl ((op_gtr rfl (ev1 rfl) (ev1 rfl)).cast (d' := .val (.bool (f.has (atN x y)))) (by rw [← has_int])) ?_
      refine zag rfl rfl (op_ixf (x) rfl sl100 (ev1 rfl) (ev1 rfl) rfl (fmF_at (by omega)) (fun _ => rfl) (fun _ => hxW)) ?_
      refine lex_s rfl rfl (op_stfe (f.has (atN x y)) rfl tb4 (ev1 rfl) (ev1 rfl) rfl (fmF_at (by omega)) rfl (fun _ => rfl) ((by rw [rowN_len]; exact hxW)) rfl) rfl (by simp only [upd, zaa, za]; exact rfl) ?_
      refine lex_nil ?_
      refine zad ?_
      refine zab rfl rfl rfl (op_add' rfl (ev1 rfl) (ev1 rfl) (fun _ => IntWalk.i64_in _ (by omega))) ?_
      refine zab rfl rfl rfl (zac (.inl rfl) (ev1 rfl)) ?_
      refine zae ?_
      refine ⟨x + 1, [0, 1, 2, 3, 4, 5], by omega, by simp only []; omega, rfl, ⟨rfl, rfl, rfl, rfl, rfl, rfl, rfl, rfl, rfl, trivial⟩, ⟨rfl, rfl, rfl, arxg_fits (by first | rfl | omega) rfl (fun k => nmG_vw rfl k), by rw [fmF_upd hxW]; rfl, rfl, trivial⟩⟩
    · try simp only [decide_eq_true_eq, decide_eq_false_iff_not, beq_iff_eq, bne_iff_ne, beq_eq_false_iff_ne, bne_eq_false_iff_eq, Bool.not_eq_true', Bool.not_eq_false', Bool.and_eq_true, Bool.or_eq_true, Bool.or_eq_false_iff, ne_eq, Decidable.not_not, Int.not_lt, Int.not_le] at c2
      refine dwp_exit ?_
      refine zad ?_
      refine zab rfl rfl rfl (op_add' rfl (ev1 rfl) (ev1 rfl) (fun _ => IntWalk.i64_in _ (by omega))) ?_
      refine zab rfl rfl rfl (zac (.inl rfl) (ev1 rfl)) ?_
      refine zae ?_
      obtain rfl : x = (w * 8).toNat := by omega
      refine ⟨y + 1, [0, 1, 2, 3, 4], by omega, by simp only []; omega, rfl, ⟨rfl, rfl, rfl, rfl, rfl, rfl, trivial⟩, ⟨rfl, rfl, rfl, arxg_fits (by first | rfl | omega) rfl (fun k => nmG_vw rfl k), by rw [Nat.succ_mul]; rfl, trivial⟩⟩
  · try simp only [decide_eq_true_eq, decide_eq_false_iff_not, beq_iff_eq, bne_iff_ne, beq_eq_false_iff_ne, bne_eq_false_iff_eq, Bool.not_eq_true', Bool.not_eq_false', Bool.and_eq_true, Bool.or_eq_true, Bool.or_eq_false_iff, ne_eq, Decidable.not_not, Int.not_lt, Int.not_le] at c1
    refine dwp_exit ?_
    refine zaf ?_
    refine dwp_reb 3 (reb_eq (k' := .arx 100 1 (h * 8).toNat ((rngN (h * 8).toNat).flatMap fun k => [.farr 4 k])) (by rw [show y = (h * 8).toNat by omega, nmM_all])) rfl rfl (by simp only [List.cons_append, List.nil_append, zaa, za, List.map]; exact rfl) ?_
    obtain rfl : y = (h * 8).toNat := by omega
    refine zai 1 (by simp only [holes, List.cons_append, List.nil_append]; exact rfl) ?_
    refine zad ?_
    refine zab rfl rfl rfl ((op_ldw rfl tb98 (ev1 rfl) rfl rfl).wk (Wk.of_eq (d' := .val (.agg #[.int .i64 0, .int .i64 0, .int .i64 (0 + ((w * 8).toNat : Int) - 1), .int .i64 (0 + ((h * 8).toNat : Int) - 1)])) (by show D.val (.agg #[.int .i64 0, .int .i64 0, .int .i64 (w * 8 - 1), .int .i64 (h * 8 - 1)]) = _; rw [show w * 8 - 1 = 0 + ((w * 8).toNat : Int) - 1 by omega, show h * 8 - 1 = 0 + ((h * 8).toNat : Int) - 1 by omega]))) ?_
    refine zab rfl rfl rfl (zac (.inl rfl) (ev1 rfl)) ?_
    refine zaj rfl rfl rfl (zah [3, 4] [] [5] rfl (ev1 rfl) (ec (ev1 rfl) (ec (ev1 rfl) en)) rfl (by exact mfits _ _ ⟨(by first | exact rfl | exact arx_fits rfl rfl (vwL_flat (fun _ => rfl) _) | exact arxr_fits rfl rfl (nlL_flatR (fun _ => rfl) _) | exact arxg_fits rfl rfl (fun _ => rfl) | exact arxs_fits rfl rfl (fun _ => rfl)), rfl, trivial⟩) (rrow_d 0 0 (w * 8).toNat (h * 8).toNat (by omega) (by omega) (by omega) (by omega) (gtP f.has (w * 8).toNat ((h * 8).toNat * (w * 8).toNat)) (by omega)) rfl rfl rfl (by exact (wrc (by first | exact rfl | exact sb_arx (fun _ => rfl) | exact sb_arxr (nlL_flatR (fun _ => rfl) _) | exact sb_arxg (fun _ => rfl) | exact sb_arxs (fun _ => rfl)) (wrc rfl (wrc rfl rfl)))) rfl rfl) (by simp only [upd, zaa, za]; exact rfl) ?_
    refine zab rfl rfl rfl (zac (.inr rfl) (ev1 rfl)) ?_
    refine zae ?_
    refine zao ?_
    refine kend [5] (rs1 rfl (rv_t rfl)) rfl rfl ?_ ⟨?_, trivial⟩
    rfl
    exact (by rw [rowK_gtS]; rfl)
theorem rspans_d (w h : Int) (ts : List TL) (hc : CvOk w h ts) (f : FD) : DFun Try.prog 14 [shD w h ts, .val (.agg (fV f).toArray)] [] (.slf 3 (rgS w h f).length ((rgS w h f).flatMap s3)) [] := freeze (rspans_o w h ts hc f) rfl
end Go.Proofs.Ytfnhckildfbikaa
namespace Go.Proofs.Ytfnhckildfbikaa
set_option maxRecDepth 4000
set_option linter.unusedVariables false
set_option linter.unusedSimpArgs false
open Go.RowKit
attribute [local irreducible] zFD srL goF bfsF
attribute [local irreducible] spF spN prK
def plA (w : Int) (i k : Nat) : P2 := ⟨(i : Int) % w * 8 + (k : Int) % 8, (i : Int) / w * 8 + (k : Int) / 8⟩
def flT (w : Int) (f : FD) (c : C4) (i : Nat) (t : TL) (k : Nat) : TL := (List.range k).foldl (fun t q => if f.has (plA w i q) = true then t.set q c else t) t
theorem flT_zero (w : Int) (f : FD) (c : C4) (i : Nat) (t : TL) : flT w f c i t 0 = t := rfl
theorem flT_add (w : Int) (f : FD) (c : C4) (i : Nat) (t : TL) (k : Nat) : flT w f c i t (k + 1) = if f.has (plA w i k) = true then (flT w f c i t k).set k c else flT w f c i t k := by
  unfold flT
  rw [List.range_succ, List.foldl_append]
  rfl
theorem tl_get_set {t : TL} {k q : Nat} {c : C4} (hk : k < 64) : (t.set k c).get q = if q = k then c else t.get q := by
  unfold TL.get TL.set
  rw [List.getD_eq_getElem?_getD, List.getD_eq_getElem?_getD]
  by_cases e : q = k
  · subst e
    rw [if_pos rfl, List.getElem?_set_self (by rw [TL.h]; exact hk)]; rfl
  · rw [if_neg e, List.getElem?_set_ne fun h => e h.symm]
theorem flT_get (w : Int) (f : FD) (c : C4) (i : Nat) (t : TL) (q : Nat) : ∀ k, k ≤ 64 → (flT w f c i t k).get q = if q < k ∧ f.has (plA w i q) = true then c else t.get q
  | 0, _ => by rw [flT_zero, if_neg (by omega)]
  | k + 1, hk => by
    have ih := flT_get w f c i t q k (by omega)
    rw [flT_add]
    by_cases e : q = k
    · subst e
      split
      · rename_i h
        rw [tl_get_set (by omega), if_pos rfl, if_pos ⟨by omega, h⟩]
      · rename_i h
        rw [ih, if_neg (by omega), if_neg fun g => h g.2]
    · have hlt : (q < k + 1 ∧ f.has (plA w i q) = true) ↔ (q < k ∧ f.has (plA w i q) = true) := ⟨fun g => ⟨by omega, g.2⟩, fun g => ⟨by omega, g.2⟩⟩
      split
      · rw [tl_get_set (by omega), if_neg e, ih]
        simp only [hlt]
      · rw [ih]
        simp only [hlt]
def flC (w : Int) (f : FD) (c : C4) (ts : List TL) : List TL := (List.range ts.length).map fun i => flT w f c i (ts.getD i zT) 64
theorem flC_len (w : Int) (f : FD) (c : C4) (ts : List TL) : (flC w f c ts).length = ts.length := by simp [flC]
theorem flC_add {w : Int} {f : FD} {c : C4} {ts : List TL} {i : Nat} (hi : i < ts.length) : (flC w f c ts).take (i + 1) = (flC w f c ts).take i ++ [flT w f c i ts[i] 64] := by
  have h : (flC w f c ts)[i]'(by rw [flC_len]; exact hi) = flT w f c i ts[i] 64 := by
    unfold flC
    rw [List.getElem_map, List.getElem_range, tl_at hi]
  rw [List.take_succ_eq_append_getElem (by rw [flC_len]; exact hi), h]
theorem flC_ok {w h : Int} {f : FD} {c : C4} {ts : List TL} (hc : CvOk w h ts) : CvOk w h (flC w f c ts) := ⟨hc.may, by rw [flC_len]; exact hc.len⟩
theorem plA_back {w h x y : Int} (hm : mayS w h = true) (ho : onS w h x y = true) : plA w (plN w x y) (pxN x y) = ⟨x, y⟩ := by
  have hb := mayS_b hm
  obtain ⟨h1, h2, h3, h4⟩ := on_pl hm ho
  have g1 := pl_back (w := w) (p := plN w x y) (q := pxN x y) (by omega) h4
  have g2 := on_back (h := h) (p := plN w x y) (q := pxN x y) hm h2 h4
  have g3 := px_inj hm g2 ho g1.1 g1.2
  unfold plA
  rw [g3.1, g3.2]
theorem flC_get {w h x y : Int} {f : FD} {c : C4} {ts : List TL} (hc : CvOk w h ts) (ho : onS w h x y = true) : getC w (flC w f c ts) x y = if f.has ⟨x, y⟩ = true then c else getC w ts x y := by
  have hp := hc.pl ho
  obtain ⟨h1, h2, h3, h4⟩ := on_pl hc.may ho
  unfold getC
  have e : (flC w f c ts).getD (plN w x y) zT = flT w f c (plN w x y) (ts.getD (plN w x y) zT) 64 := by
    rw [tl_at (by rw [flC_len]; exact hp)]
    unfold flC
    rw [List.getElem_map, List.getElem_range]
  rw [e, flT_get _ _ _ _ _ _ 64 (Nat.le_refl _), plA_back hc.may ho]
  by_cases hf : f.has ⟨x, y⟩ = true
  · rw [if_pos ⟨h4, hf⟩, if_pos hf]
  · rw [if_neg fun g => hf g.2, if_neg hf]
theorem rgP_mem {w h : Int} (hm : mayS w h = true) {f : FD} {p : P2} : p ∈ rgP w h f ↔ onP w h p = true ∧ f.has p = true := by
  have hb := mayS_b hm
  unfold rgP onP
  rw [gtP_mem (by omega), onS_iff]
  constructor
  · rintro ⟨h1, h2⟩; exact ⟨by omega, h2⟩
  · rintro ⟨h1, h2⟩; exact ⟨by omega, h2⟩
theorem fill_eq {w h : Int} {f : FD} {c : C4} {ts : List TL} (hc : CvOk w h ts) : putsC w h ts (dtsC c (rgP w h f)) = flC w f c ts := by
  refine cv_ext (hc.puts _) (flC_ok hc) fun x y ho => ?_
  rw [getC_puts hc ho, flC_get hc ho]
  by_cases hf : f.has ⟨x, y⟩ = true
  · have hall : ∀ d ∈ dtsC c (rgP w h f), d.c = c := fun d hd => by
      have hd : d ∈ (rgP w h f).map fun p => (⟨p.x, p.y, c⟩ : Dt) := hd
      obtain ⟨p, _, rfl⟩ := List.mem_map.1 hd
      rfl
    have hex : ∃ d ∈ dtsC c (rgP w h f), d.x = x ∧ d.y = y := ⟨⟨x, y, c⟩, List.mem_map.2 ⟨⟨x, y⟩, (rgP_mem hc.may).2 ⟨ho, hf⟩, rfl⟩, rfl, rfl⟩
    rw [if_pos hf, lastF_yes (c := c) hex fun d hd _ => hall d hd]
    exact if_pos rfl
  · rw [if_neg hf, lastF_no fun d hd g => ?_]
    · exact if_neg (by decide)
    · obtain ⟨p, hp, rfl⟩ := List.mem_map.1 hd
      have := ((rgP_mem hc.may).1 hp).2
      obtain ⟨px, py⟩ := p
      simp only at g
      rw [g.1, g.2] at this
      exact hf this
theorem reb_arr9 {e : TypeId} {sz : Nat} : ∀ s h, BlkOk s h (.arx e sz 0 []) → BlkOk s h (.arr e sz 0 []) := fun s h hk => by
  obtain ⟨vs, h1, h2, _⟩ := hk
  obtain rfl : vs = [] := List.eq_nil_of_length_eq_zero (by simpa using h2)
  exact h1
set_option maxRecDepth 4000 in
set_option maxHeartbeats 1000000 in
theorem rfilled_o (w h : Int) (ts : List TL) (hc : CvOk w h ts) (f : FD) (c : C4) : DFun Try.prog 17 [shD w h ts, .val (.agg (fV f).toArray), .val (.agg (c4 c).toArray)] [] (.agg [.val (.int .i64 w), .val (.int .i64 h), .arr 0]) [.arr 81 256 ((flC w f c ts)).length (((flC w f c ts)).flatMap tc)] := by
  have hb := mayS_b hc.may
  have hle := hc.le
  have hcl := hc.len
  have hfl := flC_len w f c ts
  refine zan (N := 59) 0 (by kernel_rfl) Try.func17 rfl rfl rfl (by simp only [fr0, Nat.zero_add, Nat.reduceAdd]; exact rfl) rfl fun s0 hs0 => ?_
  refine zaf ?_
  refine zai 4 (by simp only [holes, List.cons_append, List.nil_append]; exact rfl) ?_
  refine zad ?_
  refine zaj rfl rfl rfl (op_boxam 0 rfl (ev1 rfl) rfl) (by simp only [upd, zaa, za]; exact rfl) ?_
  refine zaj rfl rfl rfl (op_boxa 1 rfl (ev1 rfl) rfl) (by simp only [upd, zaa, za]; exact rfl) ?_
  refine zaj rfl rfl rfl (op_boxa 2 rfl (ev1 rfl) rfl) (by simp only [upd, zaa, za]; exact rfl) ?_
  refine zaj rfl rfl rfl (op_alloc 3 rfl zr24 rfl) (by simp only [upd, zaa, za]; exact rfl) ?_
  refine zae ?_
  refine zaf ?_
  refine zai 1 (by simp only [holes, List.cons_append, List.nil_append]; exact rfl) ?_
  refine zad ?_
  refine zab rfl rfl rfl (op_fa rfl fo24_0 (ev1 rfl)) ?_
  refine zab rfl rfl rfl (op_ldm rfl tb3 (ev1 rfl) rfl rfl) ?_
  refine zab rfl rfl rfl (op_fa rfl fo24_1 (ev1 rfl)) ?_
  refine zab rfl rfl rfl (op_ldm rfl tb3 (ev1 rfl) rfl rfl) ?_
  refine zab rfl rfl rfl (op_build (ps := [(0, .tmp 12), (1, .tmp 14)]) rfl fl24 zr24 (vc (ev1 rfl) (vc (ev1 rfl) vn)) rfl rfl) ?_
  refine zaj rfl rfl rfl (op_alloc 4 rfl zr24 rfl) (by simp only [upd, zaa, za]; exact rfl) ?_
  refine walk_s rfl rfl (op_stwa rfl tb24 (ev1 rfl) (ev1 rfl) rfl rfl rfl rfl) (by simp only [upd, zaa, za]; exact rfl) ?_
  refine zae ?_
  refine zaf ?_
  refine zaf ?_
  refine dwp_reb 4 reb_mix rfl rfl (by simp only [List.cons_append, List.nil_append, zaa, za, List.map]; exact rfl) ?_
  refine dwp_adoptc (l' := [.val (.int .i64 w), .val (.int .i64 h), .arr 5]) 4 2 81 256 rfl rfl rfl rfl (by simp only [List.cons_append, List.nil_append, zaa, za]; exact rfl) ?_
  refine dwp_reb 5 reb_arr9 rfl rfl (by simp only [List.cons_append, List.nil_append, zaa, za, List.map]; exact rfl) ?_
  refine zad ?_
  refine zab rfl rfl rfl (op_fa rfl fo24_2 (ev1 rfl)) ?_
  refine zab rfl rfl rfl (op_ldm rfl tb22 (ev1 rfl) rfl rfl) ?_
  refine zab rfl rfl rfl (op_len rfl sl22 (ev1 rfl)) ?_
  refine zab rfl rfl rfl (zac (.inl rfl) (ev1 rfl)) ?_
  refine zae ?_
  refine zal ?_
  refine dwp_loopS ⟨hs0, rfl⟩ (α := Nat) (fun i => [(19, .val (.int .i64 (i : Int)))]) [(3, _), (4, _), (5, _), (6, _), (7, _), (17, _), (18, _)] (fun i => [(4, .mix 24 [.val (.int .i64 w), .val (.int .i64 h), .arr 5]), (5, .arr 81 256 ((flC w f c ts).take i).length (((flC w f c ts).take i).flatMap tc))]) [_, _, _, _, .hole, .hole] (fun i => i ≤ ts.length) (fun i => ts.length - i) 0 [0, 1, 2, 3, 4, 5] (Nat.zero_le _) rfl ⟨rfl, rfl, rfl, rfl, rfl, rfl, rfl, trivial⟩ ⟨rfl, trivial⟩ ⟨rfl, rfl, rfl, rfl, rfl, rfl, trivial⟩ ?_
  intro i hx
  simp only [upd, zaa, za, List.cons_append, List.nil_append]
  have hi0 := hx
  have htl : ((flC w f c ts).take i).length ≤ 16 := by rw [List.length_take, hfl]; omega
  refine zaf ?_
  refine zad ?_
  refine zab rfl rfl rfl (op_lss rfl (ev1 rfl) (ev1 rfl)) ?_
  refine zae ?_
  refine zaf ?_
  refine dwp_cond rfl (fun c1 => ?_) (fun c1 => ?_)
  · try simp only [decide_eq_true_eq, decide_eq_false_iff_not, beq_iff_eq, bne_iff_ne, beq_eq_false_iff_ne, bne_eq_false_iff_eq, Bool.not_eq_true', Bool.not_eq_false', Bool.and_eq_true, Bool.or_eq_true, Bool.or_eq_false_iff, ne_eq, Decidable.not_not, Int.not_lt, Int.not_le] at c1
    refine zak ?_
    refine zaf ?_
    refine zal ?_
    refine zaf ?_
    have hi : i < ts.length := by omega
    have hq1 := Int.emod_nonneg (i : Int) (show w ≠ 0 by omega)
    have hq2 := Int.emod_lt_of_pos (i : Int) (show 0 < w by omega)
    have hq3 : (0 : Int) ≤ (i : Int) / w := Int.ediv_nonneg (by omega) (by omega)
    have hq4 : (i : Int) / w < h := Int.ediv_lt_of_lt_mul (by omega) (by rw [Int.mul_comm h w]; omega)
    refine zai 1 (by simp only [holes, List.cons_append, List.nil_append]; exact rfl) ?_
    refine zad ?_
    refine zab rfl rfl rfl (zac (.inl rfl) (ev1 rfl)) ?_
    refine zab rfl rfl rfl (op_ixsr (j := i) rfl sl22 (ev1 rfl) (ev1 rfl) tc_len (by decide) (by omega) (by omega)) ?_
    refine zab rfl rfl rfl (op_ldwd rfl tb81 (ev1 rfl) (tc_len _)) ?_
    refine zaj rfl rfl rfl (op_alloc 6 rfl zr81 rfl) (by simp only [upd, zaa, za]; exact rfl) ?_
    refine zab rfl rfl rfl (zac (.inr rfl) (ev1 rfl)) ?_
    refine walk_s rfl rfl (op_stwa rfl tb81 (ev1 rfl) (ev1 rfl) rfl (tc_len _) (tc_oc _) ((tc_len _).trans (tc_len _).symm)) (by simp only [upd, zaa, za]; exact rfl) ?_
    refine zae ?_
    refine zaf ?_
    refine zaf ?_
    refine zad ?_
    refine zab rfl rfl rfl (zac (.inl rfl) (ev1 rfl)) ?_
    refine zae ?_
    refine zal ?_
    refine dwp_loopS ⟨hs0, rfl⟩ (α := Nat) (fun k => [(24, .val (.int .i64 (k : Int)))]) [(3, _), (4, _), (5, _), (6, _), (7, _), (8, _), (9, _), (17, _), (18, _), (19, _)] (fun k => [(6, .flat 81 (tc (flT w f c i ts[i] k)))]) [_, _, _, _, _, _, .hole] (fun k => k ≤ 64) (fun k => 64 - k) 0 [0, 1, 2, 3, 4, 5, 6] (Nat.zero_le _) rfl ⟨rfl, rfl, rfl, rfl, rfl, rfl, rfl, rfl, rfl, rfl, trivial⟩ ⟨rfl, trivial⟩ ⟨rfl, rfl, rfl, rfl, rfl, rfl, rfl, trivial⟩ ?_
    intro k hx
    simp only [upd, zaa, za, List.cons_append, List.nil_append]
    have hk0 := hx
    refine zaf ?_
    refine zad ?_
    refine zab rfl rfl rfl (op_lss rfl (ev1 rfl) (ev1 rfl)) ?_
    refine zae ?_
    refine zaf ?_
    refine dwp_cond rfl (fun c2 => ?_) (fun c2 => ?_)
    · try simp only [decide_eq_true_eq, decide_eq_false_iff_not, beq_iff_eq, bne_iff_ne, beq_eq_false_iff_ne, bne_eq_false_iff_eq, Bool.not_eq_true', Bool.not_eq_false', Bool.and_eq_true, Bool.or_eq_true, Bool.or_eq_false_iff, ne_eq, Decidable.not_not, Int.not_lt, Int.not_le] at c2
      refine zak ?_
      refine zaf ?_
      refine zal ?_
      refine zaf ?_
      have hk : k < 64 := by omega
      have hpi : inF32 (plA w i k) := by unfold inF32 plA; simp only; omega
      refine zad ?_
      refine zab rfl rfl rfl (zac (.inl rfl) (ev1 rfl)) ?_
      refine zab rfl rfl rfl (zac (.inr rfl) (ev1 rfl)) ?_
      refine zae ?_
      refine zaf ?_
      refine dwp_draw [([], []), ([], []), ([0], []), ([], []), ([], []), ([], []), ([], []), ([], []), ([], []), ([], []), ([0], []), ([], []), ([], []), ([], []), ([], []), ([], []), ([], []), ([], []), ([1], []), ([], [])] mixed (by kernel_rfl) ?_
      refine zag rfl rfl (zac (.inl rfl) (ev1 rfl)) ?_
      refine zag rfl rfl (op_fa rfl fo24_0 (ev1 rfl)) ?_
      refine zag rfl rfl (op_ldm rfl tb3 (ev1 rfl) rfl rfl) ?_
      refine zag rfl rfl (op_quo' rfl (ev1 rfl) (ev1 rfl) (fun _ => ⟨by omega, by omega, IntWalk.i64_in _ (by omega)⟩)) ?_
      refine zag rfl rfl (op_mul' rfl (ev1 rfl) (ev1 rfl) (fun _ => IntWalk.i64_in _ (by omega))) ?_
      refine zag rfl rfl (zac (.inl rfl) (ev1 rfl)) ?_
      refine zag rfl rfl (op_quo' rfl (ev1 rfl) (ev1 rfl) (fun _ => ⟨by omega, by omega, IntWalk.i64_in _ (by omega)⟩)) ?_
      refine zag rfl rfl (op_add' rfl (ev1 rfl) (ev1 rfl) (fun _ => IntWalk.i64_in _ (by omega))) ?_
      refine zag rfl rfl (zac (.inl rfl) (ev1 rfl)) ?_
      refine zag rfl rfl (op_fa rfl fo24_0 (ev1 rfl)) ?_
      refine zag rfl rfl (op_ldm rfl tb3 (ev1 rfl) rfl rfl) ?_
      refine zag rfl rfl (op_rem' rfl (ev1 rfl) (ev1 rfl) (fun _ => ⟨by omega, by omega⟩)) ?_
      refine zag rfl rfl (op_mul' rfl (ev1 rfl) (ev1 rfl) (fun _ => IntWalk.i64_in _ (by omega))) ?_
      refine zag rfl rfl (zac (.inl rfl) (ev1 rfl)) ?_
      refine zag rfl rfl (op_rem' rfl (ev1 rfl) (ev1 rfl) (fun _ => ⟨by omega, by omega⟩)) ?_
      refine zag rfl rfl (op_add' rfl (ev1 rfl) (ev1 rfl) (fun _ => IntWalk.i64_in _ (by omega))) ?_
      refine zag rfl rfl (op_ixl rfl ar45 (ev1 rfl) (ev1 rfl) (fun _ => by omega)) ?_
      refine zag rfl rfl (op_ixl rfl ar43 (ev1 rfl) (ev1 rfl) (fun _ => by omega)) ?_
      refine zag rfl rfl (zam rfl tb3 (ev1 rfl) rfl (fV_at (p := (plA w i k)) hpi)) ?_
      refine zag rfl rfl ((op_gtr rfl (ev1 rfl) (ev1 rfl)).cast (d' := .val (.bool (f.has (plA w i k)))) (by rw [← has_int])) ?_
      refine lex_nil ?_
      refine dwp_cond rfl (fun c4 => ?_) (fun c4 => ?_)
      · refine zad ?_
        refine zab rfl rfl rfl (zac (.inl rfl) (ev1 rfl)) ?_
        refine zab rfl rfl rfl (op_ldw rfl tb27 (ev1 rfl) rfl rfl) ?_
        refine zab rfl rfl rfl (op_ixfr (j := k) rfl ar81 (ev1 rfl) (ev1 rfl) (fun _ => by omega) (fun _ => by omega)) ?_
        refine walk_s rfl rfl (op_stfr (q := c) rfl tb27 (ev1 rfl) (ev1 rfl) rfl rfl rfl (fun _ => rfl) (fun _ => by rw [TL.h]; omega)) (by simp only [upd, zaa, za]; exact rfl) ?_
        refine zae ?_
        refine zad ?_
        refine zab rfl rfl rfl (op_add' rfl (ev1 rfl) (ev1 rfl) (fun _ => IntWalk.i64_in _ (by omega))) ?_
        refine zab rfl rfl rfl (zac (.inl rfl) (ev1 rfl)) ?_
        refine zae ?_
        refine ⟨k + 1, [0, 1, 2, 3, 4, 5, 6], by omega, by simp only []; omega, rfl, ⟨rfl, rfl, rfl, rfl, rfl, rfl, rfl, rfl, rfl, rfl, rfl, trivial⟩, ⟨rfl, rfl, rfl, rfl, rfl, rfl, by rw [flT_add, if_pos c4]; rfl, trivial⟩⟩
      · refine zak ?_
        refine zad ?_
        refine zab rfl rfl rfl (op_add' rfl (ev1 rfl) (ev1 rfl) (fun _ => IntWalk.i64_in _ (by omega))) ?_
        refine zab rfl rfl rfl (zac (.inl rfl) (ev1 rfl)) ?_
        refine zae ?_
        refine ⟨k + 1, [0, 1, 2, 3, 4, 5, 6], by omega, by simp only []; omega, rfl, ⟨rfl, rfl, rfl, rfl, rfl, rfl, rfl, rfl, rfl, rfl, rfl, trivial⟩, ⟨rfl, rfl, rfl, rfl, rfl, rfl, by rw [flT_add, if_neg (by rw [c4]; decide)]; rfl, trivial⟩⟩
    · try simp only [decide_eq_true_eq, decide_eq_false_iff_not, beq_iff_eq, bne_iff_ne, beq_eq_false_iff_ne, bne_eq_false_iff_eq, Bool.not_eq_true', Bool.not_eq_false', Bool.and_eq_true, Bool.or_eq_true, Bool.or_eq_false_iff, ne_eq, Decidable.not_not, Int.not_lt, Int.not_le] at c2
      refine dwp_exit ?_
      refine zai 1 (by simp only [holes, List.cons_append, List.nil_append]; exact rfl) ?_
      refine zad ?_
      refine zab rfl rfl rfl (op_fa rfl fo24_2 (ev1 rfl)) ?_
      refine zab rfl rfl rfl (op_ldm rfl tb22 (ev1 rfl) rfl rfl) ?_
      refine zab rfl rfl rfl (op_ldw rfl tb81 (ev1 rfl) rfl (tc_len _)) ?_
      refine zab rfl rfl rfl (op_bs (ps := [(0, .tmp 53)]) rfl sl22 zr81 rfl (vc (ev1 rfl) vn) (tc_sz _) (by decide) (by decide)) ?_
      refine zaj rfl rfl rfl (op_app (j := 7) rfl sl22 zr81 rfl (ev1 rfl) (ev1 rfl) src_slf rfl rfl (fun _ => tc_oc1 _) (fun _ => ⟨by omega, by omega⟩)) (by simp only [upd, zaa, za]; exact rfl) ?_
      refine zab rfl rfl rfl (op_fa rfl fo24_2 (ev1 rfl)) ?_
      refine walk_s rfl rfl (op_stm rfl tb22 (ev1 rfl) (ev1 rfl) (fun s v h => by cases h <;> exact ⟨rfl, rfl⟩) rfl (by first | decide | exact Nat.le_of_ble_eq_true rfl | simp)) (by simp only [upd, zaa, za]; exact rfl) ?_
      refine zae ?_
      refine zad ?_
      refine zab rfl rfl rfl (op_add' rfl (ev1 rfl) (ev1 rfl) (fun _ => IntWalk.i64_in _ (by omega))) ?_
      refine zab rfl rfl rfl (zac (.inl rfl) (ev1 rfl)) ?_
      refine zae ?_
      obtain rfl : k = 64 := by omega
      refine ⟨i + 1, [0, 1, 2, 3, 4, 7], by omega, by simp only []; omega, rfl, ⟨rfl, rfl, rfl, rfl, rfl, rfl, rfl, rfl, trivial⟩, ⟨rfl, rfl, rfl, rfl, rfl, arr_eq (by rw [flC_add hi, List.length_append]; rfl) (by rw [flC_add hi, List.flatMap_append]; rfl), trivial⟩⟩
  · try simp only [decide_eq_true_eq, decide_eq_false_iff_not, beq_iff_eq, bne_iff_ne, beq_eq_false_iff_ne, bne_eq_false_iff_eq, Bool.not_eq_true', Bool.not_eq_false', Bool.and_eq_true, Bool.or_eq_true, Bool.or_eq_false_iff, ne_eq, Decidable.not_not, Int.not_lt, Int.not_le] at c1
    refine dwp_exit ?_
    refine zaf ?_
    refine zad ?_
    refine zab rfl rfl rfl (op_ldmw rfl tb24 (ev1 rfl) rfl rfl) ?_
    refine walk_s rfl rfl (op_stam rfl tb24 (ev1 rfl) (ev1 rfl) rfl rfl rfl rfl) (by simp only [upd, zaa, za]; exact rfl) ?_
    refine zae ?_
    refine zao ?_
    obtain rfl : i = ts.length := by omega
    refine kend [5] (rs1 rfl (rv_mw tb24 rfl rfl rfl)) rfl rfl ?_ ⟨?_, trivial⟩
    rfl
    exact (by rw [List.take_of_length_le (by rw [hfl]; exact Nat.le_refl _)]; rfl)
theorem rfilled_d (w h : Int) (ts : List TL) (hc : CvOk w h ts) (f : FD) (c : C4) : DFun Try.prog 17 [shD w h ts, .val (.agg (fV f).toArray), .val (.agg (c4 c).toArray)] [] (shD w h (flC w f c ts)) [] := freeze (rfilled_o w h ts hc f c) rfl
end Go.Proofs.Ytfnhckildfbikaa
namespace Go.Proofs.Ytfnhckildfbikaa
set_option maxRecDepth 4000
set_option linter.unusedVariables false
set_option linter.unusedSimpArgs false
open Go.RowKit
attribute [local irreducible] crT crU pcV rgF rgS gtP zFD fV
theorem ar32 : arE Try.prog 32 = some (3, 1) := by kernel_rfl
theorem sl25 : slE Try.prog 25 = some (32, 3, 24) := by kernel_rfl
theorem tb32 : tyB Try.prog 32 = some (true, 3) := by kernel_rfl
theorem un4 : Try.prog.underlying 4 = some .bool := by kernel_rfl
theorem zr32 : zrC Try.prog 32 = some [.int .i64 0, .int .i64 0, .int .i64 0] := by kernel_rfl
theorem refE_o1 {w h tol : Int} {p : P2} (hb : badT tol = false) (ho : onP w h p = false) : refE w h [tol] [p] = 4 := by rw [refE_one, if_neg (by rw [hb]; decide), if_neg (by rw [ho]; decide)]
theorem refE_k1 {w h tol : Int} {p : P2} (hb : badT tol = false) (ho : onP w h p = true) : refE w h [tol] [p] = 0 := by rw [refE_one, if_neg (by rw [hb]; decide), if_pos ho]
theorem refE_b1 {w h tol : Int} {ps : List P2} (hb : badT tol = true) : refE w h [tol] ps = 2 := refE_t (by simp [hb])
theorem region_b (w h : Int) (ds : List D) (ts : List TL) (hr : RowOk ds ts) (hc : CvOk w h ts) (hg : tsRng ts) (p : P2) (tol : Int) (hb : badT tol = true) : DFun Try.prog 9 [cvD w h ds, .val (.agg #[.int .i64 p.x, .int .i64 p.y]), .val (.int .i64 tol)] [] (.tup [.val (.slice none 0 0), .val (.int .i64 2)]) [] := by
  have h1 := region_n w h ds ts hr hc hg p tol (by rw [refE_b1 hb]; decide)
  rw [refE_b1 hb] at h1
  exact h1
theorem fill_b (w h : Int) (ds : List D) (ts : List TL) (hr : RowOk ds ts) (hc : CvOk w h ts) (hg : tsRng ts) (p : P2) (tol : Int) (c : C4) (hb : badT tol = true) : DFun Try.prog 10 [cvD w h ds, .val (.agg #[.int .i64 p.x, .int .i64 p.y]), .val (.int .i64 tol), .val (.agg (c4 c).toArray)] [] (.tup [.val (.pointer none), .val (.int .i64 2)]) [] := by
  have h1 := fill_n w h ds ts hr hc hg p tol c (by rw [refE_b1 hb]; decide)
  rw [refE_b1 hb] at h1
  exact h1
theorem region_off (w h : Int) (ds : List D) (ts : List TL) (hr : RowOk ds ts) (hc : CvOk w h ts) (hg : tsRng ts) (p : P2) (tol : Int) (hb : badT tol = false) (ho : onP w h p = false) : DFun Try.prog 9 [cvD w h ds, .val (.agg #[.int .i64 p.x, .int .i64 p.y]), .val (.int .i64 tol)] [] (.tup [.val (.slice none 0 0), .val (.int .i64 4)]) [] := by
  have h1 := region_n w h ds ts hr hc hg p tol (by rw [refE_o1 hb ho]; decide)
  rw [refE_o1 hb ho] at h1
  exact h1
theorem fill_off (w h : Int) (ds : List D) (ts : List TL) (hr : RowOk ds ts) (hc : CvOk w h ts) (hg : tsRng ts) (p : P2) (tol : Int) (c : C4) (hb : badT tol = false) (ho : onP w h p = false) : DFun Try.prog 10 [cvD w h ds, .val (.agg #[.int .i64 p.x, .int .i64 p.y]), .val (.int .i64 tol), .val (.agg (c4 c).toArray)] [] (.tup [.val (.pointer none), .val (.int .i64 4)]) [] := by
  have h1 := fill_n w h ds ts hr hc hg p tol c (by rw [refE_o1 hb ho]; decide)
  rw [refE_o1 hb ho] at h1
  exact h1
set_option maxRecDepth 4000 in
set_option maxHeartbeats 1000000 in
theorem fregs_d (w h : Int) (ts : List TL) (hg : tsRng ts) (l : List (Int × Int × Int)) (c : C4) : DFun Try.prog 3 [shD w h ts, .slf 3 l.length (l.flatMap q3), .val (.agg (c4 c).toArray)] [] (.val (.bool true)) [] := by
  refine zan (N := 137) 0 (by kernel_rfl) Try.func3 rfl rfl rfl (by simp only [fr0, Nat.zero_add, Nat.reduceAdd]; exact rfl) rfl fun s0 hs0 => ?_
  refine dwp_len (t := 1) rfl fun hl1 hL1 => ?_
  refine zaf ?_
  refine zai 2 (by simp only [holes, List.cons_append, List.nil_append]; exact rfl) ?_
  refine zad ?_
  refine zaj rfl rfl rfl (op_boxam 0 rfl (ev1 rfl) rfl) (by simp only [upd, zaa, za]; exact rfl) ?_
  refine zaj rfl rfl rfl (op_boxa 1 rfl (ev1 rfl) rfl) (by simp only [upd, zaa, za]; exact rfl) ?_
  refine zab rfl rfl rfl (zac (.inr rfl) (ev1 rfl)) ?_
  refine zae ?_
  refine zaf ?_
  refine zaf ?_
  refine zad ?_
  refine zab rfl rfl rfl (zah [] [] [] rfl (ev1 rfl) en rfl rfl (wakes_d) rfl rfl rfl rfl rfl rfl) ?_
  refine zab rfl rfl rfl ((op_not rfl (ev1 rfl)).cast (d' := .val (.bool false)) (by kernel_rfl)) ?_
  refine zae ?_
  refine dwp_if_f rfl (rfl) ?_
  refine zak ?_
  refine zaf ?_
  by_cases hr : rightB w h (ts.take 17) = true
  · have hc := rightB_ok hr
    have hle := hc.le
    refine zai 1 (by simp only [holes, List.cons_append, List.nil_append]; exact rfl) ?_
    refine zad ?_
    refine zab rfl rfl rfl (op_ldmw rfl tb24 (ev1 rfl) rfl rfl) ?_
    refine zab rfl rfl rfl (zah [] [] [] rfl (ev1 rfl) (ec (ev1 rfl) en) rfl rfl (lof_y w h ts hc) rfl rfl rfl rfl rfl rfl) ?_
    refine zab rfl rfl rfl (zac (.inl rfl) (ev1 rfl)) ?_
    refine zab rfl rfl rfl (op_ext rfl (ev1 rfl) rfl) ?_
    refine zab rfl rfl rfl (op_ext rfl (ev1 rfl) rfl) ?_
    refine zab rfl rfl rfl (op_ext rfl (ev1 rfl) rfl) ?_
    refine zaj rfl rfl rfl (op_alloc 2 rfl zr24 rfl) (by simp only [upd, zaa, za]; exact rfl) ?_
    refine zab rfl rfl rfl (zac (.inr rfl) (ev1 rfl)) ?_
    refine walk_s rfl rfl (op_stam rfl tb24 (ev1 rfl) (ev1 rfl) rfl rfl rfl rfl) (by simp only [upd, zaa, za]; exact rfl) ?_
    refine zab rfl rfl rfl (zac (.inr rfl) (ev1 rfl)) ?_
    refine zae ?_
    refine zaf ?_
    refine zaf ?_
    refine zad ?_
    refine zab rfl rfl rfl (zac (.inl rfl) (ev1 rfl)) ?_
    refine zab rfl rfl rfl ((op_not rfl (ev1 rfl)).cast (d' := .val (.bool false)) (by kernel_rfl)) ?_
    refine zae ?_
    refine dwp_if_f rfl (rfl) ?_
    refine zak ?_
    refine zaf ?_
    refine zaf ?_
    refine zad ?_
    refine zab rfl rfl rfl (zac (.inl rfl) (ev1 rfl)) ?_
    refine zab rfl rfl rfl (op_len rfl sl25 (ev1 rfl)) ?_
    refine zab rfl rfl rfl (zac (.inl rfl) (ev1 rfl)) ?_
    refine zae ?_
    refine zal ?_
    refine dwp_loopS ⟨hs0, rfl⟩ (α := Nat) (fun i => [(37, .val (.int .i64 (i : Int)))]) [(5, _), (7, _), (8, _), (35, _), (36, _)] (fun i => []) [_, _, _] (fun i => i ≤ l.length) (fun i => l.length - i) 0 [0, 1, 2] (Nat.zero_le _) rfl ⟨rfl, rfl, rfl, rfl, rfl, trivial⟩ ⟨rfl, trivial⟩ ⟨rfl, rfl, rfl, trivial⟩ ?_
    intro i hx
    simp only [upd, zaa, za, List.cons_append, List.nil_append]
    have hi0 := hx
    refine zaf ?_
    refine zad ?_
    refine zab rfl rfl rfl (op_lss rfl (ev1 rfl) (ev1 rfl)) ?_
    refine zae ?_
    refine zaf ?_
    refine dwp_cond rfl (fun c3 => ?_) (fun c3 => ?_)
    · try simp only [decide_eq_true_eq, decide_eq_false_iff_not, beq_iff_eq, bne_iff_ne, beq_eq_false_iff_ne, bne_eq_false_iff_eq, Bool.not_eq_true', Bool.not_eq_false', Bool.and_eq_true, Bool.or_eq_true, Bool.or_eq_false_iff, ne_eq, Decidable.not_not, Int.not_lt, Int.not_le] at c3
      refine zak ?_
      refine zaf ?_
      refine zal ?_
      refine zaf ?_
      have hi : i < l.length := by omega
      refine zai 1 (by simp only [holes, List.cons_append, List.nil_append]; exact rfl) ?_
      refine zad ?_
      refine zab rfl rfl rfl (zac (.inl rfl) (ev1 rfl)) ?_
      refine zab rfl rfl rfl (op_ixsr (j := i) rfl sl25 (ev1 rfl) (ev1 rfl) (fun _ => rfl) (by decide) (by omega) (by omega)) ?_
      refine zab rfl rfl rfl (op_ldwd rfl tb32 (ev1 rfl) rfl) ?_
      refine zaj rfl rfl rfl (op_alloc 3 rfl zr32 rfl) (by simp only [upd, zaa, za]; exact rfl) ?_
      refine zab rfl rfl rfl (zac (.inr rfl) (ev1 rfl)) ?_
      refine walk_s rfl rfl (op_stwa rfl tb32 (ev1 rfl) (ev1 rfl) rfl rfl rfl rfl) (by simp only [upd, zaa, za]; exact rfl) ?_
      refine zae ?_
      refine zaf ?_
      refine zaf ?_
      refine zad ?_
      refine zab rfl rfl rfl (zac (.inl rfl) (ev1 rfl)) ?_
      refine zab rfl rfl rfl (op_eql rfl (ev1 rfl) (ev1 rfl)) ?_
      refine zae ?_
      refine dwp_cond rfl (fun c4 => ?_) (fun c4 => ?_)
      · try simp only [decide_eq_true_eq, decide_eq_false_iff_not, beq_iff_eq, bne_iff_ne, beq_eq_false_iff_ne, bne_eq_false_iff_eq, Bool.not_eq_true', Bool.not_eq_false', Bool.and_eq_true, Bool.or_eq_true, Bool.or_eq_false_iff, ne_eq, Decidable.not_not, Int.not_lt, Int.not_le] at c4
        refine dwp_exit ?_
        refine zaf ?_
        refine zad ?_
        refine zab rfl rfl rfl (op_build0 rfl fl34 zr34) ?_
        refine zab rfl rfl rfl (zah [] [] [] rfl (ev1 rfl) (ec (ev1 rfl) (ec (ev1 rfl) (ec (ev1 rfl) en))) rfl rfl (region_0 ⟨0, 0⟩ 0) rfl rfl rfl rfl rfl rfl) ?_
        refine zab rfl rfl rfl (zac (.inl rfl) (ev1 rfl)) ?_
        refine zab rfl rfl rfl (op_ext rfl (ev1 rfl) rfl) ?_
        refine zab rfl rfl rfl (op_ext rfl (ev1 rfl) rfl) ?_
        refine zab rfl rfl rfl (zac (.inr rfl) (ev1 rfl)) ?_
        refine zab rfl rfl rfl (zac (.inr rfl) (ev1 rfl)) ?_
        refine zae ?_
        refine zaf ?_
        refine zad ?_
        refine zab rfl rfl rfl (op_build0 rfl fl34 zr34) ?_
        refine zab rfl rfl rfl (op_ldw rfl tb27 (ev1 rfl) rfl rfl) ?_
        refine zab rfl rfl rfl (zah [] [] [] rfl (ev1 rfl) (ec (ev1 rfl) (ec (ev1 rfl) (ec (ev1 rfl) (ec (ev1 rfl) en)))) rfl rfl (fill_0 ⟨0, 0⟩ (-1) c) rfl rfl rfl rfl rfl rfl) ?_
        refine zab rfl rfl rfl (zac (.inl rfl) (ev1 rfl)) ?_
        refine zab rfl rfl rfl (op_ext rfl (ev1 rfl) rfl) ?_
        refine zab rfl rfl rfl (op_ext rfl (ev1 rfl) rfl) ?_
        refine zab rfl rfl rfl (zac (.inr rfl) (ev1 rfl)) ?_
        refine zab rfl rfl rfl (zac (.inr rfl) (ev1 rfl)) ?_
        refine zae ?_
        refine zaf ?_
        refine zad ?_
        refine zab rfl rfl rfl (zac (.inl rfl) (ev1 rfl)) ?_
        refine zab rfl rfl rfl ((op_eql rfl (ev1 rfl) (ev1 rfl)).cast (d' := .val (.bool true)) (by kernel_rfl)) ?_
        refine zab rfl rfl rfl (zac (.inl rfl) (ev1 rfl)) ?_
        refine walk_k (gd_t (b := true) rfl rfl rfl) rfl rfl rfl (zac (.inl rfl) (ev1 rfl)) (by simp only [upd, zaa, za]; exact rfl) ?_
        refine walk_k (gd_t (b := true) rfl rfl rfl) rfl rfl rfl ((op_eql rfl (ev2 rfl) (ev1 rfl)).cast (d' := .val (.bool true)) (by kernel_rfl)) (by simp only [upd, zaa, za]; exact rfl) ?_
        refine zab rfl rfl rfl ((op_and rfl (ev1 rfl) (ev3 rfl (fun _ => rfl))).cast (d' := .val (.bool true)) (by rfl)) ?_
        refine zab rfl rfl rfl (zac (.inl rfl) (ev1 rfl)) ?_
        refine walk_k (gd_t (b := true) rfl rfl rfl) rfl rfl rfl (zac (.inl rfl) (ev1 rfl)) (by simp only [upd, zaa, za]; exact rfl) ?_
        refine walk_k (gd_t (b := true) rfl rfl rfl) rfl rfl rfl (op_pnil0 rfl pt29 (ev2 rfl)) (by simp only [upd, zaa, za]; exact rfl) ?_
        refine zab rfl rfl rfl ((op_and rfl (ev1 rfl) (ev3 rfl (fun _ => rfl))).cast (d' := .val (.bool true)) (by rfl)) ?_
        refine zab rfl rfl rfl (zac (.inr rfl) (ev1 rfl)) ?_
        refine zae ?_
        refine zao ?_
        refine kend0 (rs1 rfl (rv_t rfl)) rfl ?_
        rfl
      · try simp only [decide_eq_true_eq, decide_eq_false_iff_not, beq_iff_eq, bne_iff_ne, beq_eq_false_iff_ne, bne_eq_false_iff_eq, Bool.not_eq_true', Bool.not_eq_false', Bool.and_eq_true, Bool.or_eq_true, Bool.or_eq_false_iff, ne_eq, Decidable.not_not, Int.not_lt, Int.not_le] at c4
        refine zak ?_
        refine zaf ?_
        refine zai 1 (by simp only [holes, List.cons_append, List.nil_append]; exact rfl) ?_
        refine dwp_draw [([], []), ([3], []), ([], []), ([3], []), ([], []), ([], []), ([3], []), ([4], [4]), ([4], [4]), ([], [])] mixed (by kernel_rfl) ?_
        refine zag rfl rfl (op_ixl rfl ar32 (ev1 rfl) (ev1 rfl) (fun _ => by omega)) ?_
        refine zag rfl rfl (zam rfl tb3 (ev1 rfl) rfl rfl) ?_
        refine zag rfl rfl (op_ixl rfl ar32 (ev1 rfl) (ev1 rfl) (fun _ => by omega)) ?_
        refine zag rfl rfl (zam rfl tb3 (ev1 rfl) rfl rfl) ?_
        refine zag rfl rfl (op_build (ps := [(0, .tmp 45), (1, .tmp 47)]) rfl fl34 zr34 (vc (ev1 rfl) (vc (ev1 rfl) vn)) rfl rfl) ?_
        refine zag rfl rfl (op_ixl rfl ar32 (ev1 rfl) (ev1 rfl) (fun _ => by omega)) ?_
        refine zag rfl rfl (zam rfl tb3 (ev1 rfl) rfl rfl) ?_
        refine lex_w rfl rfl (op_alloc 4 rfl zr34 rfl) rfl (by simp only [upd, zaa, za]; exact rfl) ?_
        refine lex_s rfl rfl (op_stwa rfl tb34 (ev1 rfl) (ev1 rfl) rfl rfl rfl rfl) rfl (by simp only [upd, zaa, za]; exact rfl) ?_
        refine zag rfl rfl (zac (.inr rfl) (ev1 rfl)) ?_
        refine lex_nil ?_
        refine zaf ?_
        by_cases hbad : badT l[i].2.2 = true
        · refine zad ?_
          refine zab rfl rfl rfl (zac (.inl rfl) (ev1 rfl)) ?_
          refine zab rfl rfl rfl (op_ldw rfl tb34 (ev1 rfl) rfl rfl) ?_
          refine zab rfl rfl rfl (zac (.inl rfl) (ev1 rfl)) ?_
          refine zab rfl rfl rfl (zah [] [] [] rfl (ev1 rfl) (ec (ev1 rfl) (ec (ev1 rfl) (ec (ev1 rfl) en))) rfl rfl (region_b w h _ (ts.take 17) (dpR_ok _) hc (take_rng hg 17) ⟨l[i].1, l[i].2.1⟩ l[i].2.2 hbad) rfl rfl rfl rfl rfl rfl) ?_
          refine zab rfl rfl rfl (zac (.inl rfl) (ev1 rfl)) ?_
          refine zab rfl rfl rfl (op_ext rfl (ev1 rfl) rfl) ?_
          refine zab rfl rfl rfl (op_ext rfl (ev1 rfl) rfl) ?_
          refine zab rfl rfl rfl (zac (.inr rfl) (ev1 rfl)) ?_
          refine zab rfl rfl rfl (zac (.inr rfl) (ev1 rfl)) ?_
          refine zae ?_
          refine zaf ?_
          refine zad ?_
          refine zab rfl rfl rfl (zac (.inl rfl) (ev1 rfl)) ?_
          refine zab rfl rfl rfl (op_ldw rfl tb34 (ev1 rfl) rfl rfl) ?_
          refine zab rfl rfl rfl (zac (.inl rfl) (ev1 rfl)) ?_
          refine zab rfl rfl rfl (op_ldw rfl tb27 (ev1 rfl) rfl rfl) ?_
          refine zab rfl rfl rfl (zah [] [] [] rfl (ev1 rfl) (ec (ev1 rfl) (ec (ev1 rfl) (ec (ev1 rfl) (ec (ev1 rfl) en)))) rfl rfl (fill_b w h _ (ts.take 17) (dpR_ok _) hc (take_rng hg 17) ⟨l[i].1, l[i].2.1⟩ l[i].2.2 c hbad) rfl rfl rfl rfl rfl rfl) ?_
          refine zab rfl rfl rfl (zac (.inl rfl) (ev1 rfl)) ?_
          refine zab rfl rfl rfl (op_ext rfl (ev1 rfl) rfl) ?_
          refine zab rfl rfl rfl (op_ext rfl (ev1 rfl) rfl) ?_
          refine zab rfl rfl rfl (zac (.inr rfl) (ev1 rfl)) ?_
          refine zab rfl rfl rfl (zac (.inr rfl) (ev1 rfl)) ?_
          refine zae ?_
          refine zaf ?_
          refine zad ?_
          refine zab rfl rfl rfl (zac (.inr rfl) (ev1 rfl)) ?_
          refine zae ?_
          refine zaf ?_
          refine zad ?_
          refine zab rfl rfl rfl (zac (.inr rfl) (ev1 rfl)) ?_
          refine zae ?_
          refine zaf ?_
          refine zaf ?_
          refine zad ?_
          refine zab rfl rfl rfl (zac (.inl rfl) (ev1 rfl)) ?_
          refine zab rfl rfl rfl ((zah [] [] [] rfl (ev1 rfl) (ec (ev1 rfl) en) rfl rfl (rtol_d l[i].2.2) rfl rfl rfl rfl rfl rfl).cast (d' := .val (.bool false)) (by rw [hbad]; rfl)) ?_
          refine zae ?_
          refine dwp_if_f rfl (rfl) ?_
          refine zak ?_
          refine zaf ?_
          refine zaf ?_
          refine zad ?_
          refine zab rfl rfl rfl (zac (.inl rfl) (ev1 rfl)) ?_
          refine zab rfl rfl rfl (zac (.inl rfl) (ev1 rfl)) ?_
          refine zab rfl rfl rfl ((op_neq rfl (ev1 rfl) (ev1 rfl)).cast (d' := .val (.bool false)) (by kernel_rfl)) ?_
          refine zab rfl rfl rfl (zac (.inl rfl) (ev1 rfl)) ?_
          refine walk_k (gd_f (b := false) rfl rfl rfl) rfl rfl rfl (zac (.inl rfl) (ev1 rfl)) (by simp only [upd, zaa, za]; exact rfl) ?_
          refine walk_k (gd_f (b := false) rfl rfl rfl) rfl rfl rfl (zac (.inl rfl) (ev1 rfl)) (by simp only [upd, zaa, za]; exact rfl) ?_
          refine walk_k (gd_f (b := false) rfl rfl rfl) rfl rfl rfl ((op_neq rfl (ev2 rfl) (ev2 rfl)).cast (d' := .val (.bool false)) (by kernel_rfl)) (by simp only [upd, zaa, za]; exact rfl) ?_
          refine zab rfl rfl rfl ((op_or rfl (ev1 rfl) (ev3 rfl (fun _ => rfl))).cast (d' := .val (.bool false)) (by rfl)) ?_
          refine zab rfl rfl rfl (zac (.inl rfl) (ev1 rfl)) ?_
          refine walk_k (gd_f (b := false) rfl rfl rfl) rfl rfl rfl (zac (.inl rfl) (ev1 rfl)) (by simp only [upd, zaa, za]; exact rfl) ?_
          refine walk_k (gd_f (b := false) rfl rfl rfl) rfl rfl rfl (op_pnil0n rfl pt29 (ev2 rfl)) (by simp only [upd, zaa, za]; exact rfl) ?_
          refine walk_k (gd_f (b := false) rfl rfl rfl) rfl rfl rfl (zac (.inl rfl) (ev1 rfl)) (by simp only [upd, zaa, za]; exact rfl) ?_
          refine walk_k (gd_f (b := false) rfl rfl rfl) rfl rfl rfl ((op_eql rfl (ev2 rfl) (ev1 rfl)).cast (d' := .val (.bool false)) (by kernel_rfl)) (by simp only [upd, zaa, za]; exact rfl) ?_
          refine walk_k (gd_f (b := false) rfl rfl rfl) rfl rfl rfl ((op_neb rfl un4 (ev2 rfl) (ev2 rfl)).cast (d' := .val (.bool false)) (by kernel_rfl)) (by simp only [upd, zaa, za]; exact rfl) ?_
          refine zab rfl rfl rfl ((op_or rfl (ev1 rfl) (ev3 rfl (fun _ => rfl))).cast (d' := .val (.bool false)) (by rfl)) ?_
          refine zae ?_
          refine dwp_if_f rfl (rfl) ?_
          refine zak ?_
          refine zaf ?_
          refine zaf ?_
          refine zad ?_
          refine zab rfl rfl rfl (zac (.inl rfl) (ev1 rfl)) ?_
          refine zab rfl rfl rfl ((op_eql rfl (ev1 rfl) (ev1 rfl)).cast (d' := .val (.bool false)) (by kernel_rfl)) ?_
          refine zae ?_
          refine dwp_if_f rfl (rfl) ?_
          refine zak ?_
          refine zaf ?_
          refine dwp_draw [([], []), ([], []), ([], []), ([], []), ([], []), ([], []), ([], []), ([2], []), ([], []), ([], []), ([], [])] mixed (by kernel_rfl) ?_
          refine zag rfl rfl (zac (.inl rfl) (ev1 rfl)) ?_
          refine zag rfl rfl (zac (.inl rfl) (ev1 rfl)) ?_
          refine zag rfl rfl ((zah [] [] [] rfl (ev1 rfl) (ec (evnil 3 (ev1 rfl)) (ec (evnil 3 (ev1 rfl)) en)) rfl rfl (equalS [] []) rfl rfl rfl rfl rfl rfl).cast (d' := .val (.bool true)) (by rfl)) ?_
          refine zag rfl rfl ((op_not rfl (ev1 rfl)).cast (d' := .val (.bool false)) (by kernel_rfl)) ?_
          refine zag rfl rfl (zac (.inl rfl) (ev1 rfl)) ?_
          refine lex_k (gd_f (b := false) rfl rfl rfl) rfl rfl (zac (.inl rfl) (ev1 rfl)) rfl (by simp only [upd, zaa, za]; exact rfl) ?_
          refine lex_k (gd_f (b := false) rfl rfl rfl) rfl rfl (zah [] [] [] rfl (ev1 rfl) (ec (ev2 rfl) en) rfl rfl (show_d w h _ (ts.take 17) (dpR_ok _) hc) rfl rfl rfl rfl rfl rfl) rfl (by simp only [upd, zaa, za]; exact rfl) ?_
          refine lex_k (gd_f (b := false) rfl rfl rfl) rfl rfl (op_ldmw rfl tb24 (ev1 rfl) rfl rfl) rfl (by simp only [upd, zaa, za]; exact rfl) ?_
          refine lex_k (gd_f (b := false) rfl rfl rfl) rfl rfl ((zah [] [] [] rfl (ev1 rfl) (ec (ev2 rfl) (ec (ev2 rfl) en)) rfl rfl (alike_d w h w h (ts.take 17) (ts.take 17)) rfl rfl rfl rfl rfl rfl).cast (d' := .val (.bool true)) (by simp)) rfl (by simp only [upd, zaa, za]; exact rfl) ?_
          refine lex_k (gd_f (b := false) rfl rfl rfl) rfl rfl ((op_not rfl (ev2 rfl)).cast (d' := .val (.bool false)) (by kernel_rfl)) rfl (by simp only [upd, zaa, za]; exact rfl) ?_
          refine zag rfl rfl ((op_or rfl (ev1 rfl) (ev3 rfl (fun _ => rfl))).cast (d' := .val (.bool false)) (by rfl)) ?_
          refine lex_nil ?_
          refine dwp_if_f rfl (rfl) ?_
          refine zak ?_
          refine zad ?_
          refine zab rfl rfl rfl (op_add' rfl (ev1 rfl) (ev1 rfl) (fun _ => IntWalk.i64_in _ (by omega))) ?_
          refine zab rfl rfl rfl (zac (.inl rfl) (ev1 rfl)) ?_
          refine zae ?_
          refine ⟨i + 1, [0, 1, 2], by omega, by simp only []; omega, rfl, ⟨rfl, rfl, rfl, rfl, rfl, rfl, trivial⟩, ⟨rfl, rfl, rfl, trivial⟩⟩
        · by_cases hon : onP w h ⟨l[i].1, l[i].2.1⟩ = true
          · have hbad : badT l[i].2.2 = false := by simpa using hbad
            refine zad ?_
            refine zab rfl rfl rfl (zac (.inl rfl) (ev1 rfl)) ?_
            refine zab rfl rfl rfl (op_ldw rfl tb34 (ev1 rfl) rfl rfl) ?_
            refine zab rfl rfl rfl (zac (.inl rfl) (ev1 rfl)) ?_
            refine zab rfl rfl rfl (zah [] [] [] rfl (ev1 rfl) (ec (ev1 rfl) (ec (ev1 rfl) (ec (ev1 rfl) en))) rfl rfl (region_d w h _ (ts.take 17) (dpR_ok _) hc (take_rng hg 17) ⟨l[i].1, l[i].2.1⟩ l[i].2.2 (refE_k1 hbad hon)) rfl rfl rfl rfl rfl rfl) ?_
            refine zab rfl rfl rfl (zac (.inl rfl) (ev1 rfl)) ?_
            refine zab rfl rfl rfl (op_ext rfl (ev1 rfl) rfl) ?_
            refine zab rfl rfl rfl (op_ext rfl (ev1 rfl) rfl) ?_
            refine zab rfl rfl rfl (zac (.inr rfl) (ev1 rfl)) ?_
            refine zab rfl rfl rfl (zac (.inr rfl) (ev1 rfl)) ?_
            refine zae ?_
            refine zaf ?_
            refine zad ?_
            refine zab rfl rfl rfl (zac (.inl rfl) (ev1 rfl)) ?_
            refine zab rfl rfl rfl (op_ldw rfl tb34 (ev1 rfl) rfl rfl) ?_
            refine zab rfl rfl rfl (zac (.inl rfl) (ev1 rfl)) ?_
            refine zab rfl rfl rfl (op_ldw rfl tb27 (ev1 rfl) rfl rfl) ?_
            refine zab rfl rfl rfl (zah [] [] [] rfl (ev1 rfl) (ec (ev1 rfl) (ec (ev1 rfl) (ec (ev1 rfl) (ec (ev1 rfl) en)))) rfl rfl (fill_d w h _ (ts.take 17) (dpR_ok _) hc (take_rng hg 17) ⟨l[i].1, l[i].2.1⟩ l[i].2.2 c (refE_k1 hbad hon)) rfl rfl rfl rfl rfl rfl) ?_
            refine zab rfl rfl rfl (zac (.inl rfl) (ev1 rfl)) ?_
            refine zab rfl rfl rfl (op_ext rfl (ev1 rfl) rfl) ?_
            refine zab rfl rfl rfl (op_ext rfl (ev1 rfl) rfl) ?_
            refine zab rfl rfl rfl (zac (.inr rfl) (ev1 rfl)) ?_
            refine zab rfl rfl rfl (zac (.inr rfl) (ev1 rfl)) ?_
            refine zae ?_
            refine zaf ?_
            refine zad ?_
            refine zab rfl rfl rfl (zac (.inr rfl) (ev1 rfl)) ?_
            refine zae ?_
            refine zaf ?_
            refine zad ?_
            refine zab rfl rfl rfl (zac (.inr rfl) (ev1 rfl)) ?_
            refine zae ?_
            refine zaf ?_
            refine zaf ?_
            refine zad ?_
            refine zab rfl rfl rfl (zac (.inl rfl) (ev1 rfl)) ?_
            refine zab rfl rfl rfl ((zah [] [] [] rfl (ev1 rfl) (ec (ev1 rfl) en) rfl rfl (rtol_d l[i].2.2) rfl rfl rfl rfl rfl rfl).cast (d' := .val (.bool true)) (by rw [hbad]; rfl)) ?_
            refine zae ?_
            refine dwp_if_t rfl (rfl) ?_
            refine zaf ?_
            refine zad ?_
            refine zab rfl rfl rfl (zac (.inr rfl) (ev1 rfl)) ?_
            refine zae ?_
            refine zaf ?_
            refine zad ?_
            refine zab rfl rfl rfl (op_ldmw rfl tb24 (ev1 rfl) rfl rfl) ?_
            refine zab rfl rfl rfl (op_ldw rfl tb34 (ev1 rfl) rfl rfl) ?_
            refine zab rfl rfl rfl ((zah [] [] [] rfl (ev1 rfl) (ec (ev1 rfl) (ec (ev1 rfl) en)) rfl rfl (ron_d w h (ts.take 17) hc ⟨l[i].1, l[i].2.1⟩) rfl rfl rfl rfl rfl rfl).cast (d' := .val (.bool true)) (by rw [hon])) ?_
            refine zae ?_
            refine dwp_if_t rfl (rfl) ?_
            refine zad ?_
            refine zab rfl rfl rfl (zac (.inr rfl) (ev1 rfl)) ?_
            refine zae ?_
            refine zaf ?_
            refine zaf ?_
            refine zad ?_
            refine zab rfl rfl rfl (zac (.inl rfl) (ev1 rfl)) ?_
            refine zab rfl rfl rfl (zac (.inl rfl) (ev1 rfl)) ?_
            refine zab rfl rfl rfl ((op_neq rfl (ev1 rfl) (ev1 rfl)).cast (d' := .val (.bool false)) (by kernel_rfl)) ?_
            refine zab rfl rfl rfl (zac (.inl rfl) (ev1 rfl)) ?_
            refine walk_k (gd_f (b := false) rfl rfl rfl) rfl rfl rfl (zac (.inl rfl) (ev1 rfl)) (by simp only [upd, zaa, za]; exact rfl) ?_
            refine walk_k (gd_f (b := false) rfl rfl rfl) rfl rfl rfl (zac (.inl rfl) (ev1 rfl)) (by simp only [upd, zaa, za]; exact rfl) ?_
            refine walk_k (gd_f (b := false) rfl rfl rfl) rfl rfl rfl ((op_neq rfl (ev2 rfl) (ev2 rfl)).cast (d' := .val (.bool false)) (by kernel_rfl)) (by simp only [upd, zaa, za]; exact rfl) ?_
            refine zab rfl rfl rfl ((op_or rfl (ev1 rfl) (ev3 rfl (fun _ => rfl))).cast (d' := .val (.bool false)) (by rfl)) ?_
            refine zab rfl rfl rfl (zac (.inl rfl) (ev1 rfl)) ?_
            refine walk_k (gd_f (b := false) rfl rfl rfl) rfl rfl rfl (zac (.inl rfl) (ev1 rfl)) (by simp only [upd, zaa, za]; exact rfl) ?_
            refine walk_k (gd_f (b := false) rfl rfl rfl) rfl rfl rfl (op_pnilmn rfl pt29 (ev2 rfl)) (by simp only [upd, zaa, za]; exact rfl) ?_
            refine walk_k (gd_f (b := false) rfl rfl rfl) rfl rfl rfl (zac (.inl rfl) (ev1 rfl)) (by simp only [upd, zaa, za]; exact rfl) ?_
            refine walk_k (gd_f (b := false) rfl rfl rfl) rfl rfl rfl ((op_eql rfl (ev2 rfl) (ev1 rfl)).cast (d' := .val (.bool true)) (by kernel_rfl)) (by simp only [upd, zaa, za]; exact rfl) ?_
            refine walk_k (gd_f (b := false) rfl rfl rfl) rfl rfl rfl ((op_neb rfl un4 (ev2 rfl) (ev2 rfl)).cast (d' := .val (.bool false)) (by kernel_rfl)) (by simp only [upd, zaa, za]; exact rfl) ?_
            refine zab rfl rfl rfl ((op_or rfl (ev1 rfl) (ev3 rfl (fun _ => rfl))).cast (d' := .val (.bool false)) (by rfl)) ?_
            refine zae ?_
            refine dwp_if_f rfl (rfl) ?_
            refine zak ?_
            refine zaf ?_
            refine zaf ?_
            refine zad ?_
            refine zab rfl rfl rfl (zac (.inl rfl) (ev1 rfl)) ?_
            refine zab rfl rfl rfl ((op_eql rfl (ev1 rfl) (ev1 rfl)).cast (d' := .val (.bool true)) (by kernel_rfl)) ?_
            refine zae ?_
            refine dwp_if_t rfl (rfl) ?_
            refine zaf ?_
            refine zai 1 (by simp only [holes, List.cons_append, List.nil_append]; exact rfl) ?_
            refine zad ?_
            refine zab rfl rfl rfl (op_ldmw rfl tb24 (ev1 rfl) rfl rfl) ?_
            refine zab rfl rfl rfl (op_ldw rfl tb34 (ev1 rfl) rfl rfl) ?_
            refine zab rfl rfl rfl (zac (.inl rfl) (ev1 rfl)) ?_
            refine zab rfl rfl rfl ((op_build0a rfl ar45 zr45).cast (d' := .val (.agg (fV zFD).toArray)) (by rw [← fV_zero])) ?_
            refine zab rfl rfl rfl ((zah [] [] [] rfl (ev1 rfl) (ec (ev1 rfl) (ec (ev1 rfl) (ec (ev1 rfl) (ec (ev1 rfl) en)))) rfl rfl (rgrown_d w h (ts.take 17) hc (take_rng hg 17) ⟨l[i].1, l[i].2.1⟩ hon l[i].2.2 zFD) rfl rfl rfl rfl rfl rfl).cast (d' := .val (.agg (fV (rgF w h (ts.take 17) l[i].2.2 ⟨l[i].1, l[i].2.1⟩)).toArray)) (by rw [grF_zero])) ?_
            refine zaj rfl rfl rfl (op_alloc 5 rfl zr45 rfl) (by simp only [upd, zaa, za]; exact rfl) ?_
            refine walk_s rfl rfl (op_stwa rfl tb45 (ev1 rfl) (ev1 rfl) rfl (fV_len _) (fV_oc _) (by rw [fV_len, zFV_len])) (by simp only [upd, zaa, za]; exact rfl) ?_
            refine zae ?_
            refine zaf ?_
            refine zad ?_
            refine zab rfl rfl rfl (op_ldmw rfl tb24 (ev1 rfl) rfl rfl) ?_
            refine zab rfl rfl rfl (op_ldw rfl tb45 (ev1 rfl) rfl (fV_len _)) ?_
            refine zab rfl rfl rfl (zah [] [] [] rfl (ev1 rfl) (ec (ev1 rfl) (ec (ev1 rfl) en)) rfl rfl (rspans_d w h (ts.take 17) hc (rgF w h (ts.take 17) l[i].2.2 ⟨l[i].1, l[i].2.1⟩)) rfl rfl rfl rfl rfl rfl) ?_
            refine zab rfl rfl rfl (zac (.inr rfl) (ev1 rfl)) ?_
            refine zae ?_
            refine zaf ?_
            refine dwp_draw [([], []), ([], []), ([2], []), ([5], []), ([1], []), ([], []), ([], []), ([], [])] mixed (by kernel_rfl) ?_
            refine zag rfl rfl (zac (.inl rfl) (ev1 rfl)) ?_
            refine zag rfl rfl (zah [] [] [] rfl (ev1 rfl) (ec (ev1 rfl) en) rfl rfl (show_d w h _ _ (dpR_ok _) (hc.puts _)) rfl rfl rfl rfl rfl rfl) ?_
            refine zag rfl rfl (op_ldmw rfl tb24 (ev1 rfl) rfl rfl) ?_
            refine zag rfl rfl (op_ldw rfl tb45 (ev1 rfl) rfl (fV_len _)) ?_
            refine zag rfl rfl (op_ldw rfl tb27 (ev1 rfl) rfl rfl) ?_
            refine zag rfl rfl (zah [] [] [] rfl (ev1 rfl) (ec (ev1 rfl) (ec (ev1 rfl) (ec (ev1 rfl) en))) rfl rfl (rfilled_d w h (ts.take 17) hc (rgF w h (ts.take 17) l[i].2.2 ⟨l[i].1, l[i].2.1⟩) c) rfl rfl rfl rfl rfl rfl) ?_
            refine zag rfl rfl ((zah [] [] [] rfl (ev1 rfl) (ec (ev1 rfl) (ec (ev1 rfl) en)) rfl rfl (alike_d w h w h _ (flC w (rgF w h (ts.take 17) l[i].2.2 ⟨l[i].1, l[i].2.1⟩) c (ts.take 17))) rfl rfl rfl rfl rfl rfl).cast (d' := .val (.bool true)) (by rw [fill_eq hc]; simp)) ?_
            refine zag rfl rfl ((op_not rfl (ev1 rfl)).cast (d' := .val (.bool false)) (by kernel_rfl)) ?_
            refine lex_nil ?_
            refine dwp_if_f rfl (rfl) ?_
            refine zak ?_
            refine zaf ?_
            refine dwp_draw [([], []), ([], []), ([], []), ([], []), ([], []), ([], []), ([], []), ([2], []), ([], []), ([], []), ([], [])] mixed (by kernel_rfl) ?_
            refine zag rfl rfl (zac (.inl rfl) (ev1 rfl)) ?_
            refine zag rfl rfl (zac (.inl rfl) (ev1 rfl)) ?_
            refine zag rfl rfl ((zah [] [] [] rfl (ev1 rfl) (ec (ev1 rfl) (ec (ev1 rfl) en)) rfl rfl (equalS (rgS w h (rgF w h (ts.take 17) l[i].2.2 ⟨l[i].1, l[i].2.1⟩)) (rgS w h (rgF w h (ts.take 17) l[i].2.2 ⟨l[i].1, l[i].2.1⟩))) rfl rfl rfl rfl rfl rfl).cast (d' := .val (.bool true)) (by rw [decide_eq_true rfl])) ?_
            refine zag rfl rfl ((op_not rfl (ev1 rfl)).cast (d' := .val (.bool false)) (by kernel_rfl)) ?_
            refine zag rfl rfl (zac (.inl rfl) (ev1 rfl)) ?_
            refine lex_k (gd_f (b := false) rfl rfl rfl) rfl rfl (zac (.inl rfl) (ev1 rfl)) rfl (by simp only [upd, zaa, za]; exact rfl) ?_
            refine lex_k (gd_f (b := false) rfl rfl rfl) rfl rfl (zah [] [] [] rfl (ev1 rfl) (ec (ev2 rfl) en) rfl rfl (show_d w h _ (ts.take 17) (dpR_ok _) hc) rfl rfl rfl rfl rfl rfl) rfl (by simp only [upd, zaa, za]; exact rfl) ?_
            refine lex_k (gd_f (b := false) rfl rfl rfl) rfl rfl (op_ldmw rfl tb24 (ev1 rfl) rfl rfl) rfl (by simp only [upd, zaa, za]; exact rfl) ?_
            refine lex_k (gd_f (b := false) rfl rfl rfl) rfl rfl ((zah [] [] [] rfl (ev1 rfl) (ec (ev2 rfl) (ec (ev2 rfl) en)) rfl rfl (alike_d w h w h (ts.take 17) (ts.take 17)) rfl rfl rfl rfl rfl rfl).cast (d' := .val (.bool true)) (by simp)) rfl (by simp only [upd, zaa, za]; exact rfl) ?_
            refine lex_k (gd_f (b := false) rfl rfl rfl) rfl rfl ((op_not rfl (ev2 rfl)).cast (d' := .val (.bool false)) (by kernel_rfl)) rfl (by simp only [upd, zaa, za]; exact rfl) ?_
            refine zag rfl rfl ((op_or rfl (ev1 rfl) (ev3 rfl (fun _ => rfl))).cast (d' := .val (.bool false)) (by rfl)) ?_
            refine lex_nil ?_
            refine dwp_if_f rfl (rfl) ?_
            refine zak ?_
            refine zad ?_
            refine zab rfl rfl rfl (op_add' rfl (ev1 rfl) (ev1 rfl) (fun _ => IntWalk.i64_in _ (by omega))) ?_
            refine zab rfl rfl rfl (zac (.inl rfl) (ev1 rfl)) ?_
            refine zae ?_
            refine ⟨i + 1, [0, 1, 2], by omega, by simp only []; omega, rfl, ⟨rfl, rfl, rfl, rfl, rfl, rfl, trivial⟩, ⟨rfl, rfl, rfl, trivial⟩⟩
          · have hbad : badT l[i].2.2 = false := by simpa using hbad
            have hon : onP w h ⟨l[i].1, l[i].2.1⟩ = false := by simpa using hon
            refine zad ?_
            refine zab rfl rfl rfl (zac (.inl rfl) (ev1 rfl)) ?_
            refine zab rfl rfl rfl (op_ldw rfl tb34 (ev1 rfl) rfl rfl) ?_
            refine zab rfl rfl rfl (zac (.inl rfl) (ev1 rfl)) ?_
            refine zab rfl rfl rfl (zah [] [] [] rfl (ev1 rfl) (ec (ev1 rfl) (ec (ev1 rfl) (ec (ev1 rfl) en))) rfl rfl (region_off w h _ (ts.take 17) (dpR_ok _) hc (take_rng hg 17) ⟨l[i].1, l[i].2.1⟩ l[i].2.2 hbad hon) rfl rfl rfl rfl rfl rfl) ?_
            refine zab rfl rfl rfl (zac (.inl rfl) (ev1 rfl)) ?_
            refine zab rfl rfl rfl (op_ext rfl (ev1 rfl) rfl) ?_
            refine zab rfl rfl rfl (op_ext rfl (ev1 rfl) rfl) ?_
            refine zab rfl rfl rfl (zac (.inr rfl) (ev1 rfl)) ?_
            refine zab rfl rfl rfl (zac (.inr rfl) (ev1 rfl)) ?_
            refine zae ?_
            refine zaf ?_
            refine zad ?_
            refine zab rfl rfl rfl (zac (.inl rfl) (ev1 rfl)) ?_
            refine zab rfl rfl rfl (op_ldw rfl tb34 (ev1 rfl) rfl rfl) ?_
            refine zab rfl rfl rfl (zac (.inl rfl) (ev1 rfl)) ?_
            refine zab rfl rfl rfl (op_ldw rfl tb27 (ev1 rfl) rfl rfl) ?_
            refine zab rfl rfl rfl (zah [] [] [] rfl (ev1 rfl) (ec (ev1 rfl) (ec (ev1 rfl) (ec (ev1 rfl) (ec (ev1 rfl) en)))) rfl rfl (fill_off w h _ (ts.take 17) (dpR_ok _) hc (take_rng hg 17) ⟨l[i].1, l[i].2.1⟩ l[i].2.2 c hbad hon) rfl rfl rfl rfl rfl rfl) ?_
            refine zab rfl rfl rfl (zac (.inl rfl) (ev1 rfl)) ?_
            refine zab rfl rfl rfl (op_ext rfl (ev1 rfl) rfl) ?_
            refine zab rfl rfl rfl (op_ext rfl (ev1 rfl) rfl) ?_
            refine zab rfl rfl rfl (zac (.inr rfl) (ev1 rfl)) ?_
            refine zab rfl rfl rfl (zac (.inr rfl) (ev1 rfl)) ?_
            refine zae ?_
            refine zaf ?_
            refine zad ?_
            refine zab rfl rfl rfl (zac (.inr rfl) (ev1 rfl)) ?_
            refine zae ?_
            refine zaf ?_
            refine zad ?_
            refine zab rfl rfl rfl (zac (.inr rfl) (ev1 rfl)) ?_
            refine zae ?_
            refine zaf ?_
            refine zaf ?_
            refine zad ?_
            refine zab rfl rfl rfl (zac (.inl rfl) (ev1 rfl)) ?_
            refine zab rfl rfl rfl ((zah [] [] [] rfl (ev1 rfl) (ec (ev1 rfl) en) rfl rfl (rtol_d l[i].2.2) rfl rfl rfl rfl rfl rfl).cast (d' := .val (.bool true)) (by rw [hbad]; rfl)) ?_
            refine zae ?_
            refine dwp_if_t rfl (rfl) ?_
            refine zaf ?_
            refine zad ?_
            refine zab rfl rfl rfl (zac (.inr rfl) (ev1 rfl)) ?_
            refine zae ?_
            refine zaf ?_
            refine zad ?_
            refine zab rfl rfl rfl (op_ldmw rfl tb24 (ev1 rfl) rfl rfl) ?_
            refine zab rfl rfl rfl (op_ldw rfl tb34 (ev1 rfl) rfl rfl) ?_
            refine zab rfl rfl rfl ((zah [] [] [] rfl (ev1 rfl) (ec (ev1 rfl) (ec (ev1 rfl) en)) rfl rfl (ron_d w h (ts.take 17) hc ⟨l[i].1, l[i].2.1⟩) rfl rfl rfl rfl rfl rfl).cast (d' := .val (.bool false)) (by rw [hon])) ?_
            refine zae ?_
            refine dwp_if_f rfl (rfl) ?_
            refine zak ?_
            refine zaf ?_
            refine zaf ?_
            refine zad ?_
            refine zab rfl rfl rfl (zac (.inl rfl) (ev1 rfl)) ?_
            refine zab rfl rfl rfl (zac (.inl rfl) (ev1 rfl)) ?_
            refine zab rfl rfl rfl ((op_neq rfl (ev1 rfl) (ev1 rfl)).cast (d' := .val (.bool false)) (by kernel_rfl)) ?_
            refine zab rfl rfl rfl (zac (.inl rfl) (ev1 rfl)) ?_
            refine walk_k (gd_f (b := false) rfl rfl rfl) rfl rfl rfl (zac (.inl rfl) (ev1 rfl)) (by simp only [upd, zaa, za]; exact rfl) ?_
            refine walk_k (gd_f (b := false) rfl rfl rfl) rfl rfl rfl (zac (.inl rfl) (ev1 rfl)) (by simp only [upd, zaa, za]; exact rfl) ?_
            refine walk_k (gd_f (b := false) rfl rfl rfl) rfl rfl rfl ((op_neq rfl (ev2 rfl) (ev2 rfl)).cast (d' := .val (.bool false)) (by kernel_rfl)) (by simp only [upd, zaa, za]; exact rfl) ?_
            refine zab rfl rfl rfl ((op_or rfl (ev1 rfl) (ev3 rfl (fun _ => rfl))).cast (d' := .val (.bool false)) (by rfl)) ?_
            refine zab rfl rfl rfl (zac (.inl rfl) (ev1 rfl)) ?_
            refine walk_k (gd_f (b := false) rfl rfl rfl) rfl rfl rfl (zac (.inl rfl) (ev1 rfl)) (by simp only [upd, zaa, za]; exact rfl) ?_
            refine walk_k (gd_f (b := false) rfl rfl rfl) rfl rfl rfl (op_pnil0n rfl pt29 (ev2 rfl)) (by simp only [upd, zaa, za]; exact rfl) ?_
            refine walk_k (gd_f (b := false) rfl rfl rfl) rfl rfl rfl (zac (.inl rfl) (ev1 rfl)) (by simp only [upd, zaa, za]; exact rfl) ?_
            refine walk_k (gd_f (b := false) rfl rfl rfl) rfl rfl rfl ((op_eql rfl (ev2 rfl) (ev1 rfl)).cast (d' := .val (.bool false)) (by kernel_rfl)) (by simp only [upd, zaa, za]; exact rfl) ?_
            refine walk_k (gd_f (b := false) rfl rfl rfl) rfl rfl rfl ((op_neb rfl un4 (ev2 rfl) (ev2 rfl)).cast (d' := .val (.bool false)) (by kernel_rfl)) (by simp only [upd, zaa, za]; exact rfl) ?_
            refine zab rfl rfl rfl ((op_or rfl (ev1 rfl) (ev3 rfl (fun _ => rfl))).cast (d' := .val (.bool false)) (by rfl)) ?_
            refine zae ?_
            refine dwp_if_f rfl (rfl) ?_
            refine zak ?_
            refine zaf ?_
            refine zaf ?_
            refine zad ?_
            refine zab rfl rfl rfl (zac (.inl rfl) (ev1 rfl)) ?_
            refine zab rfl rfl rfl ((op_eql rfl (ev1 rfl) (ev1 rfl)).cast (d' := .val (.bool false)) (by kernel_rfl)) ?_
            refine zae ?_
            refine dwp_if_f rfl (rfl) ?_
            refine zak ?_
            refine zaf ?_
            refine dwp_draw [([], []), ([], []), ([], []), ([], []), ([], []), ([], []), ([], []), ([2], []), ([], []), ([], []), ([], [])] mixed (by kernel_rfl) ?_
            refine zag rfl rfl (zac (.inl rfl) (ev1 rfl)) ?_
            refine zag rfl rfl (zac (.inl rfl) (ev1 rfl)) ?_
            refine zag rfl rfl ((zah [] [] [] rfl (ev1 rfl) (ec (evnil 3 (ev1 rfl)) (ec (evnil 3 (ev1 rfl)) en)) rfl rfl (equalS [] []) rfl rfl rfl rfl rfl rfl).cast (d' := .val (.bool true)) (by rfl)) ?_
            refine zag rfl rfl ((op_not rfl (ev1 rfl)).cast (d' := .val (.bool false)) (by kernel_rfl)) ?_
            refine zag rfl rfl (zac (.inl rfl) (ev1 rfl)) ?_
            refine lex_k (gd_f (b := false) rfl rfl rfl) rfl rfl (zac (.inl rfl) (ev1 rfl)) rfl (by simp only [upd, zaa, za]; exact rfl) ?_
            refine lex_k (gd_f (b := false) rfl rfl rfl) rfl rfl (zah [] [] [] rfl (ev1 rfl) (ec (ev2 rfl) en) rfl rfl (show_d w h _ (ts.take 17) (dpR_ok _) hc) rfl rfl rfl rfl rfl rfl) rfl (by simp only [upd, zaa, za]; exact rfl) ?_
            refine lex_k (gd_f (b := false) rfl rfl rfl) rfl rfl (op_ldmw rfl tb24 (ev1 rfl) rfl rfl) rfl (by simp only [upd, zaa, za]; exact rfl) ?_
            refine lex_k (gd_f (b := false) rfl rfl rfl) rfl rfl ((zah [] [] [] rfl (ev1 rfl) (ec (ev2 rfl) (ec (ev2 rfl) en)) rfl rfl (alike_d w h w h (ts.take 17) (ts.take 17)) rfl rfl rfl rfl rfl rfl).cast (d' := .val (.bool true)) (by simp)) rfl (by simp only [upd, zaa, za]; exact rfl) ?_
            refine lex_k (gd_f (b := false) rfl rfl rfl) rfl rfl ((op_not rfl (ev2 rfl)).cast (d' := .val (.bool false)) (by kernel_rfl)) rfl (by simp only [upd, zaa, za]; exact rfl) ?_
            refine zag rfl rfl ((op_or rfl (ev1 rfl) (ev3 rfl (fun _ => rfl))).cast (d' := .val (.bool false)) (by rfl)) ?_
            refine lex_nil ?_
            refine dwp_if_f rfl (rfl) ?_
            refine zak ?_
            refine zad ?_
            refine zab rfl rfl rfl (op_add' rfl (ev1 rfl) (ev1 rfl) (fun _ => IntWalk.i64_in _ (by omega))) ?_
            refine zab rfl rfl rfl (zac (.inl rfl) (ev1 rfl)) ?_
            refine zae ?_
            refine ⟨i + 1, [0, 1, 2], by omega, by simp only []; omega, rfl, ⟨rfl, rfl, rfl, rfl, rfl, rfl, trivial⟩, ⟨rfl, rfl, rfl, trivial⟩⟩
    · try simp only [decide_eq_true_eq, decide_eq_false_iff_not, beq_iff_eq, bne_iff_ne, beq_eq_false_iff_ne, bne_eq_false_iff_eq, Bool.not_eq_true', Bool.not_eq_false', Bool.and_eq_true, Bool.or_eq_true, Bool.or_eq_false_iff, ne_eq, Decidable.not_not, Int.not_lt, Int.not_le] at c3
      refine dwp_exit ?_
      refine zaf ?_
      refine zad ?_
      refine zab rfl rfl rfl (op_build0 rfl fl34 zr34) ?_
      refine zab rfl rfl rfl (zah [] [] [] rfl (ev1 rfl) (ec (ev1 rfl) (ec (ev1 rfl) (ec (ev1 rfl) en))) rfl rfl (region_0 ⟨0, 0⟩ 0) rfl rfl rfl rfl rfl rfl) ?_
      refine zab rfl rfl rfl (zac (.inl rfl) (ev1 rfl)) ?_
      refine zab rfl rfl rfl (op_ext rfl (ev1 rfl) rfl) ?_
      refine zab rfl rfl rfl (op_ext rfl (ev1 rfl) rfl) ?_
      refine zab rfl rfl rfl (zac (.inr rfl) (ev1 rfl)) ?_
      refine zab rfl rfl rfl (zac (.inr rfl) (ev1 rfl)) ?_
      refine zae ?_
      refine zaf ?_
      refine zad ?_
      refine zab rfl rfl rfl (op_build0 rfl fl34 zr34) ?_
      refine zab rfl rfl rfl (op_ldw rfl tb27 (ev1 rfl) rfl rfl) ?_
      refine zab rfl rfl rfl (zah [] [] [] rfl (ev1 rfl) (ec (ev1 rfl) (ec (ev1 rfl) (ec (ev1 rfl) (ec (ev1 rfl) en)))) rfl rfl (fill_0 ⟨0, 0⟩ (-1) c) rfl rfl rfl rfl rfl rfl) ?_
      refine zab rfl rfl rfl (zac (.inl rfl) (ev1 rfl)) ?_
      refine zab rfl rfl rfl (op_ext rfl (ev1 rfl) rfl) ?_
      refine zab rfl rfl rfl (op_ext rfl (ev1 rfl) rfl) ?_
      refine zab rfl rfl rfl (zac (.inr rfl) (ev1 rfl)) ?_
      refine zab rfl rfl rfl (zac (.inr rfl) (ev1 rfl)) ?_
      refine zae ?_
      refine zaf ?_
      refine zad ?_
      refine zab rfl rfl rfl (zac (.inl rfl) (ev1 rfl)) ?_
      refine zab rfl rfl rfl ((op_eql rfl (ev1 rfl) (ev1 rfl)).cast (d' := .val (.bool true)) (by kernel_rfl)) ?_
      refine zab rfl rfl rfl (zac (.inl rfl) (ev1 rfl)) ?_
      refine walk_k (gd_t (b := true) rfl rfl rfl) rfl rfl rfl (zac (.inl rfl) (ev1 rfl)) (by simp only [upd, zaa, za]; exact rfl) ?_
      refine walk_k (gd_t (b := true) rfl rfl rfl) rfl rfl rfl ((op_eql rfl (ev2 rfl) (ev1 rfl)).cast (d' := .val (.bool true)) (by kernel_rfl)) (by simp only [upd, zaa, za]; exact rfl) ?_
      refine zab rfl rfl rfl ((op_and rfl (ev1 rfl) (ev3 rfl (fun _ => rfl))).cast (d' := .val (.bool true)) (by rfl)) ?_
      refine zab rfl rfl rfl (zac (.inl rfl) (ev1 rfl)) ?_
      refine walk_k (gd_t (b := true) rfl rfl rfl) rfl rfl rfl (zac (.inl rfl) (ev1 rfl)) (by simp only [upd, zaa, za]; exact rfl) ?_
      refine walk_k (gd_t (b := true) rfl rfl rfl) rfl rfl rfl (op_pnil0 rfl pt29 (ev2 rfl)) (by simp only [upd, zaa, za]; exact rfl) ?_
      refine zab rfl rfl rfl ((op_and rfl (ev1 rfl) (ev3 rfl (fun _ => rfl))).cast (d' := .val (.bool true)) (by rfl)) ?_
      refine zab rfl rfl rfl (zac (.inr rfl) (ev1 rfl)) ?_
      refine zae ?_
      refine zao ?_
      refine kend0 (rs1 rfl (rv_t rfl)) rfl ?_
      rfl
  · refine zai 1 (by simp only [holes, List.cons_append, List.nil_append]; exact rfl) ?_
    refine zad ?_
    refine zab rfl rfl rfl (op_ldmw rfl tb24 (ev1 rfl) rfl rfl) ?_
    refine zab rfl rfl rfl (zah [] [] [] rfl (ev1 rfl) (ec (ev1 rfl) en) rfl rfl (lof_n w h ts (by simpa using hr)) rfl rfl rfl rfl rfl rfl) ?_
    refine zab rfl rfl rfl (zac (.inl rfl) (ev1 rfl)) ?_
    refine zab rfl rfl rfl (op_ext rfl (ev1 rfl) rfl) ?_
    refine zab rfl rfl rfl (op_ext rfl (ev1 rfl) rfl) ?_
    refine zab rfl rfl rfl (op_ext rfl (ev1 rfl) rfl) ?_
    refine zaj rfl rfl rfl (op_alloc 2 rfl zr24 rfl) (by simp only [upd, zaa, za]; exact rfl) ?_
    refine zab rfl rfl rfl (zac (.inr rfl) (ev1 rfl)) ?_
    refine walk_s rfl rfl (op_stam rfl tb24 (ev1 rfl) (ev1 rfl) rfl rfl rfl rfl) (by simp only [upd, zaa, za]; exact rfl) ?_
    refine zab rfl rfl rfl (zac (.inr rfl) (ev1 rfl)) ?_
    refine zae ?_
    refine zaf ?_
    refine zaf ?_
    refine zad ?_
    refine zab rfl rfl rfl (zac (.inl rfl) (ev1 rfl)) ?_
    refine zab rfl rfl rfl ((op_not rfl (ev1 rfl)).cast (d' := .val (.bool true)) (by kernel_rfl)) ?_
    refine zae ?_
    refine dwp_if_t rfl (rfl) ?_
    refine zaf ?_
    refine zad ?_
    refine zab rfl rfl rfl (zac (.inr rfl) (ev1 rfl)) ?_
    refine zae ?_
    refine zao ?_
    refine kend0 (rs1 rfl (rv_t rfl)) rfl ?_
    rfl
end Go.Proofs.Ytfnhckildfbikaa
namespace Go.Proofs.Ytfnhckildfbikaa
set_option maxRecDepth 4000
set_option linter.unusedVariables false
set_option linter.unusedSimpArgs false
open Go.RowKit
open Go.ChangeShapes Go.WideShapes Go.ChangeAt Go.Joins Go.Deep
theorem fits_q3 (cs : List Value) (h : fitsP [.int .i64, .int .i64, .int .i64] cs) : ∃ a : Int × Int × Int, ((-9223372036854775808 ≤ a.1 ∧ a.1 ≤ 9223372036854775807) ∧ (-9223372036854775808 ≤ a.2.1 ∧ a.2.1 ≤ 9223372036854775807) ∧ -9223372036854775808 ≤ a.2.2 ∧ a.2.2 ≤ 9223372036854775807) ∧ cs = q3 a := by
  obtain ⟨x0, r, rfl, h0, g1⟩ := fitsP_cons h
  obtain ⟨x1, r, rfl, h1, g2⟩ := fitsP_cons g1
  obtain ⟨x2, r, rfl, h2, g3⟩ := fitsP_cons g2
  obtain rfl := fitsP_nil g3
  obtain ⟨x, wx, rfl⟩ := fits_prim_i64 h0
  obtain ⟨y, wy, rfl⟩ := fits_prim_i64 h1
  obtain ⟨z, wz, rfl⟩ := fits_prim_i64 h2
  exact ⟨(x, y, z), ⟨wx, wy, wz⟩, rfl⟩
end Go.Proofs.Ytfnhckildfbikaa
