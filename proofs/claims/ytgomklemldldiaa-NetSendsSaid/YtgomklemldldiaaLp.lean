/- Structs and arrays compared, cell by cell. Conditions: what a type is, by the kernel. -/
import Derived.Test.YtgomklemldldiaaLo
import Derived.Laws.StructEq
namespace Go.Proofs.Ytgomklemldldiaa
set_option linter.unusedVariables false
set_option linter.unusedSimpArgs false
open Go.RowKit

/-- what == comes to on two rows of cells of a type: for ints, bools, strings, and what is made of these -/
def eqA (f : List Value → List Value → Option Bool) (sz : Nat) : Nat → List Value → List Value → Option Bool
  | 0, _, _ => some true
  | n + 1, xs, ys => match f (xs.take sz) (ys.take sz), eqA f sz n (xs.drop sz) (ys.drop sz) with
    | some r, some r' => some (r && r')
    | _, _ => none
def eqFl (f : TypeId → List Value → List Value → Option Bool) (P : Program) (xs ys : List Value) : List Field → Option Bool
  | [] => some true
  | g :: fs => if g.name = "_" then none else match P.info? g.type with
    | none => none
    | some i => match f g.type ((xs.drop g.offset).take i.size) ((ys.drop g.offset).take i.size), eqFl f P xs ys fs with
      | some r, some r' => some (r && r')
      | _, _ => none
def eqT (P : Program) : Nat → TypeId → List Value → List Value → Option Bool
  | 0, _, _, _ => none
  | d + 1, T, xs, ys => match P.underlying T with
    | some (.int _) => match xs, ys with
      | [.int k a], [.int k' b] => if k = k' then some (a == b) else none
      | _, _ => none
    | some .bool => match xs, ys with
      | [.bool a], [.bool b] => some (a == b)
      | _, _ => none
    | some .string => match xs, ys with
      | [.string a], [.string b] => some (a.toList == b.toList)
      | _, _ => none
    | some (.struct fs) => if P.stoodInHeld T then none else eqFl (eqT P d) P xs ys fs.toList
    | some (.array n e) => match P.info? e with
      | none => none
      | some i => eqA (eqT P d e) i.size n xs ys
    | _ => none

/-- cells as a value of the type -/
def valC (P : Program) (T : TypeId) (xs : List Value) : Value := match P.underlying T with
  | some (.struct _) | some (.array _ _) => .agg xs.toArray
  | _ => xs.getD 0 undef

section
variable {P : Program}
theorem run_part_row {T : TypeId} {i : TypeInfo} {cs : List Value} {off : Nat} {w : World} (hi : P.info? T = some i) (hr : (∃ fs, P.underlying T = some (.struct fs)) ∨ ∃ n e, P.underlying T = some (.array n e)) : (part T cs.toArray off).run P w = .ok (valC P T ((cs.drop off).take i.size)) w := by
  have hex : cs.toArray.extract off (off + i.size) = ((cs.drop off).take i.size).toArray := by simp [List.extract_eq_take_drop]
  unfold part isAgg valC
  rcases hr with ⟨fs, hu⟩ | ⟨n, e, hu⟩ <;> simp [Sem.run_bind, run_underlying hu, sizeOf, typeInfo, hi, hu, hex]
theorem run_part_one {T : TypeId} {cs : List Value} {off sz : Nat} {v : Value} {w : World} {d : TypeDesc} (hu : P.underlying T = some d) (hd : d.isRow = false) (hv : (cs.drop off).take sz = [v]) : (part T cs.toArray off).run P w = .ok (valC P T [v]) w := by
  have hc : cs[off]? = some v := by
    have := congrArg (fun l : List Value => l[0]?) hv
    simp only [List.getElem?_take, List.getElem?_drop, Nat.add_zero] at this
    split at this
    · simpa using this
    · simp at this
  unfold part isAgg valC
  cases d <;> simp_all [TypeDesc.isRow, Sem.run_bind, run_underlying hu]

theorem eqT_row {d : Nat} {T : TypeId} {xs ys : List Value} {r : Bool} (h : eqT P d T xs ys = some r) : ((∃ fs, P.underlying T = some (.struct fs)) ∨ ∃ n e, P.underlying T = some (.array n e)) ∨ (∃ u, P.underlying T = some u ∧ u.isRow = false) ∧ (∃ x, xs = [x]) ∧ ∃ y, ys = [y] := by
  cases d with
  | zero => cases h
  | succ d =>
    unfold eqT at h
    split at h
    · rename_i k hu
      split at h
      · exact .inr ⟨⟨_, hu, rfl⟩, ⟨_, rfl⟩, ⟨_, rfl⟩⟩
      · cases h
    · rename_i hu
      split at h
      · exact .inr ⟨⟨_, hu, rfl⟩, ⟨_, rfl⟩, ⟨_, rfl⟩⟩
      · cases h
    · rename_i hu
      split at h
      · exact .inr ⟨⟨_, hu, rfl⟩, ⟨_, rfl⟩, ⟨_, rfl⟩⟩
      · cases h
    · rename_i fs hu; exact .inl (.inl ⟨fs, hu⟩)
    · rename_i n e hu; exact .inl (.inr ⟨n, e, hu⟩)
    · cases h
theorem run_part_of {d : Nat} {T : TypeId} {i : TypeInfo} {xs ys : List Value} {off : Nat} {r : Bool} {w : World} (hi : P.info? T = some i) (h : eqT P d T ((xs.drop off).take i.size) ((ys.drop off).take i.size) = some r) :
    (part T xs.toArray off).run P w = .ok (valC P T ((xs.drop off).take i.size)) w ∧ (part T ys.toArray off).run P w = .ok (valC P T ((ys.drop off).take i.size)) w := by
  rcases eqT_row h with hr | ⟨⟨u, hu, hd⟩, ⟨x, hx⟩, ⟨y, hy⟩⟩
  · exact ⟨run_part_row hi hr, run_part_row hi hr⟩
  · exact ⟨by rw [hx]; exact run_part_one hu hd hx, by rw [hy]; exact run_part_one hu hd hy⟩

theorem eqT_run : ∀ (d k : Nat) (T : TypeId) (xs ys : List Value) (r : Bool) (w : World), eqT P d T xs ys = some r → (Op.equalIn (d + k) T (valC P T xs) (valC P T ys)).run P w = .ok r w := by
  intro d
  induction d with
  | zero => intro k T xs ys r w h; cases h
  | succ d ih =>
    intro k T xs ys r w h
    rw [show d + 1 + k = d + k + 1 by omega]
    unfold eqT at h
    split at h
    · rename_i kd hu
      split at h
      · split at h
        · rename_i e; cases h; subst e; simp [valC, hu]; exact run_equalIn_int w _ T _ _ _ _ hu
        · cases h
      · cases h
    · rename_i hu
      split at h
      · cases h; simp [valC, hu]; exact run_equalIn_bool' w _ T _ _ hu
      · cases h
    · rename_i hu
      split at h
      · cases h; simp [valC, hu]; exact run_equalIn_string w _ T _ _ hu
      · cases h
    · rename_i fs hu
      split at h
      · cases h
      · rename_i hst
        have hv : ∀ zs, valC P T zs = .agg zs.toArray := fun zs => by simp [valC, hu]
        rw [hv, hv]
        have hf : P.underlying T = some (.struct (P.fieldsOf T)) := by unfold Program.fieldsOf; rw [hu]
        have hfs : P.fieldsOf T = fs := by unfold Program.fieldsOf; rw [hu]
        rw [run_equalIn_struct w _ T _ _ hf (by simpa using hst), hfs]
        clear hf hfs hu hv
        generalize fs.toList = l at h
        induction l generalizing r with
        | nil => cases h; simp [Op.eqFields]
        | cons g fs ihf =>
          unfold eqFl at h
          split at h
          · cases h
          · rename_i hne
            split at h
            · cases h
            · rename_i i hi
              split at h
              · rename_i r1 r2 h1 h2
                cases h
                obtain ⟨p1, p2⟩ := run_part_of (w := w) hi h1
                have e := ih k _ _ _ _ w h1
                simp only [Op.eqFields, hne, ne_eq, not_false_eq_true, if_true, Sem.run_bind, p1, p2, e, Result.andThen_ok]
                cases r1 with
                | true => simpa using ihf r2 h2
                | false => simp
              · cases h
    · rename_i n e hu
      split at h
      · cases h
      · rename_i i hi
        have hv : ∀ zs, valC P T zs = .agg zs.toArray := fun zs => by simp [valC, hu]
        rw [hv, hv]
        unfold Op.equalIn
        simp only [Sem.run_bind, run_underlying hu, Result.andThen_ok, sizeOf, typeInfo, run_program, hi, Sem.run_pure]
        have key : ∀ (n s : Nat) (r : Bool), eqA (eqT P d e) i.size n (xs.drop (s * i.size)) (ys.drop (s * i.size)) = some r →
            (forIn (List.range' s n) ((none : Option Bool), ()) fun j _ => do
              let a ← part e xs.toArray (j * i.size)
              let b ← part e ys.toArray (j * i.size)
              let q ← Op.equalIn (d + k) e a b
              if (!q) = true then pure (ForInStep.done (some false, ())) else pure (ForInStep.yield (none, ())) : Sem (Option Bool × Unit)).run P w = .ok (if r then (none, ()) else (some false, ())) w := by
          intro n
          induction n with
          | zero => intro s r h; unfold eqA at h; cases h; simp
          | succ n ihn =>
            intro s r h
            unfold eqA at h
            split at h
            · rename_i r1 r2 h1 h2
              cases h
              obtain ⟨p1, p2⟩ := run_part_of (w := w) hi h1
              have e1 := ih k _ _ _ _ w h1
              have h2' := ihn (s + 1) r2 (by rw [Nat.succ_mul, ← List.drop_drop, ← List.drop_drop]; exact h2)
              rw [List.range'_succ, List.forIn_cons]
              simp only [Sem.run_bind, p1, p2, e1, Result.andThen_ok]
              cases r1 with
              | true => simpa using h2'
              | false => simp
            · cases h
        have hk := key n 0 r (by simpa using h)
        simp only [Std.Legacy.Range.forIn_eq_forIn_range', Std.Legacy.Range.size, Nat.sub_zero, Nat.add_sub_cancel, Nat.div_one, hk, Result.andThen_ok]
        cases r <;> simp
    · cases h

variable {pc : Bool} {o : Oper} {F : Fr} {M : List Blk}
theorem row_val {T : TypeId} {k : Nat} {L : List Value} (hT : tyB P T = some (true, k)) : valC P T L = .agg L.toArray := by
  obtain ⟨d, i, h1, h2, h3, h4⟩ := tyB_spec hT
  unfold valC
  rw [h1]
  cases d <;> simp_all [TypeDesc.isRow]
theorem op_eqr {T T' : TypeId} {x y : Operand} {L1 L2 : List Value} {b : Bool} {k : Nat} (he : eqT P 9 T L1 L2 = some b) (ho : o.op = .binOp .eql T x y T') (hg : P.eqGuardType P.depth T = false) (hT : tyB P T = some (true, k)) (hx : Ev pc F x (.val (.agg L1.toArray))) (hy : Ev pc F y (.val (.agg L2.toArray))) : DOp P pc o F M [] (.val (.bool b)) [] :=
  op_eqv ho hx hy (fun w => run_eqGuard_agg w _ _ _ _ _ _ hg) fun w => by
    have := eqT_run (P := P) 9 9991 T L1 L2 b w he
    rw [row_val hT, row_val hT] at this
    rw [run_eql_struct, this]; rfl
theorem op_ner {T T' : TypeId} {x y : Operand} {L1 L2 : List Value} {b : Bool} {k : Nat} (he : eqT P 9 T L1 L2 = some b) (ho : o.op = .binOp .neq T x y T') (hg : P.eqGuardType P.depth T = false) (hT : tyB P T = some (true, k)) (hx : Ev pc F x (.val (.agg L1.toArray))) (hy : Ev pc F y (.val (.agg L2.toArray))) : DOp P pc o F M [] (.val (.bool !b)) [] :=
  op_nev ho hx hy (fun w => run_eqGuard_agg w _ _ _ _ _ _ hg) fun w => by
    have := eqT_run (P := P) 9 9991 T L1 L2 b w he
    rw [row_val hT, row_val hT] at this
    rw [run_neq_struct, this]; rfl
end
end Go.Proofs.Ytgomklemldldiaa
