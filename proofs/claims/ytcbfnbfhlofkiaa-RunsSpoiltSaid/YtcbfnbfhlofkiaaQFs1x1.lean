/- Operations: numbers, bools, structs, memory that is read and written. Conditions: what a type is, by the kernel; Operations that make memory, and write it. Conditions: what a type is, by the kernel; Operations on slices: made, cut, grown; tuples; function values; structs. Conditions: what a type is, by the kernel; Scopes; slices beside nil; rows of one's own, element by element. Conditions: what a type is, by the kernel; From a contract to the statement: a law whose call returns true whatever its arguments read as; with listed variables, too.  but the kernel's look at the program; Rows made by make, and copied into; parts of arrays with their room cut; runs of equals, and their bytes; a tile as bytes; a reader: the bytes that stand next; a tile that is read, whole; tiles and sizes that are read; what laws say of bytes; bytes that are spoilt; arguments that are opened. No condition. -/
import Derived.Test.YtcbfnbfhlofkiaaQ4
import Derived.Test.YtcbfnbfhlofkiaaRows
namespace Go.Proofs.Ytcbfnbfhlofkiaa
set_option linter.unusedVariables false
set_option linter.unusedSimpArgs false
open Go.RowKit

/-! ### what a type is -/
section
variable {P : Program} {pc : Bool} {o : Oper} {F : Fr} {M : List Blk}
section
variable {T T' : TypeId} {x y : Operand} {k : IntKind} {p q : Int}
theorem op_rem (ho : o.op = .binOp .rem T x y T') (hx : Ev pc F x (.val (.int k p))) (hy : Ev pc F y (.val (.int k q))) (h0 : pc = true → q ≠ 0) : DOp P pc o F M [] (.val (.int k (p.tmod q))) [] :=
  fun hp => int_bin ho hx hy (fun w => ⟨guard_int .., by have := h0 hp; simp [binOp, Op.intDiv, this]⟩) hp
theorem op_rem' (ho : o.op = .binOp .rem T x y T') (hx : Ev pc F x (.val (.int k p))) (hy : Ev pc F y (.val (.int k q))) (h0 : pc = true → q ≠ 0 ∧ 0 ≤ p) : DOp P pc o F M [] (.val (.int k (p % q))) [] := fun hp => by
  obtain ⟨h1, h2⟩ := h0 hp
  have := op_rem (P := P) (M := M) ho hx hy (fun _ => h1) hp
  rwa [Int.tmod_eq_emod_of_nonneg h2] at this
end
section
variable {T : TypeId} {x : Operand} {i p k : Nat} {L R : List Value} {v : Value}
theorem op_ldoa {T' : TypeId} {sz n : Nat} (ho : o.op = .load T x) (hT : tyB P T = some (false, k)) (hx : Ev pc F x (.aloc i p)) (hM : M[i]? = some (.arr T' sz n L)) (hR : L[p]? = some v) : DOp P pc o F M [i] (.val v) [] := by
  intro hp a s hok hops hfp
  have hr := ev_at hp hx (by simp [ho, Op.operands]) hops
  generalize hv : a.eval x = vx at hr
  cases hr with
  | @aloc _ _ n' c b h =>
    obtain ⟨_, _, _, _, hc, _⟩ := arr_cells hok (by rw [hfp i (by simp)]; exact hM) h
    exact dg_val hok (run_load_one ho hT hv (by simpa using hc p v hR)) (.val _)

/-! ### addresses -/
end
section
variable {T : TypeId} {x y : Operand} {i p n sz : Nat} {k : IntKind} {z : Int} {L : List Value}
variable {e : TypeId} {by' m : Nat}
end
end
end Go.Proofs.Ytcbfnbfhlofkiaa
namespace Go.Proofs.Ytcbfnbfhlofkiaa
set_option linter.unusedVariables false
set_option linter.unusedSimpArgs false
open Go.RowKit
section
variable {P : Program} {pc : Bool} {o : Oper} {F : Fr} {M : List Blk}
theorem op_sta {T T' : TypeId} {x y : Operand} {i p k sz n : Nat} {rw' : Bool} {v : Value} {L C L' : List Value} (ho : o.op = .store T x y) (hT : tyB P T = some (rw', k)) (hx : Ev pc F x (.aloc i p)) (hy : Ev pc F y (.val v)) (hM : M[i]? = some (.arr T' sz n L)) (hC : v.cells.toList = C) (hk : C.length = k) (h1 : C.all (·.oneCell') = true)
    (hfit : p + C.length ≤ L.length) (hL : setL L p C = L') : DOp P pc o F M [i] .junk [(i, .arr T' sz n L')] := by
  intro hp a s hok hops hfp
  have hr := ev_at hp hx (by simp [ho, Op.operands]) hops
  have h2 := (ev_at hp hy (by simp [ho, Op.operands]) hops).val_eq
  have hM' : s.M[i]? = some (.arr T' sz n L) := by rw [hfp i (by simp)]; exact hM
  subst hL
  generalize hv : a.eval x = vx at hr
  cases hr with
  | @aloc _ _ n' c b h =>
    have hk' : s.w.ownsRow 0 T' sz _ n L := hok.blk i _ _ hM' h
    rcases hk'.2 with ⟨e1, e2⟩ | ⟨g, cap, cur, e1, e2, e3, e4, e5, e6, e7⟩
    · cases e1
    · cases e1
      have hle := Nat.mul_le_mul_right sz e4
      have hlL := hk'.1
      have hcell := cellsAt_block e3 0
      have hrun := run_store (P := P) (w := s.w) ho hT hv h2 hC hk (fun j hj => by
          have := hcell (p + j) _ (by simpa using List.getElem?_eq_getElem (by simp; omega : p + j < cur.toList.length))
          rw [Nat.zero_add] at this
          rw [this]; rfl) (fun j hj => by simp [World.frozen?, e3]) (fun u hu => List.all_eq_true.1 h1 u hu)
      refine dg_skip (s' := ⟨s.β.set i (.slice (some ⟨b, 0, none⟩) n c), s.I, s.M.set i (.arr T' sz n (setL L p C)), s.w.setCells b p C⟩) hrun (tr_store hok hM' rfl h rfl p C ?_) rfl
      have hsl := setL_len C cur.toList p
      refine ⟨by rw [setL_len]; exact hlL, .inr ⟨b, c, (setL cur.toList p C).toArray, rfl, e2, setCells_block b C p s.w cur.toList T' (by simpa using e3), e4, e5, by simp [hsl]; simpa using e6, ?_⟩⟩
      have hcurlen : cur.toList.length = c * sz := by simpa using e6
      rw [setL_eq C cur.toList p (by omega), setL_eq C L p hfit]
      have hcut : cur.toList = L ++ cur.toList.drop L.length := by
        have := List.take_append_drop (n * sz) cur.toList
        rw [e7, ← hlL] at this
        exact this.symm
      generalize cur.toList.drop L.length = R at hcut
      rw [hcut]
      have t1 : (L ++ R).take p = L.take p := List.take_append_of_le_length (by omega)
      have t2 : (L ++ R).drop (p + C.length) = L.drop (p + C.length) ++ R := List.drop_append_of_le_length (by omega)
      rw [t1, t2, ← hlL, ← List.append_assoc]
      refine List.take_left' ?_
      simp; omega
end
end Go.Proofs.Ytcbfnbfhlofkiaa
namespace Go.Proofs.Ytcbfnbfhlofkiaa
set_option linter.unusedVariables false
set_option linter.unusedSimpArgs false
open Go.RowKit
section
variable {P : Program} {pc : Bool} {o : Oper} {F : Fr} {M : List Blk}
theorem op_lena {T T' : TypeId} {x : Operand} {q : TypeId × Nat × Nat} {i sz n : Nat} {L : List Value} (ho : o.op = .call { callee := .builtin .len, args := #[x], argTypes := #[T] }) (hT : slE P T = some q) (hx : Ev pc F x (.arr i)) (hM : M[i]? = some (.arr T' sz n L)) : DOp P pc o F M [i] (.val (.int .i64 n)) [] := by
  intro hp a s hok hops hfp
  obtain ⟨e1, _⟩ := slE_spec hT
  have hr := ev_at hp hx (by simp [ho, Op.operands, Call.operands]) hops
  generalize hv : a.eval x = vx at hr
  cases hr with
  | arr h =>
    have hM' : s.M[i]? = some (.arr T' sz n L) := by rw [hfp i (by simp)]; exact hM
    have hk : s.w.ownsRow 0 T' sz _ n L := hok.blk i _ _ hM' h
    refine dg_val hok (run_builtin ho (fun cs => rfl) ?_) (.val (.int .i64 n))
    rcases hk.2 with ⟨e2, e3⟩ | ⟨g, cap, cur, e2, _⟩
    · cases e2; simp [Builtin.len_, hv, run_underlying e1, goInt, e3]
    · cases e2; simp [Builtin.len_, hv, run_underlying e1, goInt]
section
variable {T e : TypeId} {sz by' n : Nat} {ps : List (Nat × Operand)} {vs Z : List Value}
end

/-! ### append -/
end
end Go.Proofs.Ytcbfnbfhlofkiaa
namespace Go.Proofs.Ytcbfnbfhlofkiaa
set_option linter.unusedVariables false
set_option linter.unusedSimpArgs false
open Go.RowKit
section
variable {P : Program} {s0 : St} {n : Cx}
variable {ops : Array Oper}
end
section
variable {P : Program} {pc : Bool} {o : Oper} {F : Fr} {M : List Blk} {α : Type} {en : α → List Value} {T T' e : TypeId} {sz by' k n i j : Nat} {l : List α} {x y : Operand}
theorem op_lda1 {v : Value} (ho : o.op = .load T x) (hT : tyB P T = some (false, k)) (hx : Ev pc F x (.aloc i (j * 1))) (hM : M[i]? = some (.arr T' 1 n (l.flatMap en))) (hen : ∀ a, (en a).length = 1) (hj : j < l.length) (hv : (en l[j])[0]? = some v) : DOp P pc o F M [i] (.val v) [] :=
  op_ldoa ho hT hx hM (by have := flat_cell (c := 0) hen hj (by omega); rw [Nat.add_zero] at this; rw [this, hv])
end
end Go.Proofs.Ytcbfnbfhlofkiaa
namespace Go.Proofs.Ytcbfnbfhlofkiaa
set_option linter.unusedVariables false
set_option linter.unusedSimpArgs false
open Go.ChangeShapes Go.WideShapes Go.ChangeAt Go.RowKit Go.Joins Go.Deep
set_option maxRecDepth 100000
section
variable {H : Type} {enc : TypeId × Value → H} {w : World} {base b0 : Nat} {r : Reach} {spare : Nat → Bool} {held : Bool} {v : Value} {d : DataW H} {p : List MemPlace}
theorem open_arrayT {α : Type} {t e : TypeId} {n : Nat} {ps : List Prim} (f : Nat) (en : α → List Value) (ok : α → Prop) (hP : ∀ cs, fitsP ps cs → ∃ a, ok a ∧ cs = en a) (hu : Try.prog.underlying t = some (.array n e)) (hf : flatT Try.prog f t = some ps)
    (hv : Value.okWide Try.prog w r b0 t v) (h : DataW.Trod enc Try.prog w base spare held t v d p) : ∃ a, ok a ∧ v = .agg (en a).toArray := by
  simp only [Value.okWide, hu] at hv
  obtain ⟨cs, rfl, hsz, _⟩ := hv
  obtain ⟨fuel, hfu⟩ := h
  obtain ⟨a, hr, e⟩ := hP _ (flat_trod f _ _ _ _ _ hf hfu)
  refine ⟨a, hr, ?_⟩
  have e2 : cs.toList = en a := e
  rw [← e2]
theorem open_prim {α : Type} {t : TypeId} {q : Prim} (mk : α → Value) (ok : α → Prop) (hP : ∀ v, q.is v → ∃ a, ok a ∧ v = mk a) (hf : flatT Try.prog 1 t = some [q]) (hv : ∃ u : Value, v = u ∧ u.cells = #[u]) (h : DataW.Trod enc Try.prog w base spare held t v d p) : ∃ a, ok a ∧ v = mk a := by
  obtain ⟨u, rfl, hc⟩ := hv
  obtain ⟨fuel, hfu⟩ := h
  have hfit := flat_trod 1 _ _ _ _ _ hf hfu
  rw [hc] at hfit
  exact hP v hfit.1
end
end Go.Proofs.Ytcbfnbfhlofkiaa
namespace Go.Proofs.Ytcbfnbfhlofkiaa
set_option linter.unusedVariables false
set_option linter.unusedSimpArgs false
open Go.RowKit
section
variable {P : Program} {pc : Bool} {o : Oper} {F : Fr} {M : List Blk} {T e : TypeId} {by' : Nat} {x y : Operand}
end
section
variable {P : Program} {pc : Bool} {o : Oper} {F : Fr} {M : List Blk} {T T' : TypeId} {x y : Operand} {k k' : IntKind} {p q : Int}
def xorZ (k : IntKind) (p q : Int) : Int := k.wrap (BitVec.ofInt k.bits p ^^^ BitVec.ofInt k.bits q).toNat
theorem op_ixor (ho : o.op = .binOp .xor T x y T') (hx : Ev pc F x (.val (.int k p))) (hy : Ev pc F y (.val (.int k q))) : DOp P pc o F M [] (.val (.int k (xorZ k p q))) [] := int_bin ho hx hy fun w => ⟨by unfold eqGuard; rfl, by simp [binOp, Op.intBits, xorZ]⟩
end
section
variable {P : Program} {pc : Bool} {o : Oper} {F : Fr} {M : List Blk} {T : TypeId} {x lo hi mx : Operand} {n sz : Nat} {α : Type} {en : α → List Value} {l : List α} {k k1 k2 : IntKind} {lz hz mz : Int}
end
section
variable {P : Program} {pc : Bool} {o : Oper} {F : Fr} {M : List Blk} {T e : TypeId} {by' n : Nat} {ds : List D} {Z : List Value}
end
section
variable {P : Program} {pc : Bool} {o : Oper} {F : Fr} {M : List Blk}
end
section
variable {P : Program} {pc : Bool} {o : Oper} {F : Fr} {M : List Blk}
end
section
variable {P : Program} {pc : Bool} {o : Oper} {F : Fr} {M : List Blk}
end
end Go.Proofs.Ytcbfnbfhlofkiaa
namespace Go.Proofs.Ytcbfnbfhlofkiaa
set_option maxRecDepth 4000
set_option linter.unusedVariables false
set_option linter.unusedSimpArgs false
open Go.RowKit
theorem tileB_inj {t u : TL} {x y : List Int} (h : tileB t ++ x = tileB u ++ y) : t = u ∧ x = y := by
  have h1 := rdT_iff.2 h
  have h2 : rdT (tileB t ++ x) = some (t, x) := rdT_iff.2 rfl
  rw [h2] at h1
  exact Prod.mk.inj (Option.some.inj h1)
end Go.Proofs.Ytcbfnbfhlofkiaa
namespace Go.Proofs.Ytcbfnbfhlofkiaa
set_option maxRecDepth 4000
set_option linter.unusedVariables false
set_option linter.unusedSimpArgs false
open Go.RowKit
attribute [local irreducible] runG bytesG posG tileB
set_option maxRecDepth 4000 in
set_option maxHeartbeats 1000000 in
theorem rtile_o (t : TL) : DFun Try.prog 10 [tD t] [] (.arr 0) [.arr 5 1 (tileB t).length ((tileB t).flatMap u8V)] := by
  refine dcalls_go (N := 26) 0 (by kernel_rfl) Try.func10 rfl rfl rfl (by simp only [fr0, Nat.zero_add, Nat.reduceAdd]; exact rfl) rfl fun s0 hs0 => ?_
  refine zaf ?_
  refine zah 1 (by simp only [holes, List.cons_append, List.nil_append]; exact rfl) ?_
  refine zad ?_
  refine walk_w rfl rfl rfl (op_boxa 0 rfl (ev1 rfl) rfl) (by simp only [upd, za, zaa]; exact rfl) ?_
  refine zab rfl rfl rfl (zac (.inr rfl) (ev1 rfl)) ?_
  refine zae ?_
  refine zaf ?_
  refine zah 1 (by simp only [holes, List.cons_append, List.nil_append]; exact rfl) ?_
  refine zad ?_
  refine walk_w rfl rfl rfl (op_alloc 1 rfl zr23 rfl) (by simp only [upd, za, zaa]; exact rfl) ?_
  refine zae ?_
  refine zaf ?_
  refine zaf ?_
  refine zah 1 (by simp only [holes, List.cons_append, List.nil_append]; exact rfl) ?_
  refine zad ?_
  refine walk_w rfl rfl rfl (zaj [0] [] [2] rfl (ev1 rfl) (ec (ev1 rfl) en) rfl rfl (rtold_d t) rfl rfl rfl rfl rfl rfl) (by simp only [upd, za, zaa]; exact rfl) ?_
  refine zae ?_
  refine dwp_block ?_
  refine dwp_adoptm 1 5 1 rfl (by simp only [List.cons_append, List.nil_append, za, zaa, List.length_cons, List.length_nil, Nat.zero_add, Nat.reduceAdd]; exact rfl) ?_
  refine dwp_hole ?_
  refine dwp_fam 4 rfl (by simp only [List.cons_append, List.nil_append, za, zaa]; exact rfl) ?_
  refine dwp_absc 1 0 4 rfl rfl rfl rfl (by simp only [List.cons_append, List.nil_append, za, zaa]; exact rfl) ?_
  refine dwp_hole ?_
  simp only [List.cons_append, List.nil_append]
  refine dwp_rf (FL := [(3, _)]) (st := .ready) (pe := none) [5, 1, 4, 0, 2] [] [] 5 rfl rfl (ev1 rfl) rfl (subF_lk ⟨rfl, trivial⟩) rfl rfl rfl (told_bytes t) rfl rfl rfl rfl rfl rfl rfl (by simp) (fun e => ?_) (fun c e => ?_)
  · simp only [upd, za, zaa]
    refine zaf ?_
    refine zad ?_
    refine zab rfl rfl rfl (op_ldm rfl tb23 (ev1 rfl) rfl rfl) ?_
    refine zab rfl rfl rfl (zac (.inr rfl) (ev1 rfl)) ?_
    refine zae ?_
    refine dwp_hole ?_
    refine dwp_rel 2 4 (j := 6) rfl rfl (fmB_at _ _) rfl (by simp only [List.cons_append, List.nil_append, za, zaa]; exact rfl) ?_
    refine dwp_ret ?_
    refine kend [6] (rs1 rfl (rv_t rfl)) rfl rfl ?_ ⟨rfl, trivial⟩
    rfl
  · cases e
end Go.Proofs.Ytcbfnbfhlofkiaa
namespace Go.Proofs.Ytcbfnbfhlofkiaa
set_option maxRecDepth 4000
set_option linter.unusedVariables false
set_option linter.unusedSimpArgs false
open Go.RowKit
theorem u8_map (l : List Int) : l.flatMap u8V = l.map fun z => Value.int .u8 z := by
  induction l with
  | nil => rfl
  | cons a l ih => rw [List.flatMap_cons, ih]; rfl
theorem u8_len (B : List Int) : (B.flatMap u8V).length = B.length := by rw [u8_map, List.length_map]
end Go.Proofs.Ytcbfnbfhlofkiaa
namespace Go.Proofs.Ytcbfnbfhlofkiaa
set_option maxRecDepth 4000
set_option linter.unusedVariables false
set_option linter.unusedSimpArgs false
open Go.RowKit
attribute [local irreducible] padT rdP rdN mayG
set_option maxRecDepth 4000 in
set_option maxHeartbeats 1000000 in
theorem runs1_ok (B : List Int) (hB : B.length ≤ 4000000000000000000) (hi : isB B) (p0 : Nat) (hp : p0 ≤ B.length) (l : List C4) (q : Nat) (h0 : rdN B p0 = some (l, q)) : DFun Try.prog 62 [.yld 0, .loc 3 0] [.lp (some 34) 48 [(3, .loc 1 0), (4, .loc 2 0)] #[8] tlrA tlrB .ready none, .flat 29 (tc zT), .flat 3 [.int .i64 0], .mix 93 [.loc 4 0], .mix 71 [.val (.int .i64 0), .val (.int .i64 0), .val (.slice none 0 0), .slf 1 (B).length ((B).flatMap u8V), .val (.int .i64 (p0 : Int))]] (.tup []) [.lp (some 34) 48 [(3, .loc 1 0), (4, .loc 2 0)] #[8] tlrA tlrB .done (some (.exit 0)), .flat 29 (tc (padT l)), .flat 3 [.int .i64 64], .mix 93 [.loc 4 0], .mix 71 [.val (.int .i64 0), .val (.int .i64 0), .val (.slice none 0 0), .slf 1 (B).length ((B).flatMap u8V), .val (.int .i64 (q : Int))]] := by
  refine dcalls_go (N := 27) 5 (by kernel_rfl) Try.func62 rfl rfl rfl (by simp only [fr0, Nat.zero_add, Nat.reduceAdd]; exact rfl) rfl fun s0 hs0 => ?_
  refine dwp_block ?_
  refine dwp_loopS ⟨hs0, rfl⟩ (α := Nat × List C4 × Nat) (fun x => []) [(0, _), (1, _)] (fun x => [(1, .flat 29 (tc (padT x.2.1))), (2, .flat 3 [.int .i64 (x.2.1.length : Int)]), (4, .mix 71 [.val (.int .i64 0), .val (.int .i64 0), .val (.slice none 0 0), .slf 1 (B).length ((B).flatMap u8V), .val (.int .i64 (x.2.2 : Int))])]) [_, .hole, .hole, _, .hole] (fun x => x.2.1.length < 64 ∧ x.2.2 ≤ B.length ∧ rdP B x.1 x.2.1 x.2.2 = some (l, q)) (fun x => 64 - x.2.1.length) (64, [], p0) [0, 1, 2, 3, 4] (⟨by show 0 < 64; decide, hp, by unfold rdN at h0; exact h0⟩) rfl ⟨rfl, rfl, trivial⟩ trivial ⟨rfl, by rw [padT_nil]; rfl, rfl, rfl, rfl, trivial⟩ ?_
  intro x hx
  simp only [upd, za, zaa, List.cons_append, List.nil_append]
  obtain ⟨f, acc, p⟩ := x
  obtain ⟨ha, hpl, hrd⟩ := hx
  dsimp only at ha hpl hrd ⊢
  obtain ⟨h5, hm, hz, hy⟩ := rdP_some hrd
  have hmg := (mayG_iff.1 hm).1
  refine dwp_block ?_
  refine zaf ?_
  refine zad ?_
  refine zab rfl rfl rfl (op_ldm rfl tb93 (ev1 rfl) rfl rfl) ?_
  refine walk_w rfl rfl rfl (zaj [4] [] [] rfl (ev1 rfl) (ec (ev1 rfl) (ec (ev1 rfl) en)) rfl rfl (take5 B hB p h5) rfl rfl rfl rfl rfl rfl) (by simp only [upd, za, zaa]; exact rfl) ?_
  refine zab rfl rfl rfl (zac (.inr rfl) (ev1 rfl)) ?_
  refine zae ?_
  refine zaf ?_
  by_cases hd : acc.length + (runAt B p).1.toNat = 64
  · refine dwp_draw [([], []), ([], []), ([], []), ([], []), ([], []), ([], []), ([], []), ([], []), ([], []), ([], []), ([], []), ([], []), ([], []), ([], []), ([], []), ([], []), ([], []), ([], []), ([], []), ([0, 1, 2], [0, 1, 2]), ([], [])] mixed (by kernel_rfl) ?_
    refine zag rfl rfl (zac (.inl rfl) (ev1 rfl)) ?_
    refine zag rfl rfl (zac (.inl rfl) (ev1 rfl)) ?_
    refine zag rfl rfl (op_ixsr (l := (row5 B p)) (en := u8V) (j := 0) rfl sl23 (ev1 rfl) (ev1 rfl) (fun _ => rfl) (by decide) rfl (Nat.lt_of_succ_le (Nat.le_of_ble_eq_true rfl))) ?_
    refine zag rfl rfl ((op_ldod rfl tb5 (ev1 rfl) rfl).wk (Wk.of_eq (d' := .val (.int .u8 (bAt B p))) rfl)) ?_
    refine zag rfl rfl (op_conv' ty5 kn3 rfl (ev1 rfl) (fun _ => by have := bAt_in hi p; exact IntWalk.i64_in _ (by omega))) ?_
    refine zag rfl rfl (zac (.inl rfl) (ev1 rfl)) ?_
    refine zag rfl rfl (op_ixsr (l := (row5 B p)) (en := u8V) (j := 1) rfl sl23 (ev1 rfl) (ev1 rfl) (fun _ => rfl) (by decide) rfl (Nat.lt_of_succ_le (Nat.le_of_ble_eq_true rfl))) ?_
    refine zag rfl rfl (op_ldod rfl tb5 (ev1 rfl) rfl) ?_
    refine zag rfl rfl (zac (.inl rfl) (ev1 rfl)) ?_
    refine zag rfl rfl (op_ixsr (l := (row5 B p)) (en := u8V) (j := 2) rfl sl23 (ev1 rfl) (ev1 rfl) (fun _ => rfl) (by decide) rfl (Nat.lt_of_succ_le (Nat.le_of_ble_eq_true rfl))) ?_
    refine zag rfl rfl (op_ldod rfl tb5 (ev1 rfl) rfl) ?_
    refine zag rfl rfl (zac (.inl rfl) (ev1 rfl)) ?_
    refine zag rfl rfl (op_ixsr (l := (row5 B p)) (en := u8V) (j := 3) rfl sl23 (ev1 rfl) (ev1 rfl) (fun _ => rfl) (by decide) rfl (Nat.lt_of_succ_le (Nat.le_of_ble_eq_true rfl))) ?_
    refine zag rfl rfl (op_ldod rfl tb5 (ev1 rfl) rfl) ?_
    refine zag rfl rfl (zac (.inl rfl) (ev1 rfl)) ?_
    refine zag rfl rfl (op_ixsr (l := (row5 B p)) (en := u8V) (j := 4) rfl sl23 (ev1 rfl) (ev1 rfl) (fun _ => rfl) (by decide) rfl (Nat.lt_of_succ_le (Nat.le_of_ble_eq_true rfl))) ?_
    refine zag rfl rfl (op_ldod rfl tb5 (ev1 rfl) rfl) ?_
    refine zag rfl rfl (op_build (ps := [(0, .tmp 13), (1, .tmp 16), (2, .tmp 19), (3, .tmp 22)]) rfl fl27 zr27 (vc (ev1 rfl) (vc (ev1 rfl) (vc (ev1 rfl) (vc (ev1 rfl) vn)))) rfl rfl) ?_
    refine zag rfl rfl (op_build (ps := [(0, .tmp 10), (1, .tmp 23)]) rfl fl68 zr68 (vc (ev1 rfl) (vc (ev1 rfl) vn)) rfl rfl) ?_
    refine lex_w rfl rfl (op_y (i := 0) [0, 1, 2] [] [] rfl (ev1 rfl) (ec (ev1 rfl) en) rfl rfl rfl (tr_z acc (bAt B p) (runAt B p).2 ha hm hd) rfl rfl rfl rfl rfl) rfl (by simp only [upd, za, zaa]; exact rfl) ?_
    refine zag rfl rfl (op_not rfl (ev1 rfl)) ?_
    refine lex_nil ?_
    refine dwp_if_t rfl (rfl) ?_
    refine dwp_ret ?_
    obtain ⟨rfl, rfl⟩ := hz hd
    have hd2 : acc.length + (bAt B p).toNat = 64 := hd
    rw [hd2]
    refine kend [0, 1, 2, 3, 4] (res_none rfl) rfl rfl ?_ ⟨rfl, rfl, rfl, rfl, rfl, trivial⟩
    rfl
  · have hmn : (runAt B p).1 = bAt B p := rfl
    refine dwp_draw [([], []), ([], []), ([], []), ([], []), ([], []), ([], []), ([], []), ([], []), ([], []), ([], []), ([], []), ([], []), ([], []), ([], []), ([], []), ([], []), ([], []), ([], []), ([], []), ([0, 1, 2], [0, 1, 2]), ([], [])] mixed (by kernel_rfl) ?_
    refine zag rfl rfl (zac (.inl rfl) (ev1 rfl)) ?_
    refine zag rfl rfl (zac (.inl rfl) (ev1 rfl)) ?_
    refine zag rfl rfl (op_ixsr (l := (row5 B p)) (en := u8V) (j := 0) rfl sl23 (ev1 rfl) (ev1 rfl) (fun _ => rfl) (by decide) rfl (Nat.lt_of_succ_le (Nat.le_of_ble_eq_true rfl))) ?_
    refine zag rfl rfl ((op_ldod rfl tb5 (ev1 rfl) rfl).wk (Wk.of_eq (d' := .val (.int .u8 (bAt B p))) rfl)) ?_
    refine zag rfl rfl (op_conv' ty5 kn3 rfl (ev1 rfl) (fun _ => by have := bAt_in hi p; exact IntWalk.i64_in _ (by omega))) ?_
    refine zag rfl rfl (zac (.inl rfl) (ev1 rfl)) ?_
    refine zag rfl rfl (op_ixsr (l := (row5 B p)) (en := u8V) (j := 1) rfl sl23 (ev1 rfl) (ev1 rfl) (fun _ => rfl) (by decide) rfl (Nat.lt_of_succ_le (Nat.le_of_ble_eq_true rfl))) ?_
    refine zag rfl rfl (op_ldod rfl tb5 (ev1 rfl) rfl) ?_
    refine zag rfl rfl (zac (.inl rfl) (ev1 rfl)) ?_
    refine zag rfl rfl (op_ixsr (l := (row5 B p)) (en := u8V) (j := 2) rfl sl23 (ev1 rfl) (ev1 rfl) (fun _ => rfl) (by decide) rfl (Nat.lt_of_succ_le (Nat.le_of_ble_eq_true rfl))) ?_
    refine zag rfl rfl (op_ldod rfl tb5 (ev1 rfl) rfl) ?_
    refine zag rfl rfl (zac (.inl rfl) (ev1 rfl)) ?_
    refine zag rfl rfl (op_ixsr (l := (row5 B p)) (en := u8V) (j := 3) rfl sl23 (ev1 rfl) (ev1 rfl) (fun _ => rfl) (by decide) rfl (Nat.lt_of_succ_le (Nat.le_of_ble_eq_true rfl))) ?_
    refine zag rfl rfl (op_ldod rfl tb5 (ev1 rfl) rfl) ?_
    refine zag rfl rfl (zac (.inl rfl) (ev1 rfl)) ?_
    refine zag rfl rfl (op_ixsr (l := (row5 B p)) (en := u8V) (j := 4) rfl sl23 (ev1 rfl) (ev1 rfl) (fun _ => rfl) (by decide) rfl (Nat.lt_of_succ_le (Nat.le_of_ble_eq_true rfl))) ?_
    refine zag rfl rfl (op_ldod rfl tb5 (ev1 rfl) rfl) ?_
    refine zag rfl rfl (op_build (ps := [(0, .tmp 13), (1, .tmp 16), (2, .tmp 19), (3, .tmp 22)]) rfl fl27 zr27 (vc (ev1 rfl) (vc (ev1 rfl) (vc (ev1 rfl) (vc (ev1 rfl) vn)))) rfl rfl) ?_
    refine zag rfl rfl (op_build (ps := [(0, .tmp 10), (1, .tmp 23)]) rfl fl68 zr68 (vc (ev1 rfl) (vc (ev1 rfl) vn)) rfl rfl) ?_
    refine lex_w rfl rfl (op_y (i := 0) [0, 1, 2] [] [] rfl (ev1 rfl) (ec (ev1 rfl) en) rfl rfl rfl (tr_y acc (bAt B p) (runAt B p).2 ha hm (by omega)) rfl rfl rfl rfl rfl) rfl (by simp only [upd, za, zaa]; exact rfl) ?_
    refine zag rfl rfl (op_not rfl (ev1 rfl)) ?_
    refine lex_nil ?_
    refine dwp_if_f rfl (rfl) ?_
    refine dwp_skip ?_
    refine ⟨(f - 1, acc ++ List.replicate (runAt B p).1.toNat (runAt B p).2, p + 5), [0, 1, 2, 3, 4], ⟨by simp only [List.length_append, List.length_replicate]; omega, h5, hy hd⟩, by simp only [List.length_append, List.length_replicate]; omega, rfl, ⟨rfl, rfl, trivial⟩, ⟨rfl, rfl, by rw [List.length_append, List.length_replicate]; rfl, rfl, rfl, trivial⟩⟩
set_option maxRecDepth 4000 in
set_option maxHeartbeats 1000000 in
theorem rtl_ok (B : List Int) (hB : B.length ≤ 4000000000000000000) (hi : isB B) (p0 : Nat) (hp : p0 ≤ B.length) (l : List C4) (q : Nat) (h0 : rdN B p0 = some (l, q)) : DFun Try.prog 34 [.loc 0 0] [.mix 71 [.val (.int .i64 0), .val (.int .i64 0), .val (.slice none 0 0), .slf 1 (B).length ((B).flatMap u8V), .val (.int .i64 (p0 : Int))]] (.val (.agg (tc (padT l)).toArray)) [.mix 71 [.val (.int .i64 0), .val (.int .i64 0), .val (.slice none 0 0), .slf 1 (B).length ((B).flatMap u8V), .val (.int .i64 (q : Int))]] := by
  refine dcalls_goK (N := 48) 1 (by kernel_rfl) Try.func34 rfl rfl rfl (by simp only [fr0, Nat.zero_add, Nat.reduceAdd]; exact rfl) rfl fun s0 hs0 => ?_
  refine dwpK_seq ?_
  refine dwpK_of ?_
  refine zah 1 (by simp only [holes, List.cons_append, List.nil_append]; exact rfl) ?_
  refine zad ?_
  refine walk_w rfl rfl rfl (op_alloc 1 rfl zr29 rfl) (by simp only [upd, za, zaa]; exact rfl) ?_
  refine zae ?_
  refine dwpK_scope ?_
  refine dwpK_seq ?_
  refine dwpK_of ?_
  refine zah 1 (by simp only [holes, List.cons_append, List.nil_append]; exact rfl) ?_
  refine zad ?_
  refine walk_w rfl rfl rfl (op_alloc 2 rfl zr29 rfl) (by simp only [upd, za, zaa]; exact rfl) ?_
  refine zae ?_
  refine dwpK_seq ?_
  refine dwpK_of ?_
  refine zah 1 (by simp only [holes, List.cons_append, List.nil_append]; exact rfl) ?_
  refine zad ?_
  refine walk_w rfl rfl rfl (op_alloc 3 rfl zr3 rfl) (by simp only [upd, za, zaa]; exact rfl) ?_
  refine walk_s rfl rfl (op_stwi rfl tb3 (ev1 rfl) (ev1 rfl) rfl) (by simp only [upd, za, zaa]; exact rfl) ?_
  refine zae ?_
  refine dwpK_seq ?_
  refine dwpK_of ?_
  refine dwp_label ?_
  refine dwpK_seq ?_
  refine dwpK_seq ?_
  refine dwpK_of ?_
  refine zah 1 (by simp only [holes, List.cons_append, List.nil_append]; exact rfl) ?_
  refine zad ?_
  refine zab rfl rfl rfl (zac (.inl rfl) (ev1 rfl)) ?_
  refine walk_w rfl rfl rfl (zaj [0] [] [4] rfl (ev1 rfl) (ec (ev1 rfl) en) rfl rfl (runs_d B hB p0) rfl rfl rfl rfl rfl rfl) (by simp only [upd, za, zaa]; exact rfl) ?_
  refine zae ?_
  refine dwpK_block ?_
  refine dwpK_hole ?_
  simp only [List.cons_append, List.nil_append]
  refine dwpK_rfn (FL := [(3, _), (4, _)]) (st := .done) (pe := (some (.exit 0))) [5, 2, 3, 4, 0] [] [] 5 rfl rfl (ev1 rfl) rfl (subF_lk ⟨rfl, rfl, trivial⟩) rfl rfl rfl (runs1_ok B hB hi p0 hp l q h0) rfl rfl rfl rfl rfl rfl rfl (by simp) (fun e => ?_) (fun c e => ?_)
  · cases e
  · cases e
    simp only [upd, za, zaa]
    refine dwp_exit ?_
    refine dwpK_of ?_
    refine zaf ?_
    refine zad ?_
    refine zab rfl rfl rfl (op_ldw rfl tb29 (ev1 rfl) rfl (tc_len _)) ?_
    refine walk_s rfl rfl (op_stwa rfl tb29 (ev1 rfl) (ev1 rfl) rfl (tc_len _) (tc_oc _) ((tc_len _).trans (tc_len _).symm)) (by simp only [upd, za, zaa]; exact rfl) ?_
    refine zae ?_
    refine dwp_ret ?_
    refine kend [0] (rs1 rfl (rv_w tb29 rfl rfl (tc_len _))) rfl rfl ?_ ⟨rfl, trivial⟩
    rfl
end Go.Proofs.Ytcbfnbfhlofkiaa
namespace Go.Proofs.Ytcbfnbfhlofkiaa
set_option maxRecDepth 4000
set_option linter.unusedVariables false
set_option linter.unusedSimpArgs false
open Go.RowKit
attribute [local irreducible] padT rdP rdN mayG
set_option maxRecDepth 4000 in
set_option maxHeartbeats 1000000 in
theorem rt1_idle (t : TL) (n e : Int) : DDef Try.prog 32 [.loc 0 0, .loc 1 0, .loc 2 0] [.flat 29 (tc t), .flat 3 [.int .i64 n], .flat 33 [.int .i64 e]] none none [.flat 29 (tc t), .flat 3 [.int .i64 n], .flat 33 [.int .i64 e]] := by
  refine ddef_go (dr := .tup []) (t := 3) (N := 6) 3 (by kernel_rfl) Try.func32 rfl rfl rfl (by simp only [fr0, Nat.zero_add, Nat.reduceAdd]; exact rfl) rfl rfl rfl rfl rfl fun s0 hs0 => ?_
  refine zab rfl rfl rfl (zaj [] [] [] rfl (ev1 rfl) (ec (ev1 rfl) en) rfl rfl (failed_no) rfl rfl rfl rfl rfl rfl) ?_
  refine zae ?_
  refine dwp_if_f rfl (rfl) ?_
  refine dwp_skip ?_
  refine kend [0, 1, 2] (res_none rfl) rfl rfl ?_ ⟨rfl, rfl, rfl, trivial⟩
  rfl
set_option maxRecDepth 4000 in
set_option maxHeartbeats 1000000 in
theorem rdt_ok (B : List Int) (hB : B.length ≤ 4000000000000000000) (hi : isB B) (l : List C4) (q : Nat) (h0 : rdN B 0 = some (l, q)) : DFun Try.prog 14 [.slf 1 (B).length ((B).flatMap u8V)] [] (.tup [.val (.agg (tc (padT l)).toArray), .val (.int .i64 (q : Nat)), .val (.int .i64 0)]) [] := by
  refine dcalls_body (N := 13) 0 (by kernel_rfl) Try.func14 rfl rfl rfl (by simp only [fr0, Nat.zero_add, Nat.reduceAdd]; exact rfl) rfl fun s0 hs0 => ?_
  refine dbody_seq rfl hs0 ?_
  refine zah 3 (by simp only [holes, List.cons_append, List.nil_append]; exact rfl) ?_
  refine zad ?_
  refine walk_w rfl rfl rfl (op_alloc 0 rfl zr29 rfl) (by simp only [upd, za, zaa]; exact rfl) ?_
  refine walk_w rfl rfl rfl (op_alloc 1 rfl zr3 rfl) (by simp only [upd, za, zaa]; exact rfl) ?_
  refine walk_w rfl rfl rfl (op_alloc 2 rfl zr33 rfl) (by simp only [upd, za, zaa]; exact rfl) ?_
  refine zae ?_
  refine dbody_defer (l0 := [_]) rfl rfl rfl rfl rfl hs0 ?_
  refine zab rfl rfl rfl (op_mkf rfl en (ec (ev1 rfl) (ec (ev1 rfl) (ec (ev1 rfl) en)))) ?_
  refine zae ⟨_, _, _, 3, ev1 rfl, Nat.le_trans hs0 (by decide), rfl, ?_⟩
  have hs1 : s0.M.length ≤ 3 := Nat.le_trans hs0 (by decide)
  refine dbody_end rfl hs0 ?_
  refine zaf ?_
  refine zah 1 (by simp only [holes, List.cons_append, List.nil_append]; exact rfl) ?_
  refine zad ?_
  refine zab rfl rfl rfl (zac (.inl rfl) (ev1 rfl)) ?_
  refine zab rfl rfl rfl (op_bldD (ps := [(1, .tmp 7)]) rfl fl71 zr71 (ec (ev1 rfl) en) rfl rfl rfl) ?_
  refine walk_w rfl rfl rfl (op_alloc 3 rfl zr71 rfl) (by simp only [upd, za, zaa]; exact rfl) ?_
  refine walk_s rfl rfl (op_stam rfl tb71 (ev1 rfl) (ev1 rfl) rfl rfl rfl rfl) (by simp only [upd, za, zaa]; exact rfl) ?_
  refine zae ?_
  refine zaf ?_
  refine zad ?_
  refine walk_w rfl rfl rfl (zaj [3] [] [] rfl (ev1 rfl) (ec (ev1 rfl) en) rfl rfl (rtl_ok B hB hi 0 (Nat.zero_le _) l q h0) rfl rfl rfl rfl rfl rfl) (by simp only [upd, za, zaa]; exact rfl) ?_
  refine walk_s rfl rfl (op_stwa rfl tb29 (ev1 rfl) (ev1 rfl) rfl (tc_len _) (tc_oc _) ((tc_len _).trans (tc_len _).symm)) (by simp only [upd, za, zaa]; exact rfl) ?_
  refine zae ?_
  refine zaf ?_
  refine dwp_draw [([0], []), ([], []), ([3], []), ([0], [0]), ([1], [1]), ([2], [2])] mixed (by kernel_rfl) ?_
  refine zag rfl rfl (op_ldw rfl tb29 (ev1 rfl) rfl (tc_len _)) ?_
  refine zag rfl rfl (op_fa rfl fo71_2 (ev1 rfl)) ?_
  refine zag rfl rfl (op_ldm rfl tb3 (ev1 rfl) rfl rfl) ?_
  refine lex_s rfl rfl (op_stwa rfl tb29 (ev1 rfl) (ev1 rfl) rfl (tc_len _) (tc_oc _) ((tc_len _).trans (tc_len _).symm)) rfl (by simp only [upd, za, zaa]; exact rfl) ?_
  refine lex_s rfl rfl (op_stwi rfl tb3 (ev1 rfl) (ev1 rfl) rfl) rfl (by simp only [upd, za, zaa]; exact rfl) ?_
  refine lex_s rfl rfl (op_stwi rfl tb33 (ev1 rfl) (ev1 rfl) rfl) rfl (by simp only [upd, za, zaa]; exact rfl) ?_
  refine lex_nil ?_
  refine dwp_ret ?_
  refine kdef (dturn_idle [0, 1, 2] [] rfl rfl (rt1_idle _ _ _) rfl rfl rfl rfl rfl) ?_
  refine kend0 (rs3 rfl (rv_w tb29 rfl rfl (tc_len _)) (rv_1 tb3 rfl rfl rfl) (rv_1 tb33 rfl rfl rfl)) rfl ?_
  rfl
end Go.Proofs.Ytcbfnbfhlofkiaa
namespace Go.Proofs.Ytcbfnbfhlofkiaa
set_option maxRecDepth 4000
set_option linter.unusedVariables false
set_option linter.unusedSimpArgs false
open Go.RowKit
theorem rdN_bytes {B : List Int} {l : List C4} {q : Nat} (h : rdN B 0 = some (l, q)) : B = tileB (padT l) ++ B.drop q ∧ q = (tileB (padT l)).length ∧ q ≤ B.length ∧ (padT l).l = l := by
  have e := rdN_T (B := B) (p := 0) (Nat.zero_le _)
  rw [h, List.drop_zero] at e
  have hb : B = tileB (padT l) ++ B.drop q := rdT_iff.1 e
  obtain ⟨g1, _, g3⟩ := rdN_le h
  refine ⟨hb, ?_, g1, by rw [padT_full g3]⟩
  have := congrArg List.length hb
  rw [List.length_append, List.length_drop] at this
  omega
theorem rdN_tile (t : TL) (rest : List Int) : rdN (tileB t ++ rest) 0 = some (t.l, (tileB t).length) := by
  have e := rdN_T (B := tileB t ++ rest) (p := 0) (Nat.zero_le _)
  rw [List.drop_zero, rdT_iff.2 rfl] at e
  cases hx : rdN (tileB t ++ rest) 0 with
  | none => rw [hx] at e; cases e
  | some x =>
    obtain ⟨l, q⟩ := x
    rw [hx] at e
    obtain ⟨e1, e2⟩ := Prod.mk.inj (Option.some.inj e)
    obtain ⟨_, g2, _, g4⟩ := rdN_bytes hx
    rw [← g4, g2, ← e1]
theorem tileB_pos (t : TL) : 0 < (tileB t).length := by
  obtain ⟨n, _, bs, e⟩ := tileB_first t
  rw [e]; simp
theorem tileB_set {t u : TL} {j : Nat} {z : Int} {q : Nat} (hj : j < (tileB t).length) (hz : z ≠ (tileB t)[j]) (h : (tileB t).set j z = tileB u ++ ((tileB t).set j z).drop q) (hq : q = (tileB u).length) : u ≠ t ∧ tileB u = ((tileB t).set j z).take q ∧ tileB u ≠ (tileB t).take q := by
  have hne : u ≠ t := by
    rintro rfl
    have h1 := congrArg (fun l => l[j]?) h
    simp only [List.getElem?_set_self hj] at h1
    rw [List.getElem?_append_left hj, List.getElem?_eq_getElem hj] at h1
    exact hz (Option.some.inj h1)
  refine ⟨hne, ?_, fun e => hne ?_⟩
  · have h1 := congrArg (List.take q) h
    rw [h1, hq, List.take_left']
    rfl
  · have e2 : tileB t ++ [] = tileB u ++ (tileB t).drop q := by rw [List.append_nil, e]; exact (List.take_append_drop q _).symm
    exact (tileB_inj e2).1.symm
theorem cut_rng (c : Int) (n : Nat) (h : 0 < n) : 0 ≤ IntKind.u64.wrap c ∧ ∃ k : Nat, IntKind.u64.wrap c % (n : Int) = (k : Int) ∧ k < n := by
  have h0 : 0 ≤ IntKind.u64.wrap c := by
    rw [IntKind.wrap_u64]
    omega
  have h1 := Int.emod_nonneg (IntKind.u64.wrap c) (show (n : Int) ≠ 0 by omega)
  have h2 := Int.emod_lt_of_pos (IntKind.u64.wrap c) (show (0 : Int) < n by omega)
  exact ⟨h0, (IntKind.u64.wrap c % (n : Int)).toNat, by omega, by omega⟩
theorem xor_b {a b : Nat} (ha : a < 256) (hb : b < 256) : xorZ .u8 (a : Int) (b : Int) = ((a ^^^ b : Nat) : Int) ∧ a ^^^ b < 256 := by
  have e : (BitVec.ofInt 8 (a : Int) ^^^ BitVec.ofInt 8 (b : Int)).toNat = a ^^^ b := by
    rw [BitVec.ofInt_natCast, BitVec.ofInt_natCast, BitVec.toNat_xor, BitVec.toNat_ofNat, BitVec.toNat_ofNat, Nat.mod_eq_of_lt ha, Nat.mod_eq_of_lt hb]
  have h := Nat.xor_lt_two_pow (n := 8) ha hb
  refine ⟨?_, h⟩
  show IntKind.u8.wrap (((BitVec.ofInt 8 (a : Int) ^^^ BitVec.ofInt 8 (b : Int)).toNat : Nat) : Int) = _
  rw [e]
  exact IntWalk.u8_in _ (by omega)
theorem xor_i {a b : Int} (ha : 0 ≤ a ∧ a ≤ 255) (hb : 0 ≤ b ∧ b ≤ 255) : (0 ≤ xorZ .u8 a b ∧ xorZ .u8 a b ≤ 255) ∧ (xorZ .u8 a b = a ↔ b = 0) := by
  obtain ⟨x, rfl⟩ := Int.eq_ofNat_of_zero_le ha.1
  obtain ⟨y, rfl⟩ := Int.eq_ofNat_of_zero_le hb.1
  obtain ⟨h1, h2⟩ := xor_b (a := x) (b := y) (by omega) (by omega)
  rw [h1]
  refine ⟨by omega, fun h => ?_, fun h => ?_⟩
  · have h3 : x ^^^ y = x := by omega
    have h4 : x ^^^ (x ^^^ y) = 0 := by rw [h3, Nat.xor_self]
    rw [← Nat.xor_assoc, Nat.xor_self, Nat.zero_xor] at h4
    omega
  · have : y = 0 := by omega
    subst this
    rw [Nat.xor_zero]
theorem isB_set {l : List Int} (h : isB l) (j : Nat) {z : Int} (hz : 0 ≤ z ∧ z ≤ 255) : isB (l.set j z) := fun w hw => by
  rcases List.mem_or_eq_of_mem_set hw with hw | rfl
  · exact h w hw
  · exact hz
theorem set_same {l : List Int} {j : Nat} (h : j < l.length) : l.set j l[j] = l := List.set_getElem_self h
theorem setL_u8 (l : List Int) (j : Nat) (q : Int) : setL (l.flatMap u8V) (j * 1) [.int .u8 q] = (l.set j q).flatMap u8V := by
  rw [setL, setL_nil, Nat.mul_one, u8_map, u8_map, List.map_set]
end Go.Proofs.Ytcbfnbfhlofkiaa
namespace Go.Proofs.Ytcbfnbfhlofkiaa
set_option maxRecDepth 4000
set_option linter.unusedVariables false
set_option linter.unusedSimpArgs false
open Go.RowKit
attribute [local irreducible] padT rdP rdN mayG rdNs runG bytesG posG tileB tilesB canvasB patchB
theorem kn61 : knd Try.prog 61 = some .u64 := by kernel_rfl
theorem ty61 : (tyB Try.prog 61).isSome = true := by kernel_rfl
set_option maxRecDepth 4000 in
set_option maxHeartbeats 1000000 in
theorem rspoilt_d (t : TL) (ht : ∀ c ∈ t.l, c.rng) (z y : Int) (hy : 0 ≤ y ∧ y ≤ 255) : DFun Try.prog 7 [tD t, .val (.int .i64 z), .val (.int .u8 y)] [] (.val (.bool true)) [] := by
  have hl0 := tileB_pos t
  have htl := tileB_len t
  have hBt := tileB_isB ht
  obtain ⟨hcw, j, hj, hjl⟩ := cut_rng z (tileB t).length hl0
  have hjb := hBt _ (List.getElem_mem hjl)
  obtain ⟨hxr, hxi⟩ := xor_i hjb hy
  have hsb : isB ((tileB t).set j (xorZ .u8 ((tileB t)[j]) y)) := isB_set hBt j hxr
  have hsl : ((tileB t).set j (xorZ .u8 ((tileB t)[j]) y)).length = (tileB t).length := List.length_set
  refine dcalls_go (N := 83) 0 (by kernel_rfl) Try.func7 rfl rfl rfl (by simp only [fr0, Nat.zero_add, Nat.reduceAdd]; exact rfl) rfl fun s0 hs0 => ?_
  refine zaf ?_
  refine zah 1 (by simp only [holes, List.cons_append, List.nil_append]; exact rfl) ?_
  refine zad ?_
  refine walk_w rfl rfl rfl (op_boxa 0 rfl (ev1 rfl) rfl) (by simp only [upd, za, zaa]; exact rfl) ?_
  refine zab rfl rfl rfl (zac (.inr rfl) (ev1 rfl)) ?_
  refine zae ?_
  refine zaf ?_
  refine zaf ?_
  refine zad ?_
  refine zab rfl rfl rfl (zaj [] [] [] rfl (ev1 rfl) en rfl rfl (wakes_d) rfl rfl rfl rfl rfl rfl) ?_
  refine zab rfl rfl rfl (op_not rfl (ev1 rfl)) ?_
  refine zae ?_
  refine dwp_if_f rfl (rfl) ?_
  refine dwp_skip ?_
  refine zaf ?_
  refine zah 1 (by simp only [holes, List.cons_append, List.nil_append]; exact rfl) ?_
  refine zad ?_
  refine zab rfl rfl rfl (op_ldw rfl tb29 (ev1 rfl) rfl (tc_len _)) ?_
  refine walk_w rfl rfl rfl (zaj [] [] [1] rfl (ev1 rfl) (ec (ev1 rfl) en) rfl rfl (rtile_o t) rfl rfl rfl rfl rfl rfl) (by simp only [upd, za, zaa]; exact rfl) ?_
  refine zab rfl rfl rfl (zac (.inr rfl) (ev1 rfl)) ?_
  refine zae ?_
  refine zaf ?_
  refine zaf ?_
  refine zad ?_
  refine zab rfl rfl rfl (zac (.inl rfl) (ev1 rfl)) ?_
  refine zab rfl rfl rfl (op_lena rfl sl23 (ev1 rfl) rfl) ?_
  refine zab rfl rfl rfl (op_eql rfl (ev1 rfl) (ev1 rfl)) ?_
  refine zae ?_
  refine dwp_if_f rfl (by rw [Bool.eq_false_iff]; simp only [ne_eq, beq_iff_eq]; omega) ?_
  refine dwp_skip ?_
  refine zaf ?_
  refine zad ?_
  refine zab rfl rfl rfl (zac (.inl rfl) (ev1 rfl)) ?_
  refine zab rfl rfl rfl (op_conv ty3 kn61 rfl (ev1 rfl)) ?_
  refine zab rfl rfl rfl (zac (.inl rfl) (ev1 rfl)) ?_
  refine zab rfl rfl rfl (op_lena rfl sl23 (ev1 rfl) rfl) ?_
  refine zab rfl rfl rfl (op_conv' ty3 kn61 rfl (ev1 rfl) (fun _ => IntWalk.u64_in _ (by omega))) ?_
  refine zab rfl rfl rfl (op_rem' rfl (ev1 rfl) (ev1 rfl) (fun _ => ⟨by omega, hcw⟩)) ?_
  refine zab rfl rfl rfl ((op_conv' ty61 kn3 rfl (ev1 rfl) (fun _ => IntWalk.i64_in _ (by omega))).wk (Wk.of_eq (d' := .val (.int .i64 (j : Int))) (by rw [hj]))) ?_
  refine zab rfl rfl rfl (zac (.inr rfl) (ev1 rfl)) ?_
  refine zae ?_
  refine zaf ?_
  refine zah 1 (by simp only [holes, List.cons_append, List.nil_append]; exact rfl) ?_
  refine zad ?_
  refine zab rfl rfl rfl (zac (.inl rfl) (ev1 rfl)) ?_
  refine walk_w rfl rfl rfl (zaj [] [1] [2] rfl (ev1 rfl) (ec (ev1 rfl) en) rfl rfl (cloneB (tileB t) (by omega)) rfl rfl rfl rfl rfl rfl) (by simp only [upd, za, zaa]; exact rfl) ?_
  refine zab rfl rfl rfl (zac (.inr rfl) (ev1 rfl)) ?_
  refine zae ?_
  refine zaf ?_
  refine zad ?_
  refine zab rfl rfl rfl (zac (.inl rfl) (ev1 rfl)) ?_
  refine zab rfl rfl rfl (zac (.inl rfl) (ev1 rfl)) ?_
  refine zab rfl rfl rfl (op_ixar (j := j) rfl sl23 (ev1 rfl) (ev1 rfl) rfl (fun _ => by first | rfl | omega) (fun _ => by omega)) ?_
  refine zab rfl rfl rfl (op_lda1 rfl tb5 (ev1 rfl) rfl (fun _ => rfl) (by omega) rfl) ?_
  refine zab rfl rfl rfl (zac (.inl rfl) (ev1 rfl)) ?_
  refine zab rfl rfl rfl (op_ixor rfl (ev1 rfl) (ev1 rfl)) ?_
  refine zab rfl rfl rfl (op_ixar (j := j) rfl sl23 (ev1 rfl) (ev1 rfl) rfl (fun _ => by first | rfl | omega) (fun _ => by omega)) ?_
  refine walk_s rfl rfl (op_sta rfl tb5 (ev1 rfl) (ev1 rfl) rfl rfl rfl rfl (by rw [u8_len, Nat.mul_one]; exact hjl) (setL_u8 _ _ _)) (by simp only [upd, za, zaa]; exact rfl) ?_
  refine zae ?_
  refine zaf ?_
  by_cases h0 : rdN ((tileB t).set j (xorZ .u8 ((tileB t)[j]) y)) 0 = none
  · refine dwp_eqB 1 (show Blk.arr 5 1 (tileB t).length (((tileB t).set j (xorZ .u8 ((tileB t)[j]) y)).flatMap u8V) = .arr 5 1 (((tileB t).set j (xorZ .u8 ((tileB t)[j]) y))).length ((((tileB t).set j (xorZ .u8 ((tileB t)[j]) y))).flatMap u8V) from by rw [hsl]) rfl (by simp only [List.cons_append, List.nil_append, za, zaa]; exact rfl) ?_
    refine zah 1 (by simp only [holes, List.cons_append, List.nil_append]; exact rfl) ?_
    refine zad ?_
    refine zab rfl rfl rfl (zac (.inl rfl) (ev1 rfl)) ?_
    refine zab rfl rfl rfl (zaj [] [1] [] rfl (ev1 rfl) (ec (ev1 rfl) en) rfl rfl (rdt_no ((tileB t).set j (xorZ .u8 ((tileB t)[j]) y)) (by omega) hsb h0) rfl rfl rfl rfl rfl rfl) ?_
    refine zab rfl rfl rfl (zac (.inl rfl) (ev1 rfl)) ?_
    refine zab rfl rfl rfl (op_ext rfl (ev1 rfl) rfl) ?_
    refine zab rfl rfl rfl (op_ext rfl (ev1 rfl) rfl) ?_
    refine zab rfl rfl rfl (op_ext rfl (ev1 rfl) rfl) ?_
    refine walk_w rfl rfl rfl (op_alloc 3 rfl zr29 rfl) (by simp only [upd, za, zaa]; exact rfl) ?_
    refine walk_s rfl rfl (op_stwa rfl tb29 (ev1 rfl) (ev1 rfl) rfl (tc_len _) (tc_oc _) ((tc_len _).trans (tc_len _).symm)) (by simp only [upd, za, zaa]; exact rfl) ?_
    refine zab rfl rfl rfl (zac (.inr rfl) (ev1 rfl)) ?_
    refine zab rfl rfl rfl (zac (.inr rfl) (ev1 rfl)) ?_
    refine zae ?_
    refine zaf ?_
    refine zaf ?_
    refine zad ?_
    refine zab rfl rfl rfl (zac (.inl rfl) (ev1 rfl)) ?_
    refine zab rfl rfl rfl (op_eql rfl (ev1 rfl) (ev1 rfl)) ?_
    refine zae ?_
    refine dwp_cond rfl (fun c1 => ?_) (fun c1 => ?_)
    · exfalso
      have hy0 : y = 0 := by simpa using c1
      have e1 := hxi.2 hy0
      rw [e1, set_same hjl] at h0
      have e2 := rdN_tile t []
      rw [List.append_nil, h0] at e2
      cases e2
    · try simp only [decide_eq_true_eq, decide_eq_false_iff_not, beq_iff_eq, bne_iff_ne, beq_eq_false_iff_ne, bne_eq_false_iff_eq, Bool.not_eq_true', Bool.not_eq_false', Bool.and_eq_true, Bool.or_eq_true, Bool.or_eq_false_iff, ne_eq, Decidable.not_not, Int.not_lt, Int.not_le] at c1
      refine dwp_skip ?_
      refine zaf ?_
      refine zaf ?_
      refine zad ?_
      refine zab rfl rfl rfl (zac (.inl rfl) (ev1 rfl)) ?_
      refine zab rfl rfl rfl (op_neq rfl (ev1 rfl) (ev1 rfl)) ?_
      refine zae ?_
      refine dwp_if_t rfl (rfl) ?_
      refine zaf ?_
      refine zad ?_
      refine zab rfl rfl rfl (zac (.inl rfl) (ev1 rfl)) ?_
      refine zab rfl rfl rfl (op_eql rfl (ev1 rfl) (ev1 rfl)) ?_
      refine zab rfl rfl rfl (zac (.inl rfl) (ev1 rfl)) ?_
      refine zai (gd_t rfl rfl rfl) rfl rfl rfl (op_ldw rfl tb29 (ev1 rfl) rfl (tc_len _)) ?_
      refine zai (gd_t rfl rfl rfl) rfl rfl rfl (op_build0a rfl ar29 zr29) ?_
      refine zai (gd_t rfl rfl rfl) rfl rfl rfl (op_eqr eq29 rfl gd29 tb29 (ev2 rfl) (ev2 rfl)) ?_
      refine zab rfl rfl rfl (op_and rfl (ev1 rfl) (ev3 rfl id)) ?_
      refine zab rfl rfl rfl (zac (.inr rfl) (ev1 rfl)) ?_
      refine zae ?_
      refine dwp_ret ?_
      refine kend0 (rs1 rfl (rv_t rfl)) rfl ?_
      simp
  · refine dwp_eqB 1 (show Blk.arr 5 1 (tileB t).length (((tileB t).set j (xorZ .u8 ((tileB t)[j]) y)).flatMap u8V) = .arr 5 1 (((tileB t).set j (xorZ .u8 ((tileB t)[j]) y))).length ((((tileB t).set j (xorZ .u8 ((tileB t)[j]) y))).flatMap u8V) from by rw [hsl]) rfl (by simp only [List.cons_append, List.nil_append, za, zaa]; exact rfl) ?_
    obtain ⟨⟨l, q⟩, h0⟩ : ∃ x, rdN ((tileB t).set j (xorZ .u8 ((tileB t)[j]) y)) 0 = some x := by
      cases h1 : rdN ((tileB t).set j (xorZ .u8 ((tileB t)[j]) y)) 0 with
      | none => exact absurd h1 h0
      | some x => exact ⟨x, rfl⟩
    obtain ⟨g1, g2, g3, g4⟩ := rdN_bytes h0
    have gu := tileB_len (padT l)
    refine zah 1 (by simp only [holes, List.cons_append, List.nil_append]; exact rfl) ?_
    refine zad ?_
    refine zab rfl rfl rfl (zac (.inl rfl) (ev1 rfl)) ?_
    refine zab rfl rfl rfl (zaj [] [1] [] rfl (ev1 rfl) (ec (ev1 rfl) en) rfl rfl (rdt_ok ((tileB t).set j (xorZ .u8 ((tileB t)[j]) y)) (by omega) hsb l q h0) rfl rfl rfl rfl rfl rfl) ?_
    refine zab rfl rfl rfl (zac (.inl rfl) (ev1 rfl)) ?_
    refine zab rfl rfl rfl (op_ext rfl (ev1 rfl) rfl) ?_
    refine zab rfl rfl rfl (op_ext rfl (ev1 rfl) rfl) ?_
    refine zab rfl rfl rfl (op_ext rfl (ev1 rfl) rfl) ?_
    refine walk_w rfl rfl rfl (op_alloc 3 rfl zr29 rfl) (by simp only [upd, za, zaa]; exact rfl) ?_
    refine walk_s rfl rfl (op_stwa rfl tb29 (ev1 rfl) (ev1 rfl) rfl (tc_len _) (tc_oc _) ((tc_len _).trans (tc_len _).symm)) (by simp only [upd, za, zaa]; exact rfl) ?_
    refine zab rfl rfl rfl (zac (.inr rfl) (ev1 rfl)) ?_
    refine zab rfl rfl rfl (zac (.inr rfl) (ev1 rfl)) ?_
    refine zae ?_
    refine zaf ?_
    refine zaf ?_
    refine zad ?_
    refine zab rfl rfl rfl (zac (.inl rfl) (ev1 rfl)) ?_
    refine zab rfl rfl rfl (op_eql rfl (ev1 rfl) (ev1 rfl)) ?_
    refine zae ?_
    refine dwp_cond rfl (fun c1 => ?_) (fun c1 => ?_)
    · try simp only [decide_eq_true_eq, decide_eq_false_iff_not, beq_iff_eq, bne_iff_ne, beq_eq_false_iff_ne, bne_eq_false_iff_eq, Bool.not_eq_true', Bool.not_eq_false', Bool.and_eq_true, Bool.or_eq_true, Bool.or_eq_false_iff, ne_eq, Decidable.not_not, Int.not_lt, Int.not_le] at c1
      have hy0 : y = 0 := by simpa using c1
      have e1 := hxi.2 hy0
      rw [e1, set_same hjl] at h0
      have e2 := rdN_tile t []
      rw [List.append_nil, h0] at e2
      obtain ⟨e3, e4⟩ := Prod.mk.inj (Option.some.inj e2)
      have e5 : padT l = t := TL.ext (g4.trans e3)
      refine zaf ?_
      refine zad ?_
      refine zab rfl rfl rfl (zac (.inl rfl) (ev1 rfl)) ?_
      refine zab rfl rfl rfl (op_eql rfl (ev1 rfl) (ev1 rfl)) ?_
      refine zab rfl rfl rfl (zac (.inl rfl) (ev1 rfl)) ?_
      refine zai (gd_t rfl rfl rfl) rfl rfl rfl (op_ldw rfl tb29 (ev1 rfl) rfl (tc_len _)) ?_
      refine zai (gd_t rfl rfl rfl) rfl rfl rfl (op_ldw rfl tb29 (ev1 rfl) rfl (tc_len _)) ?_
      refine zai (gd_t rfl rfl rfl) rfl rfl rfl (op_eqr eq29 rfl gd29 tb29 (ev2 rfl) (ev2 rfl)) ?_
      refine zab rfl rfl rfl (op_and rfl (ev1 rfl) (ev3 rfl id)) ?_
      refine zab rfl rfl rfl (zac (.inr rfl) (ev1 rfl)) ?_
      refine zae ?_
      refine dwp_ret ?_
      refine kend0 (rs1 rfl (rv_t rfl)) rfl ?_
      rw [e5]; simp
    · try simp only [decide_eq_true_eq, decide_eq_false_iff_not, beq_iff_eq, bne_iff_ne, beq_eq_false_iff_ne, bne_eq_false_iff_eq, Bool.not_eq_true', Bool.not_eq_false', Bool.and_eq_true, Bool.or_eq_true, Bool.or_eq_false_iff, ne_eq, Decidable.not_not, Int.not_lt, Int.not_le] at c1
      have hyn : y ≠ 0 := by simpa using c1
      obtain ⟨k1, k2, k3⟩ := tileB_set (u := padT l) hjl (fun e => hyn (hxi.1 e)) g1 g2
      refine dwp_skip ?_
      refine zaf ?_
      refine zaf ?_
      refine zad ?_
      refine zab rfl rfl rfl (zac (.inl rfl) (ev1 rfl)) ?_
      refine zab rfl rfl rfl (op_neq rfl (ev1 rfl) (ev1 rfl)) ?_
      refine zae ?_
      refine dwp_if_f rfl (rfl) ?_
      refine dwp_skip ?_
      refine zaf ?_
      refine zad ?_
      refine zab rfl rfl rfl (op_ldw rfl tb29 (ev1 rfl) rfl (tc_len _)) ?_
      refine zab rfl rfl rfl (zaj [] [] [] rfl (ev1 rfl) (ec (ev1 rfl) en) rfl rfl (rtile_d (padT l)) rfl rfl rfl rfl rfl rfl) ?_
      refine zab rfl rfl rfl (zac (.inr rfl) (ev1 rfl)) ?_
      refine zae ?_
      refine zaf ?_
      refine dwp_giveA 7 rfl rfl (by simp only [za, zaa]; exact rfl) ?_
      refine dwp_giveA 8 rfl rfl (by simp only [za, zaa]; exact rfl) ?_
      refine zad ?_
      refine zab rfl rfl rfl (op_ldw rfl tb29 (ev1 rfl) rfl (tc_len _)) ?_
      refine zab rfl rfl rfl (op_ldw rfl tb29 (ev1 rfl) rfl (tc_len _)) ?_
      refine zab rfl rfl rfl (op_ner eq29 rfl gd29 tb29 (ev1 rfl) (ev1 rfl)) ?_
      refine zab rfl rfl rfl (zac (.inl rfl) (ev1 rfl)) ?_
      refine zai (gd_t rfl rfl rfl) rfl rfl rfl (zac (.inl rfl) (ev1 rfl)) ?_
      refine zai (gd_t rfl rfl rfl) rfl rfl rfl (zac (.inl rfl) (ev1 rfl)) ?_
      refine zai (gd_t rfl rfl rfl) rfl rfl rfl (zac (.inl rfl) (ev1 rfl)) ?_
      refine zai (gd_t rfl rfl rfl) rfl rfl rfl (op_sltk (j := q) rfl sl23 (ev2 rfl) (bd_some (ev2 rfl)) (fun _ => by omega) (fun _ => by omega) (fun _ => rfl)) ?_
      refine zai (gd_t rfl rfl rfl) rfl rfl rfl (zaj [] [] [] rfl (ev1 rfl) (ec (ev2 rfl) (ec (ev2 rfl) en)) rfl rfl (equalB (tileB (padT l)) (((tileB t).set j (xorZ .u8 ((tileB t)[j]) y)).take q)) rfl rfl rfl rfl rfl rfl) ?_
      refine zab rfl rfl rfl (op_and rfl (ev1 rfl) (ev3 rfl id)) ?_
      refine zab rfl rfl rfl (zac (.inl rfl) (ev1 rfl)) ?_
      refine zai (gd_t rfl rfl rfl) rfl rfl rfl (zac (.inl rfl) (ev1 rfl)) ?_
      refine zai (gd_t rfl rfl rfl) rfl rfl rfl (zac (.inl rfl) (ev1 rfl)) ?_
      refine zai (gd_t rfl rfl rfl) rfl rfl rfl (zac (.inl rfl) (ev1 rfl)) ?_
      refine zai (gd_t rfl rfl rfl) rfl rfl rfl (zac (.inl rfl) (ev1 rfl)) ?_
      refine zai (gd_t rfl rfl rfl) rfl rfl rfl (op_len rfl sl23 (ev2 rfl)) ?_
      refine zai (gd_t rfl rfl rfl) rfl rfl rfl (op_min rfl (ev2 rfl) (ev2 rfl)) ?_
      refine zai (gd_t rfl rfl rfl) rfl rfl rfl (op_sltk (j := min q (tileB t).length) rfl sl23 (ev2 rfl) (bd_some (ev2 rfl)) (fun _ => by omega) (fun _ => by omega) (fun _ => rfl)) ?_
      refine zai (gd_t rfl rfl rfl) rfl rfl rfl (zaj [] [] [] rfl (ev1 rfl) (ec (ev2 rfl) (ec (ev2 rfl) en)) rfl rfl (equalB (tileB (padT l)) ((tileB t).take (min q (tileB t).length))) rfl rfl rfl rfl rfl rfl) ?_
      refine zai (gd_t rfl rfl rfl) rfl rfl rfl (op_not rfl (ev2 rfl)) ?_
      refine zab rfl rfl rfl (op_and rfl (ev1 rfl) (ev3 rfl id)) ?_
      refine zab rfl rfl rfl (zac (.inr rfl) (ev1 rfl)) ?_
      refine zae ?_
      refine dwp_ret ?_
      refine kend0 (rs1 rfl (rv_t rfl)) rfl ?_
      rw [Nat.min_comm q, tk_min, ← k2]
      simp [k1, k3]
end Go.Proofs.Ytcbfnbfhlofkiaa
namespace Go.Proofs.Ytcbfnbfhlofkiaa
set_option maxRecDepth 4000
set_option linter.unusedVariables false
set_option linter.unusedSimpArgs false
open Go.RowKit
open Go.ChangeShapes Go.WideShapes Go.ChangeAt Go.Joins Go.Deep
theorem fits_prim_u8 {v : Value} (h : (Prim.int .u8).is v) : ∃ a : Int, (0 ≤ a ∧ a ≤ 255) ∧ v = .int .u8 a := fits_u8 h
end Go.Proofs.Ytcbfnbfhlofkiaa
